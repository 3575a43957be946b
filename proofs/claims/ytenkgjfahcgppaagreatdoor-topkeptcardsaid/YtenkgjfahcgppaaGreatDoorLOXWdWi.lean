/-
  Part.
-/
import Derived.Test.YtenkgjfahcgppaaGreatDoorLOXZbJ
set_option maxRecDepth 20000
set_option maxHeartbeats 8000000
namespace Go.Proofs.YtenkgjfahcgppaaGreatDoor
open Go.RowKit Go.Proofs.Tryz
theorem BN7{l m:List AQ}{k i:Nat}{x y:AQ}(hx:m[i]?=some x)(hy:l[k]?=some y):(eqX x y=true->((l.drop (k+1)).Sublist (m.drop (i+1))↔(l.drop k).Sublist (m.drop i)))/\(eqX x y=false->((l.drop k).Sublist (m.drop (i+1))↔(l.drop k).Sublist (m.drop i))):=by
 obtain⟨h1,e1⟩:=List.getElem?_eq_some_iff.1 hx;obtain⟨h2,e2⟩:=List.getElem?_eq_some_iff.1 hy;have hm:=List.drop_eq_getElem_cons h1;have hl:=List.drop_eq_getElem_cons h2;rw[e1]at hm;rw[e2]at hl;rw[hm,hl];generalize l.drop (k+1)=L at*;generalize m.drop (i+1)=M at*;refine⟨fun e=>?_,fun e=>⟨fun h=>h.cons _,fun h=>?_⟩⟩
 .rw[B58.1 e];exact List.cons_sublist_cons.symm
 .cases h
  .assumption
  .rw[B58.2 rfl]at e;exact absurd e (by simp)
theorem B59(r:Bool)(v u:Value)(l m:List AQ)(w:World)(hv:BQ w v l)(hu:BQ w u m)(hl:l.length<=1000000)(hm:m.length<=1000000)(hs:l.Sublist m↔r=true):
  Calls prog 12 #[v,u] w (R0 w (.bool r)):=by
 have KL:=AA (fun W (hW:B0 w W) (k:Nat) (x:AQ) (hx:l[k]?=some x)=>RH (FV.1 (hv.next hW)) hx);have KM:=AA (fun W (hW:B0 w W) (k:Nat) (x:AQ) (hx:m[k]?=some x)=>RH (FV.1 (hu.next hW)) hx);obtain⟨la,lc,rfl⟩:=AU hv;obtain⟨ma,mc,rfl⟩:=AU hu;have H0:=AA hs;clear hv hu hs;go_enter func12,ntmps12;go_wp2_with fail
 go_loopg [5,6] m.length (fun kx s5 s6 wr=>∃k i:Nat,s5=I0 k/\s6=I0 i/\k<=l.length/\i<=m.length/\m.length-i<=kx/\Hid ((l.drop k).Sublist (m.drop i)↔r=true)/\Hid (B0 w wr))
 case atStart=>exact⟨0,0,rfl,rfl,Nat.zero_le _,Nat.zero_le _,by omega,H0,AA (Below.refl _ _)⟩
 case round=>
  obtain⟨k,i,rfl,rfl,hk,hi,hg,HS,hB⟩:=hrel;by_cases hi2:i<m.length
  .have hi3:(i:Int)<(m.length:Int):=by omega
   by_cases hk2:k<l.length
   .have hk3:(k:Int)<(l.length:Int):=by omega
    obtain⟨x,hx⟩:∃x,m[i]?=some x:=⟨_,List.getElem?_eq_getElem hi2⟩;obtain⟨y,hy⟩:∃y,l[k]?=some y:=⟨_,List.getElem?_eq_getElem hk2⟩;have HT:=AA (BN7 hx hy);have HR:=HS;obtain⟨b1,o1,c1,he,_,q1,_⟩:=A8 KM wr (A8 hB) i x hx;simp only[Value.slice.injEq]at he;obtain⟨rfl,_,rfl⟩:=he;obtain⟨b2,o2,c2,he,_,q2,_⟩:=A8 KL wr (A8 hB) k y hy;simp only[Value.slice.injEq]at he;obtain⟨rfl,_,rfl⟩:=he;have x0:=q1.z hx;have x1:=q1.o hx;have x2:=q1.s hx;have x3:=q1.p hx;have x4:=q1.d hx;have x5:=q1.v hx;have x6:=q1.w hx;have t0:=q2.z hy;have t1:=q2.o hy;have t2:=q2.s hy;have t3:=q2.p hy;have t4:=q2.d hy;have t5:=q2.v hy;have t6:=q2.w hy;have qe:=C67 x y;clear q1 q2 hx hy HS;simp only[DW]at qe
    cases hxt:eqX x y
    case' false=>have HN:=AA (((A8 HT).2 hxt).trans (A8 HR))
    case' true=>have HN:=AA (((A8 HT).1 hxt).trans (A8 HR))
    all_goals
     rw[hxt]at qe;clear hxt HT HR;go_wp2_with fail
     go_quiet (fail)
     go_wp2_with fail
     go_roundg (m.length-(i+1))
     case measure=>omega
     case rel=>first
      |exact⟨k,i+1,rfl,rfl,hk,by omega,Nat.le_refl _,HN,AA (AL (A8 hB) ⟨rfl,rfl,rfl,Nat.le_refl _,fun _ _=>rfl⟩)⟩
      |exact⟨k+1,i+1,rfl,rfl,by omega,by omega,Nat.le_refl _,HN,AA (AL (A8 hB) ⟨rfl,rfl,rfl,Nat.le_refl _,fun _ _=>rfl⟩)⟩
   .obtain rfl:k=l.length:=by omega
    obtain rfl:r=true:=(A8 HS).1 (by simp);go_wp2_with fail;go_ret;exact⟨rfl,A8 hB⟩
  .obtain rfl:i=m.length:=by omega
   have he:((k:Int)==(l.length:Int))=r:=by
    have h:=A8 HS;simp only[List.drop_length,List.sublist_nil,List.drop_eq_nil_iff]at h;rw[Bool.eq_iff_iff,beq_iff_eq,<-h];omega
   go_wp2_with fail;go_ret;exact⟨rfl,A8 hB⟩
theorem AJ7(v u:Value)(l m:List AQ)(w:World)(hv:BQ w v l)(hu:BQ w u m)(hl:l.length<=1000000)(hm:m.length<=1000000)(hs:l.Sublist m):
  Calls prog 12 #[v,u] w (R0 w (.bool true)):=B59 true v u l m w hv hu hl hm ⟨fun _=>rfl,fun _=>hs⟩
