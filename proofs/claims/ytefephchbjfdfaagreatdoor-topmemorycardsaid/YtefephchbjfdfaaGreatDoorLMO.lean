/-
  Part.
-/
import Derived.Test.YtefephchbjfdfaaGreatDoorLMA
set_option maxRecDepth 20000
set_option maxHeartbeats 8000000
namespace Go.Proofs.YtefephchbjfdfaaGreatDoor
open Go.RowKit Go.Proofs.Tryz
open _root_.Nat renaming le_refl->AA
open _root_.List renaming getElem?_eq_getElem->AO
open Go.Value.slice renaming injEq->AQ
def L6:List GV->List GV->Nat
 |x::a,y::b=>if x.z=y.z then L6 a b+1 else 0
 |_,_=>0
theorem XK:∀a b:List GV,L6 a b<=a.length/\L6 a b<=b.length
 |[],b=>by simp[L6]
 |x::a,[]=>by simp[L6]
 |x::a,y::b=>by
  have:=XK a b;unfold L6
  split
  .simp only[List.length_cons];omega
  .simp
theorem kK:∀ (a b:List GV) (k:Nat),k<L6 a b->∃x y,a[k]?=some x/\b[k]?=some y/\x.z=y.z
 |[],b,k,h=>by simp[L6]at h
 |x::a,[],k,h=>by simp[L6]at h
 |x::a,y::b,k,h=>by
  unfold L6 at h
  split at h
  .rename_i e
   cases k with
   |zero=>exact⟨x,y,rfl,rfl,e⟩
   |succ k=>exact kK a b k (by omega)
  .omega
theorem B36:∀ (a b:List GV) (x y:GV),a[L6 a b]?=some x->b[L6 a b]?=some y->x.z≠y.z
 |[],b,x,y,h,_=>by simp[L6]at h
 |u::a,[],x,y,_,h=>by simp[L6]at h
 |u::a,v::b,x,y,h,h'=>by
  unfold L6 at h h'
  split at h
  .rename_i e
   simp only[e,if_true]at h';exact B36 a b x y (by simpa using h) (by simpa using h')
  .rename_i e
   simp only[e,if_false]at h';simp at h h';subst h h';exact e
theorem oK(va vb:Value)(a b:List GV)(w:World)(ha:NQ w va a)(hb:NQ w vb b)(hla:a.length<=140737488355328)(hlb:b.length<=140737488355328):
  Calls prog 98 #[va,vb] w (R0 w (I0 (L6 a b))):=by
 have KA:=GH (fun(k:Nat) (x:GV) (hx:a[k]?=some x) W (hW:B0 w W)=>ZL (ha.next hW) hx);have KB:=GH (fun(k:Nat) (x:GV) (hx:b[k]?=some x) W (hW:B0 w W)=>ZL (hb.next hW) hx);have HL:=XK a b;have HT:=GH (kK a b);have HA:=GH (B36 a b);generalize L6 a b=n at*;obtain⟨aa,ca,rfl⟩:=MH ha;obtain⟨ab,cb,rfl⟩:=MH hb;clear ha hb;go_enter func98,ntmps98;go_wp2_with fail
 go_loopg [5] n (fun kx s5 wr=>∃k:Nat,s5=I0 k/\k<=n/\n-k<=kx/\Hid (B0 w wr))
 case atStart=>exact⟨0,rfl,Nat.zero_le _,by omega,GH (Below.refl _ _)⟩
 case round=>
  obtain⟨k,rfl,hk,hg,hB⟩:=hrel;by_cases hba:b.length<a.length
  .skip
   by_cases hlt:k<n
   .obtain⟨x,y,hx,hy,hz⟩:=G9 HT k hlt;obtain⟨b1,o1,c1,he,hb1,q1,_⟩:=G9 KA k x hx wr (G9 hB);simp only[AQ]at he;obtain⟨rfl,_,rfl⟩:=he;obtain⟨b2,o2,c2,he,hb2,q2,_⟩:=G9 KB k y hy wr (G9 hB);simp only[AQ]at he;obtain⟨rfl,_,rfl⟩:=he;have d0:=q1.z hx;have r0:=q2.z hy;rw[<-hz]at r0;generalize x.z=zz at*;have i1:(k:Int)<(a.length:Int):=by omega
    have i2:(k:Int)<(b.length:Int):=by omega
    have hm1:decide (k<b.length)=true:=by simp;omega
    clear q1 q2 hx hy hz;go_wp2_with fail
    go_quiet (fail)
    go_wp2_with fail
    go_roundg (n-(k+1))
    case measure=>omega
    case rel=>exact⟨k+1,rfl,by omega,AA _,GH (GK (G9 hB) ⟨rfl,rfl,rfl,AA _,fun _ _=>rfl⟩)⟩
   .obtain rfl:k=n:=by omega
    by_cases hin:k<a.length/\k<b.length
    .obtain⟨x,hx⟩:∃x,a[k]?=some x:=⟨_,AO hin.1⟩;obtain⟨y,hy⟩:∃y,b[k]?=some y:=⟨_,AO hin.2⟩;have hz:=G9 HA x y hx hy;obtain⟨b1,o1,c1,he,hb1,q1,_⟩:=G9 KA k x hx wr (G9 hB);simp only[AQ]at he;obtain⟨rfl,_,rfl⟩:=he;obtain⟨b2,o2,c2,he,hb2,q2,_⟩:=G9 KB k y hy wr (G9 hB);simp only[AQ]at he;obtain⟨rfl,_,rfl⟩:=he;have d0:=q1.z hx;have r0:=q2.z hy;generalize x.z=zx at*;generalize y.z=zy at*;have hne:(zx==zy)=false:=by simpa using hz
     have i1:(k:Int)<(a.length:Int):=by omega
     have i2:(k:Int)<(b.length:Int):=by omega
     have hm1:decide (k<b.length)=true:=by simp;omega
     clear q1 q2 hx hy;go_wp2_with fail
     go_quiet (fail)
     go_wp2_with fail;go_ret;exact⟨rfl,GK (G9 hB) ⟨rfl,rfl,rfl,AA _,fun _ _=>rfl⟩⟩
    .have hkb:k=b.length:=by omega
     clear hin;subst hkb;go_wp2_with fail;go_region
     all_goals go_wp2_with fail
     all_goals go_ret
     all_goals exact⟨rfl,(G9 hB).drew⟩
  .skip
   by_cases hlt:k<n
   .obtain⟨x,y,hx,hy,hz⟩:=G9 HT k hlt;obtain⟨b1,o1,c1,he,hb1,q1,_⟩:=G9 KA k x hx wr (G9 hB);simp only[AQ]at he;obtain⟨rfl,_,rfl⟩:=he;obtain⟨b2,o2,c2,he,hb2,q2,_⟩:=G9 KB k y hy wr (G9 hB);simp only[AQ]at he;obtain⟨rfl,_,rfl⟩:=he;have d0:=q1.z hx;have r0:=q2.z hy;rw[<-hz]at r0;generalize x.z=zz at*;have i1:(k:Int)<(a.length:Int):=by omega
    have i2:(k:Int)<(b.length:Int):=by omega
    have hm1:decide (k<a.length)=true:=by simp;omega
    clear q1 q2 hx hy hz;go_wp2_with fail
    go_quiet (fail)
    go_wp2_with fail
    go_roundg (n-(k+1))
    case measure=>omega
    case rel=>exact⟨k+1,rfl,by omega,AA _,GH (GK (G9 hB) ⟨rfl,rfl,rfl,AA _,fun _ _=>rfl⟩)⟩
   .obtain rfl:k=n:=by omega
    by_cases hin:k<a.length/\k<b.length
    .obtain⟨x,hx⟩:∃x,a[k]?=some x:=⟨_,AO hin.1⟩;obtain⟨y,hy⟩:∃y,b[k]?=some y:=⟨_,AO hin.2⟩;have hz:=G9 HA x y hx hy;obtain⟨b1,o1,c1,he,hb1,q1,_⟩:=G9 KA k x hx wr (G9 hB);simp only[AQ]at he;obtain⟨rfl,_,rfl⟩:=he;obtain⟨b2,o2,c2,he,hb2,q2,_⟩:=G9 KB k y hy wr (G9 hB);simp only[AQ]at he;obtain⟨rfl,_,rfl⟩:=he;have d0:=q1.z hx;have r0:=q2.z hy;generalize x.z=zx at*;generalize y.z=zy at*;have hne:(zx==zy)=false:=by simpa using hz
     have i1:(k:Int)<(a.length:Int):=by omega
     have i2:(k:Int)<(b.length:Int):=by omega
     have hm1:decide (k<a.length)=true:=by simp;omega
     clear q1 q2 hx hy;go_wp2_with fail
     go_quiet (fail)
     go_wp2_with fail;go_ret;exact⟨rfl,GK (G9 hB) ⟨rfl,rfl,rfl,AA _,fun _ _=>rfl⟩⟩
    .have hkb:k=a.length:=by omega
     clear hin;subst hkb;go_wp2_with fail;go_region
     all_goals go_wp2_with fail
     all_goals go_ret
     all_goals exact⟨rfl,(G9 hB).drew⟩
