/-
  Part.
-/
import Derived.Test.YtodnhndkghdinaaGreatDoorLOXWdPo
set_option maxRecDepth 20000
set_option maxHeartbeats 8000000
namespace Go.Proofs.YtodnhndkghdinaaGreatDoor
open Go.RowKit Go.Proofs.Tryz
theorem BK5(x0 x1 x2 x3 x4 x5 x6 x7 x8 x9:Value)(w:World):(Instr.field 48 (.agg #[x0,x1,x2,x3,x4,x5,x6,x7,x8,x9]) 3).run prog w=.ok (.agg #[x6,x7,x8]) w:=by kernel_rfl
theorem B29{q:Pw}(h:NU q){i:Nat}(hi:i<3):MQ (svP i (q.s i)).tr:=by
 have ok:=h.s i hi;by_cases hu:(q.s i).up=true
 ·rw[DJ hu];exact ok.play.good ok.dn
 ·rw[MB (by simpa using hu)];exact UN
theorem BK6(w:World)(x0 x1 x2:Value):(w.alloc (.cells #[x0,x1,x2] 45)).cell? ⟨w.heap.size,0,none⟩=some x0∧(w.alloc (.cells #[x0,x1,x2] 45)).cell? ⟨w.heap.size,1,none⟩=some x1∧(w.alloc (.cells #[x0,x1,x2] 45)).cell? ⟨w.heap.size,2,none⟩=some x2:=by
 have h:=heap_alloc_new w (.cells #[x0,x1,x2] 45);unfold World.cell?;simp only[h];exact⟨rfl,rfl,rfl⟩
theorem AH7(p:Pw)(d:Dd)(k:Nat)(u:Value)(V:World)(h:NU p)(hx:WX V k (doP p d).2):Calls prog 13 #[wP k,ddV d,rpV (doP p d).1 u] V fun e w'=>e=.returned (.bool true)∧Below V.heap.size V w':=by
 have hw:=Z4 d h;generalize doP p d=x at*;obtain⟨r,q⟩:=x;simp only at hx hw;have B0:=AA (LB.start V d r u).b;have CS:=AA (fun W (hW:Below V.heap.size V W) b (hb:b<3)=>kG q k b W (hx.next hW) hb _ rfl ((hw.s b hb).more hw.n1).few);have HG:=AA (fun i (hi:i<3)=>B29 hw hi);have hf1:=BK5;clear hw hx h;unfold wP at CS;unfold wP ddV rpV;go_enter func13,ntmps13;go_upto_region 1 with fail;generalize ((V.alloc _).alloc _)=W0 at*;go_wp2_with fail
 go_loopg [7] 3 (fun kx s7 wr=>∃i:Nat,s7=.int .i64 i∧i≤3∧3-i≤kx∧Hid (Below V.heap.size V wr))
 case atStart=>exact⟨0,rfl,by omega,by omega,B0⟩
 case round=>
  obtain⟨i,rfl,hi,hg,B1⟩:=hrel;by_cases hi3:i<3
  ·have hi4:(i:Int)<3:=by omega
   have C:=AA (A8 CS _ (A8 B1) i hi3);have HT:=AA (A8 HG i hi3);generalize svP i (q.s i)=s at*;go_wp2_with fail;refine(A8 C).mono ?_;rintro e w1 ⟨ad,cd,al,cl,an,cn,ai,ci,aw,cw,rfl,_,_,hnd,hss,_,hb1⟩;have HN:=AA hnd.seq;have HI:=AA hss.seq;have B2:=AA (AL (A8 B1) hb1);clear hb1 hnd hss C B1;go_upto_region 5 with fail;have N2:=AA (BK6 w1 (.int .i64 s.tr.z) (.slice an s.tr.ns.length cn) (.slice ai s.tr.ss.length ci));have A3:=AA (AB w1 (.cells #[.int .i64 s.tr.z,.slice an s.tr.ns.length cn,.slice ai s.tr.ss.length ci] 45));have hga:w1.heap.size<(w1.alloc (.cells #[.int .i64 s.tr.z,.slice an s.tr.ns.length cn,.slice ai s.tr.ss.length ci] 45)).heap.size:=by simp
   generalize w1.alloc _=W3 at*;have HN3:=AA ((A8 HN).next (A8 A3));have CO:=AA (fun V (hV:Below W3.heap.size W3 V) o=>TF s.tr.z (.slice an s.tr.ns.length cn) (.slice ai s.tr.ss.length ci) s.tr.ss o V (((A8 HI).next (A8 A3)).next hV) (A8 HT).ses);have HK:=AA (fun V (hV:Below W3.heap.size W3 V)=>(⟨(hV.cell (p:=⟨w1.heap.size,0,none⟩) hga).trans (A8 N2).1,(hV.cell (p:=⟨w1.heap.size,1,none⟩) hga).trans (A8 N2).2.1,(hV.cell (p:=⟨w1.heap.size,2,none⟩) hga).trans (A8 N2).2.2⟩:V.cell? ⟨w1.heap.size,0,none⟩=some (.int .i64 s.tr.z)∧V.cell? ⟨w1.heap.size,1,none⟩=some (.slice an s.tr.ns.length cn)∧V.cell? ⟨w1.heap.size,2,none⟩=some (.slice ai s.tr.ss.length ci)));have B3:=AA (AL (A8 B2) (A8 A3));generalize w1.heap.size=ga at*;clear HN HI A3 N2 B2;go_wp2_with fail
   go_loopg [9] s.tr.ns.length (fun kx s9 wr=>∃m:Nat,s9=.int .i64 m∧m≤s.tr.ns.length∧s.tr.ns.length-m≤kx∧Hid (Below W3.heap.size W3 wr))
   case atStart=>exact⟨0,rfl,by omega,by omega,AA (Below.refl _ _)⟩
   case round=>
    obtain⟨m,rfl,hm,hgm,B4⟩:=hrel;obtain⟨k0,k1,k2⟩:=A8 HK wr (A8 B4);by_cases hmi:m<s.tr.ns.length
    ·have hmi4:(m:Int)<(s.tr.ns.length:Int):=by omega
     have hm9:(m:Int)≤400:=by have:=(A8 HT).nod.few;omega
     obtain⟨x,hx⟩:∃x,s.tr.ns[m]?=some x:=⟨_,List.getElem?_eq_getElem hmi⟩;obtain⟨b,off,cap,he,_,hr,_,_,_⟩:=XV ((A8 HN3).next (A8 B4)) hx;simp only[Value.slice.injEq,true_and]at he;obtain⟨rfl,rfl⟩:=he;have x7:=hr.n7 hx;have HO:=AA ((A8 HT).nod.ok x (List.mem_of_getElem? hx)).own;have C:=AA (A8 CO _ (A8 B4) x.o);clear hr hx;by_cases ho:x.o=0
     ·have hb:(x.o !=0)=false:=by simp[ho]
      clear ho HO C;go_wp2_with fail
      go_roundg (s.tr.ns.length-(m+1))
      case measure=>omega
      case rel=>exact⟨m+1,by simp,by omega,Nat.le_refl _,B4⟩
     ·have hb:(x.o !=0)=true:=by simp[ho]
      have hin:decide (x.o∈s.tr.ss)=true:=decide_eq_true ((A8 HO).resolve_left ho).1;rw[hin]at C;clear ho HO hin;go_wp2_with fail;refine(A8 C).mono ?_;rintro e w5 ⟨rfl,hb5⟩;have B5:=AA (AL (A8 B4) hb5);clear hb5 C;go_wp2_with fail
      go_roundg (s.tr.ns.length-(m+1))
      case measure=>omega
      case rel=>exact⟨m+1,by simp,by omega,Nat.le_refl _,B5⟩
    ·obtain rfl:m=s.tr.ns.length:=by omega
     go_wp2_with fail
     go_roundg (3-(i+1))
     case measure=>omega
     case rel=>exact⟨i+1,by simp,by omega,Nat.le_refl _,AA (AL (A8 B3) (A8 B4))⟩
  ·obtain rfl:i=3:=by omega
   go_wp2_with fail;go_ret;exact⟨rfl,A8 B1⟩
theorem nS(ds:List Dd)(v:Value)(W:World)(hv:BZ W v ds)(hm:∀d∈ds,d.q.p.length≤140737488355328∧d.q.d.length≤140737488355328)(hT:VX W):Calls prog 4 #[v] W fun e w'=>e=.returned (.bool true)∧Below W.heap.size W w':=by
 have C:=AA (AH6 ds v W hv hm hT (fun k V i d u _ hx _=>AH7 _ d k u V (U5 _ _ (O9 k)) hx));unfold wP at C;clear hv hm hT;go_enter func4,ntmps4;go_wp2_with fail;refine(A8 C).mono ?_;rintro e w1 ⟨k,rfl,hp⟩;have HP:=AA hp.b;clear hp C;go_wp2_with fail;go_ret;exact⟨rfl,A8 HP⟩
end Go.Proofs.YtodnhndkghdinaaGreatDoor
