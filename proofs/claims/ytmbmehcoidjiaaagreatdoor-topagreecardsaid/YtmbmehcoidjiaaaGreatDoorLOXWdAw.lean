/-
  Part.
-/
import Derived.Test.YtmbmehcoidjiaaaGreatDoorLOXWdSm
import Derived.Test.YtmbmehcoidjiaaaGreatDoorLOXWdAg
import Derived.Test.YtmbmehcoidjiaaaGreatDoorLOXWdPa
set_option maxRecDepth 20000
set_option maxHeartbeats 8000000
namespace Go.Proofs.YtmbmehcoidjiaaaGreatDoor
open Go.RowKit Go.Proofs.Tryz
theorem CM9{α:Type}[Lay α]{W:World}{B:Nat}{a:Option Addr}{n c:Nat}{xs:List α}(h:BF W B (.slice a n c) xs):xs.length≤c:=by
 rcases h.seq with⟨a',cap,e,rfl,_⟩|⟨b,off,cap,e,h1,_⟩
 ·exact Nat.zero_le _
 ·simp only[Value.slice.injEq]at e;rw[e.2.2];exact h1
theorem CM2(w:World)(x0 x1 x2 x3:Value):(w.alloc (.cells #[x0,x1,x2,x3] 41)).cell? ⟨w.heap.size,2,none⟩=some x2∧(w.alloc (.cells #[x0,x1,x2,x3] 41)).cell? ⟨w.heap.size,3,none⟩=some x3:=by
 have h:=heap_alloc_new w (.cells #[x0,x1,x2,x3] 41);unfold World.cell?;simp only[h];exact⟨rfl,rfl⟩
theorem CM4(p:Pw)(d:Dd)(k:Nat)(u:Value)(V:World)(h:MX p)(ha:Agr p)(hx:WX V k (doP p d).2):Calls prog 7 #[wP k,ddV d,rpV (doP p d).1 u] V fun e w'=>e=.returned (.bool true)∧Below V.heap.size V w':=by
 have hw:=WL d h;have hag:=CN3 d h ha;generalize doP p d=x at*;obtain⟨r,q⟩:=x;simp only at hx hw hag;have B0:=AA (LB.start V d r u).b;have CS:=AA (fun W (hW:Below V.heap.size V W) b (hb:b<3)=>kJ q k b W (hx.next hW) hb _ rfl ((hw.s b hb).more hw.n1).few);have HP:=AA (fun i j (hi:i<3) (hj:j<3)=>CL9 hag hi hj);have HT:=AA (fun i (hi:i<3)=>CN5 hw hi);have hf1:=BK3;clear hw hx h ha hag;unfold wP at CS;unfold wP ddV rpV;go_enter func7,ntmps7;go_upto_region 1 with fail;generalize ((V.alloc _).alloc _)=W0 at*;go_wp2_with fail
 go_loopg [7] 3 (fun kx s7 wr=>∃i:Nat,s7=.int .i64 i∧i≤3∧3-i≤kx∧Hid (Below V.heap.size V wr))
 case atStart=>exact⟨0,rfl,by omega,by omega,B0⟩
 case round=>
  obtain⟨i,rfl,hi,hg,B1⟩:=hrel;by_cases hi3:i<3
  ·have hi4:(i:Int)<3:=by omega
   have C:=AA (A8 CS _ (A8 B1) i hi3);obtain⟨e1,hx1,hx2⟩:=A8 HT i hi3;have HA:=AA (fun j (hj:j<3)=>A8 HP i j hi3 hj);generalize svP i (q.s i)=s at*;generalize dnN (q.s i)=x at*;go_wp2_with fail;refine(A8 C).mono ?_;rintro e w1 ⟨ad,cd,al,cl,an,cn,ai,ci,aw,cw,rfl,_,hlg,_,_,_,hb1⟩;rw[e1];have hcp:=CM9 hlg;have HL:=AA hlg.seq;have B2:=AA (AL (A8 B1) hb1);clear hb1 hlg C B1 e1;go_upto_region 5 with fail;have N2:=AA (CM2 w1 (.int .i64 s.id) (.int .i64 s.ep) (.slice al s.ts.length cl) (.int .i64 (x:Nat)));have B3:=AA (AL (A8 B2) (AB w1 (.cells #[.int .i64 s.id,.int .i64 s.ep,.slice al s.ts.length cl,.int .i64 (x:Nat)] 41)));have HL3:=AA ((A8 HL).next (AB w1 (.cells #[.int .i64 s.id,.int .i64 s.ep,.slice al s.ts.length cl,.int .i64 (x:Nat)] 41)));have hga:w1.heap.size<(w1.alloc (.cells #[.int .i64 s.id,.int .i64 s.ep,.slice al s.ts.length cl,.int .i64 (x:Nat)] 41)).heap.size:=by simp
   generalize w1.alloc _=W3 at*;generalize w1.heap.size=ga at*;clear HL B2;go_wp2_with fail
   go_loopg [9] i (fun kx s9 wr=>∃m:Nat,s9=.int .i64 m∧m≤i∧i-m≤kx∧Hid (Below W3.heap.size W3 wr))
   case atStart=>exact⟨0,rfl,by omega,by omega,AA (Below.refl _ _)⟩
   case round=>
    obtain⟨m,rfl,hm,hgm,B4⟩:=hrel;by_cases hmi:m<i
    ·have hmi4:(m:Int)<(i:Int):=by omega
     have hm3:m<3:=by omega
     have hm4:(m:Int)<3:=by omega
     have C:=AA (A8 CS _ (AL (A8 B3) (A8 B4)) m hm3);obtain⟨e1,hy1,hy2⟩:=A8 HT m hm3;have HAm:=AA (A8 HA m hm3);generalize svP m (q.s m)=t at*;generalize dnN (q.s m)=y at*;go_wp2_with fail;refine(A8 C).mono ?_;rintro e w4 ⟨bd,bcd,bl,bc,bn,bcn,bi,bci,bw,bcw,rfl,_,hlg,_,_,_,hb4⟩;rw[e1];have hcq:=CM9 hlg;have HM:=AA hlg.seq;have B41:=AA (AL (A8 B4) hb4);clear hb4 hlg C B4 e1;go_upto_region 9 with fail;have N4:=AA (CM2 w4 (.int .i64 t.id) (.int .i64 t.ep) (.slice bl t.ts.length bc) (.int .i64 (y:Nat)));have B5:=AA (AL (A8 B41) (AB w4 (.cells #[.int .i64 t.id,.int .i64 t.ep,.slice bl t.ts.length bc,.int .i64 (y:Nat)] 41)));have HM5:=AA ((A8 HM).next (AB w4 (.cells #[.int .i64 t.id,.int .i64 t.ep,.slice bl t.ts.length bc,.int .i64 (y:Nat)] 41)));have hgb:w4.heap.size<(w4.alloc (.cells #[.int .i64 t.id,.int .i64 t.ep,.slice bl t.ts.length bc,.int .i64 (y:Nat)] 41)).heap.size:=by simp
     generalize w4.alloc _=W5 at*;generalize w4.heap.size=gb at*;clear HM B41;have HKS:Hid (∀V,Below W5.heap.size W5 V→V.cell? ⟨ga,2,none⟩=some (.slice al s.ts.length cl)∧V.cell? ⟨ga,3,none⟩=some (.int .i64 (x:Nat))∧V.cell? ⟨gb,2,none⟩=some (.slice bl t.ts.length bc)∧V.cell? ⟨gb,3,none⟩=some (.int .i64 (y:Nat))):=AA fun V hV=>by
      have hb:=AL (A8 B5) hV;exact⟨(hb.cell (p:=⟨ga,2,none⟩) hga).trans (A8 N2).1,(hb.cell (p:=⟨ga,3,none⟩) hga).trans (A8 N2).2,(hV.cell (p:=⟨gb,2,none⟩) hgb).trans (A8 N4).1,(hV.cell (p:=⟨gb,3,none⟩) hgb).trans (A8 N4).2⟩
     obtain⟨a2,a3,b2,b3⟩:=A8 HKS _ (Below.refl _ _);have hmin:min (x:Int) (y:Int)=((min x y:Nat):Int):=by omega
     have CM:=AA (fun V (hV:Below W5.heap.size W5 V)=>CN4 (.slice al (min x y) cl) (.slice bl (min x y) bc) (s.ts.take (min x y)) V (by rw[List.length_take];omega) (JF.take (IQ.1 ((A8 HL3).next (AL (A8 B5) hV))) (by omega)) (by rw[A8 HAm];exact JF.take (IQ.1 ((A8 HM5).next hV)) (by omega)));generalize hn:min x y=n at*;have hnx:n≤s.ts.length:=by omega
     have hny:n≤t.ts.length:=by omega
     have hn1:(n:Int)≤(cl:Int):=by omega
     have hn2:(n:Int)≤(bc:Int):=by omega
     have hx4:decide (s.ts.length<x)=false:=decide_eq_false (by omega);have hy4:decide (t.ts.length<y)=false:=decide_eq_false (by omega);have hx3:decide ((x:Int)<0)=false:=decide_eq_false (by omega);have hy3:decide ((y:Int)<0)=false:=decide_eq_false (by omega);clear HAm hn;go_wp2_with fail;clear a2 a3 b2 b3 hmin;have hS0:=A8 HKS _ (Below.refl W5.heap.size W5).drew;refine wp_region_held (S:=fun V:World=>V.cell? ⟨ga,2,none⟩=some (.slice al s.ts.length cl)∧V.cell? ⟨ga,3,none⟩=some (.int .i64 (x:Nat))∧V.cell? ⟨gb,2,none⟩=some (.slice bl t.ts.length bc)∧V.cell? ⟨gb,3,none⟩=some (.int .i64 (y:Nat))) (by kernel_rfl) ?_;change wpAnyH _ _ _ _ _ _ _ _ W5.drew;refine tkH 0 hS0 ?_;refine tkH 1 hS0 ?_;refine tkH 2 hS0 ?_;refine tkH 3 hS0 ?_;refine tkH 4 hS0 ?_;refine tkH 5 hS0 ?_;refine tkH 6 hS0 ?_;refine tkH 7 hS0 ?_;refine tkH 8 hS0 ?_;refine tkH 9 hS0 ?_;refine tkH 10 hS0 ?_;refine tkH 11 hS0 ?_;refine tkH 12 hS0 ?_;refine tkH 13 hS0 ?_;refine tkH 14 hS0 ?_;refine tkH 15 hS0 ?_;refine tkH 16 hS0 ?_;refine tkH 17 hS0 ?_;refine tkH 18 hS0 ?_;refine tkH 19 hS0 ?_;refine tkH 20 hS0 ?_;refine tkH 21 hS0 ?_;refine tkH 22 hS0 ?_;refine tkH 23 hS0 ?_;refine tkH 24 hS0 ?_;refine tkH 25 hS0 ?_;refine tkH 26 hS0 ?_;refine tkH 27 hS0 ?_;refine tkH 28 hS0 ?_;refine tkH 29 hS0 ?_;refine tkH 30 hS0 ?_;refine tkH 31 hS0 ?_;refine tkH 32 hS0 ?_;refine rd1 33 (fun K hK=>?_);go_simp;refine(A8 CM _ (Below.refl _ _).drew).mono ?_;rintro e w6 ⟨rfl,hb6⟩;have HB6:=AA (AL (Below.refl W5.heap.size W5).drew hb6);have hS1:=A8 HKS _ (A8 HB6);clear hb6;refine nxH hK hS1 ?_;clear hK K;refine tkH 34 hS1 ?_;refine tkH 35 hS1 ?_;refine wpAnyH_done (by kernel_rfl) ?_ _;go_wp2_with fail
     go_roundg (i-(m+1))
     case measure=>omega
     case rel=>exact⟨m+1,by simp,by omega,Nat.le_refl _,AA (AL (A8 B5) (A8 HB6))⟩
    ·obtain rfl:m=i:=by omega
     go_wp2_with fail
     go_roundg (3-(m+1))
     case measure=>omega
     case rel=>exact⟨m+1,by simp,by omega,Nat.le_refl _,AA (AL (A8 B3) (A8 B4))⟩
  ·obtain rfl:i=3:=by omega
   go_wp2_with fail;go_ret;exact⟨rfl,A8 B1⟩
theorem CL8(ds:List Dd)(v:Value)(W:World)(hv:BZ W v ds)(hm:∀d∈ds,d.q.p.length≤140737488355328∧d.q.d.length≤140737488355328)(hT:UZ W):Calls prog 3 #[v] W fun e w'=>e=.returned (.bool true)∧Below W.heap.size W w':=by
 have C:=AA (CM3 ds v W hv hm hT (fun k V i d u _ hx _=>CM4 _ d k u V (U6 _ _ (O9 k)) (CM1 _ _ (O9 k) (CM8 k)) hx));unfold wP at C;clear hv hm hT;go_enter func3,ntmps3;go_wp2_with fail;refine(A8 C).mono ?_;rintro e w1 ⟨k,rfl,hp⟩;have HP:=AA hp.b;clear hp C;go_wp2_with fail;go_ret;exact⟨rfl,A8 HP⟩
end Go.Proofs.YtmbmehcoidjiaaaGreatDoor
