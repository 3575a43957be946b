/-
  Part.
-/
import Derived.Test.YtmbmehcoidjiaaaGreatDoorLOAQ
import Derived.Test.YtmbmehcoidjiaaaGreatDoorLOXWdWi
import Derived.Test.YtmbmehcoidjiaaaGreatDoorLOXWdOp
set_option maxRecDepth 20000
set_option maxHeartbeats 8000000
namespace Go.Proofs.YtmbmehcoidjiaaaGreatDoor
open Go.RowKit Go.Proofs.Tryz
theorem AI4(p:Pw)(d:Dd)(k:Nat)(u:Value)(V:World)(h:MX p)(hx:WX V k (doP p d).2):Calls prog 10 #[wP k,ddV d,rpV (doP p d).1 u] V fun e w'=>e=.returned (.bool true)∧Below V.heap.size V w':=by
 have HP:=AA (yT p d);have hw:=WL d h;have hD:(doP p d).2.D.length≤300:=by have:=hw.few;have:=hw.n1;omega
 generalize doP p d=x at*;obtain⟨r,q⟩:=x;simp only at HP hD hx hw;have B0:=AA (LB.start V d r u);have CA:=AA (fun W (hW:Below V.heap.size V W)=>tC q k W (hx.next hW) hD);have CL:=AA (fun W (hW:Below V.heap.size V W)=>KG q k W (hx.next hW));have CS:=AA (fun W (hW:Below V.heap.size V W) b (hb:b<3)=>kJ q k b W (hx.next hW) hb _ rfl ((hw.s b hb).more hw.n1).few);have HA:=AA hw.a.BQ2;have HW:=AA hw;clear hw hx h;unfold wP at CA CL CS;unfold wP ddV rpV;go_enter func10,ntmps10;go_upto_region 1 with fail;generalize ((V.alloc _).alloc _)=W0 at*;go_wp2_with fail;refine(A8 CA _ (A8 B0).b).mono ?_;rintro e w1 ⟨a,c,rfl,ho,hb1⟩;have HO:=AA ho.seq;have B1:=AA ((A8 B0).next hb1);clear ho hb1 CA B0;go_wp2_with fail
 go_loopg [8] q.D.length (fun kx s8 wr=>∃j:Nat,s8=.int .i64 ((j:Int)+1)∧(j≤q.D.length)∧q.D.length-j≤kx∧Hid (Below w1.heap.size w1 wr))
 case atStart=>exact⟨0,rfl,by omega,by omega,AA (Below.refl _ _)⟩
 case round=>
  obtain⟨j,rfl,hj,hg,HB⟩:=hrel;by_cases hlt:j+1<q.D.length
  ·have B35:(j:Int)+1<(q.D.length:Int):=by omega
   have hltj:(j:Int)<(q.D.length:Int):=by omega
   obtain⟨s,hs⟩:∃t,q.D[j]?=some t:=⟨_,List.getElem?_eq_getElem (by omega)⟩;obtain⟨t,ht⟩:∃t,q.D[j+1]?=some t:=⟨_,List.getElem?_eq_getElem hlt⟩;obtain⟨b,off,cap,he,_,_,_,_,_⟩:=VJ (A8 HO) ht;simp only[Value.slice.injEq,true_and]at he;obtain⟨rfl,rfl⟩:=he;have s0:=(B30 ((A8 HO).next (A8 HB)) hs).1;have t0:=(B30 ((A8 HO).next (A8 HB)) ht).1;have hz:decide (t.z≤s.z)=false:=decide_eq_false (by
    have:=List.pairwise_iff_getElem.1 (A8 HA) j (j+1) (by show j<q.D.length;omega) hlt (by omega);have e1:=(List.getElem?_eq_some_iff.1 hs).2;have e2:=(List.getElem?_eq_some_iff.1 ht).2;have:s.z<t.z:=by rw[←e1,←e2];exact this
    omega)
   clear hs ht;go_wp2_with fail
   go_quiet (fail)
   go_wp2_with fail
   go_roundg (q.D.length-(j+1))
   case measure=>omega
   case rel=>exact⟨j+1,by simp,by omega,Nat.le_refl _,AA (AL (A8 HB) ⟨rfl,rfl,rfl,Nat.le_refl _,fun _ _=>rfl⟩)⟩
  ·have B35:¬ ((j:Int)+1<(q.D.length:Int)):=by omega
   have B2:=AA ((A8 B1).next (A8 HB));have HO2:=AA ((A8 HO).next (A8 HB));have dr:=(A8 B2).d.row;have d0:wr.cell? ⟨V.heap.size,0,none⟩=some (.int .i64 d.k):=by
    simp only[Nat.zero_add]at dr;exact dr 0 _ rfl
   obtain⟨r0,r1,_,_,_,_,_,_,_,_,_,_⟩:=(A8 B2).r.cells;clear HB B1 HO dr;generalize hN:q.D.length=N at HO2 B35 hD hj⊢;clear hg;go_upto_region 7 with fail
   go_cut [54]from 30 (fun t54 wx=>t54=.bool false∧Hid (Below wr.heap.size wr wx))
   case first=>
    by_cases hk:d.k=1
    ·by_cases hE:r.E=0
     ·obtain⟨l,x,hl,hxz⟩:=A8 HP hk hE;have ht:q.D[l.length]?=some x:=by rw[hl];simp
      obtain⟨b,off,cap,he,_,_,_,_,_⟩:=VJ (A8 HO2) ht;simp only[Value.slice.injEq]at he;obtain⟨rfl,-,rfl⟩:=he;have t0:=(B30 (A8 HO2) ht).1;have hne:(x.z !=r.z)=false:=by simp[hxz]
      rw[hk]at d0;rw[hE]at r0;obtain⟨n,hn1,hn2⟩:∃n,n=l.length∧N=n+1:=⟨_,rfl,by rw[←hN,hl];simp⟩;rw[←hn1]at t0;clear hN hn1;subst hn2;have h0:((n:Int)+1==0)=false:=beq_eq_false_iff_ne.2 (by omega);have hn3:(n:Int)≤300:=by omega
      have hn4:(n:Int)<(n:Int)+1:=by omega
      clear hl ht hxz hk hE HP HO2 HA HW CS CL B2
      go_quiet (fail)
      go_wp2_with fail
      go_meet
      exact⟨rfl,AA ⟨rfl,rfl,rfl,Nat.le_refl _,fun _ _=>rfl⟩⟩
     ·have hE2:(r.E==0)=false:=beq_eq_false_iff_ne.2 hE;rw[hk]at d0;clear hk hE
      go_quiet (fail)
      go_wp2_with fail
      go_meet
      exact⟨rfl,AA ⟨rfl,rfl,rfl,Nat.le_refl _,fun _ _=>rfl⟩⟩
    ·have hk2:(d.k==1)=false:=beq_eq_false_iff_ne.2 hk;clear hk
     go_quiet (fail)
     go_wp2_with fail
     go_meet
     exact⟨rfl,AA ⟨rfl,rfl,rfl,Nat.le_refl _,fun _ _=>rfl⟩⟩
   case rest=>
    obtain⟨rfl,HC⟩:=hcut;have B3:=AA ((A8 B2).next (A8 HC));have HO3:=AA ((A8 HO2).next (A8 HC));clear HC B2 HO2 d0 r0 r1 HP B35;go_wp2_with fail;refine(A8 CL _ (A8 B3).b).mono ?_;rintro e w4 ⟨rfl,hb4⟩;have B4:=AA ((A8 B3).next hb4);have HO4:=AA ((A8 HO3).next hb4);clear hb4 B3 HO3 CL;rcases U4 q.r with⟨hl,_⟩|⟨b,hb,hl,hr⟩
    ·rw[hl];clear hl;go_wp2_with fail;go_ret;exact⟨rfl,(A8 B4).b⟩
    ·rw[hl];have HL:=AA (BL3 (A8 HW) hb hr);have C:=AA (A8 CS _ (A8 B4).b b hb);generalize svP b (q.s b)=s at*;have hb0:¬ ((b:Int)<0):=by omega
     clear hl hr CS;have hf1:=BK3;have hf2:=BK4;go_wp2_with fail;refine(A8 C).mono ?_;rintro e w5 ⟨ad,cd,al,cl,an,cn,ai,ci,aw,cw,rfl,_,hlg,_,_,_,hb5⟩;have CW:=AA (AI3 _ _ q.D s.ts w5 ((A8 HO4).next hb5) hlg.seq (by omega) (by have:=(A8 HL).2;omega) (A8 HL).1);have B5:=AA ((A8 B4).next hb5);clear hb5 hlg C HL B4 HO4;go_wp2_with fail;refine(A8 CW).mono ?_;rintro e w6 ⟨rfl,hb6⟩;have B6:=AA ((A8 B5).next hb6);clear hb6 B5 CW;go_wp2_with fail;go_ret;exact⟨rfl,(A8 B6).b⟩
theorem nT(ds:List Dd)(v:Value)(W:World)(hv:BZ W v ds)(hm:∀d∈ds,d.q.p.length≤140737488355328∧d.q.d.length≤140737488355328)(hT:UZ W):Calls prog 4 #[v] W fun e w'=>e=.returned (.bool true)∧Below W.heap.size W w':=by
 have C:=AA (AH9 ds v W hv hm hT (fun k V i d u _ hx _=>AI4 _ d k u V (U6 _ _ (O9 k)) hx));unfold wP at C;clear hv hm hT;go_enter func4,ntmps4;go_wp2_with fail;refine(A8 C).mono ?_;rintro e w1 ⟨k,rfl,hp⟩;have HP:=AA hp.b;clear hp C;go_wp2_with fail;go_ret;exact⟨rfl,A8 HP⟩
end Go.Proofs.YtmbmehcoidjiaaaGreatDoor
