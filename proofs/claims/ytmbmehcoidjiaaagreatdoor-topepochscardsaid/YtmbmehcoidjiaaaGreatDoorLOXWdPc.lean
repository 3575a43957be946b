/-
  Part.
-/
import Derived.Test.YtmbmehcoidjiaaaGreatDoorLOAQ
set_option maxRecDepth 20000
set_option maxHeartbeats 8000000
namespace Go.Proofs.YtmbmehcoidjiaaaGreatDoor
open Go.RowKit Go.Proofs.Tryz
theorem WX.box{W V:World}{k c:Nat}{p:Pw}(h:WX W k p)(hd:WO W c)(hc:c<k)(hh:p.h=k)(ht:Touch (· =c) W V):WX V k p:=by
 obtain⟨f,hb,hr⟩:=h;have he:k≠c:=by omega
 refine⟨f,hb.touch ht he,hr.n,fun i hi=>?_,hr.r,fun i hi=>⟨(hr.c i hi).s,(hr.c i hi).z,(hr.c i hi).e.far ht (U0 (hr.c i hi).e.1 hd).2⟩,hr.d.far ht (WE (IQ.1 hr.d.1) hd).2,hr.h,hr.hk⟩;have s:=hr.s i hi;exact⟨s.up,s.d.far ht (mM (NM.1 s.d.1) hd).2,s.id,s.ep,s.l.far ht (WE (IQ.1 s.l.1) hd).2,s.dn,s.z,s.n.far ht (fH s.n.1 hd).2,s.i.far ht (fun h0=>hr.h i hi h0 c (by omega)),s.w.far ht (OG s.w.1 hd).2⟩
structure yR(W:World)(k c:Nat)(p:Pw)(P:Obj→Prop)(V:World):Prop where
 x:WX V k p
 t:UZ V
 b:Touch (· =c) W V
 kl:W.heap.size≤k
 cl:c<W.heap.size
 o:∃o,V.heap[c]?=some o∧P o
section
variable {W V U:World} {k c:Nat} {p q:Pw} {P R:Obj→Prop}
theorem yR.next(h:yR W k c p P V)(hb:B0 V U):yR W k c p P U:=by
 obtain⟨o,h1,h2⟩:=h.o;exact⟨h.x.next hb,h.t.next hb,h.b.trans (Touch.of_below hb),h.kl,h.cl,o,(hb.block _ (Array.getElem?_eq_some_iff.1 h1).1).trans h1,h2⟩
theorem yR.turn(h:yR W k c p P V)(ht:Touch (· =k) V U)(hx:WX U k q):yR W k c q P U:=by
 obtain⟨o,h1,h2⟩:=h.o;have hk:=h.kl;have hc:=h.cl;exact⟨hx,YB h.t h.x ht,⟨ht.os.trans h.b.os,ht.tape.trans h.b.tape,ht.output.trans h.b.output,Nat.le_trans h.b.size ht.size,fun b hb hn=>(ht.block b (Nat.lt_of_lt_of_le hb h.b.size) (by omega)).trans (h.b.block b hb hn)⟩,hk,hc,o,(ht.block _ (Array.getElem?_eq_some_iff.1 h1).1 (by omega)).trans h1,h2⟩
theorem yR.start(hT:UZ W)(hb:B0 W V)(hc:B0 V U)(hx:WX U V.heap.size (pw0 V.heap.size))(h1:c<W.heap.size)(ho:∃o,W.heap[c]?=some o∧P o):yR W V.heap.size c (LW (pw0 V.heap.size) []) P U:=by
 obtain⟨o,h2,h3⟩:=ho;exact⟨hx,(hT.next hb).next hc,Touch.of_below (AL hb hc),hb.size,h1,o,((AL hb hc).block _ h1).trans h2,h3⟩
theorem yR.look(h:yR W k c p P V)(hg:¬1=c)(ht:Touch (· =c) V U)(hx:WX U k p)(ho:∃o,U.heap[c]?=some o∧R o):yR W k c p R U:=
 ⟨hx,h.t.touch ht hg,h.b.trans ht,h.kl,h.cl,ho⟩
end
theorem yS(c:Nat)(P:Nat→Nat→Obj→Prop)(ds:List Dd)(v:Value)(W:World)(hv:∀V,Touch (· =c) W V→BZ V v ds)(hm:∀d∈ds,d.q.p.length≤140737488355328∧d.q.d.length≤140737488355328)(hT:UZ W)(hc:c<W.heap.size)(hcg:¬1=c)(h0:∀k,∃o,W.heap[c]?=some o∧P k 0 o)
  (L:∀k V i d u,ds[i]?=some d→WX V k (doP (LW (pw0 k) (ds.take i)) d).2→BF V (k+1) u (doP (LW (pw0 k) (ds.take i)) d).1.ns→c<k→(∃o,V.heap[c]?=some o∧P k i o)→Calls prog 14 #[wP k,ddV d,rpV (doP (LW (pw0 k) (ds.take i)) d).1 u,P0 c] V fun e w'=>e=.returned (.bool true)∧Touch (· =c) V w'∧WX w' k (doP (LW (pw0 k) (ds.take i)) d).2∧∃o,w'.heap[c]?=some o∧P k (i+1) o):
  Calls prog 6 #[v,.func (.func 14) #[] #[P0 c]] W fun e w'=>∃k,e=.returned (.tuple #[wP k,.bool true])∧yR W k c (LW (pw0 k) (ds.take 100)) (P k (min ds.length 100)) w':=by
 have HV:=AA hv;have HM:=AA hm;have HT:=AA hT;have HL:=AA L;have CA:=AA (fun V hV=>tH V hV);have CN:=AA (fun V=>yQ V);obtain⟨va,vc,rfl⟩:=AU (hv W (Touch.refl _ _));have HQ0:=AA h0;clear hv hm hT L h0;go_enter func6,ntmps6;go_wp2_with fail;refine(A8 CA _ (A8 HT)).mono ?_;rintro e w1 ⟨rfl,hb1⟩;have B1:=AA hb1;clear hb1 CA;go_wp2_with fail;refine(A8 CN _).mono ?_;rintro e w2 ⟨rfl,hx2,hb2⟩;have H0:=AA (yR.start (A8 HT) (A8 B1) hb2 hx2 hc (A8 HQ0 w1.heap.size));clear hb2 hx2 B1 HT CN HQ0;generalize w1.heap.size=k at*;unfold wP;go_wp2_with fail
 go_loopg [7] (min ds.length 100) (fun kx s7 wr=>∃i:Nat,s7=I0 i∧i≤min ds.length 100∧min ds.length 100-i≤kx∧Hid (yR W k c (LW (pw0 k) (ds.take i)) (P k i) wr))
 case atStart=>exact⟨0,rfl,by omega,by omega,H0⟩
 case round=>
  obtain⟨i,rfl,hi,hg,HI⟩:=hrel;by_cases hlt:i<ds.length
  ·by_cases hlh:i<100
   ·have hl1:(i:Int)<(ds.length:Int):=by omega
    have hl2:(i:Int)<100:=by omega
    obtain⟨d,hd⟩:∃d,ds[i]?=some d:=⟨_,List.getElem?_eq_getElem hlt⟩;obtain⟨b,off,cap,he,hb,_,_,_,_⟩:=VJ (A8 HV W (Touch.refl _ _)) hd;simp only[Value.slice.injEq,true_and]at he;obtain⟨rfl,rfl⟩:=he;have HC:=AA (fun V (hV:Touch (· =c) W V)=>BP0 (A8 HV V hV) hd);have hmd:=A8 HM d (List.mem_of_getElem? hd);have CD:=AA (A67 (LW (pw0 k) (ds.take i)) d k wr (A8 HI).x (A68 _ _) (A8 HI).t (U6 _ _ (O9 k)) hmd.1 hmd.2);have CK0:=AA (fun V u=>A8 HL k V i d u hd);have HS:=AA (gI (pw0 k) hd);obtain⟨⟨e0,e1,e2,e3,e4,e5,e6⟩,e7,e8,e9,e10,e11,e12⟩:=A8 HC wr (A8 HI).b;have hmin:i+1≤min ds.length 100:=by omega
    clear hmd hd;unfold wP ddV at CD;generalize hx0:doP (LW (pw0 k) (ds.take i)) d=x0 at*;obtain⟨r,y⟩:=x0;clear hx0;simp only at CK0 HS;go_wp2_with fail;refine(A8 CD).mono ?_;rintro e w3 ⟨u,rfl,ho,ht,hx⟩;have hsz:=ht.size;obtain⟨na,nc,rfl⟩:=BU ho;have R2:Hid (RpX (w3.alloc (.cells #[I0 r.E,I0 r.z,S0 r.p,S0 r.d,I0 r.t.c,I0 r.t.m,I0 r.t.q,I0 r.t.v,I0 r.t.k,I0 r.t.o,I0 r.t.n,.slice na r.ns.length nc] 35)) w3.heap.size r (.slice na r.ns.length nc)):=AA (heap_alloc_last _ _);have HN:=AA (((A8 HI).turn ht hx).next (AB w3 (.cells #[I0 r.E,I0 r.z,S0 r.p,S0 r.d,I0 r.t.c,I0 r.t.m,I0 r.t.q,I0 r.t.v,I0 r.t.k,I0 r.t.o,I0 r.t.n,.slice na r.ns.length nc] 35)));have HO:=AA ((ho.lower (C:=k+1) (A8 HI).x.lt).next (AB w3 (.cells #[I0 r.E,I0 r.z,S0 r.p,S0 r.d,I0 r.t.c,I0 r.t.m,I0 r.t.q,I0 r.t.v,I0 r.t.k,I0 r.t.o,I0 r.t.n,.slice na r.ns.length nc] 35)));rw[←A8 HS]at HN;clear e0 e1 e2 e3 e4 e5 e6 e7 e8 e9 e10 e11 e12 ho ht CD;unfold rpV;go_upto_region 8 with fail;generalize w3.alloc _=W2 at*;have hcq:c<w3.heap.size:=Nat.lt_of_lt_of_le hc (Nat.le_trans (A8 HI).b.size hsz);generalize w3.heap.size=q at*;have HKS:Hid (∀V,Touch (· =c) W2 V→V.cell? ⟨b,off+i*13,none⟩=some (I0 d.k)∧V.cell? ⟨b,off+i*13+1,none⟩=some (I0 d.c)∧V.cell? ⟨b,off+i*13+2,none⟩=some (I0 d.s)∧V.cell? ⟨b,off+i*13+3,none⟩=some (I0 d.q.o)∧V.cell? ⟨b,off+i*13+4,none⟩=some (I0 d.q.s)∧V.cell? ⟨b,off+i*13+5,none⟩=some (S0 d.q.p)∧V.cell? ⟨b,off+i*13+6,none⟩=some (S0 d.q.d)∧V.cell? ⟨b,off+i*13+7,none⟩=some (I0 d.q.v)∧V.cell? ⟨b,off+i*13+8,none⟩=some (I0 d.q.f)∧V.cell? ⟨b,off+i*13+9,none⟩=some (I0 d.lo)∧V.cell? ⟨b,off+i*13+10,none⟩=some (I0 d.sl)∧V.cell? ⟨b,off+i*13+11,none⟩=some (I0 d.ke)∧V.cell? ⟨b,off+i*13+12,none⟩=some (.bool d.wt)∧V.cell? ⟨q,0,none⟩=some (I0 r.E)∧V.cell? ⟨q,1,none⟩=some (I0 r.z)∧V.cell? ⟨q,2,none⟩=some (S0 r.p)∧V.cell? ⟨q,3,none⟩=some (S0 r.d)∧V.cell? ⟨q,4,none⟩=some (I0 r.t.c)∧V.cell? ⟨q,5,none⟩=some (I0 r.t.m)∧V.cell? ⟨q,6,none⟩=some (I0 r.t.q)∧V.cell? ⟨q,7,none⟩=some (I0 r.t.v)∧V.cell? ⟨q,8,none⟩=some (I0 r.t.k)∧V.cell? ⟨q,9,none⟩=some (I0 r.t.o)∧V.cell? ⟨q,10,none⟩=some (I0 r.t.n)∧V.cell? ⟨q,11,none⟩=some (.slice na r.ns.length nc)):=AA fun V hV=>by
     obtain⟨⟨e0,e1,e2,e3,e4,e5,e6⟩,e7,e8,e9,e10,e11,e12⟩:=A8 HC V ((A8 HN).b.trans hV);obtain⟨r0,r1,r2,r3,r4,r5,r6,r7,r8,r9,r10,r11⟩:=RpX.cells (W:=V) ((hV.block q (A8 R2).lt (by omega)).trans (A8 R2));exact⟨e0,e1,e2,e3,e4,e5,e6,e7,e8,e9,e10,e11,e12,r0,r1,r2,r3,r4,r5,r6,r7,r8,r9,r10,r11⟩
    have CK:=AA (fun V (hV:B0 W2 V)=>A8 CK0 V (.slice na r.ns.length nc) (by have:=((A8 HN).next hV).x;rw[A8 HS]at this;exact this) ((A8 HO).next hV) (Nat.lt_of_lt_of_le hc (A8 HN).kl) ((A8 HN).next hV).o);unfold wP ddV rpV at CK;clear CK0 HO R2 HC hx HI;have hS0:=A8 HKS _ (Touch.of_below (Below.refl W2.heap.size W2).drew);refine wp_region_held (S:=fun V:World=>V.cell? ⟨b,off+i*13,none⟩=some (I0 d.k)∧V.cell? ⟨b,off+i*13+1,none⟩=some (I0 d.c)∧V.cell? ⟨b,off+i*13+2,none⟩=some (I0 d.s)∧V.cell? ⟨b,off+i*13+3,none⟩=some (I0 d.q.o)∧V.cell? ⟨b,off+i*13+4,none⟩=some (I0 d.q.s)∧V.cell? ⟨b,off+i*13+5,none⟩=some (S0 d.q.p)∧V.cell? ⟨b,off+i*13+6,none⟩=some (S0 d.q.d)∧V.cell? ⟨b,off+i*13+7,none⟩=some (I0 d.q.v)∧V.cell? ⟨b,off+i*13+8,none⟩=some (I0 d.q.f)∧V.cell? ⟨b,off+i*13+9,none⟩=some (I0 d.lo)∧V.cell? ⟨b,off+i*13+10,none⟩=some (I0 d.sl)∧V.cell? ⟨b,off+i*13+11,none⟩=some (I0 d.ke)∧V.cell? ⟨b,off+i*13+12,none⟩=some (.bool d.wt)∧V.cell? ⟨q,0,none⟩=some (I0 r.E)∧V.cell? ⟨q,1,none⟩=some (I0 r.z)∧V.cell? ⟨q,2,none⟩=some (S0 r.p)∧V.cell? ⟨q,3,none⟩=some (S0 r.d)∧V.cell? ⟨q,4,none⟩=some (I0 r.t.c)∧V.cell? ⟨q,5,none⟩=some (I0 r.t.m)∧V.cell? ⟨q,6,none⟩=some (I0 r.t.q)∧V.cell? ⟨q,7,none⟩=some (I0 r.t.v)∧V.cell? ⟨q,8,none⟩=some (I0 r.t.k)∧V.cell? ⟨q,9,none⟩=some (I0 r.t.o)∧V.cell? ⟨q,10,none⟩=some (I0 r.t.n)∧V.cell? ⟨q,11,none⟩=some (.slice na r.ns.length nc)) (by kernel_rfl) ?_;change wpAnyH _ _ _ _ _ _ _ _ W2.drew;refine tkH 0 hS0 ?_;refine tkH 1 hS0 ?_;refine tkH 2 hS0 ?_;refine tkH 3 hS0 ?_;refine tkH 4 hS0 ?_;refine tkH 5 hS0 ?_;refine tkH 6 hS0 ?_;refine rd1 7 (fun K hK=>?_);go_simp;refine(A8 CK _ (Below.refl _ _).drew).mono ?_;rintro e w3 ⟨rfl,ht3,hx3,ho3⟩;have HB:=AA (And.intro ((Touch.of_below (F:=(· =c)) (Below.refl W2.heap.size W2).drew).trans ht3) (And.intro hx3 ho3));have hS1:=A8 HKS _ (A8 HB).1;clear ht3 hx3 ho3;refine nxH hK hS1 ?_;clear hK K;refine tkH 8 hS1 ?_;refine wpAnyH_done (by kernel_rfl) ?_ _;go_wp2_with fail
    go_roundg (min ds.length 100-(i+1))
    case measure=>omega
    case rel=>exact⟨i+1,by simp,by omega,Nat.le_refl _,AA (yR.look (A8 HN) hcg (A8 HB).1 (by rw[A8 HS];exact(A8 HB).2.1) (A8 HB).2.2)⟩
   ·obtain rfl:i=100:=by omega
    have hl1:((100:Nat):Int)<(ds.length:Int):=by omega
    have HF:=HI;clear HI;go_wp2_with fail;exact bodyPost_ret (v:=.tuple #[P0 k,.bool true]) (by simp[results,results6,go_sem]) rfl ⟨k,rfl,by rw[Nat.min_eq_right (by omega:100≤ds.length)];exact A8 HF⟩
  ·obtain rfl:i=ds.length:=by omega
   have HF:=HI;have hle:ds.length≤100:=by omega
   rw[show ds.take ds.length=ds.take 100 by rw[List.take_of_length_le (Nat.le_refl _),List.take_of_length_le hle]]at HF;clear HI;go_wp2_with fail;exact bodyPost_ret (v:=.tuple #[P0 k,.bool true]) (by simp[results,results6,go_sem]) rfl ⟨k,rfl,by rw[Nat.min_eq_left hle];exact A8 HF⟩
end Go.Proofs.YtmbmehcoidjiaaaGreatDoor
