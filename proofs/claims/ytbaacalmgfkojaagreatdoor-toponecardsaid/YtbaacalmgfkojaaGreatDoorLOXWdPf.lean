/-
  Part.
-/
import Derived.Test.YtbaacalmgfkojaaGreatDoorLOAR
set_option maxRecDepth 20000
set_option maxHeartbeats 8000000
namespace Go.Proofs.YtbaacalmgfkojaaGreatDoor
open Go.RowKit Go.Proofs.Tryz
open _root_.Option renaming none->FX,some->FZ
structure CS7(W:World)(F:Nat->Prop)(I:Nat->Nat->World->Prop):Prop where
 lt:∀b,F b->b<W.heap.size
 g:¬F 1
 next:∀k i V U,I k i V->B0 V U->I k i U
 turn:∀k i V U,W.heap.size<=k->I k i V->Touch (· =k) V U->I k i U
structure CR7(W:World)(k:Nat)(F:Nat->Prop)(p:Pw)(I:World->Prop)(V:World):Prop where
 x:WX V k p
 t:dB V
 b:Touch F W V
 kl:W.heap.size<=k
 i:I V
section
variable {W V U:World} {k i:Nat} {p q:Pw} {F:Nat->Prop} {I:Nat->Nat->World->Prop}
theorem CR7.next(h:CR7 W k F p (I k i) V)(K:CS7 W F I)(hb:B0 V U):CR7 W k F p (I k i) U:=⟨h.x.next hb,h.t.next hb,h.b.trans (Touch.of_below hb),h.kl,K.next _ _ _ _ h.i hb⟩
theorem CR7.turn(h:CR7 W k F p (I k i) V)(K:CS7 W F I)(ht:Touch (· =k) V U)(hx:WX U k q):CR7 W k F q (I k i) U:=by
 have hk:=h.kl;exact⟨hx,gB h.t h.x ht,⟨ht.os.trans h.b.os,ht.tape.trans h.b.tape,ht.output.trans h.b.output,Nat.le_trans h.b.size ht.size,fun b hb hn=>(ht.block b (Nat.lt_of_lt_of_le hb h.b.size) (by omega)).trans (h.b.block b hb hn)⟩,hk,K.turn _ _ _ _ hk h.i ht⟩
theorem CR7.start(K:CS7 W F I)(hT:dB W)(hb:B0 W V)(hc:B0 V U)(hx:WX U V.heap.size (pw0 V.heap.size))(h0:I V.heap.size 0 W):CR7 W V.heap.size F (lI (pw0 V.heap.size) []) (I V.heap.size 0) U:=
 ⟨hx,(hT.next hb).next hc,Touch.of_below (G8 hb hc),hb.size,K.next _ _ _ _ h0 (G8 hb hc)⟩
theorem CR7.look(K:CS7 W F I)(h:CR7 W k F p (I k i) V)(ht:Touch F V U)(hx:WX U k p)(hi:I k (i+1) U):CR7 W k F p (I k (i+1)) U:=⟨hx,h.t.touch ht K.g,h.b.trans ht,h.kl,hi⟩
end
theorem CR8{W:World}{F:Nat->Prop}{I:Nat->Nat->World->Prop}(K:CS7 W F I)(c:Nat)(ds:List Dd)(v:Value)(hv:∀V,Touch F W V->IL V v ds)(hm:∀d∈ds,d.q.p.length<=140737488355328/\d.q.d.length<=140737488355328)(hT:dB W)(h0:∀k,I k 0 W)
  (L:∀k V i d u,ds[i]?=FZ d->WX V k (doP (lI (pw0 k) (ds.take i)) d).2->GZ V (k+1) u (doP (lI (pw0 k) (ds.take i)) d).1.ns->W.heap.size<=k->I k i V->Calls prog 7 #[wP k,ddV d,rpV (doP (lI (pw0 k) (ds.take i)) d).1 u,P0 c] V fun e w'=>e=.returned (.bool true)/\Touch F V w'/\WX w' k (doP (lI (pw0 k) (ds.take i)) d).2/\I k (i+1) w'):
  Calls prog 6 #[v,.func (.func 7) #[] #[P0 c]] W fun e w'=>∃k,e=.returned (.tuple #[wP k,.bool true])/\CR7 W k F (lI (pw0 k) (ds.take 100)) (I k (min ds.length 100)) w':=by
 have HK0:=G6 K;have HV:=G6 hv;have HM:=G6 hm;have HT:=G6 hT;have HL:=G6 L;have CA:=G6 (fun V hV=>CK9 V hV);have CN:=G6 (fun V=>C78 V);obtain⟨va,vc,rfl⟩:=GK (hv W (Touch.refl _ _));have HQ0:=G6 h0;clear hv hm hT L h0 K;go_enter func6,ntmps6;go_wp2_with fail;refine(G5 CA _ (G5 HT)).mono ?_;rintro e w1 ⟨rfl,hb1⟩;have B1:=G6 hb1;clear hb1 CA;go_wp2_with fail;refine(G5 CN _).mono ?_;rintro e w2 ⟨rfl,hx2,hb2⟩;have H0:=G6 (CR7.start (G5 HK0) (G5 HT) (G5 B1) hb2 hx2 (G5 HQ0 w1.heap.size));clear hb2 hx2 B1 HT CN HQ0;generalize w1.heap.size=k at*;unfold wP;go_wp2_with fail
 go_loopg [7] (min ds.length 100) (fun kx s7 wr=>∃i:Nat,s7=I0 i/\i<=min ds.length 100/\min ds.length 100-i<=kx/\Hid (CR7 W k F (lI (pw0 k) (ds.take i)) (I k i) wr))
 case atStart=>exact⟨0,rfl,by omega,by omega,H0⟩
 case round=>
  obtain⟨i,rfl,hi,hg,HI⟩:=hrel;by_cases hlt:i<ds.length
  .by_cases hlh:i<100
   .have hl1:(i:Int)<(ds.length:Int):=by omega
    have hl2:(i:Int)<100:=by omega
    obtain⟨d,hd⟩:∃d,ds[i]?=FZ d:=⟨_,List.getElem?_eq_getElem hlt⟩;obtain⟨b,off,cap,he,hb,_,_,_,_⟩:=nS (G5 HV W (Touch.refl _ _)) hd;simp only[Value.slice.injEq,true_and]at he;obtain⟨rfl,rfl⟩:=he;have HC:=G6 (fun V (hV:Touch F W V)=>CS4 (G5 HV V hV) hd);have hmd:=G5 HM d (List.mem_of_getElem? hd);have CD:=G6 (BT8 (lI (pw0 k) (ds.take i)) d k wr (G5 HI).x (CK7 _ _) (G5 HI).t (B45 _ _ (nY k)) hmd.1 hmd.2);have CK0:=G6 (fun V u=>G5 HL k V i d u hd);have HS:=G6 (CK8 (pw0 k) hd);obtain⟨⟨e0,e1,e2,e3,e4,e5,e6⟩,e7,e8,e9,e10,e11,e12⟩:=G5 HC wr (G5 HI).b;have hmin:i+1<=min ds.length 100:=by omega
    clear hmd hd;unfold wP ddV at CD;generalize hx0:doP (lI (pw0 k) (ds.take i)) d=x0 at*;obtain⟨r,y⟩:=x0;clear hx0;simp only at CK0 HS;go_wp2_with fail;refine(G5 CD).mono ?_;rintro e w3 ⟨u,rfl,ho,ht,hx⟩;have hsz:=ht.size;obtain⟨na,nc,rfl⟩:=IV ho;have R2:Hid (RpX (w3.alloc (.cells #[I0 r.E,I0 r.z,S0 r.p,S0 r.d,I0 r.t.c,I0 r.t.m,I0 r.t.q,I0 r.t.v,I0 r.t.k,I0 r.t.o,I0 r.t.n,.slice na r.ns.length nc] 36)) w3.heap.size r (.slice na r.ns.length nc)):=G6 (heap_alloc_last _ _);have HN:=G6 (((G5 HI).turn (G5 HK0) ht hx).next (G5 HK0) (G7 w3 (.cells #[I0 r.E,I0 r.z,S0 r.p,S0 r.d,I0 r.t.c,I0 r.t.m,I0 r.t.q,I0 r.t.v,I0 r.t.k,I0 r.t.o,I0 r.t.n,.slice na r.ns.length nc] 36)));have HO:=G6 ((ho.lower (C:=k+1) (G5 HI).x.lt).next (G7 w3 (.cells #[I0 r.E,I0 r.z,S0 r.p,S0 r.d,I0 r.t.c,I0 r.t.m,I0 r.t.q,I0 r.t.v,I0 r.t.k,I0 r.t.o,I0 r.t.n,.slice na r.ns.length nc] 36)));rw[<-G5 HS]at HN;clear e0 e1 e2 e3 e4 e5 e6 e7 e8 e9 e10 e11 e12 ho ht CD;unfold rpV;go_upto_region 8 with fail;generalize w3.alloc _=W2 at*;have hcq:W.heap.size<=w3.heap.size:=Nat.le_trans (G5 HI).b.size hsz;generalize w3.heap.size=q at*;have HKS:Hid (∀V,Touch F W2 V->V.cell? ⟨b,off+i*13,FX⟩=FZ (I0 d.k)/\V.cell? ⟨b,off+i*13+1,FX⟩=FZ (I0 d.c)/\V.cell? ⟨b,off+i*13+2,FX⟩=FZ (I0 d.s)/\V.cell? ⟨b,off+i*13+3,FX⟩=FZ (I0 d.q.o)/\V.cell? ⟨b,off+i*13+4,FX⟩=FZ (I0 d.q.s)/\V.cell? ⟨b,off+i*13+5,FX⟩=FZ (S0 d.q.p)/\V.cell? ⟨b,off+i*13+6,FX⟩=FZ (S0 d.q.d)/\V.cell? ⟨b,off+i*13+7,FX⟩=FZ (I0 d.q.v)/\V.cell? ⟨b,off+i*13+8,FX⟩=FZ (I0 d.q.f)/\V.cell? ⟨b,off+i*13+9,FX⟩=FZ (I0 d.lo)/\V.cell? ⟨b,off+i*13+10,FX⟩=FZ (I0 d.sl)/\V.cell? ⟨b,off+i*13+11,FX⟩=FZ (I0 d.ke)/\V.cell? ⟨b,off+i*13+12,FX⟩=FZ (.bool d.wt)/\V.cell? ⟨q,0,FX⟩=FZ (I0 r.E)/\V.cell? ⟨q,1,FX⟩=FZ (I0 r.z)/\V.cell? ⟨q,2,FX⟩=FZ (S0 r.p)/\V.cell? ⟨q,3,FX⟩=FZ (S0 r.d)/\V.cell? ⟨q,4,FX⟩=FZ (I0 r.t.c)/\V.cell? ⟨q,5,FX⟩=FZ (I0 r.t.m)/\V.cell? ⟨q,6,FX⟩=FZ (I0 r.t.q)/\V.cell? ⟨q,7,FX⟩=FZ (I0 r.t.v)/\V.cell? ⟨q,8,FX⟩=FZ (I0 r.t.k)/\V.cell? ⟨q,9,FX⟩=FZ (I0 r.t.o)/\V.cell? ⟨q,10,FX⟩=FZ (I0 r.t.n)/\V.cell? ⟨q,11,FX⟩=FZ (.slice na r.ns.length nc)):=G6 fun V hV=>by
     obtain⟨⟨e0,e1,e2,e3,e4,e5,e6⟩,e7,e8,e9,e10,e11,e12⟩:=G5 HC V ((G5 HN).b.trans hV);obtain⟨r0,r1,r2,r3,r4,r5,r6,r7,r8,r9,r10,r11⟩:=RpX.cells (W:=V) ((hV.block q (G5 R2).lt (fun hf=>absurd ((G5 HK0).lt q hf) (by omega))).trans (G5 R2));exact⟨e0,e1,e2,e3,e4,e5,e6,e7,e8,e9,e10,e11,e12,r0,r1,r2,r3,r4,r5,r6,r7,r8,r9,r10,r11⟩
    have CK:=G6 (fun V (hV:B0 W2 V)=>G5 CK0 V (.slice na r.ns.length nc) (by have:=((G5 HN).next (G5 HK0) hV).x;rw[G5 HS]at this;exact this) ((G5 HO).next hV) (G5 HN).kl ((G5 HN).next (G5 HK0) hV).i);unfold wP ddV rpV at CK;clear CK0 HO R2 HC hx HI;have hS0:=G5 HKS _ (Touch.of_below (Below.refl W2.heap.size W2).drew);refine wp_region_held (S:=fun V:World=>V.cell? ⟨b,off+i*13,FX⟩=FZ (I0 d.k)/\V.cell? ⟨b,off+i*13+1,FX⟩=FZ (I0 d.c)/\V.cell? ⟨b,off+i*13+2,FX⟩=FZ (I0 d.s)/\V.cell? ⟨b,off+i*13+3,FX⟩=FZ (I0 d.q.o)/\V.cell? ⟨b,off+i*13+4,FX⟩=FZ (I0 d.q.s)/\V.cell? ⟨b,off+i*13+5,FX⟩=FZ (S0 d.q.p)/\V.cell? ⟨b,off+i*13+6,FX⟩=FZ (S0 d.q.d)/\V.cell? ⟨b,off+i*13+7,FX⟩=FZ (I0 d.q.v)/\V.cell? ⟨b,off+i*13+8,FX⟩=FZ (I0 d.q.f)/\V.cell? ⟨b,off+i*13+9,FX⟩=FZ (I0 d.lo)/\V.cell? ⟨b,off+i*13+10,FX⟩=FZ (I0 d.sl)/\V.cell? ⟨b,off+i*13+11,FX⟩=FZ (I0 d.ke)/\V.cell? ⟨b,off+i*13+12,FX⟩=FZ (.bool d.wt)/\V.cell? ⟨q,0,FX⟩=FZ (I0 r.E)/\V.cell? ⟨q,1,FX⟩=FZ (I0 r.z)/\V.cell? ⟨q,2,FX⟩=FZ (S0 r.p)/\V.cell? ⟨q,3,FX⟩=FZ (S0 r.d)/\V.cell? ⟨q,4,FX⟩=FZ (I0 r.t.c)/\V.cell? ⟨q,5,FX⟩=FZ (I0 r.t.m)/\V.cell? ⟨q,6,FX⟩=FZ (I0 r.t.q)/\V.cell? ⟨q,7,FX⟩=FZ (I0 r.t.v)/\V.cell? ⟨q,8,FX⟩=FZ (I0 r.t.k)/\V.cell? ⟨q,9,FX⟩=FZ (I0 r.t.o)/\V.cell? ⟨q,10,FX⟩=FZ (I0 r.t.n)/\V.cell? ⟨q,11,FX⟩=FZ (.slice na r.ns.length nc)) (by kernel_rfl) ?_;change wpAnyH _ _ _ _ _ _ _ _ W2.drew;refine tkH 0 hS0 ?_;refine tkH 1 hS0 ?_;refine tkH 2 hS0 ?_;refine tkH 3 hS0 ?_;refine tkH 4 hS0 ?_;refine tkH 5 hS0 ?_;refine tkH 6 hS0 ?_;refine rd1 7 (fun K hK=>?_);go_simp;refine(G5 CK _ (Below.refl _ _).drew).mono ?_;rintro e w3 ⟨rfl,ht3,hx3,ho3⟩;have HB:=G6 (And.intro ((Touch.of_below (F:=F) (Below.refl W2.heap.size W2).drew).trans ht3) (And.intro hx3 ho3));have hS1:=G5 HKS _ (G5 HB).1;clear ht3 hx3 ho3;refine nxH hK hS1 ?_;clear hK K;refine tkH 8 hS1 ?_;refine wpAnyH_done (by kernel_rfl) ?_ _;go_wp2_with fail
    go_roundg (min ds.length 100-(i+1))
    case measure=>omega
    case rel=>exact⟨i+1,by simp,by omega,Nat.le_refl _,G6 (CR7.look (G5 HK0) (G5 HN) (G5 HB).1 (by rw[G5 HS];exact(G5 HB).2.1) (G5 HB).2.2)⟩
   .obtain rfl:i=100:=by omega
    have hl1:((100:Nat):Int)<(ds.length:Int):=by omega
    have HF:=HI;clear HI;go_wp2_with fail;exact bodyPost_ret (v:=.tuple #[P0 k,.bool true]) (by simp[results,results6,go_sem]) rfl ⟨k,rfl,by rw[Nat.min_eq_right (by omega:100<=ds.length)];exact G5 HF⟩
  .obtain rfl:i=ds.length:=by omega
   have HF:=HI;have hle:ds.length<=100:=by omega
   rw[show ds.take ds.length=ds.take 100 by rw[List.take_of_length_le (Nat.le_refl _),List.take_of_length_le hle]]at HF;clear HI;go_wp2_with fail;exact bodyPost_ret (v:=.tuple #[P0 k,.bool true]) (by simp[results,results6,go_sem]) rfl ⟨k,rfl,by rw[Nat.min_eq_left hle];exact G5 HF⟩
