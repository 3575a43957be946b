/-
  Part.
-/
import Derived.Test.YtkpojhhfjddegaaGreatDoorLOAF
import Derived.Test.YtkpojhhfjddegaaGreatDoorLOAH
import Derived.Test.YtkpojhhfjddegaaGreatDoorLOAK
set_option maxRecDepth 20000
set_option maxHeartbeats 8000000
namespace Go.Proofs.YtkpojhhfjddegaaGreatDoor
open Go.RowKit Go.Proofs.Tryz
open _root_.Nat renaming le_refl->A8,lt_of_lt_of_le->AY,le_trans->BP,mul_comm->DL,add_assoc->EM
open Go.RowKit.Below renaming refl->AA
open Go.Value.slice renaming injEq->AQ
open _root_.Option.some renaming injEq->BF,inj->BQ
open _root_.Array renaming getElem?_eq_getElem->BU
open Go.Value renaming slice->FV
open Go.Obj renaming cells->FW
open Go renaming World->FX,Value->FZ,Calls->G5
open _root_.Option renaming none->G6,some->G7
variable{W V:FX}{k i:Nat}{d:Dd}{v:FZ}{p:Pw}{r:Rp}
theorem BX9{U:FX}{kd:Int}{x:Rp×Pw}(hk:k<W.heap.size)(D:DB W V d)(ho:H6 U V.heap.size v x.1.ns)(ht:Touch (· =k) V U)(hx:PO kd x.1.E=true->WX U k x.2)(hp:PO kd x.1.E=true->∀i,i<3->MO 300 (x.2.s i)):
  Did W k kd x (.returned (rpV x.1 v)) (iP U (W.heap.size+1) (I0 x.1.E) (I0 x.1.z) (S0 x.1.p) (S0 x.1.d) (I0 x.1.t.c) (I0 x.1.t.m) (I0 x.1.t.q) (I0 x.1.t.v) (I0 x.1.t.k) (I0 x.1.t.o) (I0 x.1.t.n) v):=by
 have h:=(D.dt k).touch hk ht;have hlt:=D.r.lt;exact⟨v,rfl,KF (ho.lower (by omega)) (dO _ _ _ _ _ _ _ _ _ _ _ _ _ _) (fun q e=>by have:=Q8 ho e;omega),KH h.t (by omega) _ _ _ _ _ _ _ _ _ _ _ _,fun hl=>(hx hl).reply (hp hl) h.r (by omega) (dO _ _ _ _ _ _ _ _ _ _ _ _ _ _)⟩
theorem CU3(d:Dd)(k:Nat)(W:FX)(x:Rp×Pw)(hk0:k<W.heap.size)(C1:d.k=1->∀V,B0 W V->G5 prog 36 #[wP k,ddV d] V (Did V k 1 x))(C2:d.k=2->∀V,B0 W V->G5 prog 37 #[wP k,ddV d] V (Did V k 2 x))(C3:d.k=3->∀V,B0 W V->G5 prog 38 #[wP k,ddV d] V (Did V k 3 x))(C4:d.k=4->∀V,B0 W V->G5 prog 39 #[wP k,ddV d] V (Did V k 4 x))(C5:d.k=5->∀V,B0 W V->G5 prog 40 #[wP k] V (Did V k 5 x))(hp:∀i,i<3->MO 300 (x.2.s i))(hd:d.k=1\/d.k=2\/d.k=3\/d.k=4\/d.k=5):G5 prog 27 #[wP k,ddV d] W (Did W k d.k x):=by
 have D0:=G9 (DB.start W d);have HP:=G9 (fun(_:PO d.k x.1.E=true)=>hp);rcases hd with hd|hd|hd|hd|hd
 all_goals
  first|have HC:=G9 (C1 hd)|have HC:=G9 (C2 hd)|have HC:=G9 (C3 hd)|have HC:=G9 (C4 hd)|have HC:=G9 (C5 hd)
  rw[hd]at HP⊢;clear C1 C2 C3 C4 C5 hp;obtain⟨dk,dc,ds,⟨o,s,pp,dd,v,f⟩,lo,sl,ke,wt⟩:=d;simp only at hd;subst hd;unfold wP at HC⊢;unfold ddV at*;go_enter func27,ntmps27;go_upto_region 1 with fail;generalize ((W.alloc _).alloc _)=W0 at*;obtain⟨⟨d0,d1,d2,d3,d4,d5,d6⟩,d7,d8,d9,d10,d11,d12⟩:=(G8 D0).cells;simp only at d0 d1 d2 d3 d4 d5 d6 d7 d8 d9 d10 d11 d12;go_wp2_with fail;refine(G8 HC _ (G8 D0).b).mono ?_;rintro e w1 ⟨vn,rfl,ho,ht,hw⟩;obtain⟨na,nc,rfl⟩:=IU ho;have R2:=(((G8 D0).dt k).touch hk0 ht).r;have X1:=G9 (BX9 hk0 (G8 D0) ho ht hw (G8 HP));have b0:=R2.cells;have g0:=R2.GX;clear ho ht hw R2 D0 HC HP d0 d1 d2 d3 d4 d5 d6 d7 d8 d9 d10 d11 d12;unfold rpV iP at X1;unfold rpV;go_wp2_with fail;exact bodyPost_ret (v:=.agg #[I0 x.1.E,I0 x.1.z,S0 x.1.p,S0 x.1.d,I0 x.1.t.c,I0 x.1.t.m,I0 x.1.t.q,I0 x.1.t.v,I0 x.1.t.k,I0 x.1.t.o,I0 x.1.t.n,FV na x.1.ns.length nc]) (by simp[results,results27,go_sem,b0]) rfl (G8 X1)
theorem BF7(p:Pw)(d:Dd)(k:Nat)(W:FX)(hx:WX W k p)(hc:0<=d.c/\d.c<16)(hs:0<=d.s/\d.s<3)(hok:∀j,j<3->MO 299 (p.s j))(hcl:uY 299 p.H d.c.toNat (p.c d.c.toNat))(hp:d.q.p.length<=140737488355328):G5 prog 37 #[wP k,ddV d] W (Did W k 2 (dI p d)):=by
 cases hu:(p.s d.s.toNat).up with
 |true=>exact CH2 p d k W hx hc hs hok hcl hp hu
 |false=>
  rw[dI,if_pos hu];exact BF2 p d k W hx hs hu
theorem AU3(p:Pw)(d:Dd)(k:Nat)(W:FX)(hx:WX W k (LQ p))(hT:WZ W)(h:QE p)(hn:p.n<300)(ha:TI d=0)(hp:d.q.p.length<=140737488355328)(hd:d.q.d.length<=140737488355328):G5 prog 27 #[wP k,ddV d] W (Did W k d.k (dX (LQ p) d)):=by
 have hW:QE (dX (LQ p) d).2:=by
  have:=aK d h;rw[doP,if_neg (by omega),if_neg (by omega)]at this;exact this
 have hP:∀i,i<3->MO 300 ((dX (LQ p) d).2.s i):=fun i hi=>(hW.s i hi).more hW.n1;have ok:∀j,j<3->MO 299 (p.s j):=fun j hj=>(h.s j hj).more (by omega);have ok3:∀j,j<3->MO 300 (p.s j):=fun j hj=>(h.s j hj).more (by omega);have hk:d.k=1\/d.k=2\/d.k=3\/d.k=4\/d.k=5:=by
  unfold TI at ha;by_cases e:d.k=1\/d.k=2\/d.k=3\/d.k=4\/d.k=5
  .exact e
  .rw[if_neg (by omega),if_neg (by omega),if_neg (by omega),if_neg (by omega)]at ha;cases ha
 exact CU3 d k W _ hx.lt
  (fun h1 V hV=>by rw[dX,if_pos h1];exact AU2 p d k V (hx.next hV) (hT.next hV) h hn (CQ9 h1 ha) hp hd)
  (fun h2 V hV=>by
   obtain⟨hc,hs⟩:=CD5 h2 ha;rw[dX,if_neg (by omega),if_pos h2];exact BF7 (LQ p) d k V (hx.next hV) hc hs ok ((h.c _ (by omega)).more (by omega) (fun _ hx=>hx)) hp)
  (fun h3 V hV=>by rw[dX,if_neg (by omega),if_neg (by omega),if_pos h3];exact BF6 (LQ p) d k V (hx.next hV) (AH3 (.inl h3) ha) ok3)
  (fun h4 V hV=>by rw[dX,if_neg (by omega),if_neg (by omega),if_neg (by omega),if_pos h4];exact CU2 (LQ p) d k V (hx.next hV) (AH3 (.inr h4) ha) ok3)
  (fun h5 V hV=>by rw[dX,if_neg (by omega),if_neg (by omega),if_neg (by omega),if_neg (by omega)];exact AT9 (LQ p) k V (hx.next hV) (hT.next hV) (D03 h hn))
  hP hk
def CJ2(W:FX)(k:Nat)(x:Rp×Pw)(e:Ending)(w':FX):Prop:=
 ∃v,e=.returned (rpV x.1 v)/\H6 w' W.heap.size v x.1.ns/\Touch (· =k) W w'/\WX w' k x.2
theorem AI9{E:Int}(hk:k<W.heap.size)(h:DT k W V d)(hx:WX V k p)(hp:∀i,i<3->MO 300 (p.s i)):
  CJ2 W k (OJ E,p) (.returned (VJ E)) (iP V (W.heap.size+1) (I0 E) (I0 0) (.string ⟨#[]⟩) (.string ⟨#[]⟩) (I0 0) (I0 0) (I0 0) (I0 0) (I0 0) (I0 0) (I0 0) (N0)):=
 ⟨N0,rfl,.inl ⟨rfl,rfl⟩,KH h.t (by omega) _ _ _ _ _ _ _ _ _ _ _ _,hx.reply hp h.r (by omega) (dO _ _ _ _ _ _ _ _ _ _ _ _ _ _)⟩
theorem AJ0(p:Pw)(d:Dd)(h:PO d.k (dX p d).1.E=false):(dX p d).2=p:=by
 unfold dX at h⊢;by_cases h1:d.k=1
 .rw[if_pos h1]at h⊢;unfold P9 at h⊢
  (repeat' split)<;>simp_all[PO]
 .rw[if_neg h1]at h⊢;by_cases h2:d.k=2
  .rw[if_pos h2]at h⊢;unfold dI at h⊢
   (repeat' split)<;>simp_all[PO,yP]
   all_goals (split at h<;>simp_all)
  .rw[if_neg h2]at h⊢;by_cases h3:d.k=3
   .rw[if_pos h3]at h⊢;unfold SC at h⊢
    (repeat' split)<;>simp_all[PO,OJ]
   .rw[if_neg h3]at h⊢;by_cases h4:d.k=4
    .rw[if_pos h4]at h⊢;unfold upW at h⊢
     (repeat' split)<;>simp_all[PO,OJ]
    .rw[if_neg h4]at h⊢;unfold RN at h⊢
     (repeat' split)<;>simp_all[PO]
theorem CU4(p:Pw)(d:Dd):(dX p d).2.h=p.h:=by
 unfold dX P9 dI SC upW RN
 (repeat' split)<;>rfl
theorem dR(W:FX)(k:Nat)(c:Array FZ):Touch (· =k) W (W.setRow k c):=by
 refine⟨rfl,rfl,rfl,by simp[World.setRow],fun b _ hb=>?_⟩;simp only[World.setRow,Array.getElem?_modify];rw[if_neg (fun e=>hb e.symm)]
theorem WX.blk(h:WX W k p):∃c,W.heap[k]?=G7 (FW c 74 (0,0))/\c.size=83/\c.all (·.oneCell')=true:=by
 obtain⟨f,⟨c,h1,h2,h3⟩,hr⟩:=h;refine⟨c,h1,h2,?_⟩;rw[Array.all_eq_true];intro j hj;have e:=h3 j (by omega);rw[BU hj]at e;rw[BQ e];exact hr.cellP (P:=(·.oneCell'=true)) (fun _=>rfl) (fun _=>rfl) (fun _ _ _=>rfl) j (by omega)
theorem WX.copy{c:Array FZ}(h:WX W k p)(hh:p.h=k)(hc:W.heap[k]?=G7 (FW c 74 (0,0))):WX (W.alloc (FW c 74)) W.heap.size p:=by
 have hk:=h.lt;obtain⟨f,⟨c',h1,h2,h3⟩,hr⟩:=h;rw[hc]at h1;simp only[BF,Obj.cells.injEq,and_true]at h1;subst h1;exact⟨f,⟨c,heap_alloc_last W _,h2,h3⟩,(hr.moved (A8 _) (by omega)).next (GH _ _)⟩
theorem WX.back{q:Nat}{p':Pw}{c:Array FZ}(h:WX W k p)(h':WX W q p')(hh:p'.h=k)(hc:W.heap[q]?=G7 (FW c 74 (0,0))):WX (W.setRow k c) k p':=by
 obtain⟨f,hb,hr⟩:=h;have hd:=hr.iO hb;obtain⟨o,ho,_⟩:=hb;obtain⟨g,⟨c',h1,h2,h3⟩,hs⟩:=h';rw[hc]at h1;simp only[BF,Obj.cells.injEq,and_true]at h1;subst h1;refine⟨g,⟨c,setRow_heap W k o c _ _ ho,h2,h3⟩,WdR.touch (W:=W) ?_ (dR W k c)⟩;refine⟨hs.n,fun i hi=>?_,hs.r,fun i hi=>⟨(hs.c i hi).s,(hs.c i hi).z,YE (hs.c i hi).e.1 hd⟩,aF (MJ.1 hs.d.1) hd,hs.h,by omega⟩;have s:=hs.s i hi;exact⟨s.up,tH (OQ.1 s.d.1) hd,s.id,s.ep,aF (MJ.1 s.l.1) hd,s.dn,s.z,lZ s.n.1 hd,⟨s.i.1,fun h0=>hs.h i hi h0 k (Nat.le_of_eq hh.symm)⟩,TV s.w.1 hd⟩
def RpX(W:FX)(g:Nat)(r:Rp)(v:FZ):Prop:=W.heap[g]?=G7 (FW #[I0 r.E,I0 r.z,S0 r.p,S0 r.d,I0 r.t.c,I0 r.t.m,I0 r.t.q,I0 r.t.v,I0 r.t.k,I0 r.t.o,I0 r.t.n,v] 36 (0,0))
theorem RpX.lt{g:Nat}(h:RpX W g r v):g<W.heap.size:=(Array.getElem?_eq_some_iff.1 h).1
theorem RpX.cells{g:Nat}(h:RpX W g r v):W.cell? ⟨g,0,G6⟩=G7 (I0 r.E)/\W.cell? ⟨g,1,G6⟩=G7 (I0 r.z)/\W.cell? ⟨g,2,G6⟩=G7 (S0 r.p)/\W.cell? ⟨g,3,G6⟩=G7 (S0 r.d)/\W.cell? ⟨g,4,G6⟩=G7 (I0 r.t.c)/\W.cell? ⟨g,5,G6⟩=G7 (I0 r.t.m)/\W.cell? ⟨g,6,G6⟩=G7 (I0 r.t.q)/\W.cell? ⟨g,7,G6⟩=G7 (I0 r.t.v)/\W.cell? ⟨g,8,G6⟩=G7 (I0 r.t.k)/\W.cell? ⟨g,9,G6⟩=G7 (I0 r.t.o)/\W.cell? ⟨g,10,G6⟩=G7 (I0 r.t.n)/\W.cell? ⟨g,11,G6⟩=G7 (v):=by
 unfold RpX at h;simp[World.cell?,h]
theorem DT.beyond{q:Nat}{U:FX}(h:DT k W V d)(hq:W.heap.size+1<q)(ht:Touch (· =q) V U):DT k W U d:=
 ⟨⟨ht.os.trans h.t.os,ht.tape.trans h.t.tape,ht.output.trans h.t.output,BP h.t.size ht.size,fun b hb hn=>(ht.block b (AY hb h.t.size) (by omega)).trans (h.t.block b hb hn)⟩,h.r.touch ht (by omega),(ht.block _ h.d.ltz (by omega)).trans h.d⟩
theorem BF8{B:Nat}(hk:k<W.heap.size)(h:DT k W V d)(hx:WX V k p)(hp:∀i,i<3->MO 300 (p.s i))(hn:H6 V B v r.ns)(hB:W.heap.size+1<B):
  CJ2 W k (r,p) (.returned (rpV r v)) (iP V (W.heap.size+1) (I0 r.E) (I0 r.z) (S0 r.p) (S0 r.d) (I0 r.t.c) (I0 r.t.m) (I0 r.t.q) (I0 r.t.v) (I0 r.t.k) (I0 r.t.o) (I0 r.t.n) v):=
 ⟨v,rfl,KF (hn.lower (by omega)) (dO _ _ _ _ _ _ _ _ _ _ _ _ _ _) (fun q e=>by have:=U8 hn q e;omega),KH h.t (by omega) _ _ _ _ _ _ _ _ _ _ _ _,hx.reply hp h.r (by omega) (dO _ _ _ _ _ _ _ _ _ _ _ _ _ _)⟩
theorem CH3(p:Pw)(d:Dd)(k:Nat)(W:FX)(hx:WX W k p)(hp:∀i,i<3->MO 300 (p.s i))(hn:300<=p.n):G5 prog 13 #[wP k,ddV d] W (CJ2 W k (OJ 6,p)):=by
 have D0:=G9 ((DB.start W d).dt k);have X0:=G9 (hx.next (DB.start W d).b);have hk0:=hx.lt;have HP:=G9 hp;clear hp hx;unfold wP ddV;go_enter func13,ntmps13;go_upto_region 1 with fail;generalize ((W.alloc _).alloc _)=W0 at*;have c0:=(G8 X0).count;have CR:=G9 (fun V=>KQ 6 V);unfold VJ at CR;go_wp2_with fail;refine(G8 CR _).mono ?_;rintro e wr ⟨rfl,hbr⟩;have DR:=(G8 D0).next hk0 hbr;have b0:=DR.r.cells;have g0:=DR.r.GX;have XR:=G9 (AI9 (E:=6) hk0 DR ((G8 X0).next hbr) (G8 HP));clear hbr DR D0 CR;unfold VJ iP at XR;go_wp2_with fail;exact bodyPost_ret (v:=.agg #[I0 6,I0 0,.string ⟨#[]⟩,.string ⟨#[]⟩,I0 0,I0 0,I0 0,I0 0,I0 0,I0 0,I0 0,N0]) (by simp[results,results13,go_sem,b0]) rfl (G8 XR)
theorem CU5(p:Pw)(d:Dd)(k:Nat)(W:FX)(hx:WX W k p)(hp:∀i,i<3->MO 300 (p.s i))(hn:p.n<300)(hn0:0<=p.n)(ha:TI d≠0):G5 prog 13 #[wP k,ddV d] W (CJ2 W k (OJ (TI d),LQ p)):=by
 have D0:=G9 ((DB.start W d).dt k);have X0:=G9 (hx.next (DB.start W d).b);have hk0:=hx.lt;have HP:=G9 hp;have CA:=G9 (fun V=>qM d V);have ha2:(TI d==0)=false:=beq_eq_false_iff_ne.2 ha;clear hp hx ha;generalize TI d=E at*;unfold wP;unfold ddV at CA⊢;go_enter func13,ntmps13;go_upto_region 1 with fail;generalize ((W.alloc _).alloc _)=W0 at*;have c0:=(G8 X0).count;have f0:=(G8 X0).GX 0;have X1:=G9 ((G8 X0).AG2 (p.n+1));have D1:=G9 ((G8 D0).touch hk0 (JK W0 k 0 (I0 (p.n+1))));go_upto_region 6 with fail;generalize W0.setCell _ _=W1 at*;clear c0 f0 D0 X0;obtain⟨⟨d0,d1,d2,d3,d4,d5,d6⟩,d7,d8,d9,d10,d11,d12⟩:=(G8 D1).cells;go_wp2_with fail;refine(G8 CA _).mono ?_;rintro e w2 ⟨rfl,hb2⟩;have D2:=G9 ((G8 D1).next hk0 hb2);have X2:=G9 ((G8 X1).next hb2);clear d0 d1 d2 d3 d4 d5 d6 d7 d8 d9 d10 d11 d12 hb2 D1 X1;have CR:=G9 (fun V=>KQ E V);unfold VJ at CR;go_wp2_with fail;refine(G8 CR _).mono ?_;rintro e wr ⟨rfl,hbr⟩;have DR:=(G8 D2).next hk0 hbr;have b0:=DR.r.cells;have g0:=DR.r.GX;have XR:=G9 (AI9 (E:=E) hk0 DR ((G8 X2).next hbr) (G8 HP));clear hbr DR D2 CR;unfold VJ iP at XR;go_wp2_with fail;exact bodyPost_ret (v:=.agg #[I0 E,I0 0,.string ⟨#[]⟩,.string ⟨#[]⟩,I0 0,I0 0,I0 0,I0 0,I0 0,I0 0,I0 0,N0]) (by simp[results,results13,go_sem,b0]) rfl (G8 XR)
theorem CU6(p:Pw)(d:Dd)(k:Nat)(W:FX)(hx:WX W k p)(hh:p.h=k)(hT:WZ W)(h:QE p)(hn:p.n<300)(ha:TI d=0)(hp:d.q.p.length<=140737488355328)(hd:d.q.d.length<=140737488355328):G5 prog 13 #[wP k,ddV d] W (CJ2 W k (dX (LQ p) d)):=by
 have D0:=G9 ((DB.start W d).dt k);have X0:=G9 (hx.next (DB.start W d).b);have T0:=G9 (hT.next (DB.start W d).b);have hk0:=hx.lt;have CA:=G9 (fun V=>qM d V);have hn0:=h.n0;have HP:Hid (∀i,i<3->MO 300 ((dX (LQ p) d).2.s i)):=G9 (by
  have hW:=aK d h;rw[doP,if_neg (by omega),if_neg (by omega)]at hW;exact fun i hi=>(hW.s i hi).more hW.n1)
 have HH:Hid ((dX (LQ p) d).2.h=k):=G9 ((CU4 _ _).trans hh);have HS:=G9 (AJ0 (LQ p) d);have CH:=G9 (fun V q (hV:WX V q (LQ p)) (hT:WZ V)=>AU3 p d q V hV hT h hn ha hp hd);have CL:=G9 (fun V=>A73 d.k (dX (LQ p) d).1.E V);rw[ha]at CA;clear hx hT h hp hd ha;generalize hx1:dX (LQ p) d=x at*;clear hx1;obtain⟨r,p'⟩:=x;simp only at HP HH HS CL;unfold wP;unfold ddV at CA⊢;unfold wP ddV at CH;go_enter func13,ntmps13;go_upto_region 1 with fail;generalize ((W.alloc _).alloc _)=W0 at*;have c0:=(G8 X0).count;have f0:=(G8 X0).GX 0;have X1:=G9 ((G8 X0).AG2 (p.n+1));have D1:=G9 ((G8 D0).touch hk0 (JK W0 k 0 (I0 (p.n+1))));have T1:=G9 (dP (G8 T0) (G8 X0) (JK W0 k 0 (I0 (p.n+1))));go_upto_region 6 with fail;generalize W0.setCell _ _=W1 at*;clear c0 f0 D0 X0 T0;obtain⟨⟨d0,d1,d2,d3,d4,d5,d6⟩,d7,d8,d9,d10,d11,d12⟩:=(G8 D1).cells;go_wp2_with fail;refine(G8 CA _).mono ?_;rintro e w2 ⟨rfl,hb2⟩;have D2:=G9 ((G8 D1).next hk0 hb2);have X2:=G9 ((G8 X1).next hb2);have T2:=G9 ((G8 T1).next hb2);clear d0 d1 d2 d3 d4 d5 d6 d7 d8 d9 d10 d11 d12 hb2 D1 X1 T1 CA;obtain⟨c,hc,CJ3,hc1⟩:=(G8 X2).blk;have HC:=G9 hc;have hq2:=(G8 D2).r.lt;have X3:=G9 ((G8 X2).copy hh hc);have Y3:=G9 (((G8 X2).offq (A8 _)).next (GH w2 (FW c 74)));have D3:=G9 ((G8 D2).next hk0 (GH w2 (FW c 74)));have T3:=G9 ((G8 T2).next (GH w2 (FW c 74)));clear hc;go_upto_region 10 with(first|refine iG rfl _ rfl k c rfl (G8 HC) CJ3 ?_|refine tJ rfl rfl ?_|refine nZ rfl _ _ rfl c rfl rfl CJ3 hc1 ?_);clear HC CJ3 hc1 X2 D2 T2;generalize w2.alloc _=W3 at*;generalize w2.heap.size=q at*;obtain⟨⟨d0,d1,d2,d3,d4,d5,d6⟩,d7,d8,d9,d10,d11,d12⟩:=(G8 D3).cells;have C3:=G9 (G8 CH W3 q (G8 X3) (G8 T3));have hq3:=(G8 X3).lt;go_wp2_with fail;refine(G8 C3).mono ?_;rintro e w4 ⟨vn,rfl,ho4,ht4,hx4⟩;obtain⟨na,nc,rfl⟩:=IU ho4;have hs4:=ht4.size;have R5:Hid (RpX (w4.alloc (FW #[I0 r.E,I0 r.z,S0 r.p,S0 r.d,I0 r.t.c,I0 r.t.m,I0 r.t.q,I0 r.t.v,I0 r.t.k,I0 r.t.o,I0 r.t.n,FV na r.ns.length nc] 36)) w4.heap.size r (FV na r.ns.length nc)):=G9 (heap_alloc_last _ _);have B5:=GH w4 (FW #[I0 r.E,I0 r.z,S0 r.p,S0 r.d,I0 r.t.c,I0 r.t.m,I0 r.t.q,I0 r.t.v,I0 r.t.k,I0 r.t.o,I0 r.t.n,FV na r.ns.length nc] 36);have D5:=G9 (((G8 D3).beyond (by omega) ht4).next hk0 B5);have Y5:=G9 (((G8 Y3).far (g:=q) rfl (show k≠q by omega) ht4).next B5).x;have O5:=G9 (ho4.next B5);have X5:=G9 (fun hl=>(hx4 hl).next B5);clear d0 d1 d2 d3 d4 d5 d6 d7 d8 d9 d10 d11 d12 C3 CH X3 Y3 D3 T3 ho4 ht4 hx4 B5;unfold rpV;go_upto_region 11 with fail;generalize w4.alloc _=W5 at*;generalize w4.heap.size=g at*;obtain⟨⟨d0,d1,d2,d3,d4,d5,d6⟩,d7,d8,d9,d10,d11,d12⟩:=(G8 D5).cells;obtain⟨r0,r1,r2,r3,r4,r5,r6,r7,r8,r9,r10,r11⟩:=(G8 R5).cells;go_wp2_with fail;refine(G8 CL _).mono ?_;rintro e w6 ⟨rfl,hw6⟩;obtain rfl:=hw6.symm;clear d0 d1 d2 d3 d4 d5 d6 d7 d8 d9 d10 d11 d12 r0 r1 r2 r3 r4 r5 r6 r7 r8 r9 r10 r11 CL;refine Or.elim (show PO d.k r.E=false\/PO d.k r.E=true by cases PO d.k r.E<;>simp) ?a0 ?a1
 case' a1=>
  intro hl;rw[hl];obtain⟨c,hc,CJ3,hc1⟩:=(G8 X5 hl).blk;obtain⟨o,ho,ho83,_⟩:=(G8 Y5).blk;have HC:=G9 hc;have HO:=G9 ho;have X6:=G9 ((G8 Y5).back (G8 X5 hl) (G8 HH) hc);have D6:=G9 ((G8 D5).touch hk0 (dR W5 k c));have O6:=G9 (KF (G8 O5) (dR W5 k c) (fun b e=>by have:=U8 (G8 O5) b e;omega));have R6:Hid (RpX (W5.setRow k c) g r (FV na r.ns.length nc)):=G9 (((dR W5 k c).block g (G8 R5).lt (by omega)).trans (G8 R5));clear hc ho X5 Y5 D5 O5 R5;go_upto_region 13 with(first|refine iG rfl _ rfl q c rfl (G8 HC) CJ3 ?_|refine dJ rfl _ _ rfl k c o rfl rfl (G8 HO) CJ3 ho83 hc1 ?_);generalize W5.setRow k c=W6 at*
 case' a0=>
  intro hl;rw[hl];have X6:Hid (WX W5 k p'):=G9 (by rw[G8 HS hl];exact G8 Y5);have D6:=D5;have O6:=O5;have R6:=R5;clear X5 Y5 D5 O5 R5;go_upto_region 13 with fail
 all_goals
  have DR:=G8 D6;have b0:=DR.r.cells;have g0:=DR.r.GX;obtain⟨r0,r1,r2,r3,r4,r5,r6,r7,r8,r9,r10,r11⟩:=(G8 R6).cells;have XR:=G9 (BF8 hk0 DR (G8 X6) (G8 HP) (G8 O6) (by omega));clear DR X6 D6 O6 R6;unfold rpV iP at XR;go_wp2_with fail;exact bodyPost_ret (v:=.agg #[I0 r.E,I0 r.z,S0 r.p,S0 r.d,I0 r.t.c,I0 r.t.m,I0 r.t.q,I0 r.t.v,I0 r.t.k,I0 r.t.o,I0 r.t.n,FV na r.ns.length nc]) (by simp[results,results13,go_sem,b0]) rfl (G8 XR)
theorem mY(p:Pw)(d:Dd)(k:Nat)(W:FX)(hx:WX W k p)(hh:p.h=k)(hT:WZ W)(h:QE p)(hp:d.q.p.length<=140737488355328)(hd:d.q.d.length<=140737488355328):G5 prog 13 #[wP k,ddV d] W (CJ2 W k (doP p d)):=by
 have ok:∀i,i<3->MO 300 (p.s i):=fun i hi=>(h.s i hi).more h.n1;unfold doP;by_cases hn:300<=p.n
 .rw[if_pos hn];exact CH3 p d k W hx ok hn
 .rw[if_neg hn];by_cases ha:TI d=0
  .rw[if_neg (fun e=>e ha)];exact CU6 p d k W hx hh hT h (by omega) ha hp hd
  .rw[if_pos ha];exact CU5 p d k W hx ok (by omega) h.n0 ha
structure WNf(W:FX)(k:Nat)(f:Nat->FZ)(a b:Nat):Prop where
 t:∀j,j<83->∀x,f j≠ .string x
 n:f 0=I0 0
 r:∀i,i<3->f (31+i)=I0 0
 d:f 82=N0
 s:∀i,i<a->SvA W k (fun q=>f (1+10*i+q)) (svP i ps0)
 c:∀i,i<b->ClA W k (fun q=>f (34+3*i+q)) ⟨i+1,0,[]⟩
def WN(W V:FX)(a b:Nat):Prop:=(∃f,WB V W.heap.size f/\WNf V W.heap.size f a b)/\B0 W V
section
variable {W V U:FX} {a b:Nat}
theorem mZ(h:B0 W V)(T:Touch (· =W.heap.size) V U):B0 W U:=⟨T.os.trans h.os,T.tape.trans h.tape,T.output.trans h.output,BP h.size T.size,fun b hb=>(T.block b (AY hb h.size) (by omega)).trans (h.block b hb)⟩
theorem WN.next(h:WN W V a b)(hb:B0 V U):WN W U a b:=by
 obtain⟨⟨f,h1,h2⟩,h3⟩:=h;exact⟨⟨f,h1.next hb,h2.t,h2.n,h2.r,h2.d,fun i hi=>(h2.s i hi).next hb,fun i hi=>⟨(h2.c i hi).s,(h2.c i hi).z,(h2.c i hi).e.next hb⟩⟩,GI h3 hb⟩
theorem WN.srv(h:WN W V a b)(ha:a<3){vd vl vn vs vw:FZ}{s:Sv}(hs:svP a ps0=s)(hv:SvV V (.agg #[.bool s.up,vd,I0 s.id,I0 s.ep,vl,I0 s.dn,I0 s.tr.z,vn,vs,vw]) s)(h0:s.tr.ss=[]):WN W (qE V W.heap.size (1+10*a) (.bool s.up) vd (I0 s.id) (I0 s.ep) vl (I0 s.dn) (I0 s.tr.z) vn vs vw) (a+1) b:=by
 obtain⟨⟨f,hb,hn⟩,hB⟩:=h;have T:=WR V W.heap.size (1+10*a) (.bool s.up) vd (I0 s.id) (I0 s.ep) vl (I0 s.dn) (I0 s.tr.z) vn vs vw;have hA:SvA V W.heap.size (CI9 (.bool s.up) vd (I0 s.id) (I0 s.ep) vl (I0 s.dn) (I0 s.tr.z) vn vs vw) s:=SvA.of (hb.iO hn.t) hv (fun h=>absurd h0 h) rfl rfl rfl rfl rfl rfl rfl rfl rfl rfl;refine⟨⟨_,hb.qE (o:=1+10*a) (by omega) _ _ _ _ _ _ _ _ _ _,fun j hj x=>?_,by rw[JF (by omega)];exact hn.n,fun i hi=>by rw[JF (by omega)];exact hn.r i hi,by rw[JF (by omega)];exact hn.d,fun i hi=>?_,fun i hi=>?_⟩,mZ hB T⟩
 .by_cases e:1+10*a<=j/\j<1+10*a+10
  .obtain⟨q,rfl⟩:∃q,j=1+10*a+q:=⟨j-(1+10*a),by omega⟩;rw[OC (by omega)];exact hA.cellP (P:=(· ≠ .string x)) (fun _ e=>by cases e) (fun _ e=>by cases e) (fun _ _ _ e=>by cases e) q (by omega)
  .rw[JF (by omega)];exact hn.t j hj x
 .by_cases e:i=a
  .subst e;rw[hs];exact(hA.congr fun q hq=>by rw[OC hq]).touch T
  .exact((hn.s i (by omega)).congr fun q hq=>by rw[JF (by omega)]).touch T
 .have h:=(hn.c i hi).congr (g':=fun q=>BH1 f (1+10*a) 10 (CI9 (.bool s.up) vd (I0 s.id) (I0 s.ep) vl (I0 s.dn) (I0 s.tr.z) vn vs vw) (34+3*i+q)) fun q hq=>by rw[JF (by omega)]
  exact⟨h.s,h.z,h.e.touch T⟩
theorem WN.cl(h:WN W V a b)(ha:a<=3)(hb:b<16):WN W (jF V W.heap.size (34+3*b) (I0 (b+1)) (I0 0) (N0)) a (b+1):=by
 obtain⟨⟨f,hf,hn⟩,hB⟩:=h;have T:=SE V W.heap.size (34+3*b) (I0 (b+1)) (I0 0) (N0);refine⟨⟨_,hf.jF (o:=34+3*b) (by omega) _ _ _,fun j hj x=>?_,by rw[JF (by omega)];exact hn.n,fun i hi=>by rw[JF (by omega)];exact hn.r i hi,by rw[JF (by omega)];exact hn.d,fun i hi=>((hn.s i hi).congr fun q hq=>by rw[JF (by omega)]).touch T,fun i hi=>?_⟩,mZ hB T⟩
 .by_cases e:34+3*b<=j/\j<34+3*b+3
  .obtain⟨q,rfl⟩:∃q,j=34+3*b+q:=⟨j-(34+3*b),by omega⟩;rw[OC (by omega)];rcases(show q=0\/q=1\/q=2 by omega)with rfl|rfl|rfl<;>(intro e;cases e)
  .rw[JF (by omega)];exact hn.t j hj x
 .by_cases e:i=b
  .subst e;exact⟨by rw[OC (by omega)];rfl,by rw[OC (by omega)];rfl,by rw[OC (by omega)];exact Row.nil _ _ 0 (by decide) G6⟩
  .have h:=(hn.c i (by omega)).congr (g':=fun q=>BH1 f (34+3*b) 3 (B97 (I0 (b+1)) (I0 0) (N0)) (34+3*i+q)) fun q hq=>by rw[JF (by omega)]
   exact⟨h.s,h.z,h.e.touch T⟩
theorem C28(i:Nat):(svP i ps0).tr.ss=[]:=by rw[J5 rfl];rfl
theorem WN.done(h:WN W V 3 16):WX V W.heap.size (pw0 W.heap.size):=by
 obtain⟨⟨f,hb,hn⟩,_⟩:=h;exact⟨f,hb,hn.n,fun i hi=>hn.s i hi,hn.r,hn.c,by rw[hn.d];exact Row.nil _ _ 0 (by decide) G6,fun i _ h0=>absurd (C28 i) h0,A8 _⟩
end
def CU7:FZ->Bool
 | .string _=>false
 |_=>true
theorem CH4:zB.all CU7=true:=by kernel_rfl
theorem BF9:zB[0]?=G7 (I0 0)/\zB[31]?=G7 (I0 0)/\zB[32]?=G7 (I0 0)/\zB[33]?=G7 (I0 0)/\zB[82]?=G7 (N0):=⟨by kernel_rfl,by kernel_rfl,by kernel_rfl,by kernel_rfl,by kernel_rfl⟩
theorem BY0(W:FX)(z:Array FZ)(hz:z.size=83)(ht:z.all CU7=true)(z0:z[0]?=G7 (I0 0))(z1:z[31]?=G7 (I0 0))(z2:z[32]?=G7 (I0 0))(z3:z[33]?=G7 (I0 0))(z4:z[82]?=G7 (N0)):WN W (W.alloc (FW z 74)) 0 0:=by
 have e:∀j:Nat,j<83->∃v,z[j]?=G7 v:=fun j hj=>⟨z[j]'(by omega),BU (by omega)⟩;have g:∀ (j:Nat) v,z[j]?=G7 v->z[j]?.getD undef=v:=fun j v h=>by rw[h];rfl
 refine⟨⟨fun j=>z[j]?.getD undef,⟨z,heap_alloc_last W _,hz,fun j hj=>?_⟩,fun j hj x=>?_,g _ _ z0,fun i hi=>?_,g _ _ z4,fun i hi=>by omega,fun i hi=>by omega⟩,GH _ _⟩
 .obtain⟨v,h⟩:=e j hj;rw[h,<-g j v h]
 .obtain⟨v,h⟩:=e j hj;rw[g j v h];rintro rfl;have:=Array.all_eq_true.1 ht j (by omega);rw[BU (by omega)]at h;rw[BQ h]at this
  cases this
 .rcases(show i=0\/i=1\/i=2 by omega)with rfl|rfl|rfl
  .exact g _ _ z1
  .exact g _ _ z2
  .exact g _ _ z3
theorem WN.start(W:FX):WN W (W.alloc (FW zB 74)) 0 0:=BY0 W zB CB0 CH4 BF9.1 BF9.2.1 BF9.2.2.1 BF9.2.2.2.1 BF9.2.2.2.2
theorem CH5(i:Nat)(hi:i<3)(w:FX):G5 prog 30 #[I0 i,.agg #[N0]] w (BB1 w (svP i ps0) 0):=by
 have e:svP i ps0=CZ2 i:=by rw[J5 rfl,CZ2,AQ5 (fs:=[]) (by unfold WT;simp only[A32];split<;>simp)];simp[ps0,IG,epD,TG,PS]
 rw[e];exact(B85 i (by omega) (by omega) w).mono fun _ _ h=>uD h rfl
theorem A94(W:FX):G5 prog 19 #[] W fun e w'=>e=.returned (wP W.heap.size)/\WX w' W.heap.size (pw0 W.heap.size)/\B0 W w':=by
 have CB:=G9 (fun i hi V=>CH5 i hi V);have CN:=G9 (fun s h1 h2 V=>BT4 s V h1 h2);have HE0:=G9 C28;have H0:=G9 (WN.start W);unfold wP;go_enter func19,ntmps19;go_upto_region 2 with(first|refine tK rfl rfl ?_|refine A71 rfl _ rfl zB rfl ?_);generalize W.alloc _=W0 at*;go_wp2_with fail
 go_loopg [6] 3 (fun kx s6 wr=>∃i:Nat,s6=I0 i/\i<=3/\3-i<=kx/\Hid (WN W wr i 0))
 case atStart=>exact⟨0,rfl,by omega,A8 _,H0⟩
 case round=>
  obtain⟨i,rfl,hi,hg,HN⟩:=hrel;by_cases hlt:i<3
  .have hii:(i:Int)<3:=by omega
   have C1:=G9 (fun V=>G8 CB i hlt V);have HE:=G9 (G8 HE0 i);generalize hs1:svP i ps0=s1 at C1 HE;have HK:=G9 hs1;clear hs1;go_upto_region 5 with fail;have hS0:(fun _:FX=>True) wr.drew:=trivial;refine wp_region_held (S:=fun _:FX=>True) (by kernel_rfl) ?_;change wpAnyH _ _ _ _ _ _ _ _ wr.drew;refine tkH 0 hS0 ?_;refine tkH 1 hS0 ?_;refine tkH 2 hS0 ?_;refine tkH 3 hS0 ?_;refine tkH 8 hS0 ?_;refine tkH 9 hS0 ?_;refine rd1 4 (fun K hK=>?_);go_simp
   with_reducible refine(G8 C1 _).mono ?_
   rintro e w1 ⟨ad,nd,cd,al,cl,an,cn,ai,ci,aw,cw,rfl,H1,hb1⟩;have N1:=(G8 HN).next (GI (AA wr.heap.size wr).drew hb1);clear hb1;refine nxH hK trivial ?_;clear hK K;refine tkH 5 trivial ?_;refine tkH 6 trivial ?_;refine tkH 7 trivial ?_;refine tkH 10 trivial ?_;refine rd1 11 (fun K hK=>?_);obtain⟨f,hf,_⟩:=N1.1;have x0:=hf.cell (j:=1+i*10) (by omega);have z0:=hf.GX (1+i*10);have x1:=hf.cell (j:=1+i*10+1) (by omega);have z1:=hf.GX (1+i*10+1);have x2:=hf.cell (j:=1+i*10+2) (by omega);have z2:=hf.GX (1+i*10+2);have x3:=hf.cell (j:=1+i*10+3) (by omega);have z3:=hf.GX (1+i*10+3);have x4:=hf.cell (j:=1+i*10+4) (by omega);have z4:=hf.GX (1+i*10+4);have x5:=hf.cell (j:=1+i*10+5) (by omega);have z5:=hf.GX (1+i*10+5);have x6:=hf.cell (j:=1+i*10+6) (by omega);have z6:=hf.GX (1+i*10+6);have x7:=hf.cell (j:=1+i*10+7) (by omega);have z7:=hf.GX (1+i*10+7);have x8:=hf.cell (j:=1+i*10+8) (by omega);have z8:=hf.GX (1+i*10+8);have x9:=hf.cell (j:=1+i*10+9) (by omega);have z9:=hf.GX (1+i*10+9);have hkl:=hf.lt;have HR:=G9 (N1.srv hlt (G8 HK) (G8 H1).1 (G8 HE));unfold qE at HR;rw[DL 10 i]at HR;clear N1 H1 hf;go_simp;refine nxH hK trivial ?_;clear hK K;refine wpAnyH_done (by kernel_rfl) ?_ _;go_wp2_with fail
   go_roundg (3-(i+1))
   case measure=>omega
   case rel=>exact⟨i+1,by simp,by omega,A8 _,HR⟩
  .obtain rfl:i=3:=by omega
   have H3:=HN;clear HN hg hi hlt;go_wp2_with fail
   go_loopg [21] 16 (fun kx s21 wr=>∃i:Nat,s21=I0 i/\i<=16/\16-i<=kx/\Hid (WN W wr 3 i))
   case atStart=>exact⟨0,rfl,by omega,A8 _,H3⟩
   case round=>
    obtain⟨i,rfl,hi,hg,HN⟩:=hrel;by_cases hlt:i<16
    .have hii:(i:Int)<16:=by omega
     have hwr:IntKind.i64.wrap ((i:Int)+1)=(i:Int)+1:=by rw[IntKind.wrap_i64];omega
     have C2:=G9 (fun V=>G8 CN ((i:Int)+1) (by omega) (by omega) V);unfold clV at C2;go_upto_region 10 with fail;have hS0:(fun _:FX=>True) wr.drew:=trivial;refine wp_region_held (S:=fun _:FX=>True) (by kernel_rfl) ?_;change wpAnyH _ _ _ _ _ _ _ _ wr.drew;refine tkH 0 hS0 ?_;refine tkH 1 hS0 ?_;refine tkH 2 hS0 ?_;refine tkH 3 hS0 ?_;refine tkH 8 hS0 ?_;refine tkH 9 hS0 ?_;refine rd1 4 (fun K hK=>?_);go_simp
     with_reducible refine(G8 C2 _).mono ?_
     rintro e w1 ⟨rfl,hb1⟩;have N1:=(G8 HN).next (GI (AA wr.heap.size wr).drew hb1);clear hb1;refine nxH hK trivial ?_;clear hK K;refine tkH 5 trivial ?_;refine tkH 6 trivial ?_;refine tkH 7 trivial ?_;refine tkH 10 trivial ?_;refine rd1 11 (fun K hK=>?_);obtain⟨f,hf,_⟩:=N1.1;have x0:=hf.cell (j:=34+i*3) (by omega);have z0:=hf.GX (34+i*3);have x1:=hf.cell (j:=34+i*3+1) (by omega);have z1:=hf.GX (34+i*3+1);have x2:=hf.cell (j:=34+i*3+2) (by omega);have z2:=hf.GX (34+i*3+2);have hkl:=hf.lt;have HR:=G9 (N1.cl (A8 3) hlt);unfold jF at HR;rw[DL 3 i]at HR;clear N1 hf;go_simp;refine nxH hK trivial ?_;clear hK K;refine wpAnyH_done (by kernel_rfl) ?_ _;go_wp2_with fail
     go_roundg (16-(i+1))
     case measure=>omega
     case rel=>exact⟨i+1,by simp,by omega,A8 _,HR⟩
    .obtain rfl:i=16:=by omega
     go_wp2_with fail;go_ret;exact⟨rfl,(G8 HN).done,(G8 HN).2⟩
theorem nC(p:Pw):∀l:List Dd,(ND p l).h=p.h
 |[]=>rfl
 |d::l=>by
  rw[ND,nC _ l];unfold doP
  repeat' split
  all_goals first|rfl|exact CU4 _ _
theorem AJ1(p:Pw)(d:Dd):∀l:List Dd,ND p (l++[d])=(doP (ND p l) d).2
 |[]=>rfl
 |e::l=>by
  show ND (doP p e).2 (l++[d])=_;rw[AJ1 _ d l];rfl
theorem nD(p:Pw){ds:List Dd}(h:ds[i]?=G7 d):ND p (ds.take (i+1))=(doP (ND p (ds.take i)) d).2:=by
 obtain⟨hk,rfl⟩:=List.getElem?_eq_some_iff.1 h;rw[List.take_succ_eq_append_getElem hk,AJ1]
structure AJ2(W:FX)(k:Nat)(p:Pw)(V:FX):Prop where
 x:WX V k p
 t:WZ V
 b:B0 W V
 k:W.heap.size<=k
section
variable {W V U:FX} {k:Nat} {p q:Pw}
theorem AJ2.next(h:AJ2 W k p V)(hb:B0 V U):AJ2 W k p U:=⟨h.x.next hb,h.t.next hb,GI h.b hb,h.k⟩
theorem AJ2.turn(h:AJ2 W k p V)(ht:Touch (· =k) V U)(hx:WX U k q):AJ2 W k q U:=
 ⟨hx,dP h.t h.x ht,⟨ht.os.trans h.b.os,ht.tape.trans h.b.tape,ht.output.trans h.b.output,BP h.b.size ht.size,fun b hb=>(ht.block b (AY hb h.b.size) (by have:=h.k;omega)).trans (h.b.block b hb)⟩,h.k⟩
theorem AJ2.start(hT:WZ W)(hb:B0 W V)(hc:B0 V U)(hx:WX U V.heap.size (pw0 V.heap.size)):AJ2 W V.heap.size (ND (pw0 V.heap.size) []) U:=⟨hx,(hT.next hb).next hc,GI hb hc,hb.size⟩
end
theorem C29{b off n cap:Nat}{ds:List Dd}(hv:IK W (FV (G7 ⟨b,off,G6⟩) n cap) ds)(hd:ds[i]?=G7 d):(W.cell? ⟨b,off+i*13,G6⟩=G7 (I0 d.k)/\W.cell? ⟨b,off+i*13+1,G6⟩=G7 (I0 d.c)/\W.cell? ⟨b,off+i*13+2,G6⟩=G7 (I0 d.s)/\W.cell? ⟨b,off+i*13+3,G6⟩=G7 (I0 d.q.o)/\W.cell? ⟨b,off+i*13+4,G6⟩=G7 (I0 d.q.s)/\W.cell? ⟨b,off+i*13+5,G6⟩=G7 (S0 d.q.p)/\W.cell? ⟨b,off+i*13+6,G6⟩=G7 (S0 d.q.d))/\W.cell? ⟨b,off+i*13+7,G6⟩=G7 (I0 d.q.v)/\W.cell? ⟨b,off+i*13+8,G6⟩=G7 (I0 d.q.f)/\W.cell? ⟨b,off+i*13+9,G6⟩=G7 (I0 d.lo)/\W.cell? ⟨b,off+i*13+10,G6⟩=G7 (I0 d.sl)/\W.cell? ⟨b,off+i*13+11,G6⟩=G7 (I0 d.ke)/\W.cell? ⟨b,off+i*13+12,G6⟩=G7 (.bool d.wt):=by
 obtain⟨b',off',cap',he,_,hr,_,_,_⟩:=iF hv hd;simp only[AQ,BF,Addr.mk.injEq,and_true]at he;obtain⟨⟨rfl,rfl⟩,_,_⟩:=he;have h:∀ (j:Nat) (v:FZ),j<13->(Lay.cs d)[j]?=G7 v->W.cell? ⟨b,off+i*13+j,G6⟩=G7 v:=fun j v hj hv=>by
  rw[EM];exact hr (i*13+j) v ((GY ds i d hd j hj).trans hv)
 exact⟨⟨h 0 _ (by omega) rfl,h 1 _ (by omega) rfl,h 2 _ (by omega) rfl,h 3 _ (by omega) rfl,h 4 _ (by omega) rfl,h 5 _ (by omega) rfl,h 6 _ (by omega) rfl⟩,h 7 _ (by omega) rfl,h 8 _ (by omega) rfl,h 9 _ (by omega) rfl,h 10 _ (by omega) rfl,h 11 _ (by omega) rfl,h 12 _ (by omega) rfl⟩
theorem nG(p:Pw)(k:Nat)(W:FX)(hx:WX W k p)(hD:p.D.length<=300):G5 prog 12 #[wP k] W fun e w'=>∃a c,e=.returned (FV a p.D.length c)/\H6 w' W.heap.size (FV a p.D.length c) p.D/\B0 W w':=by
 obtain⟨ua,uc,d82,hdv⟩:=hx.ack;have CC:=G9 (sF (FV ua p.D.length uc) p.D W hdv (by omega));clear hx hdv;unfold wP;go_enter func12,ntmps12;go_wp2_with fail;refine(G8 CC).mono ?_;rintro e w1 ⟨v1,rfl,ho,hb⟩;obtain⟨a1,c1,rfl⟩:=IU ho;have HO:=G9 (And.intro ho hb);clear ho hb CC;go_wp2_with fail;go_ret;exact⟨a1,c1,rfl,(G8 HO).1,(G8 HO).2⟩
theorem zO(W:FX)(hT:WZ W):G5 prog 18 #[] W (R0 W (.bool true)):=by
 have HT:=G9 hT;have CN:=G9 (A94 W);clear hT;have hfd:∀ (x0 x1 x2 x3 x4 x5 x6 x7 x8 x9 x10 x11:FZ) (w:FX),(Instr.field 36 (.agg #[x0,x1,x2,x3,x4,x5,x6,x7,x8,x9,x10,x11]) 0).run prog w=.ok x0 w:=fun _ _ _ _ _ _ _ _ _ _ _ _ _=>by kernel_rfl
 go_enter func18,ntmps18;go_wp2_with fail;refine(G8 CN).mono ?_;rintro e w1 ⟨rfl,hx1,hb1⟩;have P1:=G9 (AJ2.start (G8 HT) (AA _ _) hb1 hx1);clear hx1 hb1 CN HT;obtain⟨f,c,h1,hf,hc⟩:=BY1 W.heap.size;have i1:=aK dEl (PG W.heap.size);have C1:=G9 (mY (pw0 W.heap.size) dEl W.heap.size w1 (G8 P1).x rfl (G8 P1).t (PG W.heap.size) (by simp[dEl]) (by simp[dEl]));rw[h1]at C1 i1;obtain⟨t,ns,p2,h2,hD⟩:=BY2 (k:=W.heap.size) hf hc;have C2:=G9 (fun V hx hT=>mY ⟨1,f,eR (pw0 W.heap.size).s,c,[],[],W.heap.size⟩ dOp W.heap.size V hx rfl hT i1 (by simp[dOp]) (by simp[dOp]));rw[h2]at C2;have CL:=G9 (fun V hx=>NZ ⟨1,f,eR (pw0 W.heap.size).s,c,[],[],W.heap.size⟩ W.heap.size V hx);have CA:=G9 (fun V hx=>nG p2 W.heap.size V hx (by omega));simp only[show ldP (eR (pw0 W.heap.size).s)=2 from rfl]at CL;rw[hD]at CA;clear h1 h2 i1 hf hc hD;generalize eR (pw0 W.heap.size).s=ro at*;simp only[wP,ddV,dEl,nd0]at C1;simp only[wP,ddV,dOp]at C2;unfold wP at CL CA⊢;go_wp2_with fail;refine(G8 C1).mono ?_;rintro e w2 ⟨u2,rfl,ho2,ht2,hx2⟩;obtain⟨a2,c2,rfl⟩:=IU ho2;have P2:=G9 ((G8 P1).turn ht2 hx2);clear ho2 ht2 hx2 C1 P1;unfold rpV;go_wp2_with fail;refine(G8 CL _ (G8 P2).x).mono ?_;rintro e w3 ⟨rfl,hb3⟩;have P3:=G9 ((G8 P2).next hb3);clear hb3 CL P2;go_wp2_with fail;refine(G8 C2 _ (G8 P3).x (G8 P3).t).mono ?_;rintro e w4 ⟨u4,rfl,ho4,ht4,hx4⟩;obtain⟨a4,c4,rfl⟩:=IU ho4;have P4:=G9 (fun O=>((G8 P3).turn ht4 hx4).next (GH w4 O));clear ho4 ht4 hx4 C2 P3;unfold rpV;go_wp2_with fail;refine(G8 CA _ (G8 P4 _).x).mono ?_;rintro e w5 ⟨a5,c5,rfl,_,hb5⟩;have P5:=G9 ((G8 P4 _).next hb5);clear hb5 CA P4;go_wp2_with fail;go_ret;exact⟨rfl,(G8 P5).b⟩
theorem qR(ds:List Dd)(v:FZ)(W:FX)(hv:IK W v ds)(hm:∀d∈ds,d.q.p.length<=140737488355328/\d.q.d.length<=140737488355328)(hT:WZ W)
  (L:∀k V i d u,ds[i]?=G7 d->WX V k (doP (ND (pw0 k) (ds.take i)) d).2->H6 V (k+1) u (doP (ND (pw0 k) (ds.take i)) d).1.ns->G5 prog 9 #[wP k,ddV d,rpV (doP (ND (pw0 k) (ds.take i)) d).1 u] V (R0 V (.bool true))):
  G5 prog 6 #[v,.func (.func 9) #[] #[]] W fun e w'=>∃k,e=.returned (.tuple #[wP k,.bool true])/\AJ2 W k (ND (pw0 k) (ds.take 100)) w':=by
 have HV:=G9 hv;have HM:=G9 hm;have HT:=G9 hT;have HL:=G9 L;have CA:=G9 (fun V hV=>zO V hV);have CN:=G9 (fun V=>A94 V);obtain⟨va,vc,rfl⟩:=GL hv;clear hv hm hT L;go_enter func6,ntmps6;go_wp2_with fail;refine(G8 CA _ (G8 HT)).mono ?_;rintro e w1 ⟨rfl,hb1⟩;have B1:=G9 hb1;clear hb1 CA;go_wp2_with fail;refine(G8 CN _).mono ?_;rintro e w2 ⟨rfl,hx2,hb2⟩;have H0:=G9 (AJ2.start (G8 HT) (G8 B1) hb2 hx2);clear hb2 hx2 B1 HT CN;generalize w1.heap.size=k at*;unfold wP;go_wp2_with fail
 go_loopg [7] (min ds.length 100) (fun kx s7 wr=>∃i:Nat,s7=I0 i/\i<=min ds.length 100/\min ds.length 100-i<=kx/\Hid (AJ2 W k (ND (pw0 k) (ds.take i)) wr))
 case atStart=>exact⟨0,rfl,by omega,by omega,H0⟩
 case round=>
  obtain⟨i,rfl,hi,hg,HI⟩:=hrel;by_cases hlt:i<ds.length
  .by_cases hlh:i<100
   .have hl1:(i:Int)<(ds.length:Int):=by omega
    have hl2:(i:Int)<100:=by omega
    obtain⟨d,hd⟩:∃d,ds[i]?=G7 d:=⟨_,List.getElem?_eq_getElem hlt⟩;obtain⟨b,off,cap,he,hb,_,_,_,_⟩:=iF (G8 HV) hd;simp only[AQ,true_and]at he;obtain⟨rfl,rfl⟩:=he;have HC:=G9 (fun V (hV:B0 W V)=>C29 ((G8 HV).next hV) hd);have hmd:=G8 HM d (List.mem_of_getElem? hd);have CD:=G9 (mY (ND (pw0 k) (ds.take i)) d k wr (G8 HI).x (nC _ _) (G8 HI).t (U7 _ _ (PG k)) hmd.1 hmd.2);have CK0:=G9 (fun V u=>G8 HL k V i d u hd);have HS:=G9 (nD (pw0 k) hd);obtain⟨⟨e0,e1,e2,e3,e4,e5,e6⟩,e7,e8,e9,e10,e11,e12⟩:=G8 HC wr (G8 HI).b;have hmin:i+1<=min ds.length 100:=by omega
    clear hmd hd;unfold wP ddV at CD;generalize hx0:doP (ND (pw0 k) (ds.take i)) d=x0 at*;obtain⟨r,q⟩:=x0;clear hx0;simp only at CK0 HS;go_wp2_with fail;refine(G8 CD).mono ?_;rintro e w3 ⟨u,rfl,ho,ht,hx⟩;obtain⟨na,nc,rfl⟩:=IU ho;have R2:Hid (RpX (w3.alloc (FW #[I0 r.E,I0 r.z,S0 r.p,S0 r.d,I0 r.t.c,I0 r.t.m,I0 r.t.q,I0 r.t.v,I0 r.t.k,I0 r.t.o,I0 r.t.n,FV na r.ns.length nc] 36)) w3.heap.size r (FV na r.ns.length nc)):=G9 (heap_alloc_last _ _);have HN:=G9 (((G8 HI).turn ht hx).next (GH w3 (FW #[I0 r.E,I0 r.z,S0 r.p,S0 r.d,I0 r.t.c,I0 r.t.m,I0 r.t.q,I0 r.t.v,I0 r.t.k,I0 r.t.o,I0 r.t.n,FV na r.ns.length nc] 36)));have HO:=G9 ((ho.lower (C:=k+1) (G8 HI).x.lt).next (GH w3 (FW #[I0 r.E,I0 r.z,S0 r.p,S0 r.d,I0 r.t.c,I0 r.t.m,I0 r.t.q,I0 r.t.v,I0 r.t.k,I0 r.t.o,I0 r.t.n,FV na r.ns.length nc] 36)));rw[<-G8 HS]at HN;clear e0 e1 e2 e3 e4 e5 e6 e7 e8 e9 e10 e11 e12 ho ht CD;unfold rpV;go_upto_region 8 with fail;generalize w3.alloc _=W2 at*;generalize w3.heap.size=g at*;have HKS:Hid (∀V,B0 W2 V->V.cell? ⟨b,off+i*13,G6⟩=G7 (I0 d.k)/\V.cell? ⟨b,off+i*13+1,G6⟩=G7 (I0 d.c)/\V.cell? ⟨b,off+i*13+2,G6⟩=G7 (I0 d.s)/\V.cell? ⟨b,off+i*13+3,G6⟩=G7 (I0 d.q.o)/\V.cell? ⟨b,off+i*13+4,G6⟩=G7 (I0 d.q.s)/\V.cell? ⟨b,off+i*13+5,G6⟩=G7 (S0 d.q.p)/\V.cell? ⟨b,off+i*13+6,G6⟩=G7 (S0 d.q.d)/\V.cell? ⟨b,off+i*13+7,G6⟩=G7 (I0 d.q.v)/\V.cell? ⟨b,off+i*13+8,G6⟩=G7 (I0 d.q.f)/\V.cell? ⟨b,off+i*13+9,G6⟩=G7 (I0 d.lo)/\V.cell? ⟨b,off+i*13+10,G6⟩=G7 (I0 d.sl)/\V.cell? ⟨b,off+i*13+11,G6⟩=G7 (I0 d.ke)/\V.cell? ⟨b,off+i*13+12,G6⟩=G7 (.bool d.wt)/\V.cell? ⟨g,0,G6⟩=G7 (I0 r.E)/\V.cell? ⟨g,1,G6⟩=G7 (I0 r.z)/\V.cell? ⟨g,2,G6⟩=G7 (S0 r.p)/\V.cell? ⟨g,3,G6⟩=G7 (S0 r.d)/\V.cell? ⟨g,4,G6⟩=G7 (I0 r.t.c)/\V.cell? ⟨g,5,G6⟩=G7 (I0 r.t.m)/\V.cell? ⟨g,6,G6⟩=G7 (I0 r.t.q)/\V.cell? ⟨g,7,G6⟩=G7 (I0 r.t.v)/\V.cell? ⟨g,8,G6⟩=G7 (I0 r.t.k)/\V.cell? ⟨g,9,G6⟩=G7 (I0 r.t.o)/\V.cell? ⟨g,10,G6⟩=G7 (I0 r.t.n)/\V.cell? ⟨g,11,G6⟩=G7 (FV na r.ns.length nc)):=G9 fun V hV=>by
     obtain⟨⟨e0,e1,e2,e3,e4,e5,e6⟩,e7,e8,e9,e10,e11,e12⟩:=G8 HC V (GI (G8 HN).b hV);obtain⟨r0,r1,r2,r3,r4,r5,r6,r7,r8,r9,r10,r11⟩:=RpX.cells (W:=V) ((hV.block g (G8 R2).lt).trans (G8 R2));exact⟨e0,e1,e2,e3,e4,e5,e6,e7,e8,e9,e10,e11,e12,r0,r1,r2,r3,r4,r5,r6,r7,r8,r9,r10,r11⟩
    have CK:=G9 (fun V (hV:B0 W2 V)=>G8 CK0 V (FV na r.ns.length nc) (by have:=((G8 HN).next hV).x;rw[G8 HS]at this;exact this) ((G8 HO).next hV));unfold wP ddV rpV at CK;clear CK0 HO R2 HC hx HI;have hS0:=G8 HKS _ (AA W2.heap.size W2).drew;refine wp_region_held (S:=fun V:FX=>V.cell? ⟨b,off+i*13,G6⟩=G7 (I0 d.k)/\V.cell? ⟨b,off+i*13+1,G6⟩=G7 (I0 d.c)/\V.cell? ⟨b,off+i*13+2,G6⟩=G7 (I0 d.s)/\V.cell? ⟨b,off+i*13+3,G6⟩=G7 (I0 d.q.o)/\V.cell? ⟨b,off+i*13+4,G6⟩=G7 (I0 d.q.s)/\V.cell? ⟨b,off+i*13+5,G6⟩=G7 (S0 d.q.p)/\V.cell? ⟨b,off+i*13+6,G6⟩=G7 (S0 d.q.d)/\V.cell? ⟨b,off+i*13+7,G6⟩=G7 (I0 d.q.v)/\V.cell? ⟨b,off+i*13+8,G6⟩=G7 (I0 d.q.f)/\V.cell? ⟨b,off+i*13+9,G6⟩=G7 (I0 d.lo)/\V.cell? ⟨b,off+i*13+10,G6⟩=G7 (I0 d.sl)/\V.cell? ⟨b,off+i*13+11,G6⟩=G7 (I0 d.ke)/\V.cell? ⟨b,off+i*13+12,G6⟩=G7 (.bool d.wt)/\V.cell? ⟨g,0,G6⟩=G7 (I0 r.E)/\V.cell? ⟨g,1,G6⟩=G7 (I0 r.z)/\V.cell? ⟨g,2,G6⟩=G7 (S0 r.p)/\V.cell? ⟨g,3,G6⟩=G7 (S0 r.d)/\V.cell? ⟨g,4,G6⟩=G7 (I0 r.t.c)/\V.cell? ⟨g,5,G6⟩=G7 (I0 r.t.m)/\V.cell? ⟨g,6,G6⟩=G7 (I0 r.t.q)/\V.cell? ⟨g,7,G6⟩=G7 (I0 r.t.v)/\V.cell? ⟨g,8,G6⟩=G7 (I0 r.t.k)/\V.cell? ⟨g,9,G6⟩=G7 (I0 r.t.o)/\V.cell? ⟨g,10,G6⟩=G7 (I0 r.t.n)/\V.cell? ⟨g,11,G6⟩=G7 (FV na r.ns.length nc)) (by kernel_rfl) ?_;change wpAnyH _ _ _ _ _ _ _ _ W2.drew;refine tkH 0 hS0 ?_;refine tkH 1 hS0 ?_;refine tkH 2 hS0 ?_;refine tkH 3 hS0 ?_;refine tkH 4 hS0 ?_;refine tkH 5 hS0 ?_;refine tkH 6 hS0 ?_;refine rd1 7 (fun K hK=>?_);go_simp;refine(G8 CK _ (AA _ _).drew).mono ?_;rintro e w3 ⟨rfl,hb3⟩;have HB:=G9 (GI (AA W2.heap.size W2).drew hb3);have hS1:=G8 HKS _ (G8 HB);clear hb3;refine nxH hK hS1 ?_;clear hK K;refine tkH 8 hS1 ?_;refine wpAnyH_done (by kernel_rfl) ?_ _;go_wp2_with fail
    go_roundg (min ds.length 100-(i+1))
    case measure=>omega
    case rel=>exact⟨i+1,by simp,by omega,A8 _,G9 ((G8 HN).next (G8 HB))⟩
   .obtain rfl:i=100:=by omega
    have hl1:((100:Nat):Int)<(ds.length:Int):=by omega
    have HF:=HI;clear HI;go_wp2_with fail;exact bodyPost_ret (v:=.tuple #[P0 k,.bool true]) (by simp[results,results6,go_sem]) rfl ⟨k,rfl,G8 HF⟩
  .obtain rfl:i=ds.length:=by omega
   have HF:=HI;have hle:ds.length<=100:=by omega
   rw[List.take_of_length_le (A8 _),<-List.take_of_length_le hle]at HF;clear HI;go_wp2_with fail;exact bodyPost_ret (v:=.tuple #[P0 k,.bool true]) (by simp[results,results6,go_sem]) rfl ⟨k,rfl,G8 HF⟩
theorem CJ4(h:QE p)(hE:(doP p d).1.E=16):d.k=1/\ldP (doP p d).2.r=-1/\∀x∈(doP p d).2.D,x.z≠(doP p d).1.z:=by
 unfold doP at hE⊢;by_cases hn:300<=p.n
 .rw[if_pos hn]at hE;cases hE
 rw[if_neg hn]at hE⊢;by_cases ha:TI d≠0
 .rw[if_pos ha]at hE;have:TI d≠16:=by
   unfold TI
   repeat' split
   all_goals decide
  exact absurd hE this
 rw[if_neg ha]at hE⊢;unfold dX at hE⊢;by_cases h1:d.k=1
 .rw[if_pos h1]at hE⊢;unfold P9 at hE⊢;by_cases hl:ldP (LQ p).r=-1
  .rw[if_pos hl]at hE;cases hE
  rw[if_neg hl]at hE⊢;by_cases he:wE (LQ p) d≠0
  .rw[if_pos he]at hE;exact absurd hE (CT7 _ _)
  rw[if_neg he]at hE⊢;by_cases hq:(wL (LQ p) d).length<2
  .rw[if_pos hq];refine⟨h1,rfl,fun x hx e=>?_⟩;rcases YG p.r with⟨e',_⟩|⟨b,hb,_,hr⟩
   .exact hl e'
   .have w:Wr p d b:=⟨hb,hr,by omega,by have:wE (LQ p) d=wE p d:=rfl;omega⟩;have:=QI h.a (w.wr h) x (h.a.dh x hx);have e:x.z=(wX p d).z:=e;omega
  .rw[if_neg hq]at hE;cases hE
 rw[if_neg h1]at hE;exfalso;revert hE;unfold dI yP SC upW RN
 repeat' split
 all_goals first|exact(AI8 _ _).1|decide|(intro hE;cases hE)|(simp only;split<;>decide)
structure LB(w W:FX)(d:Dd)(r:Rp)(u:FZ):Prop where
 b:Below w.heap.size w W
 d:JM W w.heap.size d
 r:RpX W (w.heap.size+1) r u
theorem LB.next{w:FX}{u:FZ}(h:LB w W d r u)(hb:Below W.heap.size W V):LB w V d r u:=⟨GI h.b hb,h.d.VI hb h.d.ltz,(hb.block _ h.r.lt).trans h.r⟩
theorem LB.start(w:FX)(d:Dd)(r:Rp)(u:FZ):LB w ((w.alloc (FW #[.int .i64 d.k,.int .i64 d.c,.int .i64 d.s,.int .i64 d.q.o,.int .i64 d.q.s,.string ⟨d.q.p.toArray⟩,.string ⟨d.q.d.toArray⟩,.int .i64 d.q.v,.int .i64 d.q.f,.int .i64 d.lo,.int .i64 d.sl,.int .i64 d.ke,.bool d.wt] 30)).alloc (FW #[.int .i64 r.E,.int .i64 r.z,.string ⟨r.p.toArray⟩,.string ⟨r.d.toArray⟩,.int .i64 r.t.c,.int .i64 r.t.m,.int .i64 r.t.q,.int .i64 r.t.v,.int .i64 r.t.k,.int .i64 r.t.o,.int .i64 r.t.n,u] 36)) d r u:=by
 refine⟨GI (GH _ _) (GH _ _),?_,dK _ _ _⟩;exact JM.VI (heap_alloc_new w _:JM (w.alloc _) w.heap.size d) (GH _ _) (by simp)
theorem tx_row{b off n cap:Nat}{ts:List GU}{t:GU}(hv:IK W (FV (G7 ⟨b,off,G6⟩) n cap) ts)(hd:ts[i]?=G7 t):W.cell? ⟨b,off+i*7,G6⟩=G7 (.int .i64 t.z)/\W.cell? ⟨b,off+i*7+1,G6⟩=G7 (.int .i64 t.o)/\W.cell? ⟨b,off+i*7+2,G6⟩=G7 (.int .i64 t.s)/\W.cell? ⟨b,off+i*7+3,G6⟩=G7 (.string ⟨t.p.toArray⟩)/\W.cell? ⟨b,off+i*7+4,G6⟩=G7 (.string ⟨t.d.toArray⟩)/\W.cell? ⟨b,off+i*7+5,G6⟩=G7 (.int .i64 t.v)/\W.cell? ⟨b,off+i*7+6,G6⟩=G7 (.int .i64 t.w):=by
 obtain⟨b',off',cap',he,_,hr,_,_,_⟩:=iF hv hd;simp only[AQ,BF,Addr.mk.injEq,and_true]at he;obtain⟨⟨rfl,rfl⟩,_,_⟩:=he;have h:∀ (j:Nat) (v:FZ),j<7->(Lay.cs t)[j]?=G7 v->W.cell? ⟨b,off+i*7+j,G6⟩=G7 v:=fun j v hj hv=>by
  rw[EM];exact hr (i*7+j) v ((GY ts i t hd j hj).trans hv)
 exact⟨h 0 _ (by omega) rfl,h 1 _ (by omega) rfl,h 2 _ (by omega) rfl,h 3 _ (by omega) rfl,h 4 _ (by omega) rfl,h 5 _ (by omega) rfl,h 6 _ (by omega) rfl⟩
