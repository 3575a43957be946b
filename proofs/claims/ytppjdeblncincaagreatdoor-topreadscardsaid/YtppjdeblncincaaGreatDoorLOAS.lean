/-
  Part.
-/
import Derived.Test.YtppjdeblncincaaGreatDoorLOAM
import Derived.Test.YtppjdeblncincaaGreatDoorLOAO
import Derived.Test.YtppjdeblncincaaGreatDoorLOAR
set_option maxRecDepth 20000
set_option maxHeartbeats 8000000
namespace Go.Proofs.YtppjdeblncincaaGreatDoor
open Go.RowKit Go.Proofs.Tryz
open _root_.Nat renaming le_refl->A8,lt_of_lt_of_le->AY,le_trans->BO,mul_comm->DK
open Go.RowKit.Below renaming refl->AA
open _root_.Option.some renaming injEq->BF,inj->BP
open _root_.Array renaming getElem?_eq_getElem->BR
open Go.Value renaming slice->FU
open Go.Obj renaming cells->FV
open Go renaming World->FW,Value->FX,Calls->FZ
open _root_.Option renaming none->G5,some->G6
variable{W V:FW}{k:Nat}{d:Dd}{v:FX}{p:Pw}{r:Rp}
theorem BV2{U:FW}{kd:Int}{x:Rp×Pw}(hk:k<W.heap.size)(D:DB W V d)(ho:GZ U V.heap.size v x.1.ns)(ht:Touch (· =k) V U)(hx:U7 kd x.1.E=true->WX U k x.2)(hp:U7 kd x.1.E=true->∀i,i<3->MJ 300 (x.2.s i)):
  Did W k kd x (.returned (rpV x.1 v)) (gV U (W.heap.size+1) (I0 x.1.E) (I0 x.1.z) (S0 x.1.p) (S0 x.1.d) (I0 x.1.t.c) (I0 x.1.t.m) (I0 x.1.t.q) (I0 x.1.t.v) (I0 x.1.t.k) (I0 x.1.t.o) (I0 x.1.t.n) v):=by
 have h:=(D.dt k).touch hk ht;have hlt:=D.r.lt;exact⟨v,rfl,KD (ho.lower (by omega)) (cZ _ _ _ _ _ _ _ _ _ _ _ _ _ _) (fun q e=>by have:=PI ho e;omega),KG h.t (by omega) _ _ _ _ _ _ _ _ _ _ _ _,fun hl=>(hx hl).reply (hp hl) h.r (by omega) (cZ _ _ _ _ _ _ _ _ _ _ _ _ _ _)⟩
theorem CQ6(d:Dd)(k:Nat)(W:FW)(x:Rp×Pw)(hk0:k<W.heap.size)(C1:d.k=1->∀V,B0 W V->FZ prog 40 #[wP k,ddV d] V (Did V k 1 x))(C2:d.k=2->∀V,B0 W V->FZ prog 41 #[wP k,ddV d] V (Did V k 2 x))(C3:d.k=3->∀V,B0 W V->FZ prog 42 #[wP k,ddV d] V (Did V k 3 x))(C4:d.k=4->∀V,B0 W V->FZ prog 43 #[wP k,ddV d] V (Did V k 4 x))(C5:d.k=5->∀V,B0 W V->FZ prog 44 #[wP k] V (Did V k 5 x))(hp:∀i,i<3->MJ 300 (x.2.s i))(hd:d.k=1\/d.k=2\/d.k=3\/d.k=4\/d.k=5):FZ prog 25 #[wP k,ddV d] W (Did W k d.k x):=by
 have D0:=G8 (DB.start W d);have HP:=G8 (fun(_:U7 d.k x.1.E=true)=>hp);rcases hd with hd|hd|hd|hd|hd
 all_goals
  first|have HC:=G8 (C1 hd)|have HC:=G8 (C2 hd)|have HC:=G8 (C3 hd)|have HC:=G8 (C4 hd)|have HC:=G8 (C5 hd)
  rw[hd]at HP⊢;clear C1 C2 C3 C4 C5 hp;obtain⟨dk,dc,ds,⟨o,s,pp,dd,v,f⟩,lo,sl,ke,wt⟩:=d;simp only at hd;subst hd;unfold wP at HC⊢;unfold ddV at*;go_enter func25,ntmps25;go_upto_region 1 with fail;generalize ((W.alloc _).alloc _)=W0 at*;obtain⟨⟨d0,d1,d2,d3,d4,d5,d6⟩,d7,d8,d9,d10,d11,d12⟩:=(G7 D0).cells;simp only at d0 d1 d2 d3 d4 d5 d6 d7 d8 d9 d10 d11 d12;go_wp2_with fail;refine(G7 HC _ (G7 D0).b).mono ?_;rintro e w1 ⟨vn,rfl,ho,ht,hw⟩;obtain⟨na,nc,rfl⟩:=IU ho;have R2:=(((G7 D0).dt k).touch hk0 ht).r;have X1:=G8 (BV2 hk0 (G7 D0) ho ht hw (G7 HP));have b0:=R2.cells;have g0:=R2.GU;clear ho ht hw R2 D0 HC HP d0 d1 d2 d3 d4 d5 d6 d7 d8 d9 d10 d11 d12;unfold rpV gV at X1;unfold rpV;go_wp2_with fail;exact bodyPost_ret (v:=.agg #[I0 x.1.E,I0 x.1.z,S0 x.1.p,S0 x.1.d,I0 x.1.t.c,I0 x.1.t.m,I0 x.1.t.q,I0 x.1.t.v,I0 x.1.t.k,I0 x.1.t.o,I0 x.1.t.n,FU na x.1.ns.length nc]) (by simp[results,results25,go_sem,b0]) rfl (G7 X1)
theorem BC9(p:Pw)(d:Dd)(k:Nat)(W:FW)(hx:WX W k p)(hc:0<=d.c/\d.c<16)(hs:0<=d.s/\d.s<3)(hok:∀j,j<3->MJ 299 (p.s j))(hcl:tV 299 p.H d.c.toNat (p.c d.c.toNat))(hp:d.q.p.length<=140737488355328):FZ prog 41 #[wP k,ddV d] W (Did W k 2 (l7 p d)):=by
 cases hu:(p.s d.s.toNat).up with
 |true=>exact CE5 p d k W hx hc hs hok hcl hp hu
 |false=>
  rw[l7,if_pos hu];exact BC4 p d k W hx hs hu
theorem AR1(p:Pw)(d:Dd)(k:Nat)(W:FW)(hx:WX W k (O8 p))(hT:ZY W)(h:RZ p)(hn:p.n<300)(ha:V9 d=0)(hp:d.q.p.length<=140737488355328)(hd:d.q.d.length<=140737488355328):FZ prog 25 #[wP k,ddV d] W (Did W k d.k (mF (O8 p) d)):=by
 have hW:RZ (mF (O8 p) d).2:=by
  have:=lN d h;rw[doP,if_neg (by omega),if_neg (by omega)]at this;exact this
 have hP:∀i,i<3->MJ 300 ((mF (O8 p) d).2.s i):=fun i hi=>(hW.s i hi).more hW.n1;have ok:∀j,j<3->MJ 299 (p.s j):=fun j hj=>(h.s j hj).more (by omega);have ok3:∀j,j<3->MJ 300 (p.s j):=fun j hj=>(h.s j hj).more (by omega);have hk:d.k=1\/d.k=2\/d.k=3\/d.k=4\/d.k=5:=by
  unfold V9 at ha;by_cases e:d.k=1\/d.k=2\/d.k=3\/d.k=4\/d.k=5
  .exact e
  .rw[if_neg (by omega),if_neg (by omega),if_neg (by omega),if_neg (by omega)]at ha;cases ha
 exact CQ6 d k W _ hx.lt
  (fun h1 V hV=>by rw[mF,if_pos h1];exact AR0 p d k V (hx.next hV) (hT.next hV) h hn (CW9 h1 ha) hp hd)
  (fun h2 V hV=>by
   obtain⟨hc,hs⟩:=CN5 h2 ha;rw[mF,if_neg (by omega),if_pos h2];exact BC9 (O8 p) d k V (hx.next hV) hc hs ok ((h.c _ (by omega)).more (by omega) (fun _ hx=>hx)) hp)
  (fun h3 V hV=>by rw[mF,if_neg (by omega),if_neg (by omega),if_pos h3];exact BC8 (O8 p) d k V (hx.next hV) (AE5 (.inl h3) ha) ok3)
  (fun h4 V hV=>by rw[mF,if_neg (by omega),if_neg (by omega),if_neg (by omega),if_pos h4];exact CQ5 (O8 p) d k V (hx.next hV) (AE5 (.inr h4) ha) ok3)
  (fun h5 V hV=>by rw[mF,if_neg (by omega),if_neg (by omega),if_neg (by omega),if_neg (by omega)];exact AQ7 (O8 p) k V (hx.next hV) (hT.next hV) (CX3 h hn))
  hP hk
def CF7(W:FW)(k:Nat)(x:Rp×Pw)(e:Ending)(w':FW):Prop:=
 ∃v,e=.returned (rpV x.1 v)/\GZ w' W.heap.size v x.1.ns/\Touch (· =k) W w'/\WX w' k x.2
theorem AF9{E:Int}(hk:k<W.heap.size)(h:DT k W V d)(hx:WX V k p)(hp:∀i,i<3->MJ 300 (p.s i)):
  CF7 W k (TG E,p) (.returned (UU E)) (gV V (W.heap.size+1) (I0 E) (I0 0) (.string ⟨#[]⟩) (.string ⟨#[]⟩) (I0 0) (I0 0) (I0 0) (I0 0) (I0 0) (I0 0) (I0 0) (N0)):=
 ⟨N0,rfl,.inl ⟨rfl,rfl⟩,KG h.t (by omega) _ _ _ _ _ _ _ _ _ _ _ _,hx.reply hp h.r (by omega) (cZ _ _ _ _ _ _ _ _ _ _ _ _ _ _)⟩
theorem BV3(p:Pw)(d:Dd)(h:U7 d.k (mF p d).1.E=false):(mF p d).2=p:=by
 unfold mF at h⊢;by_cases h1:d.k=1
 .rw[if_pos h1]at h⊢;unfold RG at h⊢
  (repeat' split)<;>simp_all[U7]
 .rw[if_neg h1]at h⊢;by_cases h2:d.k=2
  .rw[if_pos h2]at h⊢;unfold l7 at h⊢
   (repeat' split)<;>simp_all[U7,B69]
   all_goals (split at h<;>simp_all)
  .rw[if_neg h2]at h⊢;by_cases h3:d.k=3
   .rw[if_pos h3]at h⊢;unfold UR at h⊢
    (repeat' split)<;>simp_all[U7,TG]
   .rw[if_neg h3]at h⊢;by_cases h4:d.k=4
    .rw[if_pos h4]at h⊢;unfold upW at h⊢
     (repeat' split)<;>simp_all[U7,TG]
    .rw[if_neg h4]at h⊢;unfold TU at h⊢
     (repeat' split)<;>simp_all[U7]
theorem CQ7(p:Pw)(d:Dd):(mF p d).2.h=p.h:=by
 unfold mF RG l7 UR upW TU
 (repeat' split)<;>rfl
theorem dD(W:FW)(k:Nat)(c:Array FX):Touch (· =k) W (W.setRow k c):=by
 refine⟨rfl,rfl,rfl,by simp[World.setRow],fun b _ hb=>?_⟩;simp only[World.setRow,Array.getElem?_modify];rw[if_neg (fun e=>hb e.symm)]
theorem WX.blk(h:WX W k p):∃c,W.heap[k]?=G6 (FV c 95 (0,0))/\c.size=83/\c.all (·.oneCell')=true:=by
 obtain⟨f,⟨c,h1,h2,h3⟩,hr⟩:=h;refine⟨c,h1,h2,?_⟩;rw[Array.all_eq_true];intro j hj;have e:=h3 j (by omega);rw[BR hj]at e;rw[BP e];exact hr.cellP (P:=(·.oneCell'=true)) (fun _=>rfl) (fun _=>rfl) (fun _ _ _=>rfl) j (by omega)
theorem WX.copy{c:Array FX}(h:WX W k p)(hh:p.h=k)(hc:W.heap[k]?=G6 (FV c 95 (0,0))):WX (W.alloc (FV c 95)) W.heap.size p:=by
 have hk:=h.lt;obtain⟨f,⟨c',h1,h2,h3⟩,hr⟩:=h;rw[hc]at h1;simp only[BF,Obj.cells.injEq,and_true]at h1;subst h1;exact⟨f,⟨c,heap_alloc_last W _,h2,h3⟩,(hr.moved (A8 _) (by omega)).next (G9 _ _)⟩
theorem WX.back{q:Nat}{p':Pw}{c:Array FX}(h:WX W k p)(h':WX W q p')(hh:p'.h=k)(hc:W.heap[q]?=G6 (FV c 95 (0,0))):WX (W.setRow k c) k p':=by
 obtain⟨f,hb,hr⟩:=h;have hd:=hr.gU hb;obtain⟨o,ho,_⟩:=hb;obtain⟨g,⟨c',h1,h2,h3⟩,hs⟩:=h';rw[hc]at h1;simp only[BF,Obj.cells.injEq,and_true]at h1;subst h1;refine⟨g,⟨c,setRow_heap W k o c _ _ ho,h2,h3⟩,WdR.touch (W:=W) ?_ (dD W k c)⟩;refine⟨hs.n,fun i hi=>?_,hs.r,fun i hi=>⟨(hs.c i hi).s,(hs.c i hi).z,bY (hs.c i hi).e.1 hd⟩,l9 (NY.1 hs.d.1) hd,hs.h,by omega⟩;have s:=hs.s i hi;exact⟨s.up,AD1 (P9.1 s.d.1) hd,s.id,s.ep,l9 (NY.1 s.l.1) hd,s.dn,s.z,xR s.n.1 hd,⟨s.i.1,fun h0=>hs.h i hi h0 k (Nat.le_of_eq hh.symm)⟩,VP s.w.1 hd⟩
def RpX(W:FW)(g:Nat)(r:Rp)(v:FX):Prop:=W.heap[g]?=G6 (FV #[I0 r.E,I0 r.z,S0 r.p,S0 r.d,I0 r.t.c,I0 r.t.m,I0 r.t.q,I0 r.t.v,I0 r.t.k,I0 r.t.o,I0 r.t.n,v] 53 (0,0))
theorem RpX.lt{g:Nat}(h:RpX W g r v):g<W.heap.size:=(Array.getElem?_eq_some_iff.1 h).1
theorem RpX.cells{g:Nat}(h:RpX W g r v):W.cell? ⟨g,0,G5⟩=G6 (I0 r.E)/\W.cell? ⟨g,1,G5⟩=G6 (I0 r.z)/\W.cell? ⟨g,2,G5⟩=G6 (S0 r.p)/\W.cell? ⟨g,3,G5⟩=G6 (S0 r.d)/\W.cell? ⟨g,4,G5⟩=G6 (I0 r.t.c)/\W.cell? ⟨g,5,G5⟩=G6 (I0 r.t.m)/\W.cell? ⟨g,6,G5⟩=G6 (I0 r.t.q)/\W.cell? ⟨g,7,G5⟩=G6 (I0 r.t.v)/\W.cell? ⟨g,8,G5⟩=G6 (I0 r.t.k)/\W.cell? ⟨g,9,G5⟩=G6 (I0 r.t.o)/\W.cell? ⟨g,10,G5⟩=G6 (I0 r.t.n)/\W.cell? ⟨g,11,G5⟩=G6 (v):=by
 unfold RpX at h;simp[World.cell?,h]
theorem DT.beyond{q:Nat}{U:FW}(h:DT k W V d)(hq:W.heap.size+1<q)(ht:Touch (· =q) V U):DT k W U d:=
 ⟨⟨ht.os.trans h.t.os,ht.tape.trans h.t.tape,ht.output.trans h.t.output,BO h.t.size ht.size,fun b hb hn=>(ht.block b (AY hb h.t.size) (by omega)).trans (h.t.block b hb hn)⟩,h.r.touch ht (by omega),(ht.block _ h.d.ltz (by omega)).trans h.d⟩
theorem BD0{B:Nat}(hk:k<W.heap.size)(h:DT k W V d)(hx:WX V k p)(hp:∀i,i<3->MJ 300 (p.s i))(hn:GZ V B v r.ns)(hB:W.heap.size+1<B):
  CF7 W k (r,p) (.returned (rpV r v)) (gV V (W.heap.size+1) (I0 r.E) (I0 r.z) (S0 r.p) (S0 r.d) (I0 r.t.c) (I0 r.t.m) (I0 r.t.q) (I0 r.t.v) (I0 r.t.k) (I0 r.t.o) (I0 r.t.n) v):=
 ⟨v,rfl,KD (hn.lower (by omega)) (cZ _ _ _ _ _ _ _ _ _ _ _ _ _ _) (fun q e=>by have:=TF hn q e;omega),KG h.t (by omega) _ _ _ _ _ _ _ _ _ _ _ _,hx.reply hp h.r (by omega) (cZ _ _ _ _ _ _ _ _ _ _ _ _ _ _)⟩
theorem CE6(p:Pw)(d:Dd)(k:Nat)(W:FW)(hx:WX W k p)(hp:∀i,i<3->MJ 300 (p.s i))(hn:300<=p.n):FZ prog 10 #[wP k,ddV d] W (CF7 W k (TG 6,p)):=by
 have D0:=G8 ((DB.start W d).dt k);have X0:=G8 (hx.next (DB.start W d).b);have hk0:=hx.lt;have HP:=G8 hp;clear hp hx;unfold wP ddV;go_enter func10,ntmps10;go_upto_region 1 with fail;generalize ((W.alloc _).alloc _)=W0 at*;have c0:=(G7 X0).count;have CR:=G8 (fun V=>KP 6 V);unfold UU at CR;go_wp2_with fail;refine(G7 CR _).mono ?_;rintro e wr ⟨rfl,hbr⟩;have DR:=(G7 D0).next hk0 hbr;have b0:=DR.r.cells;have g0:=DR.r.GU;have XR:=G8 (AF9 (E:=6) hk0 DR ((G7 X0).next hbr) (G7 HP));clear hbr DR D0 CR;unfold UU gV at XR;go_wp2_with fail;exact bodyPost_ret (v:=.agg #[I0 6,I0 0,.string ⟨#[]⟩,.string ⟨#[]⟩,I0 0,I0 0,I0 0,I0 0,I0 0,I0 0,I0 0,N0]) (by simp[results,results10,go_sem,b0]) rfl (G7 XR)
theorem CQ8(p:Pw)(d:Dd)(k:Nat)(W:FW)(hx:WX W k p)(hp:∀i,i<3->MJ 300 (p.s i))(hn:p.n<300)(hn0:0<=p.n)(ha:V9 d≠0):FZ prog 10 #[wP k,ddV d] W (CF7 W k (TG (V9 d),O8 p)):=by
 have D0:=G8 ((DB.start W d).dt k);have X0:=G8 (hx.next (DB.start W d).b);have hk0:=hx.lt;have HP:=G8 hp;have CA:=G8 (fun V=>pO d V);have ha2:(V9 d==0)=false:=beq_eq_false_iff_ne.2 ha;clear hp hx ha;generalize V9 d=E at*;unfold wP;unfold ddV at CA⊢;go_enter func10,ntmps10;go_upto_region 1 with fail;generalize ((W.alloc _).alloc _)=W0 at*;have c0:=(G7 X0).count;have f0:=(G7 X0).GU 0;have X1:=G8 ((G7 X0).AD3 (p.n+1));have D1:=G8 ((G7 D0).touch hk0 (JK W0 k 0 (I0 (p.n+1))));go_upto_region 6 with fail;generalize W0.setCell _ _=W1 at*;clear c0 f0 D0 X0;obtain⟨⟨d0,d1,d2,d3,d4,d5,d6⟩,d7,d8,d9,d10,d11,d12⟩:=(G7 D1).cells;go_wp2_with fail;refine(G7 CA _).mono ?_;rintro e w2 ⟨rfl,hb2⟩;have D2:=G8 ((G7 D1).next hk0 hb2);have X2:=G8 ((G7 X1).next hb2);clear d0 d1 d2 d3 d4 d5 d6 d7 d8 d9 d10 d11 d12 hb2 D1 X1;have CR:=G8 (fun V=>KP E V);unfold UU at CR;go_wp2_with fail;refine(G7 CR _).mono ?_;rintro e wr ⟨rfl,hbr⟩;have DR:=(G7 D2).next hk0 hbr;have b0:=DR.r.cells;have g0:=DR.r.GU;have XR:=G8 (AF9 (E:=E) hk0 DR ((G7 X2).next hbr) (G7 HP));clear hbr DR D2 CR;unfold UU gV at XR;go_wp2_with fail;exact bodyPost_ret (v:=.agg #[I0 E,I0 0,.string ⟨#[]⟩,.string ⟨#[]⟩,I0 0,I0 0,I0 0,I0 0,I0 0,I0 0,I0 0,N0]) (by simp[results,results10,go_sem,b0]) rfl (G7 XR)
theorem CQ9(p:Pw)(d:Dd)(k:Nat)(W:FW)(hx:WX W k p)(hh:p.h=k)(hT:ZY W)(h:RZ p)(hn:p.n<300)(ha:V9 d=0)(hp:d.q.p.length<=140737488355328)(hd:d.q.d.length<=140737488355328):FZ prog 10 #[wP k,ddV d] W (CF7 W k (mF (O8 p) d)):=by
 have D0:=G8 ((DB.start W d).dt k);have X0:=G8 (hx.next (DB.start W d).b);have T0:=G8 (hT.next (DB.start W d).b);have hk0:=hx.lt;have CA:=G8 (fun V=>pO d V);have hn0:=h.n0;have HP:Hid (∀i,i<3->MJ 300 ((mF (O8 p) d).2.s i)):=G8 (by
  have hW:=lN d h;rw[doP,if_neg (by omega),if_neg (by omega)]at hW;exact fun i hi=>(hW.s i hi).more hW.n1)
 have HH:Hid ((mF (O8 p) d).2.h=k):=G8 ((CQ7 _ _).trans hh);have HS:=G8 (BV3 (O8 p) d);have CH:=G8 (fun V q (hV:WX V q (O8 p)) (hT:ZY V)=>AR1 p d q V hV hT h hn ha hp hd);have CL:=G8 (fun V=>A45 d.k (mF (O8 p) d).1.E V);rw[ha]at CA;clear hx hT h hp hd ha;generalize hx1:mF (O8 p) d=x at*;clear hx1;obtain⟨r,p'⟩:=x;simp only at HP HH HS CL;unfold wP;unfold ddV at CA⊢;unfold wP ddV at CH;go_enter func10,ntmps10;go_upto_region 1 with fail;generalize ((W.alloc _).alloc _)=W0 at*;have c0:=(G7 X0).count;have f0:=(G7 X0).GU 0;have X1:=G8 ((G7 X0).AD3 (p.n+1));have D1:=G8 ((G7 D0).touch hk0 (JK W0 k 0 (I0 (p.n+1))));have T1:=G8 (iQ (G7 T0) (G7 X0) (JK W0 k 0 (I0 (p.n+1))));go_upto_region 6 with fail;generalize W0.setCell _ _=W1 at*;clear c0 f0 D0 X0 T0;obtain⟨⟨d0,d1,d2,d3,d4,d5,d6⟩,d7,d8,d9,d10,d11,d12⟩:=(G7 D1).cells;go_wp2_with fail;refine(G7 CA _).mono ?_;rintro e w2 ⟨rfl,hb2⟩;have D2:=G8 ((G7 D1).next hk0 hb2);have X2:=G8 ((G7 X1).next hb2);have T2:=G8 ((G7 T1).next hb2);clear d0 d1 d2 d3 d4 d5 d6 d7 d8 d9 d10 d11 d12 hb2 D1 X1 T1 CA;obtain⟨c,hc,CF8,hc1⟩:=(G7 X2).blk;have HC:=G8 hc;have hq2:=(G7 D2).r.lt;have X3:=G8 ((G7 X2).copy hh hc);have Y3:=G8 (((G7 X2).offq (A8 _)).next (G9 w2 (FV c 95)));have D3:=G8 ((G7 D2).next hk0 (G9 w2 (FV c 95)));have T3:=G8 ((G7 T2).next (G9 w2 (FV c 95)));clear hc;go_upto_region 10 with(first|refine fV rfl _ rfl k c rfl (G7 HC) CF8 ?_|refine rU rfl rfl ?_|refine mZ rfl _ _ rfl c rfl rfl CF8 hc1 ?_);clear HC CF8 hc1 X2 D2 T2;generalize w2.alloc _=W3 at*;generalize w2.heap.size=q at*;obtain⟨⟨d0,d1,d2,d3,d4,d5,d6⟩,d7,d8,d9,d10,d11,d12⟩:=(G7 D3).cells;have C3:=G8 (G7 CH W3 q (G7 X3) (G7 T3));have hq3:=(G7 X3).lt;go_wp2_with fail;refine(G7 C3).mono ?_;rintro e w4 ⟨vn,rfl,ho4,ht4,hx4⟩;obtain⟨na,nc,rfl⟩:=IU ho4;have hs4:=ht4.size;have R5:Hid (RpX (w4.alloc (FV #[I0 r.E,I0 r.z,S0 r.p,S0 r.d,I0 r.t.c,I0 r.t.m,I0 r.t.q,I0 r.t.v,I0 r.t.k,I0 r.t.o,I0 r.t.n,FU na r.ns.length nc] 53)) w4.heap.size r (FU na r.ns.length nc)):=G8 (heap_alloc_last _ _);have B5:=G9 w4 (FV #[I0 r.E,I0 r.z,S0 r.p,S0 r.d,I0 r.t.c,I0 r.t.m,I0 r.t.q,I0 r.t.v,I0 r.t.k,I0 r.t.o,I0 r.t.n,FU na r.ns.length nc] 53);have D5:=G8 (((G7 D3).beyond (by omega) ht4).next hk0 B5);have Y5:=G8 (((G7 Y3).far (g:=q) rfl (show k≠q by omega) ht4).next B5).x;have O5:=G8 (ho4.next B5);have X5:=G8 (fun hl=>(hx4 hl).next B5);clear d0 d1 d2 d3 d4 d5 d6 d7 d8 d9 d10 d11 d12 C3 CH X3 Y3 D3 T3 ho4 ht4 hx4 B5;unfold rpV;go_upto_region 11 with fail;generalize w4.alloc _=W5 at*;generalize w4.heap.size=g at*;obtain⟨⟨d0,d1,d2,d3,d4,d5,d6⟩,d7,d8,d9,d10,d11,d12⟩:=(G7 D5).cells;obtain⟨r0,r1,r2,r3,r4,r5,r6,r7,r8,r9,r10,r11⟩:=(G7 R5).cells;go_wp2_with fail;refine(G7 CL _).mono ?_;rintro e w6 ⟨rfl,hw6⟩;obtain rfl:=hw6.symm;clear d0 d1 d2 d3 d4 d5 d6 d7 d8 d9 d10 d11 d12 r0 r1 r2 r3 r4 r5 r6 r7 r8 r9 r10 r11 CL;refine Or.elim (show U7 d.k r.E=false\/U7 d.k r.E=true by cases U7 d.k r.E<;>simp) ?a0 ?a1
 case' a1=>
  intro hl;rw[hl];obtain⟨c,hc,CF8,hc1⟩:=(G7 X5 hl).blk;obtain⟨o,ho,ho83,_⟩:=(G7 Y5).blk;have HC:=G8 hc;have HO:=G8 ho;have X6:=G8 ((G7 Y5).back (G7 X5 hl) (G7 HH) hc);have D6:=G8 ((G7 D5).touch hk0 (dD W5 k c));have O6:=G8 (KD (G7 O5) (dD W5 k c) (fun b e=>by have:=TF (G7 O5) b e;omega));have R6:Hid (RpX (W5.setRow k c) g r (FU na r.ns.length nc)):=G8 (((dD W5 k c).block g (G7 R5).lt (by omega)).trans (G7 R5));clear hc ho X5 Y5 D5 O5 R5;go_upto_region 13 with(first|refine fV rfl _ rfl q c rfl (G7 HC) CF8 ?_|refine bZ rfl _ _ rfl k c o rfl rfl (G7 HO) CF8 ho83 hc1 ?_);generalize W5.setRow k c=W6 at*
 case' a0=>
  intro hl;rw[hl];have X6:Hid (WX W5 k p'):=G8 (by rw[G7 HS hl];exact G7 Y5);have D6:=D5;have O6:=O5;have R6:=R5;clear X5 Y5 D5 O5 R5;go_upto_region 13 with fail
 all_goals
  have DR:=G7 D6;have b0:=DR.r.cells;have g0:=DR.r.GU;obtain⟨r0,r1,r2,r3,r4,r5,r6,r7,r8,r9,r10,r11⟩:=(G7 R6).cells;have XR:=G8 (BD0 hk0 DR (G7 X6) (G7 HP) (G7 O6) (by omega));clear DR X6 D6 O6 R6;unfold rpV gV at XR;go_wp2_with fail;exact bodyPost_ret (v:=.agg #[I0 r.E,I0 r.z,S0 r.p,S0 r.d,I0 r.t.c,I0 r.t.m,I0 r.t.q,I0 r.t.v,I0 r.t.k,I0 r.t.o,I0 r.t.n,FU na r.ns.length nc]) (by simp[results,results10,go_sem,b0]) rfl (G7 XR)
theorem AG0(p:Pw)(d:Dd)(k:Nat)(W:FW)(hx:WX W k p)(hh:p.h=k)(hT:ZY W)(h:RZ p)(hp:d.q.p.length<=140737488355328)(hd:d.q.d.length<=140737488355328):FZ prog 10 #[wP k,ddV d] W (CF7 W k (doP p d)):=by
 have ok:∀i,i<3->MJ 300 (p.s i):=fun i hi=>(h.s i hi).more h.n1;unfold doP;by_cases hn:300<=p.n
 .rw[if_pos hn];exact CE6 p d k W hx ok hn
 .rw[if_neg hn];by_cases ha:V9 d=0
  .rw[if_neg (fun e=>e ha)];exact CQ9 p d k W hx hh hT h (by omega) ha hp hd
  .rw[if_pos ha];exact CQ8 p d k W hx ok (by omega) h.n0 ha
structure WNf(W:FW)(k:Nat)(f:Nat->FX)(a b:Nat):Prop where
 t:∀j,j<83->∀x,f j≠ .string x
 n:f 0=I0 0
 r:∀i,i<3->f (31+i)=I0 0
 d:f 82=N0
 s:∀i,i<a->SvA W k (fun q=>f (1+10*i+q)) (svP i ps0)
 c:∀i,i<b->ClA W k (fun q=>f (34+3*i+q)) ⟨i+1,0,[]⟩
def WN(W V:FW)(a b:Nat):Prop:=(∃f,WB V W.heap.size f/\WNf V W.heap.size f a b)/\B0 W V
section
variable {W V U:FW} {a b:Nat}
theorem lY(h:B0 W V)(T:Touch (· =W.heap.size) V U):B0 W U:=⟨T.os.trans h.os,T.tape.trans h.tape,T.output.trans h.output,BO h.size T.size,fun b hb=>(T.block b (AY hb h.size) (by omega)).trans (h.block b hb)⟩
theorem WN.next(h:WN W V a b)(hb:B0 V U):WN W U a b:=by
 obtain⟨⟨f,h1,h2⟩,h3⟩:=h;exact⟨⟨f,h1.next hb,h2.t,h2.n,h2.r,h2.d,fun i hi=>(h2.s i hi).next hb,fun i hi=>⟨(h2.c i hi).s,(h2.c i hi).z,(h2.c i hi).e.next hb⟩⟩,GH h3 hb⟩
theorem WN.srv(h:WN W V a b)(ha:a<3){vd vl vn vs vw:FX}{s:Sv}(hs:svP a ps0=s)(hv:SvV V (.agg #[.bool s.up,vd,I0 s.id,I0 s.ep,vl,I0 s.dn,I0 s.tr.z,vn,vs,vw]) s)(h0:s.tr.ss=[]):WN W (oZ V W.heap.size (1+10*a) (.bool s.up) vd (I0 s.id) (I0 s.ep) vl (I0 s.dn) (I0 s.tr.z) vn vs vw) (a+1) b:=by
 obtain⟨⟨f,hb,hn⟩,hB⟩:=h;have T:=VZ V W.heap.size (1+10*a) (.bool s.up) vd (I0 s.id) (I0 s.ep) vl (I0 s.dn) (I0 s.tr.z) vn vs vw;have hA:SvA V W.heap.size (CF5 (.bool s.up) vd (I0 s.id) (I0 s.ep) vl (I0 s.dn) (I0 s.tr.z) vn vs vw) s:=SvA.of (hb.gU hn.t) hv (fun h=>absurd h0 h) rfl rfl rfl rfl rfl rfl rfl rfl rfl rfl;refine⟨⟨_,hb.oZ (o:=1+10*a) (by omega) _ _ _ _ _ _ _ _ _ _,fun j hj x=>?_,by rw[JF (by omega)];exact hn.n,fun i hi=>by rw[JF (by omega)];exact hn.r i hi,by rw[JF (by omega)];exact hn.d,fun i hi=>?_,fun i hi=>?_⟩,lY hB T⟩
 .by_cases e:1+10*a<=j/\j<1+10*a+10
  .obtain⟨q,rfl⟩:∃q,j=1+10*a+q:=⟨j-(1+10*a),by omega⟩;rw[O7 (by omega)];exact hA.cellP (P:=(· ≠ .string x)) (fun _ e=>by cases e) (fun _ e=>by cases e) (fun _ _ _ e=>by cases e) q (by omega)
  .rw[JF (by omega)];exact hn.t j hj x
 .by_cases e:i=a
  .subst e;rw[hs];exact(hA.congr fun q hq=>by rw[O7 hq]).touch T
  .exact((hn.s i (by omega)).congr fun q hq=>by rw[JF (by omega)]).touch T
 .have h:=(hn.c i hi).congr (g':=fun q=>BE7 f (1+10*a) 10 (CF5 (.bool s.up) vd (I0 s.id) (I0 s.ep) vl (I0 s.dn) (I0 s.tr.z) vn vs vw) (34+3*i+q)) fun q hq=>by rw[JF (by omega)]
  exact⟨h.s,h.z,h.e.touch T⟩
theorem WN.cl(h:WN W V a b)(ha:a<=3)(hb:b<16):WN W (iM V W.heap.size (34+3*b) (I0 (b+1)) (I0 0) (N0)) a (b+1):=by
 obtain⟨⟨f,hf,hn⟩,hB⟩:=h;have T:=RH V W.heap.size (34+3*b) (I0 (b+1)) (I0 0) (N0);refine⟨⟨_,hf.iM (o:=34+3*b) (by omega) _ _ _,fun j hj x=>?_,by rw[JF (by omega)];exact hn.n,fun i hi=>by rw[JF (by omega)];exact hn.r i hi,by rw[JF (by omega)];exact hn.d,fun i hi=>((hn.s i hi).congr fun q hq=>by rw[JF (by omega)]).touch T,fun i hi=>?_⟩,lY hB T⟩
 .by_cases e:34+3*b<=j/\j<34+3*b+3
  .obtain⟨q,rfl⟩:∃q,j=34+3*b+q:=⟨j-(34+3*b),by omega⟩;rw[O7 (by omega)];rcases(show q=0\/q=1\/q=2 by omega)with rfl|rfl|rfl<;>(intro e;cases e)
  .rw[JF (by omega)];exact hn.t j hj x
 .by_cases e:i=b
  .subst e;exact⟨by rw[O7 (by omega)];rfl,by rw[O7 (by omega)];rfl,by rw[O7 (by omega)];exact Row.nil _ _ 0 (by decide) G5⟩
  .have h:=(hn.c i (by omega)).congr (g':=fun q=>BE7 f (34+3*b) 3 (B70 (I0 (b+1)) (I0 0) (N0)) (34+3*i+q)) fun q hq=>by rw[JF (by omega)]
   exact⟨h.s,h.z,h.e.touch T⟩
theorem BZ8(i:Nat):(svP i ps0).tr.ss=[]:=by rw[J3 rfl];rfl
theorem WN.done(h:WN W V 3 16):WX V W.heap.size (pw0 W.heap.size):=by
 obtain⟨⟨f,hb,hn⟩,_⟩:=h;exact⟨f,hb,hn.n,fun i hi=>hn.s i hi,hn.r,hn.c,by rw[hn.d];exact Row.nil _ _ 0 (by decide) G5,fun i _ h0=>absurd (BZ8 i) h0,A8 _⟩
end
def CR0:FX->Bool
 | .string _=>false
 |_=>true
theorem CE7:zB.all CR0=true:=by kernel_rfl
theorem BD1:zB[0]?=G6 (I0 0)/\zB[31]?=G6 (I0 0)/\zB[32]?=G6 (I0 0)/\zB[33]?=G6 (I0 0)/\zB[82]?=G6 (N0):=⟨by kernel_rfl,by kernel_rfl,by kernel_rfl,by kernel_rfl,by kernel_rfl⟩
theorem BV4(W:FW)(z:Array FX)(hz:z.size=83)(ht:z.all CR0=true)(z0:z[0]?=G6 (I0 0))(z1:z[31]?=G6 (I0 0))(z2:z[32]?=G6 (I0 0))(z3:z[33]?=G6 (I0 0))(z4:z[82]?=G6 (N0)):WN W (W.alloc (FV z 95)) 0 0:=by
 have e:∀j:Nat,j<83->∃v,z[j]?=G6 v:=fun j hj=>⟨z[j]'(by omega),BR (by omega)⟩;have g:∀ (j:Nat) v,z[j]?=G6 v->z[j]?.getD undef=v:=fun j v h=>by rw[h];rfl
 refine⟨⟨fun j=>z[j]?.getD undef,⟨z,heap_alloc_last W _,hz,fun j hj=>?_⟩,fun j hj x=>?_,g _ _ z0,fun i hi=>?_,g _ _ z4,fun i hi=>by omega,fun i hi=>by omega⟩,G9 _ _⟩
 .obtain⟨v,h⟩:=e j hj;rw[h,<-g j v h]
 .obtain⟨v,h⟩:=e j hj;rw[g j v h];rintro rfl;have:=Array.all_eq_true.1 ht j (by omega);rw[BR (by omega)]at h;rw[BP h]at this
  cases this
 .rcases(show i=0\/i=1\/i=2 by omega)with rfl|rfl|rfl
  .exact g _ _ z1
  .exact g _ _ z2
  .exact g _ _ z3
theorem WN.start(W:FW):WN W (W.alloc (FV zB 95)) 0 0:=BV4 W zB C83 CE7 BD1.1 BD1.2.1 BD1.2.2.1 BD1.2.2.2.1 BD1.2.2.2.2
theorem CE8(i:Nat)(hi:i<3)(w:FW):FZ prog 31 #[I0 i,.agg #[N0]] w (B83 w (svP i ps0) 0):=by
 have e:svP i ps0=CV9 i:=by rw[J3 rfl,CV9,AN1 (fs:=[]) (by unfold WE;simp only[A06];split<;>simp)];simp[ps0,IE,epD,QT,OX]
 rw[e];exact(B57 i (by omega) (by omega) w).mono fun _ _ h=>sF h rfl
theorem BD2(W:FW):FZ prog 17 #[] W fun e w'=>e=.returned (wP W.heap.size)/\WX w' W.heap.size (pw0 W.heap.size)/\B0 W w':=by
 have CB:=G8 (fun i hi V=>CE8 i hi V);have CN:=G8 (fun s h1 h2 V=>BQ8 s V h1 h2);have HE0:=G8 BZ8;have H0:=G8 (WN.start W);unfold wP;go_enter func17,ntmps17;go_upto_region 2 with(first|refine rV rfl rfl ?_|refine A43 rfl _ rfl zB rfl ?_);generalize W.alloc _=W0 at*;go_wp2_with fail
 go_loopg [6] 3 (fun kx s6 wr=>∃i:Nat,s6=I0 i/\i<=3/\3-i<=kx/\Hid (WN W wr i 0))
 case atStart=>exact⟨0,rfl,by omega,A8 _,H0⟩
 case round=>
  obtain⟨i,rfl,hi,hg,HN⟩:=hrel;by_cases hlt:i<3
  .have hii:(i:Int)<3:=by omega
   have C1:=G8 (fun V=>G7 CB i hlt V);have HE:=G8 (G7 HE0 i);generalize hs1:svP i ps0=s1 at C1 HE;have HK:=G8 hs1;clear hs1;go_upto_region 5 with fail;have hS0:(fun _:FW=>True) wr.drew:=trivial;refine wp_region_held (S:=fun _:FW=>True) (by kernel_rfl) ?_;change wpAnyH _ _ _ _ _ _ _ _ wr.drew;refine tkH 0 hS0 ?_;refine tkH 1 hS0 ?_;refine tkH 2 hS0 ?_;refine tkH 3 hS0 ?_;refine tkH 8 hS0 ?_;refine tkH 9 hS0 ?_;refine rd1 4 (fun K hK=>?_);go_simp
   with_reducible refine(G7 C1 _).mono ?_
   rintro e w1 ⟨ad,nd,cd,al,cl,an,cn,ai,ci,aw,cw,rfl,H1,hb1⟩;have N1:=(G7 HN).next (GH (AA wr.heap.size wr).drew hb1);clear hb1;refine nxH hK trivial ?_;clear hK K;refine tkH 5 trivial ?_;refine tkH 6 trivial ?_;refine tkH 7 trivial ?_;refine tkH 10 trivial ?_;refine rd1 11 (fun K hK=>?_);obtain⟨f,hf,_⟩:=N1.1;have x0:=hf.cell (j:=1+i*10) (by omega);have z0:=hf.GU (1+i*10);have x1:=hf.cell (j:=1+i*10+1) (by omega);have z1:=hf.GU (1+i*10+1);have x2:=hf.cell (j:=1+i*10+2) (by omega);have z2:=hf.GU (1+i*10+2);have x3:=hf.cell (j:=1+i*10+3) (by omega);have z3:=hf.GU (1+i*10+3);have x4:=hf.cell (j:=1+i*10+4) (by omega);have z4:=hf.GU (1+i*10+4);have x5:=hf.cell (j:=1+i*10+5) (by omega);have z5:=hf.GU (1+i*10+5);have x6:=hf.cell (j:=1+i*10+6) (by omega);have z6:=hf.GU (1+i*10+6);have x7:=hf.cell (j:=1+i*10+7) (by omega);have z7:=hf.GU (1+i*10+7);have x8:=hf.cell (j:=1+i*10+8) (by omega);have z8:=hf.GU (1+i*10+8);have x9:=hf.cell (j:=1+i*10+9) (by omega);have z9:=hf.GU (1+i*10+9);have hkl:=hf.lt;have HR:=G8 (N1.srv hlt (G7 HK) (G7 H1).1 (G7 HE));unfold oZ at HR;rw[DK 10 i]at HR;clear N1 H1 hf;go_simp;refine nxH hK trivial ?_;clear hK K;refine wpAnyH_done (by kernel_rfl) ?_ _;go_wp2_with fail
   go_roundg (3-(i+1))
   case measure=>omega
   case rel=>exact⟨i+1,by simp,by omega,A8 _,HR⟩
  .obtain rfl:i=3:=by omega
   have H3:=HN;clear HN hg hi hlt;go_wp2_with fail
   go_loopg [21] 16 (fun kx s21 wr=>∃i:Nat,s21=I0 i/\i<=16/\16-i<=kx/\Hid (WN W wr 3 i))
   case atStart=>exact⟨0,rfl,by omega,A8 _,H3⟩
   case round=>
    obtain⟨i,rfl,hi,hg,HN⟩:=hrel;by_cases hlt:i<16
    .have hii:(i:Int)<16:=by omega
     have hwr:IntKind.i64.wrap ((i:Int)+1)=(i:Int)+1:=by rw[IntKind.wrap_i64];omega
     have C2:=G8 (fun V=>G7 CN ((i:Int)+1) (by omega) (by omega) V);unfold clV at C2;go_upto_region 10 with fail;have hS0:(fun _:FW=>True) wr.drew:=trivial;refine wp_region_held (S:=fun _:FW=>True) (by kernel_rfl) ?_;change wpAnyH _ _ _ _ _ _ _ _ wr.drew;refine tkH 0 hS0 ?_;refine tkH 1 hS0 ?_;refine tkH 2 hS0 ?_;refine tkH 3 hS0 ?_;refine tkH 8 hS0 ?_;refine tkH 9 hS0 ?_;refine rd1 4 (fun K hK=>?_);go_simp
     with_reducible refine(G7 C2 _).mono ?_
     rintro e w1 ⟨rfl,hb1⟩;have N1:=(G7 HN).next (GH (AA wr.heap.size wr).drew hb1);clear hb1;refine nxH hK trivial ?_;clear hK K;refine tkH 5 trivial ?_;refine tkH 6 trivial ?_;refine tkH 7 trivial ?_;refine tkH 10 trivial ?_;refine rd1 11 (fun K hK=>?_);obtain⟨f,hf,_⟩:=N1.1;have x0:=hf.cell (j:=34+i*3) (by omega);have z0:=hf.GU (34+i*3);have x1:=hf.cell (j:=34+i*3+1) (by omega);have z1:=hf.GU (34+i*3+1);have x2:=hf.cell (j:=34+i*3+2) (by omega);have z2:=hf.GU (34+i*3+2);have hkl:=hf.lt;have HR:=G8 (N1.cl (A8 3) hlt);unfold iM at HR;rw[DK 3 i]at HR;clear N1 hf;go_simp;refine nxH hK trivial ?_;clear hK K;refine wpAnyH_done (by kernel_rfl) ?_ _;go_wp2_with fail
     go_roundg (16-(i+1))
     case measure=>omega
     case rel=>exact⟨i+1,by simp,by omega,A8 _,HR⟩
    .obtain rfl:i=16:=by omega
     go_wp2_with fail;go_ret;exact⟨rfl,(G7 HN).done,(G7 HN).2⟩
theorem BD4(p:Pw):∀l:List Dd,(SY p l).h=p.h
 |[]=>rfl
 |d::l=>by
  rw[SY,BD4 _ l];unfold doP
  repeat' split
  all_goals first|rfl|exact CQ7 _ _
theorem AG1(p:Pw)(d:Dd):∀l:List Dd,SY p (l++[d])=(doP (SY p l) d).2
 |[]=>rfl
 |e::l=>by
  show SY (doP p e).2 (l++[d])=_;rw[AG1 _ d l];rfl
theorem BD5(p:Pw){ds:List Dd}{i:Nat}(h:ds[i]?=G6 d):SY p (ds.take (i+1))=(doP (SY p (ds.take i)) d).2:=by
 obtain⟨hk,rfl⟩:=List.getElem?_eq_some_iff.1 h;rw[List.take_succ_eq_append_getElem hk,AG1]
structure AS0(W:FW)(k:Nat)(p:Pw)(V:FW):Prop where
 x:WX V k p
 t:ZY V
 b:B0 W V
 k:W.heap.size<=k
section
variable {W V U:FW} {k:Nat} {p q:Pw}
theorem AS0.next(h:AS0 W k p V)(hb:B0 V U):AS0 W k p U:=⟨h.x.next hb,h.t.next hb,GH h.b hb,h.k⟩
theorem AS0.turn(h:AS0 W k p V)(ht:Touch (· =k) V U)(hx:WX U k q):AS0 W k q U:=
 ⟨hx,iQ h.t h.x ht,⟨ht.os.trans h.b.os,ht.tape.trans h.b.tape,ht.output.trans h.b.output,BO h.b.size ht.size,fun b hb=>(ht.block b (AY hb h.b.size) (by have:=h.k;omega)).trans (h.b.block b hb)⟩,h.k⟩
theorem AS0.start(hT:ZY W)(hb:B0 W V)(hc:B0 V U)(hx:WX U V.heap.size (pw0 V.heap.size)):AS0 W V.heap.size (SY (pw0 V.heap.size) []) U:=⟨hx,(hT.next hb).next hc,GH hb hc,hb.size⟩
end
theorem CR1{b off n cap:Nat}{ds:List Dd}{i:Nat}(hv:IL W (FU (G6 ⟨b,off,G5⟩) n cap) ds)(hd:ds[i]?=G6 d):(W.cell? ⟨b,off+i*13,G5⟩=G6 (I0 d.k)/\W.cell? ⟨b,off+i*13+1,G5⟩=G6 (I0 d.c)/\W.cell? ⟨b,off+i*13+2,G5⟩=G6 (I0 d.s)/\W.cell? ⟨b,off+i*13+3,G5⟩=G6 (I0 d.q.o)/\W.cell? ⟨b,off+i*13+4,G5⟩=G6 (I0 d.q.s)/\W.cell? ⟨b,off+i*13+5,G5⟩=G6 (S0 d.q.p)/\W.cell? ⟨b,off+i*13+6,G5⟩=G6 (S0 d.q.d))/\W.cell? ⟨b,off+i*13+7,G5⟩=G6 (I0 d.q.v)/\W.cell? ⟨b,off+i*13+8,G5⟩=G6 (I0 d.q.f)/\W.cell? ⟨b,off+i*13+9,G5⟩=G6 (I0 d.lo)/\W.cell? ⟨b,off+i*13+10,G5⟩=G6 (I0 d.sl)/\W.cell? ⟨b,off+i*13+11,G5⟩=G6 (I0 d.ke)/\W.cell? ⟨b,off+i*13+12,G5⟩=G6 (.bool d.wt):=by
 obtain⟨b',off',cap',he,_,hr,_,_,_⟩:=oW hv hd;simp only[Value.slice.injEq,BF,Addr.mk.injEq,and_true]at he;obtain⟨⟨rfl,rfl⟩,_,_⟩:=he;have h:∀ (j:Nat) (v:FX),j<13->(Lay.cs d)[j]?=G6 v->W.cell? ⟨b,off+i*13+j,G5⟩=G6 v:=fun j v hj hv=>by
  rw[Nat.add_assoc];exact hr (i*13+j) v ((GY ds i d hd j hj).trans hv)
 exact⟨⟨h 0 _ (by omega) rfl,h 1 _ (by omega) rfl,h 2 _ (by omega) rfl,h 3 _ (by omega) rfl,h 4 _ (by omega) rfl,h 5 _ (by omega) rfl,h 6 _ (by omega) rfl⟩,h 7 _ (by omega) rfl,h 8 _ (by omega) rfl,h 9 _ (by omega) rfl,h 10 _ (by omega) rfl,h 11 _ (by omega) rfl,h 12 _ (by omega) rfl⟩
theorem BD6(p:Pw)(k:Nat)(W:FW)(hx:WX W k p)(hD:p.D.length<=300):FZ prog 20 #[wP k] W fun e w'=>∃a c,e=.returned (FU a p.D.length c)/\GZ w' W.heap.size (FU a p.D.length c) p.D/\B0 W w':=by
 obtain⟨ua,uc,d82,hdv⟩:=hx.ack;have CC:=G8 (qZ (FU ua p.D.length uc) p.D W hdv (by omega));clear hx hdv;unfold wP;go_enter func20,ntmps20;go_wp2_with fail;refine(G7 CC).mono ?_;rintro e w1 ⟨v1,rfl,ho,hb⟩;obtain⟨a1,c1,rfl⟩:=IU ho;have HO:=G8 (And.intro ho hb);clear ho hb CC;go_wp2_with fail;go_ret;exact⟨a1,c1,rfl,(G7 HO).1,(G7 HO).2⟩
theorem BD7(W:FW)(hT:ZY W):FZ prog 14 #[] W (R0 W (.bool true)):=by
 have HT:=G8 hT;have CN:=G8 (BD2 W);clear hT;have hfd:∀ (x0 x1 x2 x3 x4 x5 x6 x7 x8 x9 x10 x11:FX) (w:FW),(Instr.field 53 (.agg #[x0,x1,x2,x3,x4,x5,x6,x7,x8,x9,x10,x11]) 0).run prog w=.ok x0 w:=fun _ _ _ _ _ _ _ _ _ _ _ _ _=>by kernel_rfl
 go_enter func14,ntmps14;go_wp2_with fail;refine(G7 CN).mono ?_;rintro e w1 ⟨rfl,hx1,hb1⟩;have P1:=G8 (AS0.start (G7 HT) (AA _ _) hb1 hx1);clear hx1 hb1 CN HT;obtain⟨f,c,h1,hf,hc⟩:=BV5 W.heap.size;have i1:=lN dEl (YP W.heap.size);have C1:=G8 (AG0 (pw0 W.heap.size) dEl W.heap.size w1 (G7 P1).x rfl (G7 P1).t (YP W.heap.size) (by simp[dEl]) (by simp[dEl]));rw[h1]at C1 i1;obtain⟨t,ns,p2,h2,hD⟩:=BV6 (k:=W.heap.size) hf hc;have C2:=G8 (fun V hx hT=>AG0 ⟨1,f,eR (pw0 W.heap.size).s,c,[],[],W.heap.size⟩ dOp W.heap.size V hx rfl hT i1 (by simp[dOp]) (by simp[dOp]));rw[h2]at C2;have CL:=G8 (fun V hx=>SI ⟨1,f,eR (pw0 W.heap.size).s,c,[],[],W.heap.size⟩ W.heap.size V hx);have CA:=G8 (fun V hx=>BD6 p2 W.heap.size V hx (by omega));simp only[show ldP (eR (pw0 W.heap.size).s)=2 from rfl]at CL;rw[hD]at CA;clear h1 h2 i1 hf hc hD;generalize eR (pw0 W.heap.size).s=ro at*;simp only[wP,ddV,dEl,nd0]at C1;simp only[wP,ddV,dOp]at C2;unfold wP at CL CA⊢;go_wp2_with fail;refine(G7 C1).mono ?_;rintro e w2 ⟨u2,rfl,ho2,ht2,hx2⟩;obtain⟨a2,c2,rfl⟩:=IU ho2;have P2:=G8 ((G7 P1).turn ht2 hx2);clear ho2 ht2 hx2 C1 P1;unfold rpV;go_wp2_with fail;refine(G7 CL _ (G7 P2).x).mono ?_;rintro e w3 ⟨rfl,hb3⟩;have P3:=G8 ((G7 P2).next hb3);clear hb3 CL P2;go_wp2_with fail;refine(G7 C2 _ (G7 P3).x (G7 P3).t).mono ?_;rintro e w4 ⟨u4,rfl,ho4,ht4,hx4⟩;obtain⟨a4,c4,rfl⟩:=IU ho4;have P4:=G8 (fun O=>((G7 P3).turn ht4 hx4).next (G9 w4 O));clear ho4 ht4 hx4 C2 P3;unfold rpV;go_wp2_with fail;refine(G7 CA _ (G7 P4 _).x).mono ?_;rintro e w5 ⟨a5,c5,rfl,_,hb5⟩;have P5:=G8 ((G7 P4 _).next hb5);clear hb5 CA P4;go_wp2_with fail;go_ret;exact⟨rfl,(G7 P5).b⟩
theorem AR2(ds:List Dd)(v:FX)(W:FW)(hv:IL W v ds)(hm:∀d∈ds,d.q.p.length<=140737488355328/\d.q.d.length<=140737488355328)(hT:ZY W)
  (L:∀k V i d u,ds[i]?=G6 d->WX V k (doP (SY (pw0 k) (ds.take i)) d).2->GZ V (k+1) u (doP (SY (pw0 k) (ds.take i)) d).1.ns->FZ prog 7 #[wP k,ddV d,rpV (doP (SY (pw0 k) (ds.take i)) d).1 u] V (R0 V (.bool true))):
  FZ prog 6 #[v,.func (.func 7) #[] #[]] W fun e w'=>∃k,e=.returned (.tuple #[wP k,.bool true])/\AS0 W k (SY (pw0 k) (ds.take 100)) w':=by
 have HV:=G8 hv;have HM:=G8 hm;have HT:=G8 hT;have HL:=G8 L;have CA:=G8 (fun V hV=>BD7 V hV);have CN:=G8 (fun V=>BD2 V);obtain⟨va,vc,rfl⟩:=GK hv;clear hv hm hT L;go_enter func6,ntmps6;go_wp2_with fail;refine(G7 CA _ (G7 HT)).mono ?_;rintro e w1 ⟨rfl,hb1⟩;have B1:=G8 hb1;clear hb1 CA;go_wp2_with fail;refine(G7 CN _).mono ?_;rintro e w2 ⟨rfl,hx2,hb2⟩;have H0:=G8 (AS0.start (G7 HT) (G7 B1) hb2 hx2);clear hb2 hx2 B1 HT CN;generalize w1.heap.size=k at*;unfold wP;go_wp2_with fail
 go_loopg [7] (min ds.length 100) (fun kx s7 wr=>∃i:Nat,s7=I0 i/\i<=min ds.length 100/\min ds.length 100-i<=kx/\Hid (AS0 W k (SY (pw0 k) (ds.take i)) wr))
 case atStart=>exact⟨0,rfl,by omega,by omega,H0⟩
 case round=>
  obtain⟨i,rfl,hi,hg,HI⟩:=hrel;by_cases hlt:i<ds.length
  .by_cases hlh:i<100
   .have hl1:(i:Int)<(ds.length:Int):=by omega
    have hl2:(i:Int)<100:=by omega
    obtain⟨d,hd⟩:∃d,ds[i]?=G6 d:=⟨_,List.getElem?_eq_getElem hlt⟩;obtain⟨b,off,cap,he,hb,_,_,_,_⟩:=oW (G7 HV) hd;simp only[Value.slice.injEq,true_and]at he;obtain⟨rfl,rfl⟩:=he;have HC:=G8 (fun V (hV:B0 W V)=>CR1 ((G7 HV).next hV) hd);have hmd:=G7 HM d (List.mem_of_getElem? hd);have CD:=G8 (AG0 (SY (pw0 k) (ds.take i)) d k wr (G7 HI).x (BD4 _ _) (G7 HI).t (lQ _ _ (YP k)) hmd.1 hmd.2);have CK0:=G8 (fun V u=>G7 HL k V i d u hd);have HS:=G8 (BD5 (pw0 k) hd);obtain⟨⟨e0,e1,e2,e3,e4,e5,e6⟩,e7,e8,e9,e10,e11,e12⟩:=G7 HC wr (G7 HI).b;have hmin:i+1<=min ds.length 100:=by omega
    clear hmd hd;unfold wP ddV at CD;generalize hx0:doP (SY (pw0 k) (ds.take i)) d=x0 at*;obtain⟨r,q⟩:=x0;clear hx0;simp only at CK0 HS;go_wp2_with fail;refine(G7 CD).mono ?_;rintro e w3 ⟨u,rfl,ho,ht,hx⟩;obtain⟨na,nc,rfl⟩:=IU ho;have R2:Hid (RpX (w3.alloc (FV #[I0 r.E,I0 r.z,S0 r.p,S0 r.d,I0 r.t.c,I0 r.t.m,I0 r.t.q,I0 r.t.v,I0 r.t.k,I0 r.t.o,I0 r.t.n,FU na r.ns.length nc] 53)) w3.heap.size r (FU na r.ns.length nc)):=G8 (heap_alloc_last _ _);have HN:=G8 (((G7 HI).turn ht hx).next (G9 w3 (FV #[I0 r.E,I0 r.z,S0 r.p,S0 r.d,I0 r.t.c,I0 r.t.m,I0 r.t.q,I0 r.t.v,I0 r.t.k,I0 r.t.o,I0 r.t.n,FU na r.ns.length nc] 53)));have HO:=G8 ((ho.lower (C:=k+1) (G7 HI).x.lt).next (G9 w3 (FV #[I0 r.E,I0 r.z,S0 r.p,S0 r.d,I0 r.t.c,I0 r.t.m,I0 r.t.q,I0 r.t.v,I0 r.t.k,I0 r.t.o,I0 r.t.n,FU na r.ns.length nc] 53)));rw[<-G7 HS]at HN;clear e0 e1 e2 e3 e4 e5 e6 e7 e8 e9 e10 e11 e12 ho ht CD;unfold rpV;go_upto_region 8 with fail;generalize w3.alloc _=W2 at*;generalize w3.heap.size=g at*;have HKS:Hid (∀V,B0 W2 V->V.cell? ⟨b,off+i*13,G5⟩=G6 (I0 d.k)/\V.cell? ⟨b,off+i*13+1,G5⟩=G6 (I0 d.c)/\V.cell? ⟨b,off+i*13+2,G5⟩=G6 (I0 d.s)/\V.cell? ⟨b,off+i*13+3,G5⟩=G6 (I0 d.q.o)/\V.cell? ⟨b,off+i*13+4,G5⟩=G6 (I0 d.q.s)/\V.cell? ⟨b,off+i*13+5,G5⟩=G6 (S0 d.q.p)/\V.cell? ⟨b,off+i*13+6,G5⟩=G6 (S0 d.q.d)/\V.cell? ⟨b,off+i*13+7,G5⟩=G6 (I0 d.q.v)/\V.cell? ⟨b,off+i*13+8,G5⟩=G6 (I0 d.q.f)/\V.cell? ⟨b,off+i*13+9,G5⟩=G6 (I0 d.lo)/\V.cell? ⟨b,off+i*13+10,G5⟩=G6 (I0 d.sl)/\V.cell? ⟨b,off+i*13+11,G5⟩=G6 (I0 d.ke)/\V.cell? ⟨b,off+i*13+12,G5⟩=G6 (.bool d.wt)/\V.cell? ⟨g,0,G5⟩=G6 (I0 r.E)/\V.cell? ⟨g,1,G5⟩=G6 (I0 r.z)/\V.cell? ⟨g,2,G5⟩=G6 (S0 r.p)/\V.cell? ⟨g,3,G5⟩=G6 (S0 r.d)/\V.cell? ⟨g,4,G5⟩=G6 (I0 r.t.c)/\V.cell? ⟨g,5,G5⟩=G6 (I0 r.t.m)/\V.cell? ⟨g,6,G5⟩=G6 (I0 r.t.q)/\V.cell? ⟨g,7,G5⟩=G6 (I0 r.t.v)/\V.cell? ⟨g,8,G5⟩=G6 (I0 r.t.k)/\V.cell? ⟨g,9,G5⟩=G6 (I0 r.t.o)/\V.cell? ⟨g,10,G5⟩=G6 (I0 r.t.n)/\V.cell? ⟨g,11,G5⟩=G6 (FU na r.ns.length nc)):=G8 fun V hV=>by
     obtain⟨⟨e0,e1,e2,e3,e4,e5,e6⟩,e7,e8,e9,e10,e11,e12⟩:=G7 HC V (GH (G7 HN).b hV);obtain⟨r0,r1,r2,r3,r4,r5,r6,r7,r8,r9,r10,r11⟩:=RpX.cells (W:=V) ((hV.block g (G7 R2).lt).trans (G7 R2));exact⟨e0,e1,e2,e3,e4,e5,e6,e7,e8,e9,e10,e11,e12,r0,r1,r2,r3,r4,r5,r6,r7,r8,r9,r10,r11⟩
    have CK:=G8 (fun V (hV:B0 W2 V)=>G7 CK0 V (FU na r.ns.length nc) (by have:=((G7 HN).next hV).x;rw[G7 HS]at this;exact this) ((G7 HO).next hV));unfold wP ddV rpV at CK;clear CK0 HO R2 HC hx HI;have hS0:=G7 HKS _ (AA W2.heap.size W2).drew;refine wp_region_held (S:=fun V:FW=>V.cell? ⟨b,off+i*13,G5⟩=G6 (I0 d.k)/\V.cell? ⟨b,off+i*13+1,G5⟩=G6 (I0 d.c)/\V.cell? ⟨b,off+i*13+2,G5⟩=G6 (I0 d.s)/\V.cell? ⟨b,off+i*13+3,G5⟩=G6 (I0 d.q.o)/\V.cell? ⟨b,off+i*13+4,G5⟩=G6 (I0 d.q.s)/\V.cell? ⟨b,off+i*13+5,G5⟩=G6 (S0 d.q.p)/\V.cell? ⟨b,off+i*13+6,G5⟩=G6 (S0 d.q.d)/\V.cell? ⟨b,off+i*13+7,G5⟩=G6 (I0 d.q.v)/\V.cell? ⟨b,off+i*13+8,G5⟩=G6 (I0 d.q.f)/\V.cell? ⟨b,off+i*13+9,G5⟩=G6 (I0 d.lo)/\V.cell? ⟨b,off+i*13+10,G5⟩=G6 (I0 d.sl)/\V.cell? ⟨b,off+i*13+11,G5⟩=G6 (I0 d.ke)/\V.cell? ⟨b,off+i*13+12,G5⟩=G6 (.bool d.wt)/\V.cell? ⟨g,0,G5⟩=G6 (I0 r.E)/\V.cell? ⟨g,1,G5⟩=G6 (I0 r.z)/\V.cell? ⟨g,2,G5⟩=G6 (S0 r.p)/\V.cell? ⟨g,3,G5⟩=G6 (S0 r.d)/\V.cell? ⟨g,4,G5⟩=G6 (I0 r.t.c)/\V.cell? ⟨g,5,G5⟩=G6 (I0 r.t.m)/\V.cell? ⟨g,6,G5⟩=G6 (I0 r.t.q)/\V.cell? ⟨g,7,G5⟩=G6 (I0 r.t.v)/\V.cell? ⟨g,8,G5⟩=G6 (I0 r.t.k)/\V.cell? ⟨g,9,G5⟩=G6 (I0 r.t.o)/\V.cell? ⟨g,10,G5⟩=G6 (I0 r.t.n)/\V.cell? ⟨g,11,G5⟩=G6 (FU na r.ns.length nc)) (by kernel_rfl) ?_;change wpAnyH _ _ _ _ _ _ _ _ W2.drew;refine tkH 0 hS0 ?_;refine tkH 1 hS0 ?_;refine tkH 2 hS0 ?_;refine tkH 3 hS0 ?_;refine tkH 4 hS0 ?_;refine tkH 5 hS0 ?_;refine tkH 6 hS0 ?_;refine rd1 7 (fun K hK=>?_);go_simp;refine(G7 CK _ (AA _ _).drew).mono ?_;rintro e w3 ⟨rfl,hb3⟩;have HB:=G8 (GH (AA W2.heap.size W2).drew hb3);have hS1:=G7 HKS _ (G7 HB);clear hb3;refine nxH hK hS1 ?_;clear hK K;refine tkH 8 hS1 ?_;refine wpAnyH_done (by kernel_rfl) ?_ _;go_wp2_with fail
    go_roundg (min ds.length 100-(i+1))
    case measure=>omega
    case rel=>exact⟨i+1,by simp,by omega,A8 _,G8 ((G7 HN).next (G7 HB))⟩
   .obtain rfl:i=100:=by omega
    have hl1:((100:Nat):Int)<(ds.length:Int):=by omega
    have HF:=HI;clear HI;go_wp2_with fail;exact bodyPost_ret (v:=.tuple #[P0 k,.bool true]) (by simp[results,results6,go_sem]) rfl ⟨k,rfl,G7 HF⟩
  .obtain rfl:i=ds.length:=by omega
   have HF:=HI;have hle:ds.length<=100:=by omega
   rw[List.take_of_length_le (A8 _),<-List.take_of_length_le hle]at HF;clear HI;go_wp2_with fail;exact bodyPost_ret (v:=.tuple #[P0 k,.bool true]) (by simp[results,results6,go_sem]) rfl ⟨k,rfl,G7 HF⟩
theorem BD8(k:Nat)(d:Dd)(r:Rp)(u:FX)(w:FW):FZ prog 7 #[wP k,ddV d,rpV r u] w (R0 w (.bool true)):=by
 unfold wP ddV rpV;go_enter func7,ntmps7;go_wp2_with fail;go_ret;exact⟨rfl,GH (G9 _ _) (G9 _ _)⟩
theorem do_n(p:Pw)(d:Dd)(hn:p.n<300):(doP p d).2.n=p.n+1:=by
 unfold doP;rw[if_neg (by omega)]
 split
 .rfl
 .unfold mF RG l7 UR upW TU
  repeat' split
  all_goals rfl
theorem BD9:∀ (l:List Dd) (p:Pw),p.n+l.length<=300->(SY p l).n=p.n+l.length
 |[],p,_=>by simp[SY]
 |d::l,p,h=>by
  rw[List.length_cons]at h⊢;have h1:=do_n p d (by omega);have:=BD9 l (doP p d).2 (by omega);show (SY (doP p d).2 l).n=_;rw[this,h1];omega
def dRd(c s:Nat)(l:List UInt8):Dd:=⟨2,c,s,⟨0,0,l,[],0,0⟩,0,0,0,false⟩
theorem CR2(p:Pw){c s:Nat}(l:List UInt8)(hn:p.n<300)(hc:c<16)(hs:s<3):doP p (dRd c s l)=
  if(p.s s).up=false then(TG 14,O8 p)else if(QT (p.s s).m (p.s s).dn).z<(p.c c).z then(TG 15,O8 p)
  else(B69 p (dRd c s l),⟨p.n+1,p.s,p.r,LP p.c c ⟨(p.c c).s,(QT (p.s s).m (p.s s).dn).z,(p.c c).es⟩,p.D,p.H,p.h⟩):=by
 have ha:V9 (dRd c s l)=0:=by
  have h1:eY (c:Int) 16=true:=by simp[eY];omega
  have h2:eY (s:Int) 3=true:=by simp[eY];omega
  simp[V9,dRd,h1,h2]
 unfold doP;rw[if_neg (by omega),if_neg (by omega),mF,if_neg (show ¬ (dRd c s l).k=1 by simp[dRd]),if_pos (show (dRd c s l).k=2 from rfl)];rfl
theorem BE0{a b:Int}(h:a=b):Ending.returned (I0 a)=.returned (I0 b):=by rw[h]
theorem A65(k n:Int)(hn:0<n):k.tmod n=k%n\/k.tmod n=k%n-n:=by
 rw[Int.tmod_eq_emod]
 split
 .left;omega
 .right;omega
theorem yO(k n:Int)(w:FW)(hn:0<n)(hn1:n<=1048576)(hk: -9223372036854775808<=k)(hk1:k<=9223372036854775807):
  FZ prog 8 #[I0 k,I0 n] w fun e w'=>e=.returned (I0 (k%n))/\w'=w:=by
 have hm1:=Int.emod_nonneg k (show n≠0 by omega);have hm2:=Int.emod_lt_of_pos k hn;by_cases h0:0<=k
 .go_enter func8,ntmps8
  go_wp2
  go_ret;exact⟨rfl,rfl⟩
 .have HT:=G8 (A65 k n hn);go_enter func8,ntmps8
  go_wp2
  all_goals go_ret
  all_goals refine⟨BE0 ?_,rfl⟩
  all_goals (have hT:=G7 HT;clear HT;first|omega|(unfold wrap64;omega))
theorem skH{P:Program}{ops:Array Oper}{Q:Exit->Act->FW->Prop}{md:Region.Mode}{S:FW->Prop}(i:Nat){oi:Oper}{fuel:Nat}{listed:Array Bool}{a a':Act}{w:FW}(hS:S w)(h:wpAnyH P md ops Q S fuel (listed.setIfInBounds i true) a' w)
  (hi:ops.toList[i]?=G6 oi:=by rfl) (hw:Region.wanted oi (yielded ops a.tmps)=false:=by rfl)
  (hc:(Region.noSelect ops&&Region.free md ops listed i&&(Region.ready md ops listed).contains i)=true:=by kernel_rfl)
  (hQ:∀c a w,Q (.panic c) (a.put oi.dst undef) w->Q (.panic c) a w:=by exact fun _ _ _ h=>h)
  (ha:a.put oi.dst undef=a':=by(try simp only[Act.put,List.setIfInBounds_toArray,List.set_cons_zero,List.set_cons_succ]);exact rfl):wpAnyH P md ops Q S (fuel+1) listed a w:=by
 simp only[Bool.and_eq_true]at hc;subst ha;exact wpAnyH_take (Array.getElem?_toList.symm.trans hi) hc.1.1 hc.1.2 hc.2 hQ (Or.inr ⟨hw,rfl⟩) hS h
