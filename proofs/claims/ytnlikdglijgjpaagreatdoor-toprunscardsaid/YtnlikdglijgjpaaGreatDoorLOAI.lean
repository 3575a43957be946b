/-
  Part.
-/
import Derived.Test.YtnlikdglijgjpaaGreatDoorLOAC
import Derived.Test.YtnlikdglijgjpaaGreatDoorLOAE
import Derived.Test.YtnlikdglijgjpaaGreatDoorLOAH
import Derived.Deep.WholeRow
set_option maxRecDepth 20000
set_option maxHeartbeats 8000000
namespace Go.Proofs.YtnlikdglijgjpaaGreatDoor
open Go.RowKit Go.Proofs.Tryz
open _root_.Nat renaming le_refl->A8,lt_of_lt_of_le->AX,zero_le->AY,zero_add->BI,le_trans->BN,mul_comm->DJ,add_assoc->EJ
open Go.RowKit.Below renaming refl->AA
open _root_.Array renaming getElem?_eq_some_iff->AB,getElem?_eq_getElem->BQ
open _root_.List renaming getElem?_eq_getElem->AL,getElem?_eq_some_iff->AU,mem_of_getElem?->AZ,getElem?_append_left->BK,append_assoc->BR,length_map->EH,length_take->F7
open Go.Value.slice renaming injEq->AP
open Go.World renaming cell?->AV
open _root_.Option.some renaming injEq->BD,inj->BO
open Go.Builtin renaming zeroCells->BH
open Go.Sem renaming run_bind->DY,run_pure->EN
open Go.Result renaming andThen_ok->EC
open _root_.Option renaming map_eq_some_iff->FM,none->FZ,some->G5
open Go.Value renaming slice->FT
open Go.Obj renaming cells->FU
open Go renaming World->FV,Value->FW,Calls->FX
variable{W V U:FV}{k n c q g i b off P j m:Nat}{d:Dd}{v:FW}{p:Pw}{r:Rp}{ds:List Dd}{α:Type}
theorem BT3{kd:Int}{x:Rp×Pw}(hk:k<W.heap.size)(D:DB W V d)(ho:H7 U V.heap.size v x.1.ns)(ht:Touch (· =k) V U)(hx:TN kd x.1.E=true->WX U k x.2)(hp:TN kd x.1.E=true->∀i,i<3->MN 300 (x.2.s i)):
  Did W k kd x (.returned (rpV x.1 v)) (fK U (W.heap.size+1) (I0 x.1.E) (I0 x.1.z) (S0 x.1.p) (S0 x.1.d) (I0 x.1.t.c) (I0 x.1.t.m) (I0 x.1.t.q) (I0 x.1.t.v) (I0 x.1.t.k) (I0 x.1.t.o) (I0 x.1.t.n) v):=by
 have h:=(D.dt k).touch hk ht;have hlt:=D.r.lt;exact⟨v,rfl,JZ (ho.lower (by omega)) (aY _ _ _ _ _ _ _ _ _ _ _ _ _ _) (fun q e=>by have:=PI ho e;omega),KD h.t (by omega) _ _ _ _ _ _ _ _ _ _ _ _,fun hl=>(hx hl).reply (hp hl) h.r (by omega) (aY _ _ _ _ _ _ _ _ _ _ _ _ _ _)⟩
theorem CP3(d:Dd)(k:Nat)(W:FV)(x:Rp×Pw)(hk0:k<W.heap.size)(C1:d.k=1->∀V,B0 W V->FX prog 37 #[wP k,ddV d] V (Did V k 1 x))(C2:d.k=2->∀V,B0 W V->FX prog 38 #[wP k,ddV d] V (Did V k 2 x))(C3:d.k=3->∀V,B0 W V->FX prog 39 #[wP k,ddV d] V (Did V k 3 x))(C4:d.k=4->∀V,B0 W V->FX prog 40 #[wP k,ddV d] V (Did V k 4 x))(C5:d.k=5->∀V,B0 W V->FX prog 41 #[wP k] V (Did V k 5 x))(hp:∀i,i<3->MN 300 (x.2.s i))(hd:d.k=1\/d.k=2\/d.k=3\/d.k=4\/d.k=5):FX prog 23 #[wP k,ddV d] W (Did W k d.k x):=by
 have D0:=G7 (DB.start W d);have HP:=G7 (fun(_:TN d.k x.1.E=true)=>hp);rcases hd with hd|hd|hd|hd|hd
 all_goals
  first|have HC:=G7 (C1 hd)|have HC:=G7 (C2 hd)|have HC:=G7 (C3 hd)|have HC:=G7 (C4 hd)|have HC:=G7 (C5 hd)
  rw[hd]at HP⊢;clear C1 C2 C3 C4 C5 hp;obtain⟨dk,dc,ds,⟨o,s,pp,dd,v,f⟩,lo,sl,ke,wt⟩:=d;simp only at hd;subst hd;unfold wP at HC⊢;unfold ddV at*;go_enter func23,ntmps23;go_upto_region 1 with fail;generalize ((W.alloc _).alloc _)=W0 at*;obtain⟨⟨d0,d1,d2,d3,d4,d5,d6⟩,d7,d8,d9,d10,d11,d12⟩:=(G6 D0).cells;simp only at d0 d1 d2 d3 d4 d5 d6 d7 d8 d9 d10 d11 d12;go_wp2_with fail;refine(G6 HC _ (G6 D0).b).mono ?_;rintro e w1 ⟨vn,rfl,ho,ht,hw⟩;obtain⟨na,nc,rfl⟩:=IU ho;have R2:=(((G6 D0).dt k).touch hk0 ht).r;have X1:=G7 (BT3 hk0 (G6 D0) ho ht hw (G6 HP));have b0:=R2.cells;have g0:=R2.GX;clear ho ht hw R2 D0 HC HP d0 d1 d2 d3 d4 d5 d6 d7 d8 d9 d10 d11 d12;unfold rpV fK at X1;unfold rpV;go_wp2_with fail;exact bodyPost_ret (v:=.agg #[I0 x.1.E,I0 x.1.z,S0 x.1.p,S0 x.1.d,I0 x.1.t.c,I0 x.1.t.m,I0 x.1.t.q,I0 x.1.t.v,I0 x.1.t.k,I0 x.1.t.o,I0 x.1.t.n,FT na x.1.ns.length nc]) (by simp[results,results23,go_sem,b0]) rfl (G6 X1)
theorem BB0(p:Pw)(d:Dd)(k:Nat)(W:FV)(hx:WX W k p)(hc:0<=d.c/\d.c<16)(hs:0<=d.s/\d.s<3)(hok:∀j,j<3->MN 299 (p.s j))(hcl:sH 299 p.H d.c.toNat (p.c d.c.toNat))(hp:d.q.p.length<=140737488355328):FX prog 38 #[wP k,ddV d] W (Did W k 2 (aV p d)):=by
 cases hu:(p.s d.s.toNat).up with
 |true=>exact CC8 p d k W hx hc hs hok hcl hp hu
 |false=>
  rw[aV,if_pos hu];exact BA5 p d k W hx hs hu
theorem AQ1(p:Pw)(d:Dd)(k:Nat)(W:FV)(hx:WX W k (O9 p))(hT:Z5 W)(h:RS p)(hn:p.n<300)(ha:V6 d=0)(hp:d.q.p.length<=140737488355328)(hd:d.q.d.length<=140737488355328):FX prog 23 #[wP k,ddV d] W (Did W k d.k (gU (O9 p) d)):=by
 have hW:RS (gU (O9 p) d).2:=by
  have:=kP d h;rw[doP,if_neg (by omega),if_neg (by omega)]at this;exact this
 have hP:∀i,i<3->MN 300 ((gU (O9 p) d).2.s i):=fun i hi=>(hW.s i hi).more hW.n1;have ok:∀j,j<3->MN 299 (p.s j):=fun j hj=>(h.s j hj).more (by omega);have ok3:∀j,j<3->MN 300 (p.s j):=fun j hj=>(h.s j hj).more (by omega);have hk:d.k=1\/d.k=2\/d.k=3\/d.k=4\/d.k=5:=by
  unfold V6 at ha;by_cases e:d.k=1\/d.k=2\/d.k=3\/d.k=4\/d.k=5
  .exact e
  .rw[if_neg (by omega),if_neg (by omega),if_neg (by omega),if_neg (by omega)]at ha;cases ha
 exact CP3 d k W _ hx.lt
  (fun h1 V hV=>by rw[gU,if_pos h1];exact AQ0 p d k V (hx.next hV) (hT.next hV) h hn (CV2 h1 ha) hp hd)
  (fun h2 V hV=>by
   obtain⟨hc,hs⟩:=CL9 h2 ha;rw[gU,if_neg (by omega),if_pos h2];exact BB0 (O9 p) d k V (hx.next hV) hc hs ok ((h.c _ (by omega)).more (by omega) (fun _ hx=>hx)) hp)
  (fun h3 V hV=>by rw[gU,if_neg (by omega),if_neg (by omega),if_pos h3];exact BA9 (O9 p) d k V (hx.next hV) (AC8 (.inl h3) ha) ok3)
  (fun h4 V hV=>by rw[gU,if_neg (by omega),if_neg (by omega),if_neg (by omega),if_pos h4];exact CP2 (O9 p) d k V (hx.next hV) (AC8 (.inr h4) ha) ok3)
  (fun h5 V hV=>by rw[gU,if_neg (by omega),if_neg (by omega),if_neg (by omega),if_neg (by omega)];exact AP7 (O9 p) k V (hx.next hV) (hT.next hV) (CV6 h hn))
  hP hk
noncomputable def zW:Array FW:=(((prog.info? 90).bind (·.zero)).getD undef).cells
theorem BB1:(prog.info? 90).map (fun i=>(i.zero,i.size))=G5 (G5 (.agg zW),83):=by kernel_rfl
theorem CC9:zW.size=83:=by kernel_rfl
theorem CW6(h:n=83):(prog.info? 90).map (·.size)=G5 n:=by rw[h];exact(zero_of_info BB1).2
noncomputable def zB:Array FW:=(prog.built 90 []).getD #[]
theorem CD0:zB.size=83:=by kernel_rfl
section
variable {w:FV} {ops:Array Oper} {rest:List Oper} {o:Oper} {a:Act} {Q:Exit->Act->FV->Prop}
theorem fD(hgd:o.guard=FZ)(x:Operand)(ho:o.op=.load 90 x)(k:Nat)(c:Array FW)(hx:a.eval x=P0 k)(hc:w.heap[k]?=G5 (FU c 90 (0,0)))(h83:c.size=83)
  (h:wpList prog ops Q rest (a.put o.dst (.agg c)) w):wpList prog ops Q (o::rest) a w:=by
 refine wpList_plain hgd fun K hK=>?_;have hr:(Instr.loadAt 90 (P0 k)).run prog w=.ok (.agg c) w:=by
  have hl:=run_loadCells_list (P:=prog) (w:=w) ⟨k,0,FZ⟩ c.toList (fun j v hj=>by
   rw[Addr.add_lit];show w.cell? ⟨k,0+j,FZ⟩=G5 v;rw[BI,cell_of_row _ _ j c _ (0,0) hc];simpa using hj)
  rw[show c.toList.length=83 by simpa using h83]at hl;simp only[Instr.loadAt,Instr.sureAddr,DY,EN,Result.andThen];unfold loadVar;simp only[DY,isAgg90,sizeOf90,Result.andThen,if_true];rw[hl];simp
 unfold Oper.wp execOp;simp only[ho,DY,EN,EC,hx,hr];exact hK _ _ h
theorem rV(hgd:o.guard=FZ)(ho:o.op=.alloc 90)(h:wpList prog ops Q rest (a.put o.dst (.pointer (G5 ⟨w.heap.size,0,FZ⟩))) (w.alloc (FU zW 90))):wpList prog ops Q (o::rest) a w:=by
 refine wpList_plain hgd fun K hK=>?_;have hz:=(zero_of_info BB1).1 w;have hr:(Instr.alloc 90 true (.tuple #[])).run prog w=.ok (.pointer (G5 ⟨w.heap.size,0,FZ⟩)) (w.alloc (FU zW 90)):=by
  simp[Instr.alloc,newVar,newRow,hz,Value.cells,go_sem]
 unfold Oper.wp execOp;simp only[ho,DY,EN,EC,hr];exact hK _ _ h
theorem A51(hgd:o.guard=FZ)(x:Operand)(ho:o.op=.box 90 x)(c:Array FW)(hx:a.eval x=.agg c)(h:wpList prog ops Q rest (a.put o.dst (.pointer (G5 ⟨w.heap.size,0,FZ⟩))) (w.alloc (FU c 90))):wpList prog ops Q (o::rest) a w:=by
 refine wpList_plain hgd fun K hK=>?_;have hr:(Instr.box 90 (.agg c)).run prog w=.ok (.pointer (G5 ⟨w.heap.size,0,FZ⟩)) (w.alloc (FU c 90)):=by
  simp[Instr.box,newVar,newRow,Value.cells,go_sem]
 unfold Oper.wp execOp;simp only[ho,DY,EN,EC,hx,hr];exact hK _ _ h
theorem rW(hgd:o.guard=FZ)(ho:o.op=.build 90 #[])(h:wpList prog ops Q rest (a.put o.dst (.agg zB)) w):wpList prog ops Q (o::rest) a w:=by
 refine wpList_build hgd 90 #[] ho ?_ ?_
 .simp only[Array.map_empty]
  kernel_rfl
 .simp only[Array.map_empty];exact h
theorem bF(hgd:o.guard=FZ)(x y:Operand)(ho:o.op=.store 90 x y)(k:Nat)(c old:Array FW)(hx:a.eval x=P0 k)(hy:a.eval y=.agg c)(hc:w.heap[k]?=G5 (FU old 90 (0,0)))(h83:c.size=83)(ho83:old.size=83)(h1:c.all (·.oneCell')=true)
  (h:wpList prog ops Q rest (a.put o.dst undef) (w.setRow k c)):wpList prog ops Q (o::rest) a w:=
 wpList_store_row hgd _ x y ho k c hx hy _ old hc (CW6 h83) (by omega) h1 h
theorem lU(hgd:o.guard=FZ)(x y:Operand)(ho:o.op=.store 90 x y)(c:Array FW)(hx:a.eval x=.pointer (G5 ⟨w.heap.size,0,FZ⟩))(hy:a.eval y=.agg c)(h83:c.size=83)(h1:c.all (·.oneCell')=true)
  (h:wpList prog ops Q rest (a.put o.dst undef) (w.alloc (FU c 90))):wpList prog ops Q (o::rest) a (w.alloc (FU zW 90)):=by
 refine bF hgd x y ho w.heap.size c zW hx hy (heap_alloc_last w _) h83 CC9 h1 ?_;rw[World.setRow_alloc_new];exact h
end
def CE6(W:FV)(k:Nat)(x:Rp×Pw)(e:Ending)(w':FV):Prop:=
 ∃v,e=.returned (rpV x.1 v)/\H7 w' W.heap.size v x.1.ns/\Touch (· =k) W w'/\WX w' k x.2
theorem AF1{E:Int}(hk:k<W.heap.size)(h:DT k W V d)(hx:WX V k p)(hp:∀i,i<3->MN 300 (p.s i)):
  CE6 W k (SV E,p) (.returned (UC E)) (fK V (W.heap.size+1) (I0 E) (I0 0) (.string ⟨#[]⟩) (.string ⟨#[]⟩) (I0 0) (I0 0) (I0 0) (I0 0) (I0 0) (I0 0) (I0 0) (N0)):=
 ⟨N0,rfl,.inl ⟨rfl,rfl⟩,KD h.t (by omega) _ _ _ _ _ _ _ _ _ _ _ _,hx.reply hp h.r (by omega) (aY _ _ _ _ _ _ _ _ _ _ _ _ _ _)⟩
theorem BT4(p:Pw)(d:Dd)(h:TN d.k (gU p d).1.E=false):(gU p d).2=p:=by
 unfold gU at h⊢;by_cases h1:d.k=1
 .rw[if_pos h1]at h⊢;unfold P9 at h⊢
  (repeat' split)<;>simp_all[TN]
 .rw[if_neg h1]at h⊢;by_cases h2:d.k=2
  .rw[if_pos h2]at h⊢;unfold aV at h⊢
   (repeat' split)<;>simp_all[TN,BO7]
   all_goals (split at h<;>simp_all)
  .rw[if_neg h2]at h⊢;by_cases h3:d.k=3
   .rw[if_pos h3]at h⊢;unfold QW at h⊢
    (repeat' split)<;>simp_all[TN,SV]
   .rw[if_neg h3]at h⊢;by_cases h4:d.k=4
    .rw[if_pos h4]at h⊢;unfold upW at h⊢
     (repeat' split)<;>simp_all[TN,SV]
    .rw[if_neg h4]at h⊢;unfold QL at h⊢
     (repeat' split)<;>simp_all[TN]
theorem CP4(p:Pw)(d:Dd):(gU p d).2.h=p.h:=by
 unfold gU P9 aV QW upW QL
 (repeat' split)<;>rfl
theorem bG(W:FV)(k:Nat)(c:Array FW):Touch (· =k) W (W.setRow k c):=by
 refine⟨rfl,rfl,rfl,by simp[World.setRow],fun b _ hb=>?_⟩;simp only[World.setRow,Array.getElem?_modify];rw[if_neg (fun e=>hb e.symm)]
theorem WX.blk(h:WX W k p):∃c,W.heap[k]?=G5 (FU c 90 (0,0))/\c.size=83/\c.all (·.oneCell')=true:=by
 obtain⟨f,⟨c,h1,h2,h3⟩,hr⟩:=h;refine⟨c,h1,h2,?_⟩;rw[Array.all_eq_true];intro j hj;have e:=h3 j (by omega);rw[BQ hj]at e;rw[BO e];exact hr.cellP (P:=(·.oneCell'=true)) (fun _=>rfl) (fun _=>rfl) (fun _ _ _=>rfl) j (by omega)
theorem WX.copy{c:Array FW}(h:WX W k p)(hh:p.h=k)(hc:W.heap[k]?=G5 (FU c 90 (0,0))):WX (W.alloc (FU c 90)) W.heap.size p:=by
 have hk:=h.lt;obtain⟨f,⟨c',h1,h2,h3⟩,hr⟩:=h;rw[hc]at h1;simp only[BD,Obj.cells.injEq,and_true]at h1;subst h1;exact⟨f,⟨c,heap_alloc_last W _,h2,h3⟩,(hr.moved (A8 _) (by omega)).next (G8 _ _)⟩
theorem WX.back{p':Pw}{c:Array FW}(h:WX W k p)(h':WX W q p')(hh:p'.h=k)(hc:W.heap[q]?=G5 (FU c 90 (0,0))):WX (W.setRow k c) k p':=by
 obtain⟨f,hb,hr⟩:=h;have hd:=hr.fJ hb;obtain⟨o,ho,_⟩:=hb;obtain⟨g,⟨c',h1,h2,h3⟩,hs⟩:=h';rw[hc]at h1;simp only[BD,Obj.cells.injEq,and_true]at h1;subst h1;refine⟨g,⟨c,setRow_heap W k o c _ _ ho,h2,h3⟩,WdR.touch (W:=W) ?_ (bG W k c)⟩;refine⟨hs.n,fun i hi=>?_,hs.r,fun i hi=>⟨(hs.c i hi).s,(hs.c i hi).z,aX (hs.c i hi).e.1 hd⟩,kR (OY.1 hs.d.1) hd,hs.h,by omega⟩;have s:=hs.s i hi;exact⟨s.up,AC9 (UU.1 s.d.1) hd,s.id,s.ep,kR (OY.1 s.l.1) hd,s.dn,s.z,xE s.n.1 hd,⟨s.i.1,fun h0=>hs.h i hi h0 k (Nat.le_of_eq hh.symm)⟩,V7 s.w.1 hd⟩
def RpX(W:FV)(g:Nat)(r:Rp)(v:FW):Prop:=W.heap[g]?=G5 (FU #[I0 r.E,I0 r.z,S0 r.p,S0 r.d,I0 r.t.c,I0 r.t.m,I0 r.t.q,I0 r.t.v,I0 r.t.k,I0 r.t.o,I0 r.t.n,v] 34 (0,0))
theorem RpX.lt(h:RpX W g r v):g<W.heap.size:=(AB.1 h).1
theorem RpX.cells(h:RpX W g r v):W.cell? ⟨g,0,FZ⟩=G5 (I0 r.E)/\W.cell? ⟨g,1,FZ⟩=G5 (I0 r.z)/\W.cell? ⟨g,2,FZ⟩=G5 (S0 r.p)/\W.cell? ⟨g,3,FZ⟩=G5 (S0 r.d)/\W.cell? ⟨g,4,FZ⟩=G5 (I0 r.t.c)/\W.cell? ⟨g,5,FZ⟩=G5 (I0 r.t.m)/\W.cell? ⟨g,6,FZ⟩=G5 (I0 r.t.q)/\W.cell? ⟨g,7,FZ⟩=G5 (I0 r.t.v)/\W.cell? ⟨g,8,FZ⟩=G5 (I0 r.t.k)/\W.cell? ⟨g,9,FZ⟩=G5 (I0 r.t.o)/\W.cell? ⟨g,10,FZ⟩=G5 (I0 r.t.n)/\W.cell? ⟨g,11,FZ⟩=G5 (v):=by
 unfold RpX at h;simp[AV,h]
theorem DT.beyond(h:DT k W V d)(hq:W.heap.size+1<q)(ht:Touch (· =q) V U):DT k W U d:=
 ⟨⟨ht.os.trans h.t.os,ht.tape.trans h.t.tape,ht.output.trans h.t.output,BN h.t.size ht.size,fun b hb hn=>(ht.block b (AX hb h.t.size) (by omega)).trans (h.t.block b hb hn)⟩,h.r.touch ht (by omega),(ht.block _ h.d.ltz (by omega)).trans h.d⟩
theorem BB2{B:Nat}(hk:k<W.heap.size)(h:DT k W V d)(hx:WX V k p)(hp:∀i,i<3->MN 300 (p.s i))(hn:H7 V B v r.ns)(hB:W.heap.size+1<B):
  CE6 W k (r,p) (.returned (rpV r v)) (fK V (W.heap.size+1) (I0 r.E) (I0 r.z) (S0 r.p) (S0 r.d) (I0 r.t.c) (I0 r.t.m) (I0 r.t.q) (I0 r.t.v) (I0 r.t.k) (I0 r.t.o) (I0 r.t.n) v):=
 ⟨v,rfl,JZ (hn.lower (by omega)) (aY _ _ _ _ _ _ _ _ _ _ _ _ _ _) (fun q e=>by have:=SN hn q e;omega),KD h.t (by omega) _ _ _ _ _ _ _ _ _ _ _ _,hx.reply hp h.r (by omega) (aY _ _ _ _ _ _ _ _ _ _ _ _ _ _)⟩
theorem CD1(p:Pw)(d:Dd)(k:Nat)(W:FV)(hx:WX W k p)(hp:∀i,i<3->MN 300 (p.s i))(hn:300<=p.n):FX prog 12 #[wP k,ddV d] W (CE6 W k (SV 6,p)):=by
 have D0:=G7 ((DB.start W d).dt k);have X0:=G7 (hx.next (DB.start W d).b);have hk0:=hx.lt;have HP:=G7 hp;clear hp hx;unfold wP ddV;go_enter func12,ntmps12;go_upto_region 1 with fail;generalize ((W.alloc _).alloc _)=W0 at*;have c0:=(G6 X0).count;have CR:=G7 (fun V=>KP 6 V);unfold UC at CR;go_wp2_with fail;refine(G6 CR _).mono ?_;rintro e wr ⟨rfl,hbr⟩;have DR:=(G6 D0).next hk0 hbr;have b0:=DR.r.cells;have g0:=DR.r.GX;have XR:=G7 (AF1 (E:=6) hk0 DR ((G6 X0).next hbr) (G6 HP));clear hbr DR D0 CR;unfold UC fK at XR;go_wp2_with fail;exact bodyPost_ret (v:=.agg #[I0 6,I0 0,.string ⟨#[]⟩,.string ⟨#[]⟩,I0 0,I0 0,I0 0,I0 0,I0 0,I0 0,I0 0,N0]) (by simp[results,results12,go_sem,b0]) rfl (G6 XR)
theorem CP5(p:Pw)(d:Dd)(k:Nat)(W:FV)(hx:WX W k p)(hp:∀i,i<3->MN 300 (p.s i))(hn:p.n<300)(hn0:0<=p.n)(ha:V6 d≠0):FX prog 12 #[wP k,ddV d] W (CE6 W k (SV (V6 d),O9 p)):=by
 have D0:=G7 ((DB.start W d).dt k);have X0:=G7 (hx.next (DB.start W d).b);have hk0:=hx.lt;have HP:=G7 hp;have CA:=G7 (fun V=>oI d V);have ha2:(V6 d==0)=false:=beq_eq_false_iff_ne.2 ha;clear hp hx ha;generalize V6 d=E at*;unfold wP;unfold ddV at CA⊢;go_enter func12,ntmps12;go_upto_region 1 with fail;generalize ((W.alloc _).alloc _)=W0 at*;have c0:=(G6 X0).count;have f0:=(G6 X0).GX 0;have X1:=G7 ((G6 X0).AD1 (p.n+1));have D1:=G7 ((G6 D0).touch hk0 (JJ W0 k 0 (I0 (p.n+1))));go_upto_region 6 with fail;generalize W0.setCell _ _=W1 at*;clear c0 f0 D0 X0;obtain⟨⟨d0,d1,d2,d3,d4,d5,d6⟩,d7,d8,d9,d10,d11,d12⟩:=(G6 D1).cells;go_wp2_with fail;refine(G6 CA _).mono ?_;rintro e w2 ⟨rfl,hb2⟩;have D2:=G7 ((G6 D1).next hk0 hb2);have X2:=G7 ((G6 X1).next hb2);clear d0 d1 d2 d3 d4 d5 d6 d7 d8 d9 d10 d11 d12 hb2 D1 X1;have CR:=G7 (fun V=>KP E V);unfold UC at CR;go_wp2_with fail;refine(G6 CR _).mono ?_;rintro e wr ⟨rfl,hbr⟩;have DR:=(G6 D2).next hk0 hbr;have b0:=DR.r.cells;have g0:=DR.r.GX;have XR:=G7 (AF1 (E:=E) hk0 DR ((G6 X2).next hbr) (G6 HP));clear hbr DR D2 CR;unfold UC fK at XR;go_wp2_with fail;exact bodyPost_ret (v:=.agg #[I0 E,I0 0,.string ⟨#[]⟩,.string ⟨#[]⟩,I0 0,I0 0,I0 0,I0 0,I0 0,I0 0,I0 0,N0]) (by simp[results,results12,go_sem,b0]) rfl (G6 XR)
theorem CP6(p:Pw)(d:Dd)(k:Nat)(W:FV)(hx:WX W k p)(hh:p.h=k)(hT:Z5 W)(h:RS p)(hn:p.n<300)(ha:V6 d=0)(hp:d.q.p.length<=140737488355328)(hd:d.q.d.length<=140737488355328):FX prog 12 #[wP k,ddV d] W (CE6 W k (gU (O9 p) d)):=by
 have D0:=G7 ((DB.start W d).dt k);have X0:=G7 (hx.next (DB.start W d).b);have T0:=G7 (hT.next (DB.start W d).b);have hk0:=hx.lt;have CA:=G7 (fun V=>oI d V);have hn0:=h.n0;have HP:Hid (∀i,i<3->MN 300 ((gU (O9 p) d).2.s i)):=G7 (by
  have hW:=kP d h;rw[doP,if_neg (by omega),if_neg (by omega)]at hW;exact fun i hi=>(hW.s i hi).more hW.n1)
 have HH:Hid ((gU (O9 p) d).2.h=k):=G7 ((CP4 _ _).trans hh);have HS:=G7 (BT4 (O9 p) d);have CH:=G7 (fun V q (hV:WX V q (O9 p)) (hT:Z5 V)=>AQ1 p d q V hV hT h hn ha hp hd);have CL:=G7 (fun V=>A34 d.k (gU (O9 p) d).1.E V);rw[ha]at CA;clear hx hT h hp hd ha;generalize hx1:gU (O9 p) d=x at*;clear hx1;obtain⟨r,p'⟩:=x;simp only at HP HH HS CL;unfold wP;unfold ddV at CA⊢;unfold wP ddV at CH;go_enter func12,ntmps12;go_upto_region 1 with fail;generalize ((W.alloc _).alloc _)=W0 at*;have c0:=(G6 X0).count;have f0:=(G6 X0).GX 0;have X1:=G7 ((G6 X0).AD1 (p.n+1));have D1:=G7 ((G6 D0).touch hk0 (JJ W0 k 0 (I0 (p.n+1))));have T1:=G7 (bC (G6 T0) (G6 X0) (JJ W0 k 0 (I0 (p.n+1))));go_upto_region 6 with fail;generalize W0.setCell _ _=W1 at*;clear c0 f0 D0 X0 T0;obtain⟨⟨d0,d1,d2,d3,d4,d5,d6⟩,d7,d8,d9,d10,d11,d12⟩:=(G6 D1).cells;go_wp2_with fail;refine(G6 CA _).mono ?_;rintro e w2 ⟨rfl,hb2⟩;have D2:=G7 ((G6 D1).next hk0 hb2);have X2:=G7 ((G6 X1).next hb2);have T2:=G7 ((G6 T1).next hb2);clear d0 d1 d2 d3 d4 d5 d6 d7 d8 d9 d10 d11 d12 hb2 D1 X1 T1 CA;obtain⟨c,hc,CE7,hc1⟩:=(G6 X2).blk;have HC:=G7 hc;have hq2:=(G6 D2).r.lt;have X3:=G7 ((G6 X2).copy hh hc);have Y3:=G7 (((G6 X2).offq (A8 _)).next (G8 w2 (FU c 90)));have D3:=G7 ((G6 D2).next hk0 (G8 w2 (FU c 90)));have T3:=G7 ((G6 T2).next (G8 w2 (FU c 90)));clear hc;go_upto_region 10 with(first|refine fD rfl _ rfl k c rfl (G6 HC) CE7 ?_|refine rV rfl rfl ?_|refine lU rfl _ _ rfl c rfl rfl CE7 hc1 ?_);clear HC CE7 hc1 X2 D2 T2;generalize w2.alloc _=W3 at*;generalize w2.heap.size=q at*;obtain⟨⟨d0,d1,d2,d3,d4,d5,d6⟩,d7,d8,d9,d10,d11,d12⟩:=(G6 D3).cells;have C3:=G7 (G6 CH W3 q (G6 X3) (G6 T3));have hq3:=(G6 X3).lt;go_wp2_with fail;refine(G6 C3).mono ?_;rintro e w4 ⟨vn,rfl,ho4,ht4,hx4⟩;obtain⟨na,nc,rfl⟩:=IU ho4;have hs4:=ht4.size;have R5:Hid (RpX (w4.alloc (FU #[I0 r.E,I0 r.z,S0 r.p,S0 r.d,I0 r.t.c,I0 r.t.m,I0 r.t.q,I0 r.t.v,I0 r.t.k,I0 r.t.o,I0 r.t.n,FT na r.ns.length nc] 34)) w4.heap.size r (FT na r.ns.length nc)):=G7 (heap_alloc_last _ _);have B5:=G8 w4 (FU #[I0 r.E,I0 r.z,S0 r.p,S0 r.d,I0 r.t.c,I0 r.t.m,I0 r.t.q,I0 r.t.v,I0 r.t.k,I0 r.t.o,I0 r.t.n,FT na r.ns.length nc] 34);have D5:=G7 (((G6 D3).beyond (by omega) ht4).next hk0 B5);have Y5:=G7 (((G6 Y3).far (g:=q) rfl (show k≠q by omega) ht4).next B5).x;have O5:=G7 (ho4.next B5);have X5:=G7 (fun hl=>(hx4 hl).next B5);clear d0 d1 d2 d3 d4 d5 d6 d7 d8 d9 d10 d11 d12 C3 CH X3 Y3 D3 T3 ho4 ht4 hx4 B5;unfold rpV;go_upto_region 11 with fail;generalize w4.alloc _=W5 at*;generalize w4.heap.size=g at*;obtain⟨⟨d0,d1,d2,d3,d4,d5,d6⟩,d7,d8,d9,d10,d11,d12⟩:=(G6 D5).cells;obtain⟨r0,r1,r2,r3,r4,r5,r6,r7,r8,r9,r10,r11⟩:=(G6 R5).cells;go_wp2_with fail;refine(G6 CL _).mono ?_;rintro e w6 ⟨rfl,hw6⟩;obtain rfl:=hw6.symm;clear d0 d1 d2 d3 d4 d5 d6 d7 d8 d9 d10 d11 d12 r0 r1 r2 r3 r4 r5 r6 r7 r8 r9 r10 r11 CL;refine Or.elim (show TN d.k r.E=false\/TN d.k r.E=true by cases TN d.k r.E<;>simp) ?a0 ?a1
 case' a1=>
  intro hl;rw[hl];obtain⟨c,hc,CE7,hc1⟩:=(G6 X5 hl).blk;obtain⟨o,ho,ho83,_⟩:=(G6 Y5).blk;have HC:=G7 hc;have HO:=G7 ho;have X6:=G7 ((G6 Y5).back (G6 X5 hl) (G6 HH) hc);have D6:=G7 ((G6 D5).touch hk0 (bG W5 k c));have O6:=G7 (JZ (G6 O5) (bG W5 k c) (fun b e=>by have:=SN (G6 O5) b e;omega));have R6:Hid (RpX (W5.setRow k c) g r (FT na r.ns.length nc)):=G7 (((bG W5 k c).block g (G6 R5).lt (by omega)).trans (G6 R5));clear hc ho X5 Y5 D5 O5 R5;go_upto_region 13 with(first|refine fD rfl _ rfl q c rfl (G6 HC) CE7 ?_|refine bF rfl _ _ rfl k c o rfl rfl (G6 HO) CE7 ho83 hc1 ?_);generalize W5.setRow k c=W6 at*
 case' a0=>
  intro hl;rw[hl];have X6:Hid (WX W5 k p'):=G7 (by rw[G6 HS hl];exact G6 Y5);have D6:=D5;have O6:=O5;have R6:=R5;clear X5 Y5 D5 O5 R5;go_upto_region 13 with fail
 all_goals
  have DR:=G6 D6;have b0:=DR.r.cells;have g0:=DR.r.GX;obtain⟨r0,r1,r2,r3,r4,r5,r6,r7,r8,r9,r10,r11⟩:=(G6 R6).cells;have XR:=G7 (BB2 hk0 DR (G6 X6) (G6 HP) (G6 O6) (by omega));clear DR X6 D6 O6 R6;unfold rpV fK at XR;go_wp2_with fail;exact bodyPost_ret (v:=.agg #[I0 r.E,I0 r.z,S0 r.p,S0 r.d,I0 r.t.c,I0 r.t.m,I0 r.t.q,I0 r.t.v,I0 r.t.k,I0 r.t.o,I0 r.t.n,FT na r.ns.length nc]) (by simp[results,results12,go_sem,b0]) rfl (G6 XR)
theorem BB3(p:Pw)(d:Dd)(k:Nat)(W:FV)(hx:WX W k p)(hh:p.h=k)(hT:Z5 W)(h:RS p)(hp:d.q.p.length<=140737488355328)(hd:d.q.d.length<=140737488355328):FX prog 12 #[wP k,ddV d] W (CE6 W k (doP p d)):=by
 have ok:∀i,i<3->MN 300 (p.s i):=fun i hi=>(h.s i hi).more h.n1;unfold doP;by_cases hn:300<=p.n
 .rw[if_pos hn];exact CD1 p d k W hx ok hn
 .rw[if_neg hn];by_cases ha:V6 d=0
  .rw[if_neg (fun e=>e ha)];exact CP6 p d k W hx hh hT h (by omega) ha hp hd
  .rw[if_pos ha];exact CP5 p d k W hx ok (by omega) h.n0 ha
structure Rs where
 r:Rp
 a:Option Addr
 c:Nat
def JY(x:Rs):List FW:=[I0 x.r.E,I0 x.r.z,S0 x.r.p,S0 x.r.d,I0 x.r.t.c,I0 x.r.t.m,I0 x.r.t.q,I0 x.r.t.v,I0 x.r.t.k,I0 x.r.t.o,I0 x.r.t.n,FT x.a x.r.ns.length x.c]
instance layRs:Lay Rs:=⟨12,JY,34,fun _=>rfl,fun x u hu=>by simp[JY]at hu;rcases hu with rfl|rfl|rfl|rfl|rfl|rfl|rfl|rfl|rfl|rfl|rfl|rfl<;>rfl⟩
def rs0:Rs:=⟨SV 0,FZ,0⟩
theorem CD2:(prog.info? 34).map (fun i=>(i.zero,i.size,i.bytes))=G5 (G5 (.agg (JY rs0).toArray),12,128):=by kernel_rfl
theorem CP7:∃i0,prog.info? 34=G5 i0/\i0.zero=G5 (.agg (JY rs0).toArray)/\i0.size=12/\i0.bytes=128:=by
 obtain⟨i0,h,e⟩:=FM.1 CD2;simp only[Prod.mk.injEq]at e;exact⟨i0,h,e⟩
theorem BB4(j:Nat)(h:j<12):j=0\/j=1\/j=2\/j=3\/j=4\/j=5\/j=6\/j=7\/j=8\/j=9\/j=10\/j=11:=by omega
theorem CP8(L:List Rs)(P:Nat)(x:Rs)(h:L[P/12]?=G5 x):(GH L)[P]?=(JY x)[P%12]? :=by
 have:=GV L (P/12) x h (P%12) (Nat.mod_lt _ (by decide));have e:P/12*Lay.k Rs+P%12=P:=by show P/12*12+P%12=P;omega
 rwa[e]at this
theorem BB5(L:List Rs)(P:Nat)(h:L[P/12]?=FZ):(GH L)[P]?=FZ:=by
 have h1:=List.getElem?_eq_none_iff.1 h;refine List.getElem?_eq_none ?_;rw[GN];show L.length*12<=P;omega
theorem AQ2(n:Nat):(BH (JY rs0).toArray n).toList=GH (List.replicate n rs0):=by
 apply List.ext_getElem?
 intro P;by_cases h:P<n*12
 .rw[CP8 _ P rs0 (by rw[List.getElem?_replicate,if_pos (by omega)])];have hs:(JY rs0).toArray.size=12:=rfl;simp only[BH,hs,Array.toList_map,List.getElem?_map,Array.toList_range,List.getElem?_range h,Option.map_some];rcases BB4 (P%12) (Nat.mod_lt _ (by decide))with e|e|e|e|e|e|e|e|e|e|e|e<;>rw[e]<;>rfl
 .rw[BB5 _ P (by rw[List.getElem?_replicate,if_neg (by omega)])];have hs:(JY rs0).toArray.size=12:=rfl;simp only[BH,hs,Array.toList_map,List.getElem?_map,Array.toList_range];rw[List.getElem?_eq_none (by simp;omega)];rfl
def AF2(W:FV)(v:FW)(rs:List Rs):Prop:=(v=N0/\rs=[])\/∃g cap,v=FT (G5 ⟨g,0,FZ⟩) rs.length cap/\rs.length<=cap/\cap<=maxLen/\W.heap[g]?=G5 (FU (GH (rs++List.replicate (cap-rs.length) rs0)).toArray 34 (0,0))
section
variable {W V:FV} {v:FW} {rs:List Rs}
theorem AF2.touch{F:Nat->Prop}(h:AF2 W v rs)(ht:Touch F W V)(hf:∀g,v.ownBlock=G5 g->¬F g):AF2 V v rs:=by
 rcases h with h|⟨g,cap,rfl,h1,h2,h3⟩
 .exact .inl h
 .exact .inr ⟨g,cap,rfl,h1,h2,(ht.block g (AB.1 h3).1 (hf g rfl)).trans h3⟩
theorem AF2.next(h:AF2 W v rs)(hb:B0 W V):AF2 V v rs:=h.touch (F:=fun _=>False) (Touch.of_below hb) (fun _ _=>id)
theorem AF2.seq(h:AF2 W v rs):IE W v rs:=by
 rcases h with⟨rfl,rfl⟩|⟨g,cap,rfl,h1,h2,h3⟩
 .exact IE.nil W
 .by_cases h0:rs=[]
  .subst h0;exact .inl ⟨_,cap,rfl,rfl,h2⟩
  .refine .inr ⟨g,0,cap,rfl,h1,h2,(AB.1 h3).1,h0,fun j u hj=>?_⟩;have hlt:=(AU.1 hj).1;rw[H6]at h3;simp[AV,h3,BK hlt,hj]
end
theorem BB6(rs:List Rs)(m:Nat)(x:Rs):(GH (rs++List.replicate (m+1) rs0)).take (rs.length*12)++JY x++(GH (rs++List.replicate (m+1) rs0)).drop (rs.length*12+12)=GH (rs++[x]++List.replicate m rs0):=by
 have hl:(GH rs).length=rs.length*12:=GN rs;have h0:(JY rs0).length=12:=rfl;rw[List.replicate_succ,H6,JK,H6,J8,<-hl,List.take_left];rw[show (GH rs).length+12=(GH rs++Lay.cs rs0).length by rw[List.length_append];rfl,<-BR (GH rs),List.drop_left];rfl
theorem A52(W:FV)(ty:TypeId)(v:FW)(rs:List Rs)(x:Rs)(q:Nat)(h:AF2 W v rs)(hq:JM W q x)(hl:rs.length<=300):
  ∃v' W',(Builtin.append_ #[25,25] ty #[v,FT (G5 ⟨q,0,FZ⟩) 1 1]).run prog W=.ok v' W'/\AF2 W' v' (rs++[x])/\
   ((∃g cap,v=FT (G5 ⟨g,0,FZ⟩) rs.length cap/\rs.length<cap/\v'.ownBlock=G5 g/\W'=W.setCells g (rs.length*12) (JY x))\/(B0 W W'/\v'.ownBlock=G5 W.heap.size)):=by
 obtain⟨i0,hi0,hz0,hz1,hz2⟩:=CP7;have hU:=underlying25;have hsrc:Src prog i0.size 25 (FT (G5 ⟨q,0,FZ⟩) 1 1) 1 (JY x) W:=by
  rw[hz1];exact Src.ofSlice W hU ⟨q,0,FZ⟩ 1 1 (JY x) rfl (fun j u hj=>Q8 hq j u hj) (Lay.one x)
 have grow:∀ (base:Option Addr) (cap:Nat),cap<rs.length+1->v=FT base rs.length cap->(Builtin.firstCells i0.size rs.length (FT base rs.length cap)).run prog W.drew=.ok (GH rs).toArray W.drew->
   ∃v' W',(Builtin.append_ #[25,25] ty #[v,FT (G5 ⟨q,0,FZ⟩) 1 1]).run prog W=.ok v' W'/\AF2 W' v' (rs++[x])/\B0 W W'/\v'.ownBlock=G5 W.heap.size:=fun base cap hc hv hold=>by
  subst hv;have hn:=nextslicecap_le hc;refine⟨_,_,run_append_grow_src W 25 25 ty 34 i0 _ hU hi0 hz0 base rs.length cap (GH rs) hold _ 1 (JY x) hsrc hc (by omega) (by rw[hz2];omega),?_,((AA _ W).drew).alloc (A8 _) _,rfl⟩;have hge:=grownCap_ge W (rs.length+1) cap 34;refine .inr ⟨W.heap.size,_,by simp,by simpa using hge,grownCap_le_maxLen W (rs.length+1) cap 34 (by unfold maxLen;omega),?_⟩;refine(heap_alloc_new W.drew _).trans ?_
  congr 2
  apply Array.ext'
  rw[Array.toList_append,show (Value.agg (JY rs0).toArray).cells=(JY rs0).toArray from rfl,AQ2,H6 (rs++[x]),J8];simp;rfl
 rcases h with⟨rfl,rfl⟩|⟨g,cap,rfl,h1,h2,h3⟩
 .obtain⟨v',W',e1,e2,e3,e4⟩:=grow FZ 0 (by simp) rfl (by simp[Builtin.firstCells,GH]);exact⟨v',W',e1,e2,.inr ⟨e3,e4⟩⟩
 .by_cases hr:rs.length+1<=cap
  .have hlen:(GH (rs++List.replicate (cap-rs.length) rs0)).length=cap*12:=by
    rw[GN];show _*12=cap*12;simp;omega
   have hc:∀j,j<(JY x).length->(W.cell? ⟨g,0+rs.length*i0.size+j,FZ⟩).isSome=true:=fun j hj=>by
    have hj:j<12:=hj;rw[hz1,AV,h3];simp only[List.getElem?_toArray];rw[AL (by rw[hlen];omega)];rfl
   have hf:∀j,j<(JY x).length->W.frozen? ⟨g,0+rs.length*i0.size+j,FZ⟩=false:=fun j _=>by simp[World.frozen?,h3]
   have hrun:=run_append_room_src W 25 25 ty 34 i0 hU hi0 g 0 rs.length cap _ 1 (JY x) hsrc hr hc hf;rw[hz1,BI]at hrun;refine⟨_,_,hrun,.inr ⟨g,cap,by simp,by simpa using hr,h2,?_⟩,.inl ⟨g,cap,rfl,by omega,rfl,rfl⟩⟩;obtain⟨m,hm⟩:∃m,cap-rs.length=m+1:=⟨cap-rs.length-1,by omega⟩;rw[hm]at h3;rw[MC (JY x) (rs.length*12) W _ h3 (by rw[hm]at hlen;rw[hlen];show rs.length*12+12<=_;omega)];rw[show cap-(rs++[x]).length=m by simp;omega,<-BB6 rs m x];rfl
  .obtain⟨v',W',e1,e2,e3,e4⟩:=grow (G5 ⟨g,0,FZ⟩) cap (by omega) rfl (by
    rw[hz1];refine run_firstCells_some W.drew 12 rs.length ⟨g,0,FZ⟩ rs.length cap (GH rs) (GN rs) (fun j u hj=>?_);have hlt:=(AU.1 hj).1;rw[H6]at h3;rw[Addr.add_lit];show W.cell? ⟨g,0+j,FZ⟩=G5 u;simp[AV,h3,BK hlt,hj])
   exact⟨v',W',e1,e2,.inr ⟨e3,e4⟩⟩
structure WNf(W:FV)(k:Nat)(f:Nat->FW)(a b:Nat):Prop where
 t:∀j,j<83->∀x,f j≠ .string x
 n:f 0=I0 0
 r:∀i,i<3->f (31+i)=I0 0
 d:f 82=N0
 s:∀i,i<a->SvA W k (fun q=>f (1+10*i+q)) (svP i ps0)
 c:∀i,i<b->ClA W k (fun q=>f (34+3*i+q)) ⟨i+1,0,[]⟩
def WN(W V:FV)(a b:Nat):Prop:=(∃f,WB V W.heap.size f/\WNf V W.heap.size f a b)/\B0 W V
section
variable {W V U:FV} {a b:Nat}
theorem l7(h:B0 W V)(T:Touch (· =W.heap.size) V U):B0 W U:=⟨T.os.trans h.os,T.tape.trans h.tape,T.output.trans h.output,BN h.size T.size,fun b hb=>(T.block b (AX hb h.size) (by omega)).trans (h.block b hb)⟩
theorem WN.next(h:WN W V a b)(hb:B0 V U):WN W U a b:=by
 obtain⟨⟨f,h1,h2⟩,h3⟩:=h;exact⟨⟨f,h1.next hb,h2.t,h2.n,h2.r,h2.d,fun i hi=>(h2.s i hi).next hb,fun i hi=>⟨(h2.c i hi).s,(h2.c i hi).z,(h2.c i hi).e.next hb⟩⟩,G9 h3 hb⟩
theorem WN.srv(h:WN W V a b)(ha:a<3){vd vl vn vs vw:FW}{s:Sv}(hs:svP a ps0=s)(hv:SvV V (.agg #[.bool s.up,vd,I0 s.id,I0 s.ep,vl,I0 s.dn,I0 s.tr.z,vn,vs,vw]) s)(h0:s.tr.ss=[]):WN W (yI V W.heap.size (1+10*a) (.bool s.up) vd (I0 s.id) (I0 s.ep) vl (I0 s.dn) (I0 s.tr.z) vn vs vw) (a+1) b:=by
 obtain⟨⟨f,hb,hn⟩,hB⟩:=h;have T:=XC V W.heap.size (1+10*a) (.bool s.up) vd (I0 s.id) (I0 s.ep) vl (I0 s.dn) (I0 s.tr.z) vn vs vw;have hA:SvA V W.heap.size (CE5 (.bool s.up) vd (I0 s.id) (I0 s.ep) vl (I0 s.dn) (I0 s.tr.z) vn vs vw) s:=SvA.of (hb.fJ hn.t) hv (fun h=>absurd h0 h) rfl rfl rfl rfl rfl rfl rfl rfl rfl rfl;refine⟨⟨_,hb.yI (o:=1+10*a) (by omega) _ _ _ _ _ _ _ _ _ _,fun j hj x=>?_,by rw[JD (by omega)];exact hn.n,fun i hi=>by rw[JD (by omega)];exact hn.r i hi,by rw[JD (by omega)];exact hn.d,fun i hi=>?_,fun i hi=>?_⟩,l7 hB T⟩
 .by_cases e:1+10*a<=j/\j<1+10*a+10
  .obtain⟨q,rfl⟩:∃q,j=1+10*a+q:=⟨j-(1+10*a),by omega⟩;rw[NY (by omega)];exact hA.cellP (P:=(· ≠ .string x)) (fun _ e=>by cases e) (fun _ e=>by cases e) (fun _ _ _ e=>by cases e) q (by omega)
  .rw[JD (by omega)];exact hn.t j hj x
 .by_cases e:i=a
  .subst e;rw[hs];exact(hA.congr fun q hq=>by rw[NY hq]).touch T
  .exact((hn.s i (by omega)).congr fun q hq=>by rw[JD (by omega)]).touch T
 .have h:=(hn.c i hi).congr (g':=fun q=>BD3 f (1+10*a) 10 (CE5 (.bool s.up) vd (I0 s.id) (I0 s.ep) vl (I0 s.dn) (I0 s.tr.z) vn vs vw) (34+3*i+q)) fun q hq=>by rw[JD (by omega)]
  exact⟨h.s,h.z,h.e.touch T⟩
theorem WN.cl(h:WN W V a b)(ha:a<=3)(hb:b<16):WN W (qZ V W.heap.size (34+3*b) (I0 (b+1)) (I0 0) (N0)) a (b+1):=by
 obtain⟨⟨f,hf,hn⟩,hB⟩:=h;have T:=SI V W.heap.size (34+3*b) (I0 (b+1)) (I0 0) (N0);refine⟨⟨_,hf.qZ (o:=34+3*b) (by omega) _ _ _,fun j hj x=>?_,by rw[JD (by omega)];exact hn.n,fun i hi=>by rw[JD (by omega)];exact hn.r i hi,by rw[JD (by omega)];exact hn.d,fun i hi=>((hn.s i hi).congr fun q hq=>by rw[JD (by omega)]).touch T,fun i hi=>?_⟩,l7 hB T⟩
 .by_cases e:34+3*b<=j/\j<34+3*b+3
  .obtain⟨q,rfl⟩:∃q,j=34+3*b+q:=⟨j-(34+3*b),by omega⟩;rw[NY (by omega)];rcases(show q=0\/q=1\/q=2 by omega)with rfl|rfl|rfl<;>(intro e;cases e)
  .rw[JD (by omega)];exact hn.t j hj x
 .by_cases e:i=b
  .subst e;exact⟨by rw[NY (by omega)];rfl,by rw[NY (by omega)];rfl,by rw[NY (by omega)];exact Row.nil _ _ 0 (by decide) FZ⟩
  .have h:=(hn.c i (by omega)).congr (g':=fun q=>BD3 f (34+3*b) 3 (B67 (I0 (b+1)) (I0 0) (N0)) (34+3*i+q)) fun q hq=>by rw[JD (by omega)]
   exact⟨h.s,h.z,h.e.touch T⟩
theorem BY1(i:Nat):(svP i ps0).tr.ss=[]:=by rw[IZ rfl];rfl
theorem WN.done(h:WN W V 3 16):WX V W.heap.size (pw0 W.heap.size):=by
 obtain⟨⟨f,hb,hn⟩,_⟩:=h;exact⟨f,hb,hn.n,fun i hi=>hn.s i hi,hn.r,hn.c,by rw[hn.d];exact Row.nil _ _ 0 (by decide) FZ,fun i _ h0=>absurd (BY1 i) h0,A8 _⟩
end
def CP9:FW->Bool
 | .string _=>false
 |_=>true
theorem CD3:zB.all CP9=true:=by kernel_rfl
theorem BB7:zB[0]?=G5 (I0 0)/\zB[31]?=G5 (I0 0)/\zB[32]?=G5 (I0 0)/\zB[33]?=G5 (I0 0)/\zB[82]?=G5 (N0):=⟨by kernel_rfl,by kernel_rfl,by kernel_rfl,by kernel_rfl,by kernel_rfl⟩
theorem BT5(W:FV)(z:Array FW)(hz:z.size=83)(ht:z.all CP9=true)(z0:z[0]?=G5 (I0 0))(z1:z[31]?=G5 (I0 0))(z2:z[32]?=G5 (I0 0))(z3:z[33]?=G5 (I0 0))(z4:z[82]?=G5 (N0)):WN W (W.alloc (FU z 90)) 0 0:=by
 have e:∀j:Nat,j<83->∃v,z[j]?=G5 v:=fun j hj=>⟨z[j]'(by omega),BQ (by omega)⟩;have g:∀ (j:Nat) v,z[j]?=G5 v->z[j]?.getD undef=v:=fun j v h=>by rw[h];rfl
 refine⟨⟨fun j=>z[j]?.getD undef,⟨z,heap_alloc_last W _,hz,fun j hj=>?_⟩,fun j hj x=>?_,g _ _ z0,fun i hi=>?_,g _ _ z4,fun i hi=>by omega,fun i hi=>by omega⟩,G8 _ _⟩
 .obtain⟨v,h⟩:=e j hj;rw[h,<-g j v h]
 .obtain⟨v,h⟩:=e j hj;rw[g j v h];rintro rfl;have:=Array.all_eq_true.1 ht j (by omega);rw[BQ (by omega)]at h;rw[BO h]at this
  cases this
 .rcases(show i=0\/i=1\/i=2 by omega)with rfl|rfl|rfl
  .exact g _ _ z1
  .exact g _ _ z2
  .exact g _ _ z3
theorem WN.start(W:FV):WN W (W.alloc (FU zB 90)) 0 0:=BT5 W zB CD0 CD3 BB7.1 BB7.2.1 BB7.2.2.1 BB7.2.2.2.1 BB7.2.2.2.2
theorem CD4(i:Nat)(hi:i<3)(w:FV):FX prog 19 #[I0 i,.agg #[N0]] w (B72 w (svP i ps0) 0):=by
 have e:svP i ps0=CU5 i:=by rw[IZ rfl,CU5,AM4 (fs:=[]) (by unfold VJ;simp only[zQ];split<;>simp)];simp[ps0,IB,epD,RZ,OU]
 rw[e];exact(B46 i (by omega) (by omega) w).mono fun _ _ h=>rE h rfl
theorem BB8(W:FV):FX prog 9 #[] W fun e w'=>e=.returned (wP W.heap.size)/\WX w' W.heap.size (pw0 W.heap.size)/\B0 W w':=by
 have CB:=G7 (fun i hi V=>CD4 i hi V);have CN:=G7 (fun s h1 h2 V=>BP5 s V h1 h2);have HE0:=G7 BY1;have H0:=G7 (WN.start W);unfold wP;go_enter func9,ntmps9;go_upto_region 2 with(first|refine rW rfl rfl ?_|refine A51 rfl _ rfl zB rfl ?_);generalize W.alloc _=W0 at*;go_wp2_with fail
 go_loopg [6] 3 (fun kx s6 wr=>∃i:Nat,s6=I0 i/\i<=3/\3-i<=kx/\Hid (WN W wr i 0))
 case atStart=>exact⟨0,rfl,by omega,A8 _,H0⟩
 case round=>
  obtain⟨i,rfl,hi,hg,HN⟩:=hrel;by_cases hlt:i<3
  .have hii:(i:Int)<3:=by omega
   have C1:=G7 (fun V=>G6 CB i hlt V);have HE:=G7 (G6 HE0 i);generalize hs1:svP i ps0=s1 at C1 HE;have HK:=G7 hs1;clear hs1;go_upto_region 5 with fail;have hS0:(fun _:FV=>True) wr.drew:=trivial;refine wp_region_held (S:=fun _:FV=>True) (by kernel_rfl) ?_;change wpAnyH _ _ _ _ _ _ _ _ wr.drew;refine tkH 0 hS0 ?_;refine tkH 1 hS0 ?_;refine tkH 2 hS0 ?_;refine tkH 3 hS0 ?_;refine tkH 8 hS0 ?_;refine tkH 9 hS0 ?_;refine rd1 4 (fun K hK=>?_);go_simp
   with_reducible refine(G6 C1 _).mono ?_
   rintro e w1 ⟨ad,nd,cd,al,cl,an,cn,ai,ci,aw,cw,rfl,H1,hb1⟩;have N1:=(G6 HN).next (G9 (AA wr.heap.size wr).drew hb1);clear hb1;refine nxH hK trivial ?_;clear hK K;refine tkH 5 trivial ?_;refine tkH 6 trivial ?_;refine tkH 7 trivial ?_;refine tkH 10 trivial ?_;refine rd1 11 (fun K hK=>?_);obtain⟨f,hf,_⟩:=N1.1;have x0:=hf.cell (j:=1+i*10) (by omega);have z0:=hf.GX (1+i*10);have x1:=hf.cell (j:=1+i*10+1) (by omega);have z1:=hf.GX (1+i*10+1);have x2:=hf.cell (j:=1+i*10+2) (by omega);have z2:=hf.GX (1+i*10+2);have x3:=hf.cell (j:=1+i*10+3) (by omega);have z3:=hf.GX (1+i*10+3);have x4:=hf.cell (j:=1+i*10+4) (by omega);have z4:=hf.GX (1+i*10+4);have x5:=hf.cell (j:=1+i*10+5) (by omega);have z5:=hf.GX (1+i*10+5);have x6:=hf.cell (j:=1+i*10+6) (by omega);have z6:=hf.GX (1+i*10+6);have x7:=hf.cell (j:=1+i*10+7) (by omega);have z7:=hf.GX (1+i*10+7);have x8:=hf.cell (j:=1+i*10+8) (by omega);have z8:=hf.GX (1+i*10+8);have x9:=hf.cell (j:=1+i*10+9) (by omega);have z9:=hf.GX (1+i*10+9);have hkl:=hf.lt;have HR:=G7 (N1.srv hlt (G6 HK) (G6 H1).1 (G6 HE));unfold yI at HR;rw[DJ 10 i]at HR;clear N1 H1 hf;go_simp;refine nxH hK trivial ?_;clear hK K;refine wpAnyH_done (by kernel_rfl) ?_ _;go_wp2_with fail
   go_roundg (3-(i+1))
   case measure=>omega
   case rel=>exact⟨i+1,by simp,by omega,A8 _,HR⟩
  .obtain rfl:i=3:=by omega
   have H3:=HN;clear HN hg hi hlt;go_wp2_with fail
   go_loopg [21] 16 (fun kx s21 wr=>∃i:Nat,s21=I0 i/\i<=16/\16-i<=kx/\Hid (WN W wr 3 i))
   case atStart=>exact⟨0,rfl,by omega,A8 _,H3⟩
   case round=>
    obtain⟨i,rfl,hi,hg,HN⟩:=hrel;by_cases hlt:i<16
    .have hii:(i:Int)<16:=by omega
     have hwr:IntKind.i64.wrap ((i:Int)+1)=(i:Int)+1:=by rw[IntKind.wrap_i64];omega
     have C2:=G7 (fun V=>G6 CN ((i:Int)+1) (by omega) (by omega) V);unfold clV at C2;go_upto_region 10 with fail;have hS0:(fun _:FV=>True) wr.drew:=trivial;refine wp_region_held (S:=fun _:FV=>True) (by kernel_rfl) ?_;change wpAnyH _ _ _ _ _ _ _ _ wr.drew;refine tkH 0 hS0 ?_;refine tkH 1 hS0 ?_;refine tkH 2 hS0 ?_;refine tkH 3 hS0 ?_;refine tkH 8 hS0 ?_;refine tkH 9 hS0 ?_;refine rd1 4 (fun K hK=>?_);go_simp
     with_reducible refine(G6 C2 _).mono ?_
     rintro e w1 ⟨rfl,hb1⟩;have N1:=(G6 HN).next (G9 (AA wr.heap.size wr).drew hb1);clear hb1;refine nxH hK trivial ?_;clear hK K;refine tkH 5 trivial ?_;refine tkH 6 trivial ?_;refine tkH 7 trivial ?_;refine tkH 10 trivial ?_;refine rd1 11 (fun K hK=>?_);obtain⟨f,hf,_⟩:=N1.1;have x0:=hf.cell (j:=34+i*3) (by omega);have z0:=hf.GX (34+i*3);have x1:=hf.cell (j:=34+i*3+1) (by omega);have z1:=hf.GX (34+i*3+1);have x2:=hf.cell (j:=34+i*3+2) (by omega);have z2:=hf.GX (34+i*3+2);have hkl:=hf.lt;have HR:=G7 (N1.cl (A8 3) hlt);unfold qZ at HR;rw[DJ 3 i]at HR;clear N1 hf;go_simp;refine nxH hK trivial ?_;clear hK K;refine wpAnyH_done (by kernel_rfl) ?_ _;go_wp2_with fail
     go_roundg (16-(i+1))
     case measure=>omega
     case rel=>exact⟨i+1,by simp,by omega,A8 _,HR⟩
    .obtain rfl:i=16:=by omega
     go_wp2_with fail;go_ret;exact⟨rfl,(G6 HN).done,(G6 HN).2⟩
theorem BY2(p:Pw):∀l:List Dd,(Y9 p l).h=p.h
 |[]=>rfl
 |d::l=>by
  rw[Y9,BY2 _ l];unfold doP
  repeat' split
  all_goals first|rfl|exact CP4 _ _
theorem AF3(p:Pw)(d:Dd):∀l:List Dd,Y9 p (l++[d])=(doP (Y9 p l) d).2
 |[]=>rfl
 |e::l=>by
  show Y9 (doP p e).2 (l++[d])=_;rw[AF3 _ d l];rfl
theorem BC0(p:Pw)(h:ds[i]?=G5 d):Y9 p (ds.take (i+1))=(doP (Y9 p (ds.take i)) d).2:=by
 obtain⟨hk,rfl⟩:=AU.1 h;rw[List.take_succ_eq_append_getElem hk,AF3]
structure BT8(W:FV)(k:Nat)(p:Pw)(V:FV):Prop where
 x:WX V k p
 t:Z5 V
 b:B0 W V
 k:W.heap.size<=k
section
variable {W V U:FV} {k:Nat} {p q:Pw}
theorem BT8.next(h:BT8 W k p V)(hb:B0 V U):BT8 W k p U:=⟨h.x.next hb,h.t.next hb,G9 h.b hb,h.k⟩
theorem BT8.turn(h:BT8 W k p V)(ht:Touch (· =k) V U)(hx:WX U k q):BT8 W k q U:=
 ⟨hx,bC h.t h.x ht,⟨ht.os.trans h.b.os,ht.tape.trans h.b.tape,ht.output.trans h.b.output,BN h.b.size ht.size,fun b hb=>(ht.block b (AX hb h.b.size) (by have:=h.k;omega)).trans (h.b.block b hb)⟩,h.k⟩
theorem BT8.start(hT:Z5 W)(hb:B0 W V)(hc:B0 V U)(hx:WX U V.heap.size (pw0 V.heap.size)):BT8 W V.heap.size (Y9 (pw0 V.heap.size) []) U:=⟨hx,(hT.next hb).next hc,G9 hb hc,hb.size⟩
end
theorem CQ0{cap:Nat}(hv:IE W (FT (G5 ⟨b,off,FZ⟩) n cap) ds)(hd:ds[i]?=G5 d):(W.cell? ⟨b,off+i*13,FZ⟩=G5 (I0 d.k)/\W.cell? ⟨b,off+i*13+1,FZ⟩=G5 (I0 d.c)/\W.cell? ⟨b,off+i*13+2,FZ⟩=G5 (I0 d.s)/\W.cell? ⟨b,off+i*13+3,FZ⟩=G5 (I0 d.q.o)/\W.cell? ⟨b,off+i*13+4,FZ⟩=G5 (I0 d.q.s)/\W.cell? ⟨b,off+i*13+5,FZ⟩=G5 (S0 d.q.p)/\W.cell? ⟨b,off+i*13+6,FZ⟩=G5 (S0 d.q.d))/\W.cell? ⟨b,off+i*13+7,FZ⟩=G5 (I0 d.q.v)/\W.cell? ⟨b,off+i*13+8,FZ⟩=G5 (I0 d.q.f)/\W.cell? ⟨b,off+i*13+9,FZ⟩=G5 (I0 d.lo)/\W.cell? ⟨b,off+i*13+10,FZ⟩=G5 (I0 d.sl)/\W.cell? ⟨b,off+i*13+11,FZ⟩=G5 (I0 d.ke)/\W.cell? ⟨b,off+i*13+12,FZ⟩=G5 (.bool d.wt):=by
 obtain⟨b',off',cap',he,_,hr,_,_,_⟩:=o7 hv hd;simp only[AP,BD,Addr.mk.injEq,and_true]at he;obtain⟨⟨rfl,rfl⟩,_,_⟩:=he;have h:∀ (j:Nat) (v:FW),j<13->(Lay.cs d)[j]?=G5 v->W.cell? ⟨b,off+i*13+j,FZ⟩=G5 v:=fun j v hj hv=>by
  rw[EJ];exact hr (i*13+j) v ((GV ds i d hd j hj).trans hv)
 exact⟨⟨h 0 _ (by omega) rfl,h 1 _ (by omega) rfl,h 2 _ (by omega) rfl,h 3 _ (by omega) rfl,h 4 _ (by omega) rfl,h 5 _ (by omega) rfl,h 6 _ (by omega) rfl⟩,h 7 _ (by omega) rfl,h 8 _ (by omega) rfl,h 9 _ (by omega) rfl,h 10 _ (by omega) rfl,h 11 _ (by omega) rfl,h 12 _ (by omega) rfl⟩
theorem BC1(p:Pw)(k:Nat)(W:FV)(hx:WX W k p)(hD:p.D.length<=300):FX prog 15 #[wP k] W fun e w'=>∃a c,e=.returned (FT a p.D.length c)/\H7 w' W.heap.size (FT a p.D.length c) p.D/\B0 W w':=by
 obtain⟨ua,uc,d82,hdv⟩:=hx.ack;have CC:=G7 (zV (FT ua p.D.length uc) p.D W hdv (by omega));clear hx hdv;unfold wP;go_enter func15,ntmps15;go_wp2_with fail;refine(G6 CC).mono ?_;rintro e w1 ⟨v1,rfl,ho,hb⟩;obtain⟨a1,c1,rfl⟩:=IU ho;have HO:=G7 (And.intro ho hb);clear ho hb CC;go_wp2_with fail;go_ret;exact⟨a1,c1,rfl,(G6 HO).1,(G6 HO).2⟩
theorem BC2(W:FV)(hT:Z5 W):FX prog 5 #[] W (R0 W (.bool true)):=by
 have HT:=G7 hT;have CN:=G7 (BB8 W);clear hT;have hfd:∀ (x0 x1 x2 x3 x4 x5 x6 x7 x8 x9 x10 x11:FW) (w:FV),(Instr.field 34 (.agg #[x0,x1,x2,x3,x4,x5,x6,x7,x8,x9,x10,x11]) 0).run prog w=.ok x0 w:=fun _ _ _ _ _ _ _ _ _ _ _ _ _=>by kernel_rfl
 go_enter func5,ntmps5;go_wp2_with fail;refine(G6 CN).mono ?_;rintro e w1 ⟨rfl,hx1,hb1⟩;have P1:=G7 (BT8.start (G6 HT) (AA _ _) hb1 hx1);clear hx1 hb1 CN HT;obtain⟨f,c,h1,hf,hc⟩:=BT6 W.heap.size;have i1:=kP dEl (XZ W.heap.size);have C1:=G7 (BB3 (pw0 W.heap.size) dEl W.heap.size w1 (G6 P1).x rfl (G6 P1).t (XZ W.heap.size) (by simp[dEl]) (by simp[dEl]));rw[h1]at C1 i1;obtain⟨t,ns,p2,h2,hD⟩:=BT7 (k:=W.heap.size) hf hc;have C2:=G7 (fun V hx hT=>BB3 ⟨1,f,eR (pw0 W.heap.size).s,c,[],[],W.heap.size⟩ dOp W.heap.size V hx rfl hT i1 (by simp[dOp]) (by simp[dOp]));rw[h2]at C2;have CL:=G7 (fun V hx=>S9 ⟨1,f,eR (pw0 W.heap.size).s,c,[],[],W.heap.size⟩ W.heap.size V hx);have CA:=G7 (fun V hx=>BC1 p2 W.heap.size V hx (by omega));simp only[show ldP (eR (pw0 W.heap.size).s)=2 from rfl]at CL;rw[hD]at CA;clear h1 h2 i1 hf hc hD;generalize eR (pw0 W.heap.size).s=ro at*;simp only[wP,ddV,dEl,nd0]at C1;simp only[wP,ddV,dOp]at C2;unfold wP at CL CA⊢;go_wp2_with fail;refine(G6 C1).mono ?_;rintro e w2 ⟨u2,rfl,ho2,ht2,hx2⟩;obtain⟨a2,c2,rfl⟩:=IU ho2;have P2:=G7 ((G6 P1).turn ht2 hx2);clear ho2 ht2 hx2 C1 P1;unfold rpV;go_wp2_with fail;refine(G6 CL _ (G6 P2).x).mono ?_;rintro e w3 ⟨rfl,hb3⟩;have P3:=G7 ((G6 P2).next hb3);clear hb3 CL P2;go_wp2_with fail;refine(G6 C2 _ (G6 P3).x (G6 P3).t).mono ?_;rintro e w4 ⟨u4,rfl,ho4,ht4,hx4⟩;obtain⟨a4,c4,rfl⟩:=IU ho4;have P4:=G7 (fun O=>((G6 P3).turn ht4 hx4).next (G8 w4 O));clear ho4 ht4 hx4 C2 P3;unfold rpV;go_wp2_with fail;refine(G6 CA _ (G6 P4 _).x).mono ?_;rintro e w5 ⟨a5,c5,rfl,_,hb5⟩;have P5:=G7 ((G6 P4 _).next hb5);clear hb5 CA P4;go_wp2_with fail;go_ret;exact⟨rfl,(G6 P5).b⟩
theorem A53(x:Rs)(j:Nat)(v:FW)(h:(JY x)[j]?=G5 v):((j=2\/j=3)/\∃s,v=.string s)\/(j=11/\∃a n c,v=FT a n c)\/((j≠2/\j≠3/\j≠11)/\∃n,v=I0 n):=by
 have hj:j<12:=(AU.1 h).1;rcases BB4 j hj with rfl|rfl|rfl|rfl|rfl|rfl|rfl|rfl|rfl|rfl|rfl|rfl<;>
  (simp only[JY,List.getElem?_cons_succ,List.getElem?_cons_zero,BD]at h;subst h;simp)
theorem CD5(j:Nat)(v:FW)(h:(JY rs0)[j]?=G5 v):v=I0 0\/v=.string ⟨#[]⟩\/v=N0:=by
 have hj:j<12:=(AU.1 h).1;rcases BB4 j hj with rfl|rfl|rfl|rfl|rfl|rfl|rfl|rfl|rfl|rfl|rfl|rfl<;>
  (simp only[JY,List.getElem?_cons_succ,List.getElem?_cons_zero,BD]at h;subst h;first|exact .inl rfl|exact .inr (.inl rfl)|exact .inr (.inr rfl))
def A54(W:FV)(g:Nat)(rs:List Rs)(m:Nat):Prop:=W.heap[g]?=G5 (FU (GH (rs++List.replicate m rs0)).toArray 34 (0,0))
section
variable {W:FV} {g m:Nat} {rs:List Rs}
theorem iE(hb:A54 W g rs m)(h:W.cell? ⟨g,P,FZ⟩=G5 v):∃x,(JY x)[P%12]?=G5 v/\(rs.length*12<=P->x=rs0):=by
 unfold A54 at hb;have h:(GH (rs++List.replicate m rs0))[P]?=G5 v:=by simpa [AV,hb]using h
 cases hx:(rs++List.replicate m rs0)[P/12]? with
 |none=>rw[BB5 _ _ hx]at h;cases h
 |some x=>
  rw[CP8 _ _ x hx]at h;refine⟨x,h,fun hl=>?_⟩;rw[List.getElem?_append_right (by omega)]at hx;exact(List.mem_replicate.1 (AZ hx)).2
theorem rY(hb:A54 W g rs m)(h:W.cell? ⟨g,P,FZ⟩=G5 v)(h0:v≠I0 0)(h1:v≠ .string ⟨#[]⟩)(h2:v≠N0):P<rs.length*12:=by
 obtain⟨x,hx,hz⟩:=iE hb h;by_cases hl:rs.length*12<=P
 .rw[hz hl]at hx;rcases CD5 _ _ hx with e|e|e
  .exact absurd e h0
  .exact absurd e h1
  .exact absurd e h2
 .omega
theorem ZF(hb:A54 W g rs m){s:ByteArray}(h:W.cell? ⟨g,P,FZ⟩=G5 (.string s)):P%12=2\/P%12=3:=by
 obtain⟨x,hx,_⟩:=iE hb h;rcases A53 _ _ _ hx with⟨e,_⟩|⟨_,_,_,_,e⟩|⟨_,_,e⟩
 .exact e
 .cases e
 .cases e
theorem CD6(hb:A54 W g rs m){n:Int}(h:W.cell? ⟨g,P,FZ⟩=G5 (I0 n)):P%12≠2/\P%12≠3/\P%12≠11:=by
 obtain⟨x,hx,_⟩:=iE hb h;rcases A53 _ _ _ hx with⟨_,_,e⟩|⟨_,_,_,_,e⟩|⟨e,_⟩
 .cases e
 .cases e
 .exact e
theorem BT9(hb:A54 W g rs m){b:Bool}(h:W.cell? ⟨g,P,FZ⟩=G5 (.bool b)):False:=by
 obtain⟨x,hx,_⟩:=iE hb h;rcases A53 _ _ _ hx with⟨_,_,e⟩|⟨_,_,_,_,e⟩|⟨_,_,e⟩<;>cases e
end
def yB{α:Type}[Lay α](g o:Nat)(v:FW)(xs:List α):Prop:=∀off n c,v=FT (G5 ⟨g,off,FZ⟩) n c->∀j,j<(GH xs).length->off+j<o
theorem CQ1[Lay α]{xs:List α}(h:IE W (FT (G5 ⟨b,off,FZ⟩) n c) xs){u:FW}(hj:(GH xs)[j]?=G5 u):W.cell? ⟨b,off+j,FZ⟩=G5 u:=by
 rcases h with⟨_,_,_,rfl,_⟩|⟨b',off',cap,e,_,_,_,_,hr⟩
 .simp[GH]at hj
 .simp only[AP,BD,Addr.mk.injEq,and_true]at e;obtain⟨⟨rfl,rfl⟩,_,_⟩:=e;exact hr j u hj
theorem VI[Lay α]{xs:List α}(h:IE W (FT (G5 ⟨b,off,FZ⟩) n c) xs){x:α}(hx:xs[i]?=G5 x)(hq:q<Lay.k α){u:FW}(hu:(Lay.cs x)[q]?=G5 u):W.cell? ⟨b,off+(i*Lay.k α+q),FZ⟩=G5 u:=
 CQ1 h ((GV xs i x hx q hq).trans hu)
theorem oN[Lay α]{xs:List α}(hk:0<Lay.k α)(hj:j<(GH xs).length):∃x,xs[j/Lay.k α]?=G5 x/\x∈xs:=by
 rw[GN]at hj;have:j/Lay.k α<xs.length:=(Nat.div_lt_iff_lt_mul hk).2 hj;exact⟨_,AL this,List.getElem_mem _⟩
theorem BY3{l:List UInt8}(h:l≠[]):S0 l≠ .string ⟨#[]⟩:=fun e=>by
 simp only[Value.string.injEq,ByteArray.mk.injEq]at e;exact h (by simpa using congrArg Array.toList e)
section
variable {W:FV} {g m:Nat} {rs:List Rs} {v:FW}
theorem AQ3(hb:A54 W g rs m){ss:List Int}(h:IE W v ss)(h0:∀s∈ss,s≠0):yB g (rs.length*12) v ss:=by
 rintro off n c rfl j hj;obtain⟨x,hx,hm⟩:=oN (α:=Int) (by decide) hj;have:=VI h hx (q:=0) (by decide) rfl;have e:off+(j/Lay.k Int*Lay.k Int+0)=off+j:=by show off+(j/1*1+0)=_;omega
 rw[e]at this;exact rY hb this (by simpa using h0 x hm) (by simp) (by simp)
theorem A55(hb:A54 W g rs m){ns:List Nd}(h:IE W v ns)(h0:∀x∈ns,x.p≠[]):yB g (rs.length*12) v ns:=by
 rintro off n c rfl j hj;obtain⟨x,hx,hm⟩:=oN (α:=Nd) (by decide) hj;have a0:=VI h hx (q:=0) (u:=S0 x.p) (by decide) rfl;have a1:=VI h hx (q:=1) (u:=S0 x.d) (by decide) rfl;have u:=rY hb a0 (by simp) (BY3 (h0 x hm)) (by simp);have k0:=ZF hb a0;have k1:=ZF hb a1;simp only[show Lay.k Nd=9 from rfl]at u k0 k1;omega
theorem AQ4(hb:A54 W g rs m){ws:List Wa}(h:IE W v ws)(h0:∀x∈ws,x.p≠[]):yB g (rs.length*12) v ws:=by
 rintro off n c rfl j hj;obtain⟨x,hx,hm⟩:=oN (α:=Wa) (by decide) hj;have a0:=VI h hx (q:=2) (u:=S0 x.p) (by decide) rfl;have u:=rY hb a0 (by simp) (BY3 (h0 x hm)) (by simp);simp only[show Lay.k Wa=3 from rfl]at u;omega
theorem yC(hb:A54 W g rs m){ts:List GK}(h:IE W v ts)(o:Nat):yB g o v ts:=by
 rintro off n c rfl j hj;exfalso;obtain⟨x,hx,_⟩:=oN (α:=GK) (by decide) hj;have a0:=CD6 hb (VI h hx (q:=0) (u:=I0 x.z) (by decide) rfl);have a3:=ZF hb (VI h hx (q:=3) (u:=S0 x.p) (by decide) rfl);have a4:=ZF hb (VI h hx (q:=4) (u:=S0 x.d) (by decide) rfl);omega
theorem AQ5(hb:A54 W g rs m){fs:List DF}(h:IE W v fs)(o:Nat):yB g o v fs:=by
 rintro off n c rfl j hj;exfalso;obtain⟨x,hx,_⟩:=oN (α:=DF) (by decide) hj;have a0:=ZF hb (VI h hx (q:=0) (u:=S0 x.n) (by decide) rfl);have a1:=ZF hb (VI h hx (q:=1) (u:=S0 x.s) (by decide) rfl);have a2:=ZF hb (VI h hx (q:=2) (u:=S0 x.t) (by decide) rfl);omega
theorem AQ6(hb:A54 W g rs m){es:List En}(h:IE W v es)(o:Nat):yB g o v es:=by
 rintro off n c rfl j hj;exfalso;obtain⟨x,hx,_⟩:=oN (α:=En) (by decide) hj;exact BT9 hb (VI h hx (q:=2) (u:=.bool x.t) (by decide) rfl)
theorem CD7[Lay α]{xs:List α}{vs:List FW}(hb:A54 W g rs m)(hm:1<=m)(hl:vs.length=12)(h:IE W v xs)(hd:yB g (rs.length*12) v xs):IE (W.setCells g (rs.length*12) vs) v xs:=by
 have hg:=H8 (g:=g) vs (rs.length*12) W;rcases h with h|⟨b,off,cap,rfl,h1,h2,h3,h0,h4⟩
 .exact .inl h
 .refine .inr ⟨b,off,cap,rfl,h1,h2,AX h3 hg.size,h0,fun j u hj=>?_⟩;have hold:=h4 j u hj;by_cases e:b=g
  .subst e;have hlt:=hd off xs.length cap rfl j (AU.1 hj).1;unfold A54 at hb;have hlen:(GH (rs++List.replicate m rs0)).length=(rs.length+m)*12:=by rw[GN];show _*12=_;simp
   have hB:=MC vs (rs.length*12) W _ hb (by rw[hlen,hl];omega);have hold:(GH (rs++List.replicate m rs0))[off+j]?=G5 u:=by simpa [AV,hb]using hold
   simp only[AV,hB,List.getElem?_toArray];rw[BR,BK (by rw[F7,hlen];omega),List.getElem?_take_of_lt hlt];exact hold
  .rw[AV,hg.block b h3 (by simpa using e)];exact hold
end
theorem BU0(h:RS p)(hi:i<3):(∀n∈(svP i (p.s i)).tr.ns,n.p≠[])/\(∀s∈(svP i (p.s i)).tr.ss,s≠0)/\∀x∈(svP i (p.s i)).ws,x.p≠[]:=by
 have ok:=h.s i hi;have ne:∀ {q:List UInt8},J4 q=true->q≠[]:=fun hq e=>by
  obtain⟨r,hr⟩:=YQ hq;rw[hr]at e
  cases e
 by_cases hu:(p.s i).up=true
 .have g:=ok.play.good ok.dn;rw[IZ hu];exact⟨fun n hn=>ne (g.nod.ok n hn).path,fun s hs=>by have:=g.ses.2 s hs;omega,fun x hx=>ne (ok.wk x hx).2.2.2⟩
 .rw[TI (by simpa using hu)];exact⟨fun n hn=>by
   have e:n=tC:=by simpa [QI]using hn
   rw[e];decide,fun s hs=>by simp[QI]at hs,fun x hx=>by simp at hx⟩
theorem WX.rep{rs:List Rs}{vs:List FW}(h:WX W k p)(hw:RS p)(hk:k≠g)(hb:A54 W g rs m)(hm:1<=m)(hl:vs.length=12):WX (W.setCells g (rs.length*12) vs) k p:=by
 have hg:=H8 (g:=g) vs (rs.length*12) W;have ht:Touch (· =g) W (W.setCells g (rs.length*12) vs):=Touch.RG hg (fun q e=>by simpa using e.symm);obtain⟨f,hB,hr⟩:=h;have far:∀ {α:Type} [Lay α] {v:FW} {xs:List α},Row W k v xs->yB g (rs.length*12) v xs->Row (W.setCells g (rs.length*12) vs) k v xs:=fun h ha=>⟨CD7 hb hm hl h.1 ha,h.2⟩;refine⟨f,hB.touch ht hk,hr.n,fun i hi=>?_,hr.r,fun i hi=>⟨(hr.c i hi).s,(hr.c i hi).z,far (hr.c i hi).e (AQ6 hb (hr.c i hi).e.1 _)⟩,far hr.d (yC hb hr.d.1 _),hr.h,hr.hk⟩;have s:=hr.s i hi;obtain⟨f1,f2,f3⟩:=BU0 hw hi;exact⟨s.up,far s.d (AQ5 hb s.d.1 _),s.id,s.ep,far s.l (yC hb s.l.1 _),s.dn,s.z,far s.n (A55 hb s.n.1 f1),far s.i (AQ3 hb s.i.1 f2),far s.w (AQ4 hb s.w.1 f3)⟩
structure AppR(W V:FV)(v u:FW)(rs:List Rs)(t:Rs):Prop where
 z:AF2 V u (rs++[t])
 o:(∃g cap,v=FT (G5 ⟨g,0,FZ⟩) rs.length cap/\rs.length<cap/\u.ownBlock=G5 g/\V=W.setCells g (rs.length*12) (JY t))\/(B0 W V/\u.ownBlock=G5 W.heap.size)
theorem A56{w:FV}{ops:Array Oper}{rest:List Oper}{o:Oper}{a:Act}{Q:Exit->Act->FV->Prop}(hgd:o.guard=FZ)(s x:Operand)
  (ho:o.op=.call {callee:=.builtin .append,args:=#[s,x],argTypes:=#[25,25]})
  (v:FW) (rs:List Rs) (hs:a.eval s=v) (h:AF2 w v rs) (q:Nat) (hx:a.eval x=FT (G5 ⟨q,0,FZ⟩) 1 1) (t:Rs) (ht:JM w q t) (hl:rs.length<=300)
  (hK:∀u w',AppR w w' v u rs t->wpList prog ops Q rest (a.put o.dst u) w'):wpList prog ops Q (o::rest) a w:=by
 refine wpList_plain hgd fun K hK'=>?_;obtain⟨u,w',hr,h2,h3⟩:=A52 w o.type v rs t q h ht hl;unfold Oper.wp execOp;simp only[ho,resolve,invoke,builtin,DY,EN,EC,List.map_toArray,List.map_cons,List.map_nil,hs,hx,hr];exact hK' _ _ (hK u w' ⟨h2,h3⟩)
structure RnI(W V:FV)(k:Nat)(p:Pw)(v:FW)(rs:List Rs):Prop where
 x:WX V k p
 t:Z5 V
 b:B0 W V
 kl:W.heap.size<=k
 z:AF2 V v rs
 zk:∀g,v.ownBlock=G5 g->k<g
 n:∀x∈rs,H7 V (k+1) (FT x.a x.r.ns.length x.c) x.r.ns
section
variable {W V U:FV} {k:Nat} {p q:Pw} {v u:FW} {rs:List Rs} {t:Rs}
theorem RnI.next(h:RnI W V k p v rs)(hb:B0 V U):RnI W U k p v rs:=⟨h.x.next hb,h.t.next hb,G9 h.b hb,h.kl,h.z.next hb,h.zk,fun x hx=>(h.n x hx).next hb⟩
theorem RnI.turn(h:RnI W V k p v rs)(ht:Touch (· =k) V U)(hx:WX U k q):RnI W U k q v rs:=by
 have hk:=h.kl;refine⟨hx,bC h.t h.x ht,⟨ht.os.trans h.b.os,ht.tape.trans h.b.tape,ht.output.trans h.b.output,BN h.b.size ht.size,fun b hb=>(ht.block b (AX hb h.b.size) (by omega)).trans (h.b.block b hb)⟩,hk,h.z.touch ht (fun g hg=>by have:=h.zk g hg;omega),h.zk,fun x hx=>JZ (h.n x hx) ht (fun b hb=>by have:=PI (h.n x hx) hb;omega)⟩
theorem RnI.app(h:RnI W V k p v rs)(hT:Z5 W)(hw:RS p)(hn:H7 V (k+1) (FT t.a t.r.ns.length t.c) t.r.ns)(ha:AppR V U v u rs t):RnI W U k p u (rs++[t]):=by
 have hx:=h.x.lt;have hk:=h.kl;have hall:∀x∈rs++[t],H7 V (k+1) (FT x.a x.r.ns.length x.c) x.r.ns:=fun x hx=>by
  rcases List.mem_append.1 hx with hx|hx
  .exact h.n x hx
  .rw[List.mem_singleton.1 hx];exact hn
 rcases ha.o with⟨g,cap,e,hc,eu,rfl⟩|⟨hb,eu⟩
 .have hg:=h.zk g (by rw[e];rfl);have ht:Touch (· =g) V (V.setCells g (rs.length*12) (JY t)):=Touch.RG (H8 _ _ _) (fun q e=>by simpa using e.symm);rcases h.z with⟨e',_⟩|⟨g',cap',e',h1,h2,h3⟩
  .rw[e']at e;cases e
  .rw[e']at e;simp only[AP,BD,Addr.mk.injEq,and_true,true_and]at e;obtain⟨rfl,rfl⟩:=e;have htab:=A20 hT;refine⟨h.x.rep hw (by omega) h3 (by omega) rfl,h.t.touch ht (by omega),h.b.trans (ht.below (BN hk (Nat.le_of_lt hx)) (fun q e=>by omega)),hk,ha.z,fun q hq=>by rw[eu]at hq;cases hq;exact hg,fun x hx=>JZ (hall x hx) ht (fun b hb e=>?_)⟩;exact UY (hall x hx) h3 (by decide) (by rw[hb,e])
 .exact⟨h.x.next hb,h.t.next hb,G9 h.b hb,hk,ha.z,fun q hq=>by rw[eu]at hq;cases hq;exact hx,fun x hx=>(hall x hx).next hb⟩
end
theorem AQ7(h:JM V g d):V.cell? ⟨g,0,FZ⟩=G5 (I0 d.k)/\V.cell? ⟨g,1,FZ⟩=G5 (I0 d.c)/\V.cell? ⟨g,2,FZ⟩=G5 (I0 d.s)/\V.cell? ⟨g,3,FZ⟩=G5 (I0 d.q.o)/\V.cell? ⟨g,4,FZ⟩=G5 (I0 d.q.s)/\V.cell? ⟨g,5,FZ⟩=G5 (S0 d.q.p)/\V.cell? ⟨g,6,FZ⟩=G5 (S0 d.q.d)/\V.cell? ⟨g,7,FZ⟩=G5 (I0 d.q.v)/\V.cell? ⟨g,8,FZ⟩=G5 (I0 d.q.f)/\V.cell? ⟨g,9,FZ⟩=G5 (I0 d.lo)/\V.cell? ⟨g,10,FZ⟩=G5 (I0 d.sl)/\V.cell? ⟨g,11,FZ⟩=G5 (I0 d.ke)/\V.cell? ⟨g,12,FZ⟩=G5 (.bool d.wt):=by
 have e:=h.row;simp only[BI]at e;exact⟨e 0 _ rfl,e 1 _ rfl,e 2 _ rfl,e 3 _ rfl,e 4 _ rfl,e 5 _ rfl,e 6 _ rfl,e 7 _ rfl,e 8 _ rfl,e 9 _ rfl,e 10 _ rfl,e 11 _ rfl,e 12 _ rfl⟩
theorem BC3(ds:List Dd)(v:FW)(W:FV)(hv:IE W v ds)(hl:ds.length<=300)(hm:∀d∈ds,d.q.p.length<=140737488355328/\d.q.d.length<=140737488355328)(hT:Z5 W):
  FX prog 7 #[v] W fun e w'=>∃u k rs,e=.returned (.tuple #[u,I0 0])/\RnI W w' k (Y9 (pw0 k) ds) u rs/\rs.map Rs.r=SY (pw0 k) ds:=by
 have HV:Hid (∀V k p u rs,RnI W V k p u rs->IE V v ds):=G7 fun V k p u rs h=>hv.next h.b;have HM:=G7 hm;have HT:=G7 hT;have CN:=G7 (fun V=>BB8 V);have HW:Hid (∀V,B0 W V->∀U,B0 V U->WX U V.heap.size (pw0 V.heap.size)->RnI W U V.heap.size (Y9 (pw0 V.heap.size) []) (N0) []):=G7 fun V hV U hU hx=>⟨hx,(hT.next hV).next hU,G9 hV hU,hV.size,.inl ⟨rfl,rfl⟩,fun g hg=>by simp[Value.ownBlock]at hg,fun x hx=>by simp at hx⟩;have HB:=G7 (AA W.heap.size W);obtain⟨va,vc,rfl⟩:=GL hv;have hl3:¬ (300<(ds.length:Int)):=by omega
 clear hv hm hT;go_enter func7,ntmps7;go_wp2_with fail;refine(G6 CN _).mono ?_;rintro e w2 ⟨rfl,hx2,hb2⟩;have H0:=G7 (G6 HW _ (G6 HB) _ hb2 hx2);clear hb2 hx2 CN HW HB hl3;generalize W.heap.size=k at H0⊢;unfold wP;go_wp2_with fail
 go_loopg [5,14] ds.length (fun kx u5 s14 wr=>∃ (i:Nat) (rs:List Rs),s14=I0 i/\i<=ds.length/\ds.length-i<=kx/\Hid (RnI W wr k (Y9 (pw0 k) (ds.take i)) u5 rs/\rs.map Rs.r=SY (pw0 k) (ds.take i)))
 case atStart=>exact⟨0,[],rfl,by omega,by omega,G7 ⟨G6 H0,rfl⟩⟩
 case round=>
  obtain⟨i,rs,rfl,hi,hg,HI⟩:=hrel;clear H0;by_cases hlt:i<ds.length
  .have hl1:(i:Int)<(ds.length:Int):=by omega
   obtain⟨d,hd⟩:∃d,ds[i]?=G5 d:=⟨_,AL hlt⟩;obtain⟨b,off,cap,he,hb,_,_,_,_⟩:=o7 (G6 HV _ _ _ _ _ (G6 HI).1) hd;simp only[AP,true_and]at he;obtain⟨rfl,rfl⟩:=he;obtain⟨⟨e0,e1,e2,e3,e4,e5,e6⟩,e7,e8,e9,e10,e11,e12⟩:=CQ0 (G6 HV _ _ _ _ _ (G6 HI).1) hd;have hmd:=G6 HM d (AZ hd);have HTK:=G7 (show ds.take (i+1)=ds.take i++[d] by rw[List.take_add_one,hd];rfl);have HS:=G7 (BC0 (pw0 k) hd);clear hd hb;go_upto_region 8 with fail;have R1:Hid (JM (wr.alloc (FU #[I0 d.k,I0 d.c,I0 d.s,I0 d.q.o,I0 d.q.s,S0 d.q.p,S0 d.q.d,I0 d.q.v,I0 d.q.f,I0 d.lo,I0 d.sl,I0 d.ke,.bool d.wt] 43)) wr.heap.size d):=G7 (heap_alloc_last _ _);have H1:=G7 ((G6 HI).1.next (G8 wr (FU #[I0 d.k,I0 d.c,I0 d.s,I0 d.q.o,I0 d.q.s,S0 d.q.p,S0 d.q.d,I0 d.q.v,I0 d.q.f,I0 d.lo,I0 d.sl,I0 d.ke,.bool d.wt] 43)));have hR:=G7 (G6 HI).2;clear e0 e1 e2 e3 e4 e5 e6 e7 e8 e9 e10 e11 e12 HI;generalize wr.alloc _=W1 at*;generalize wr.heap.size=q1 at*;obtain⟨f0,f1,f2,f3,f4,f5,f6,f7,f8,f9,f10,f11,f12⟩:=AQ7 (G6 R1);have CD:=G7 (BB3 (Y9 (pw0 k) (ds.take i)) d k W1 (G6 H1).x (BY2 _ _) (G6 H1).t (kQ _ _ (XZ k)) hmd.1 hmd.2);have hk1:=G7 ((G6 H1).x.lt);clear hmd R1;unfold wP ddV at CD;have hp0:=G7 (kQ (ds.take i) _ (XZ k));generalize hx0:doP (Y9 (pw0 k) (ds.take i)) d=x0 at*;obtain⟨r,y⟩:=x0;have hx0:=G7 hx0;simp only at HS;go_wp2_with fail;refine(G6 CD).mono ?_;rintro e w3 ⟨u,rfl,ho,ht,hx⟩;obtain⟨na,nc,rfl⟩:=IU ho;have H3:=G7 ((G6 H1).turn ht hx);have O3:=G7 (ho.lower (C:=k+1) (G6 hk1));clear CD H1 hx ho ht f0 f1 f2 f3 f4 f5 f6 f7 f8 f9 f10 f11 f12;unfold rpV;have HQ:Hid (JM (w3.alloc (FU #[I0 r.E,I0 r.z,S0 r.p,S0 r.d,I0 r.t.c,I0 r.t.m,I0 r.t.q,I0 r.t.v,I0 r.t.k,I0 r.t.o,I0 r.t.n,FT na r.ns.length nc] 34)) w3.heap.size (⟨r,na,nc⟩:Rs)):=G7 (heap_alloc_last _ _);have H4:=G7 ((G6 H3).next (G8 w3 (FU #[I0 r.E,I0 r.z,S0 r.p,S0 r.d,I0 r.t.c,I0 r.t.m,I0 r.t.q,I0 r.t.v,I0 r.t.k,I0 r.t.o,I0 r.t.n,FT na r.ns.length nc] 34)));have O4:=G7 ((G6 O3).next (G8 w3 (FU #[I0 r.E,I0 r.z,S0 r.p,S0 r.d,I0 r.t.c,I0 r.t.m,I0 r.t.q,I0 r.t.v,I0 r.t.k,I0 r.t.o,I0 r.t.n,FT na r.ns.length nc] 34)));have hlr:rs.length<=300:=by
    have:=congrArg List.length (G6 hR);rw[EH,gW,F7]at this;omega
   have hy:Hid (RS y):=G7 (by have:=kP d (G6 hp0);rw[G6 hx0]at this;exact this);clear H3 O3;go_wp2_with (at_builtin;refine A56 rfl _ _ rfl u5 rs rfl (G6 H4).z w3.heap.size rfl ⟨r,na,nc⟩ (G6 HQ) hlr ?_);intro u6 w5 hA;have H5:=G7 ((G6 H4).app (G6 HT) (G6 hy) (G6 O4) hA);clear hA H4 HQ O4;go_wp2_with fail
   go_roundg (ds.length-(i+1))
   case measure=>omega
   case rel=>
    refine⟨i+1,rs++[⟨r,na,nc⟩],by simp,by omega,A8 _,G7 ⟨?_,?_⟩⟩
    .rw[G6 HS];exact G6 H5
    .rw[G6 HTK,xB,G6 hx0,List.map_append,G6 hR];rfl
  .obtain rfl:i=ds.length:=by omega
   rw[List.take_length]at HI;have HF:=HI;clear HI;go_wp2_with fail;exact bodyPost_ret (v:=.tuple #[u5,I0 0]) (by simp[results,results7,go_sem]) rfl ⟨u5,k,rs,rfl,(G6 HF).1,(G6 HF).2⟩
theorem bH[Lay α]{w:FV}{xs:List α}(hv:IE w v xs):∀W,B0 w W->∀ (i:Nat) (x:α),xs[i]?=G5 x->∃b off c,v=FT (G5 ⟨b,off,FZ⟩) xs.length c/\b<w.heap.size/\∀ (j:Nat) (u:FW),j<Lay.k α->(Lay.cs x)[j]?=G5 u->W.cell? ⟨b,off+i*Lay.k α+j,FZ⟩=G5 u:=by
 intro W hW i x hx;obtain⟨b,off,c,e,hb,hr,_,_⟩:=N8 hv (by intro h0;rw[h0]at hx;simp at hx);refine⟨b,off,c,e,hb,fun j u hj hu=>?_⟩;have:=hr.kept hW hb (i*Lay.k α+j) u ((GV xs i x hx j hj).trans hu);rwa[<-EJ]at this
structure SS(w W:FV)(up:Bool)(vd:FW)(id ep:Int)(vl:FW)(dn z:Int)(vn vs vw ud ul un us uw:FW):Prop where
 a:IJ W w.heap.size up vd id ep vl dn z vn vs vw
 b:IJ W (w.heap.size+1) up ud id ep ul dn z un us uw
 bl:B0 w W
section
variable {w W V:FV} {up:Bool} {id ep dn z:Int} {vd vl vn vs vw ud ul un us uw:FW}
theorem SS.next(h:SS w W up vd id ep vl dn z vn vs vw ud ul un us uw)(hb:B0 W V):SS w V up vd id ep vl dn z vn vs vw ud ul un us uw:=⟨h.a.next hb,h.b.next hb,G9 h.bl hb⟩
end
theorem AQ8(r:Rp)(v1 v2:FW)(w:FV)(hl:r.ns.length<=9223372036854775807)(h1:IE w v1 r.ns)(h2:IE w v2 r.ns):
  FX prog 8 #[rpV r v1,rpV r v2] w (R0 w (.bool true)):=by
 have K1:=G7 (bH h1);have K2:=G7 (bH h2);obtain⟨a1,c1,rfl⟩:=GL h1;obtain⟨a2,c2,rfl⟩:=GL h2;have BL:=G7 (G9 (G8 w (FU #[I0 r.E,I0 r.z,S0 r.p,S0 r.d,I0 r.t.c,I0 r.t.m,I0 r.t.q,I0 r.t.v,I0 r.t.k,I0 r.t.o,I0 r.t.n,FT a1 r.ns.length c1] 34)) (G8 _ (FU #[I0 r.E,I0 r.z,S0 r.p,S0 r.d,I0 r.t.c,I0 r.t.m,I0 r.t.q,I0 r.t.v,I0 r.t.k,I0 r.t.o,I0 r.t.n,FT a2 r.ns.length c2] 34)));have R1:Hid (RpX ((w.alloc (FU #[I0 r.E,I0 r.z,S0 r.p,S0 r.d,I0 r.t.c,I0 r.t.m,I0 r.t.q,I0 r.t.v,I0 r.t.k,I0 r.t.o,I0 r.t.n,FT a1 r.ns.length c1] 34)).alloc (FU #[I0 r.E,I0 r.z,S0 r.p,S0 r.d,I0 r.t.c,I0 r.t.m,I0 r.t.q,I0 r.t.v,I0 r.t.k,I0 r.t.o,I0 r.t.n,FT a2 r.ns.length c2] 34)) w.heap.size r (FT a1 r.ns.length c1)):=G7 (((G8 _ _).block _ (by simp)).trans (heap_alloc_last _ _));have R2:Hid (RpX ((w.alloc (FU #[I0 r.E,I0 r.z,S0 r.p,S0 r.d,I0 r.t.c,I0 r.t.m,I0 r.t.q,I0 r.t.v,I0 r.t.k,I0 r.t.o,I0 r.t.n,FT a1 r.ns.length c1] 34)).alloc (FU #[I0 r.E,I0 r.z,S0 r.p,S0 r.d,I0 r.t.c,I0 r.t.m,I0 r.t.q,I0 r.t.v,I0 r.t.k,I0 r.t.o,I0 r.t.n,FT a2 r.ns.length c2] 34)) (w.heap.size+1) r (FT a2 r.ns.length c2)):=G7 (by
  have h:=heap_alloc_last (w.alloc (FU #[I0 r.E,I0 r.z,S0 r.p,S0 r.d,I0 r.t.c,I0 r.t.m,I0 r.t.q,I0 r.t.v,I0 r.t.k,I0 r.t.o,I0 r.t.n,FT a1 r.ns.length c1] 34)) (FU #[I0 r.E,I0 r.z,S0 r.p,S0 r.d,I0 r.t.c,I0 r.t.m,I0 r.t.q,I0 r.t.v,I0 r.t.k,I0 r.t.o,I0 r.t.n,FT a2 r.ns.length c2] 34);rwa[show (w.alloc (FU #[I0 r.E,I0 r.z,S0 r.p,S0 r.d,I0 r.t.c,I0 r.t.m,I0 r.t.q,I0 r.t.v,I0 r.t.k,I0 r.t.o,I0 r.t.n,FT a1 r.ns.length c1] 34)).heap.size=w.heap.size+1 by simp]at h)
 clear h1 h2;unfold rpV;go_enter func8,ntmps8;go_upto_region 1 with fail;generalize ((w.alloc _).alloc _)=W0 at*;obtain⟨x0,x1,x2,x3,x4,x5,x6,x7,x8,x9,x10,x11⟩:=(G6 R1).cells;obtain⟨y0,y1,y2,y3,y4,y5,y6,y7,y8,y9,y10,y11⟩:=(G6 R2).cells;go_wp2_with fail;clear x0 x1 x2 x3 x4 x5 x6 x7 x8 x9 x10 x11 y0 y1 y2 y3 y4 y5 y6 y7 y8 y9 y10 y11
 go_loopg [5] r.ns.length (fun kx s5 wr=>∃i:Nat,s5=I0 i/\i<=r.ns.length/\r.ns.length-i<=kx/\Hid (RpX wr w.heap.size r (FT a1 r.ns.length c1)/\RpX wr (w.heap.size+1) r (FT a2 r.ns.length c2)/\B0 w wr))
 case atStart=>exact⟨0,rfl,AY _,A8 _,G7 ⟨G6 R1,G6 R2,G6 BL⟩⟩
 case round=>
  obtain⟨i,rfl,hi,hg,HS⟩:=hrel;clear R1 R2 BL;obtain⟨_,_,_,_,_,_,_,_,_,_,_,x11⟩:=(G6 HS).1.cells;obtain⟨_,_,_,_,_,_,_,_,_,_,_,y11⟩:=(G6 HS).2.1.cells;have hsz:=(G6 HS).2.2.size;by_cases hlt:i<r.ns.length
  .obtain⟨x,hx⟩:∃x,r.ns[i]?=G5 x:=⟨_,AL hlt⟩;have C16:(i:Int)<(r.ns.length:Int):=by omega
   obtain⟨b1,o1,cc1,he,hb1,q1⟩:=G6 K1 wr (G6 HS).2.2 i x hx;simp only[AP]at he;obtain⟨rfl,_,rfl⟩:=he;obtain⟨b2,o2,cc2,he,hb2,q2⟩:=G6 K2 wr (G6 HS).2.2 i x hx;simp only[AP]at he;obtain⟨rfl,_,rfl⟩:=he;have d0:=q1 0 _ (by decide) rfl;have d1:=q1 1 _ (by decide) rfl;have d2:=q1 2 _ (by decide) rfl;have e0:=q2 0 _ (by decide) rfl;have e1:=q2 1 _ (by decide) rfl;have e2:=q2 2 _ (by decide) rfl;have HB:=G7 (And.intro hb1 hb2);clear q1 q2 hx hb1 hb2;simp only[Lay.k,Nat.add_zero]at d0 d1 d2 e0 e1 e2;go_wp2_with fail;go_region;go_wp2_with fail
   go_roundg (r.ns.length-(i+1))
   case measure=>omega
   case rel=>exact⟨i+1,by simp,by omega,A8 _,G7 ⟨(G6 HS).1,(G6 HS).2.1,G9 (G6 HS).2.2 (AA _ _).drew⟩⟩
  .obtain rfl:i=r.ns.length:=by omega
   go_wp2_with fail;go_ret;exact⟨rfl,(G6 HS).2.2⟩
theorem A57(k n:Int)(hn:0<n):k.tmod n=k%n\/k.tmod n=k%n-n:=by
 rw[Int.tmod_eq_emod]
 split
 .left;omega
 .right;omega
theorem BC4{a b:Int}(h:a=b):Ending.returned (I0 a)=.returned (I0 b):=by rw[h]
theorem BC5(k n:Int)(w:FV)(hn:0<n)(hn1:n<=1048576)(hk: -9223372036854775808<=k)(hk1:k<=9223372036854775807):
  FX prog 6 #[I0 k,I0 n] w fun e w'=>e=.returned (I0 (k%n))/\w'=w:=by
 have hm1:=Int.emod_nonneg k (show n≠0 by omega);have hm2:=Int.emod_lt_of_pos k hn;by_cases h0:0<=k
 .go_enter func6,ntmps6
  go_wp2
  go_ret;exact⟨rfl,rfl⟩
 .have HT:=G7 (A57 k n hn);go_enter func6,ntmps6
  go_wp2
  all_goals go_ret
  all_goals refine⟨BC4 ?_,rfl⟩
  all_goals (have hT:=G6 HT;clear HT;first|omega|(unfold wrap64;omega))
def CW7:Dd:=⟨0,0,0,⟨0,0,[],[],0,0⟩,0,0,0,false⟩
theorem CD8:(prog.info? 43).map (fun i=>(i.zero,i.size,i.bytes))=G5 (G5 (.agg (dA CW7).toArray),13,120):=by kernel_rfl
theorem CQ2:∃i0,prog.info? 43=G5 i0/\i0.zero=G5 (.agg (dA CW7).toArray)/\i0.size=13/\i0.bytes=120:=by
 obtain⟨i0,h,e⟩:=FM.1 CD8;simp only[Prod.mk.injEq]at e;exact⟨i0,h,e⟩
theorem BC6(W:FV)(ty:TypeId)(v:FW)(ds:List Dd)(hv:IE W v ds)(hl:ds.length<=300):
  ∃a' c' W',(Builtin.append_ #[22,22] ty #[N0,v]).run prog W=.ok (FT a' ds.length c') W'/\IE W' (FT a' ds.length c') ds/\B0 W W':=by
 obtain⟨i0,hi0,hz0,hz1,hz2⟩:=CQ2;rcases hv with⟨a,cap,rfl,rfl,_⟩|⟨b,off,cap,rfl,h1,h2,h3,h0,h4⟩
 .refine⟨FZ,0,W,?_,IE.nil W,AA _ _⟩
  cases a<;>simp[Builtin.append_,run_underlying underlying22,sizeOf,typeInfo,hi0,Builtin.lenOf,Builtin.firstCells,loadCells,loadCellsFrom]
 .have hsrc:Src prog i0.size 22 (FT (G5 ⟨b,off,FZ⟩) ds.length cap) ds.length (GH ds) W:=by
   rw[hz1];exact Src.ofSlice W underlying22 ⟨b,off,FZ⟩ _ _ _ (GN ds) (fun j u hj=>by rw[Addr.add_lit];exact h4 j u hj) (JF ds)
  have hne:0<ds.length:=List.length_pos_iff.2 h0;have hn:=nextslicecap_le (show 0<0+ds.length by omega);have hrun:=run_append_grow_src W 22 22 ty 43 i0 _ underlying22 hi0 hz0 FZ 0 0 [] (by simp[Builtin.firstCells]) _ ds.length (GH ds) hsrc (by omega) (by omega) (by rw[hz2];omega);have hge:=grownCap_ge W (0+ds.length) 0 43;rw[BI]at hrun hge;refine⟨_,_,_,hrun,.inr ⟨_,0,_,rfl,hge,grownCap_le_maxLen W ds.length 0 43 (by unfold maxLen;omega),by simp,h0,fun j u hj=>?_⟩,((AA _ W).drew).alloc (A8 _) _⟩;have hB:(W.drew.alloc (FU (([]++GH ds).toArray++BH (Value.agg (dA CW7).toArray).cells (grownCap W ds.length 0 43-ds.length)) 43)).heap[W.heap.size]?=_:=heap_alloc_new W.drew _;simp only[AV,hB];have hlt:=(AU.1 hj).1;simp only[Option.isSome_none,Bool.false_eq_true,if_false,BI,List.nil_append,Array.getElem?_append,List.size_toArray,hlt,if_true,List.getElem?_toArray];exact hj
theorem fE{w:FV}{ops:Array Oper}{rest:List Oper}{o:Oper}{a:Act}{Q:Exit->Act->FV->Prop}(hgd:o.guard=FZ)(s x:Operand)
  (ho:o.op=.call {callee:=.builtin .append,args:=#[s,x],argTypes:=#[22,22]})
  (v:FW) (ds:List Dd) (hs:a.eval s=N0) (hx:a.eval x=v) (hv:IE w v ds) (hl:ds.length<=300)
  (h:∀a' c' w',IE w' (FT a' ds.length c') ds->B0 w w'->wpList prog ops Q rest (a.put o.dst (FT a' ds.length c')) w'):wpList prog ops Q (o::rest) a w:=by
 refine wpList_plain hgd fun K hK=>?_;obtain⟨a',c',w',hr,h2,h3⟩:=BC6 w o.type v ds hv hl;unfold Oper.wp execOp;simp only[ho,resolve,invoke,builtin,DY,EN,EC,List.map_toArray,List.map_cons,List.map_nil,hs,hx,hr];exact hK _ _ (h a' c' w' h2 h3)
structure CE8(W V:FV)(v:FW)(rs:List Rs):Prop where
 b:B0 W V
 z:IE V v rs
 n:∀x∈rs,IE V (FT x.a x.r.ns.length x.c) x.r.ns
theorem CE8.next{rs:List Rs}(h:CE8 W V v rs)(hb:B0 V U):CE8 W U v rs:=⟨G9 h.b hb,h.z.next hb,fun x hx=>(h.n x hx).next hb⟩
theorem RnI.run{rs:List Rs}(h:RnI W V k p v rs)(hb:B0 U W):CE8 U V v rs:=⟨G9 hb h.b,h.z.seq,fun x hx=>(h.n x hx).seq⟩
theorem AF4{rs:List Rs}{x:Rs}(h:IE V (FT (G5 ⟨b,off,FZ⟩) n c) rs)(hx:rs[i]?=G5 x):V.cell? ⟨b,off+i*12,FZ⟩=G5 (I0 x.r.E)/\V.cell? ⟨b,off+i*12+1,FZ⟩=G5 (I0 x.r.z)/\V.cell? ⟨b,off+i*12+2,FZ⟩=G5 (S0 x.r.p)/\V.cell? ⟨b,off+i*12+3,FZ⟩=G5 (S0 x.r.d)/\V.cell? ⟨b,off+i*12+4,FZ⟩=G5 (I0 x.r.t.c)/\V.cell? ⟨b,off+i*12+5,FZ⟩=G5 (I0 x.r.t.m)/\V.cell? ⟨b,off+i*12+6,FZ⟩=G5 (I0 x.r.t.q)/\V.cell? ⟨b,off+i*12+7,FZ⟩=G5 (I0 x.r.t.v)/\V.cell? ⟨b,off+i*12+8,FZ⟩=G5 (I0 x.r.t.k)/\V.cell? ⟨b,off+i*12+9,FZ⟩=G5 (I0 x.r.t.o)/\V.cell? ⟨b,off+i*12+10,FZ⟩=G5 (I0 x.r.t.n)/\V.cell? ⟨b,off+i*12+11,FZ⟩=G5 (FT x.a x.r.ns.length x.c):=by
 have e:∀j u,j<12->(JY x)[j]?=G5 u->V.cell? ⟨b,off+i*12+j,FZ⟩=G5 u:=fun j u hj hu=>by
  have:=VI h hx (q:=j) hj hu;rwa[<-EJ]at this
 exact⟨e 0 _ (by decide) rfl,e 1 _ (by decide) rfl,e 2 _ (by decide) rfl,e 3 _ (by decide) rfl,e 4 _ (by decide) rfl,e 5 _ (by decide) rfl,e 6 _ (by decide) rfl,e 7 _ (by decide) rfl,e 8 _ (by decide) rfl,e 9 _ (by decide) rfl,e 10 _ (by decide) rfl,e 11 _ (by decide) rfl⟩
theorem BC7[Lay α]{xs:List α}(h:IE W v xs):xs.length<=9223372036854775807:=by
 rcases h with⟨_,_,_,rfl,_⟩|⟨_,_,cap,_,h1,h2,_⟩
 .simp
 .exact BN h1 h2
theorem BC8[Lay α]{va:Option Addr}{xs:List α}(h:IE V (FT va n c) xs)(hm:m<=xs.length):m<=c/\IE V (FT va m c) (xs.take m):=by
 rcases h with⟨a,cap,e,rfl,h2⟩|⟨b,off,cap,e,h1,h2,h3,h0,h4⟩
 .simp only[AP]at e;obtain⟨rfl,_,rfl⟩:=e;have:m=0:=by simpa using hm
  subst this;exact⟨AY _,.inl ⟨_,_,rfl,by simp,h2⟩⟩
 .simp only[AP]at e;obtain⟨rfl,rfl,rfl⟩:=e;exact⟨BN hm h1,AE0 (.inr ⟨b,off,c,rfl,h1,h2,h3,h0,h4⟩) m hm⟩
theorem AQ9{rs1 rs2:List Rs}(h1:rs1.map Rs.r=SY (pw0 k) ds)(h2:rs2.map Rs.r=SY (pw0 j) (ds.take m)){x y:Rs}(hx:rs1[i]?=G5 x)(hy:rs2[i]?=G5 y):x.r=y.r:=by
 rw[xA,AO0 j k,<-h1]at h2;have a:=congrArg (·[i]?) h2;have hi:=(AU.1 hy).1;have hl:=congrArg List.length h2;simp only[EH,F7]at hl;simp only[List.getElem?_map,hy,Option.map_some]at a;rw[List.getElem?_take_of_lt (by omega),List.getElem?_map,hx,Option.map_some,BD]at a;exact a.symm
theorem yD(ds:List Dd)(v:FW)(n:Int)(W:FV)(hv:IE W v ds)(hn: -9223372036854775808<=n/\n<=9223372036854775807)(hm:∀d∈ds,d.q.p.length<=140737488355328/\d.q.d.length<=140737488355328)(hT:Z5 W):
  FX prog 3 #[v,I0 n] W (R0 W (.bool true)):=by
 have HV:=G7 (fun V (hV:B0 W V)=>hv.next hV);have HM:=G7 hm;have HT:=G7 (fun V (hV:B0 W V)=>hT.next hV);have CA:=G7 (fun V (hV:B0 W V)=>BC2 V (G6 HT V hV));obtain⟨va,vc,rfl⟩:=GL hv;have hlen:=BC7 hv;by_cases h100:ds.length<=100
 .have hl1:¬ (100<(ds.length:Int)):=by omega
  have CP:=G7 (fun V=>BC5 n ((ds.length:Int)+1) V (by omega) (by omega) hn.1 hn.2);have e1:=Int.emod_nonneg n (show (ds.length:Int)+1≠0 by omega);have e2:=Int.emod_lt_of_pos n (show 0<(ds.length:Int)+1 by omega);obtain⟨m,hm0⟩:∃m:Nat,n%((ds.length:Int)+1)=(m:Int):=⟨(n%((ds.length:Int)+1)).toNat,by omega⟩;rw[hm0]at e2;have hmd:m<=ds.length:=by omega
  simp only[hm0]at CP;clear hv hm hT hn e1 e2 hm0;go_enter func3,ntmps3;go_wp2_with fail;refine(G6 CA W (AA _ _)).mono ?_;rintro e w1 ⟨rfl,hb1⟩;have HB1:=G7 hb1;clear hb1 CA;go_wp2_with fail;refine(G6 CP _).mono ?_;rintro e _ ⟨rfl,rfl⟩;clear CP;go_wp2_with (at_builtin;refine fE rfl _ _ rfl (FT va ds.length vc) ds rfl rfl (G6 HV _ (G6 HB1)) (by omega) ?_);intro a1 c1 w3 hs3 hb3;have HB3:=G7 (G9 (G6 HB1) hb3);have C1:=G7 (BC3 ds _ w3 hs3 (by omega) (G6 HM) (G6 HT w3 (G6 HB3)));clear HB1 hs3 hb3;go_wp2_with fail;refine(G6 C1).mono ?_;rintro e w4 ⟨u1,k1,rs1,rfl,hr1,he1⟩;have hl4:rs1.length=ds.length:=by
   have:=congrArg List.length he1;rwa[EH,gW]at this
  obtain⟨ua,uc,rfl⟩:=GL hr1.z.seq;have HA1:=G7 (hr1.run (G6 HB3));rw[hl4]at HA1⊢;obtain⟨hvc,hT4⟩:=BC8 (G6 HV _ (G6 HA1).b) hmd;have hel:(ds.take m).length=m:=by rw[F7];omega
  have HME:=G7 (fun d hd=>G6 HM d (List.mem_of_mem_take (i:=m) hd));have HEQ:=G7 (fun j (rs2:List Rs) (h2:rs2.map Rs.r=SY (pw0 j) (ds.take m))=>fun i x y=>AQ9 he1 h2 (i:=i) (x:=x) (y:=y));have HT4:=G7 hT4;clear hT4 C1 hr1 he1 HB3 HM HV;generalize ds.take m=es at*;go_wp2_with (at_builtin;refine fE rfl _ _ rfl (FT va m vc) es rfl rfl (G6 HT4) (by omega) ?_);intro a2 c2 w5 hs5 hb5;have HB5:=G7 (G9 (G6 HA1).b hb5);have HA5:=G7 ((G6 HA1).next hb5);have C2:=G7 (BC3 es _ w5 hs5 (by omega) (G6 HME) (G6 HT w5 (G6 HB5)));clear HA1 hs5 hb5 HME HT HT4;go_wp2_with fail;refine(G6 C2).mono ?_;rintro e w6 ⟨u2,k2,rs2,rfl,hr2,he2⟩;have hl6:rs2.length=m:=by
   have:=congrArg List.length he2;rwa[EH,gW,hel]at this
  obtain⟨ub,ud,rfl⟩:=GL hr2.z.seq;have HA6:=G7 (And.intro ((G6 HA5).next hr2.b) (hr2.run (G6 HB5)));have HQ:=G7 (G6 HEQ k2 rs2 he2);rw[hl6]at HA6⊢;clear C2 hr2 he2 HB5 HA5 HEQ hel;go_wp2_with fail
  go_loopg [9] m (fun kx s9 wr=>∃i:Nat,s9=I0 i/\i<=m/\m-i<=kx/\Hid (CE8 W wr (FT ua ds.length uc) rs1/\CE8 W wr (FT ub m ud) rs2))
  case atStart=>exact⟨0,rfl,AY _,A8 _,HA6⟩
  case round=>
   obtain⟨i,rfl,hi,hg,HI⟩:=hrel;clear HA6;by_cases hlt:i<m
   .have hlm:(i:Int)<(m:Int):=by omega
    have hld:(i:Int)<(ds.length:Int):=by omega
    obtain⟨x1,hx1⟩:∃x,rs1[i]?=G5 x:=⟨_,AL (by omega)⟩;obtain⟨x2,hx2⟩:∃x,rs2[i]?=G5 x:=⟨_,AL (by omega)⟩;obtain⟨r,na,nc⟩:=x1;obtain⟨r2,nb,nd⟩:=x2;obtain rfl:r=r2:=G6 HQ i _ _ hx1 hx2;obtain⟨b1,o1,_,he,_⟩:=bH (G6 HI).1.z wr (AA _ _) i _ hx1;simp only[AP]at he;obtain⟨rfl,-,rfl⟩:=he;obtain⟨b2,o2,_,he,_⟩:=bH (G6 HI).2.z wr (AA _ _) i _ hx2;simp only[AP]at he;obtain⟨rfl,-,rfl⟩:=he;have HKS:Hid (∀V,B0 wr V->V.cell? ⟨b1,o1+i*12,FZ⟩=G5 (I0 r.E)/\V.cell? ⟨b1,o1+i*12+1,FZ⟩=G5 (I0 r.z)/\V.cell? ⟨b1,o1+i*12+2,FZ⟩=G5 (S0 r.p)/\V.cell? ⟨b1,o1+i*12+3,FZ⟩=G5 (S0 r.d)/\V.cell? ⟨b1,o1+i*12+4,FZ⟩=G5 (I0 r.t.c)/\V.cell? ⟨b1,o1+i*12+5,FZ⟩=G5 (I0 r.t.m)/\V.cell? ⟨b1,o1+i*12+6,FZ⟩=G5 (I0 r.t.q)/\V.cell? ⟨b1,o1+i*12+7,FZ⟩=G5 (I0 r.t.v)/\V.cell? ⟨b1,o1+i*12+8,FZ⟩=G5 (I0 r.t.k)/\V.cell? ⟨b1,o1+i*12+9,FZ⟩=G5 (I0 r.t.o)/\V.cell? ⟨b1,o1+i*12+10,FZ⟩=G5 (I0 r.t.n)/\V.cell? ⟨b1,o1+i*12+11,FZ⟩=G5 (FT na r.ns.length nc)/\V.cell? ⟨b2,o2+i*12,FZ⟩=G5 (I0 r.E)/\V.cell? ⟨b2,o2+i*12+1,FZ⟩=G5 (I0 r.z)/\V.cell? ⟨b2,o2+i*12+2,FZ⟩=G5 (S0 r.p)/\V.cell? ⟨b2,o2+i*12+3,FZ⟩=G5 (S0 r.d)/\V.cell? ⟨b2,o2+i*12+4,FZ⟩=G5 (I0 r.t.c)/\V.cell? ⟨b2,o2+i*12+5,FZ⟩=G5 (I0 r.t.m)/\V.cell? ⟨b2,o2+i*12+6,FZ⟩=G5 (I0 r.t.q)/\V.cell? ⟨b2,o2+i*12+7,FZ⟩=G5 (I0 r.t.v)/\V.cell? ⟨b2,o2+i*12+8,FZ⟩=G5 (I0 r.t.k)/\V.cell? ⟨b2,o2+i*12+9,FZ⟩=G5 (I0 r.t.o)/\V.cell? ⟨b2,o2+i*12+10,FZ⟩=G5 (I0 r.t.n)/\V.cell? ⟨b2,o2+i*12+11,FZ⟩=G5 (FT nb r.ns.length nd)):=G7 fun V hV=>by
     obtain⟨x0,x1,x2,x3,x4,x5,x6,x7,x8,x9,x10,x11⟩:=AF4 ((G6 HI).1.next hV).z hx1;exact⟨x0,x1,x2,x3,x4,x5,x6,x7,x8,x9,x10,x11,AF4 ((G6 HI).2.next hV).z hx2⟩
    have CR:=G7 (fun V (hV:B0 wr V)=>AQ8 r _ _ V (BC7 ((G6 HI).1.n _ (AZ hx1))) (((G6 HI).1.next hV).n _ (AZ hx1)) (((G6 HI).2.next hV).n _ (AZ hx2)));unfold rpV at CR;clear hx1 hx2;go_upto_region 11 with fail;have hS0:=G6 HKS _ (AA wr.heap.size wr).drew;refine wp_region_held (S:=fun V:FV=>V.cell? ⟨b1,o1+i*12,FZ⟩=G5 (I0 r.E)/\V.cell? ⟨b1,o1+i*12+1,FZ⟩=G5 (I0 r.z)/\V.cell? ⟨b1,o1+i*12+2,FZ⟩=G5 (S0 r.p)/\V.cell? ⟨b1,o1+i*12+3,FZ⟩=G5 (S0 r.d)/\V.cell? ⟨b1,o1+i*12+4,FZ⟩=G5 (I0 r.t.c)/\V.cell? ⟨b1,o1+i*12+5,FZ⟩=G5 (I0 r.t.m)/\V.cell? ⟨b1,o1+i*12+6,FZ⟩=G5 (I0 r.t.q)/\V.cell? ⟨b1,o1+i*12+7,FZ⟩=G5 (I0 r.t.v)/\V.cell? ⟨b1,o1+i*12+8,FZ⟩=G5 (I0 r.t.k)/\V.cell? ⟨b1,o1+i*12+9,FZ⟩=G5 (I0 r.t.o)/\V.cell? ⟨b1,o1+i*12+10,FZ⟩=G5 (I0 r.t.n)/\V.cell? ⟨b1,o1+i*12+11,FZ⟩=G5 (FT na r.ns.length nc)/\V.cell? ⟨b2,o2+i*12,FZ⟩=G5 (I0 r.E)/\V.cell? ⟨b2,o2+i*12+1,FZ⟩=G5 (I0 r.z)/\V.cell? ⟨b2,o2+i*12+2,FZ⟩=G5 (S0 r.p)/\V.cell? ⟨b2,o2+i*12+3,FZ⟩=G5 (S0 r.d)/\V.cell? ⟨b2,o2+i*12+4,FZ⟩=G5 (I0 r.t.c)/\V.cell? ⟨b2,o2+i*12+5,FZ⟩=G5 (I0 r.t.m)/\V.cell? ⟨b2,o2+i*12+6,FZ⟩=G5 (I0 r.t.q)/\V.cell? ⟨b2,o2+i*12+7,FZ⟩=G5 (I0 r.t.v)/\V.cell? ⟨b2,o2+i*12+8,FZ⟩=G5 (I0 r.t.k)/\V.cell? ⟨b2,o2+i*12+9,FZ⟩=G5 (I0 r.t.o)/\V.cell? ⟨b2,o2+i*12+10,FZ⟩=G5 (I0 r.t.n)/\V.cell? ⟨b2,o2+i*12+11,FZ⟩=G5 (FT nb r.ns.length nd)) (by kernel_rfl) ?_;change wpAnyH _ _ _ _ _ _ _ _ wr.drew;refine tkH 0 hS0 ?_;refine tkH 1 hS0 ?_;refine tkH 2 hS0 ?_;refine tkH 3 hS0 ?_;refine tkH 4 hS0 ?_;refine tkH 5 hS0 ?_;refine tkH 6 hS0 ?_;refine tkH 7 hS0 ?_;refine rd1 8 (fun K hK=>?_);go_simp;refine(G6 CR _ (AA _ _).drew).mono ?_;rintro e w7 ⟨rfl,hb7⟩;have hbw:=G7 (G9 (AA wr.heap.size wr).drew hb7);have hS1:=G6 HKS _ (G6 hbw);clear hb7;refine nxH hK hS1 ?_;clear hK K;refine tkH 9 hS1 ?_;refine wpAnyH_done (by kernel_rfl) ?_ _;go_wp2_with fail
    go_roundg (m-(i+1))
    case measure=>omega
    case rel=>exact⟨i+1,by simp,by omega,A8 _,G7 ⟨(G6 HI).1.next (G6 hbw),(G6 HI).2.next (G6 hbw)⟩⟩
   .obtain rfl:i=m:=by omega
    have HF:=G7 (G6 HI).1.b;clear HI;go_wp2_with fail;go_ret;exact⟨rfl,G6 HF⟩
 .have hl1:100<(ds.length:Int):=by omega
  have CA2:=G7 (fun V (hV:B0 W V)=>G6 CA V hV);clear hv hm hT hn HV HM HT;go_enter func3,ntmps3;go_wp2_with fail;refine(G6 CA W (AA _ _)).mono ?_;rintro e w1 ⟨rfl,hb1⟩;have HB1:=G7 hb1;clear hb1 CA;go_wp2_with fail;refine(G6 CA2 w1 (G6 HB1)).mono ?_;rintro e w2 ⟨rfl,hb2⟩;have HB2:=G7 (G9 (G6 HB1) hb2);clear hb2 CA2 HB1;go_wp2_with fail;go_ret;exact⟨rfl,G6 HB2⟩
