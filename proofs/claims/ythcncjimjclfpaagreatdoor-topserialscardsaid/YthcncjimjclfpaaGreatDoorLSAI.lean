/-
  Part.
-/
import Derived.Test.YthcncjimjclfpaaGreatDoorLSAC
import Derived.Test.YthcncjimjclfpaaGreatDoorLSAE
import Derived.Test.YthcncjimjclfpaaGreatDoorLSAH
import Derived.Deep.WholeRow
set_option maxRecDepth 20000
set_option maxHeartbeats 8000000
namespace Go.Proofs.YthcncjimjclfpaaGreatDoor
open Go.RowKit Go.Proofs.Tryz
open _root_.Nat renaming le_refl->A8,lt_of_lt_of_le->AX,zero_add->BI,le_trans->BM,mul_comm->DC
open _root_.Array renaming getElem?_eq_some_iff->AB,getElem?_eq_getElem->BP
open Go.Value.slice renaming injEq->AP
open Go.World renaming cell?->AV,frozen?->F7
open _root_.Option.some renaming injEq->BD,inj->BN
open _root_.And renaming intro->C9
open Go.Sem renaming run_bind->DX,run_pure->EM
open Go.Result renaming andThen_ok->DY
open Go.IntKind renaming wrap_i64->FD
open Go.Value renaming slice->FQ
open Go.Obj renaming cells->FT
open Go renaming World->FU,Value->FV,Calls->FW
open _root_.Option renaming none->FX,some->FZ
variable{W V U:FU}{k c g:Nat}{d:Dd}{v:FV}{p:Pw}{r:Rp}{l:List UInt8}{Q:Rq}
theorem BV0{kd:Int}{x:Rp×Pw}(hk:k<W.heap.size)(D:DB W V d)(ho:GZ U V.heap.size v x.1.ns)(ht:Touch (· =k) V U)(hx:U0 kd x.1.E=true->WX U k x.2)(hp:U0 kd x.1.E=true->∀i,i<3->ML 300 (x.2.s i)):
  Did W k kd x (.returned (rpV x.1 v)) (gY U (W.heap.size+1) (I0 x.1.E) (I0 x.1.z) (S0 x.1.p) (S0 x.1.d) (I0 x.1.t.c) (I0 x.1.t.m) (I0 x.1.t.q) (I0 x.1.t.v) (I0 x.1.t.k) (I0 x.1.t.o) (I0 x.1.t.n) v):=by
 have h:=(D.dt k).touch hk ht;have hlt:=D.r.lt;exact⟨v,rfl,KU (ho.lower (by omega)) (dD _ _ _ _ _ _ _ _ _ _ _ _ _ _) (fun q e=>by have:=QU ho e;omega),JZ h.t (by omega) _ _ _ _ _ _ _ _ _ _ _ _,fun hl=>(hx hl).reply (hp hl) h.r (by omega) (dD _ _ _ _ _ _ _ _ _ _ _ _ _ _)⟩
theorem CQ9(d:Dd)(k:Nat)(W:FU)(x:Rp×Pw)(hk0:k<W.heap.size)(C1:d.k=1->∀V,B0 W V->FW prog 47 #[wP k,ddV d] V (Did V k 1 x))(C2:d.k=2->∀V,B0 W V->FW prog 48 #[wP k,ddV d] V (Did V k 2 x))(C3:d.k=3->∀V,B0 W V->FW prog 49 #[wP k,ddV d] V (Did V k 3 x))(C4:d.k=4->∀V,B0 W V->FW prog 50 #[wP k,ddV d] V (Did V k 4 x))(C5:d.k=5->∀V,B0 W V->FW prog 51 #[wP k] V (Did V k 5 x))(hp:∀i,i<3->ML 300 (x.2.s i))(hd:d.k=1\/d.k=2\/d.k=3\/d.k=4\/d.k=5):FW prog 35 #[wP k,ddV d] W (Did W k d.k x):=by
 have D0:=G6 (DB.start W d);have HP:=G6 (fun(_:U0 d.k x.1.E=true)=>hp);rcases hd with hd|hd|hd|hd|hd
 all_goals
  first|have HC:=G6 (C1 hd)|have HC:=G6 (C2 hd)|have HC:=G6 (C3 hd)|have HC:=G6 (C4 hd)|have HC:=G6 (C5 hd)
  rw[hd]at HP⊢;clear C1 C2 C3 C4 C5 hp;obtain⟨dk,dc,ds,⟨o,s,pp,dd,v,f⟩,lo,sl,ke,wt⟩:=d;simp only at hd;subst hd;unfold wP at HC⊢;unfold ddV at*;go_enter func35,ntmps35;go_upto_region 1 with fail;generalize ((W.alloc _).alloc _)=W0 at*;obtain⟨⟨d0,d1,d2,d3,d4,d5,d6⟩,d7,d8,d9,d10,d11,d12⟩:=(G5 D0).cells;simp only at d0 d1 d2 d3 d4 d5 d6 d7 d8 d9 d10 d11 d12;go_wp2_with fail;refine(G5 HC _ (G5 D0).b).mono ?_;rintro e w1 ⟨vn,rfl,ho,ht,hw⟩;obtain⟨na,nc,rfl⟩:=IY ho;have R2:=(((G5 D0).dt k).touch hk0 ht).r;have X1:=G6 (BV0 hk0 (G5 D0) ho ht hw (G5 HP));have b0:=R2.cells;have g0:=R2.GN;clear ho ht hw R2 D0 HC HP d0 d1 d2 d3 d4 d5 d6 d7 d8 d9 d10 d11 d12;unfold rpV gY at X1;unfold rpV;go_wp2_with fail;exact bodyPost_ret (v:=.agg #[I0 x.1.E,I0 x.1.z,S0 x.1.p,S0 x.1.d,I0 x.1.t.c,I0 x.1.t.m,I0 x.1.t.q,I0 x.1.t.v,I0 x.1.t.k,I0 x.1.t.o,I0 x.1.t.n,FQ na x.1.ns.length nc]) (by simp[results,results35,go_sem,b0]) rfl (G5 X1)
theorem BC3(p:Pw)(d:Dd)(k:Nat)(W:FU)(hx:WX W k p)(hc:0<=d.c/\d.c<16)(hs:0<=d.s/\d.s<3)(hok:∀j,j<3->ML 299 (p.s j))(hcl:uM 299 p.H d.c.toNat (p.c d.c.toNat))(hp:d.q.p.length<=140737488355328):FW prog 48 #[wP k,ddV d] W (Did W k 2 (lN p d)):=by
 cases hu:(p.s d.s.toNat).up with
 |true=>exact CE0 p d k W hx hc hs hok hcl hp hu
 |false=>
  rw[lN,if_pos hu];exact BB8 p d k W hx hs hu
theorem AS6(p:Pw)(d:Dd)(k:Nat)(W:FU)(hx:WX W k (MR p))(hT:ZV W)(h:PX p)(hn:p.n<300)(ha:UO d=0)(hp:d.q.p.length<=140737488355328)(hd:d.q.d.length<=140737488355328):FW prog 35 #[wP k,ddV d] W (Did W k d.k (lQ (MR p) d)):=by
 have hW:PX (lQ (MR p) d).2:=by
  have:=U1 d h;rw[doP,if_neg (by omega),if_neg (by omega)]at this;exact this
 have hP:∀i,i<3->ML 300 ((lQ (MR p) d).2.s i):=fun i hi=>(hW.s i hi).more hW.n1;have ok:∀j,j<3->ML 299 (p.s j):=fun j hj=>(h.s j hj).more (by omega);have ok3:∀j,j<3->ML 300 (p.s j):=fun j hj=>(h.s j hj).more (by omega);have hk:d.k=1\/d.k=2\/d.k=3\/d.k=4\/d.k=5:=by
  unfold UO at ha;by_cases e:d.k=1\/d.k=2\/d.k=3\/d.k=4\/d.k=5
  .exact e
  .rw[if_neg (by omega),if_neg (by omega),if_neg (by omega),if_neg (by omega)]at ha;cases ha
 exact CQ9 d k W _ hx.lt
  (fun h1 V hV=>by rw[lQ,if_pos h1];exact AS5 p d k V (hx.next hV) (hT.next hV) h hn (CW5 h1 ha) hp hd)
  (fun h2 V hV=>by
   obtain⟨hc,hs⟩:=CN6 h2 ha;rw[lQ,if_neg (by omega),if_pos h2];exact BC3 (MR p) d k V (hx.next hV) hc hs ok ((h.c _ (by omega)).more (by omega) (fun _ hx=>hx)) hp)
  (fun h3 V hV=>by rw[lQ,if_neg (by omega),if_neg (by omega),if_pos h3];exact BC2 (MR p) d k V (hx.next hV) (AG5 (.inl h3) ha) ok3)
  (fun h4 V hV=>by rw[lQ,if_neg (by omega),if_neg (by omega),if_neg (by omega),if_pos h4];exact CQ8 (MR p) d k V (hx.next hV) (AG5 (.inr h4) ha) ok3)
  (fun h5 V hV=>by rw[lQ,if_neg (by omega),if_neg (by omega),if_neg (by omega),if_neg (by omega)];exact AS2 (MR p) k V (hx.next hV) (hT.next hV) (CW9 h hn))
  hP hk
noncomputable def zW:Array FV:=(((prog.info? 84).bind (·.zero)).getD undef).cells
theorem BC4:(prog.info? 84).map (fun i=>(i.zero,i.size))=FZ (FZ (.agg zW),83):=by kernel_rfl
theorem CE1:zW.size=83:=by kernel_rfl
theorem CX9{n:Nat}(h:n=83):(prog.info? 84).map (·.size)=FZ n:=by rw[h];exact(zero_of_info BC4).2
noncomputable def zB:Array FV:=(prog.built 84 []).getD #[]
theorem CE2:zB.size=83:=by kernel_rfl
section
variable {w:FU} {ops:Array Oper} {rest:List Oper} {o:Oper} {a:Act} {Q:Exit->Act->FU->Prop}
theorem gQ(hgd:o.guard=FX)(x:Operand)(ho:o.op=.load 84 x)(k:Nat)(c:Array FV)(hx:a.eval x=P0 k)(hc:w.heap[k]?=FZ (FT c 84 (0,0)))(h83:c.size=83)
  (h:wpList prog ops Q rest (a.put o.dst (.agg c)) w):wpList prog ops Q (o::rest) a w:=by
 refine wpList_plain hgd fun K hK=>?_;have hr:(Instr.loadAt 84 (P0 k)).run prog w=.ok (.agg c) w:=by
  have hl:=run_loadCells_list (P:=prog) (w:=w) ⟨k,0,FX⟩ c.toList (fun j v hj=>by
   rw[Addr.add_lit];show w.cell? ⟨k,0+j,FX⟩=FZ v;rw[BI,cell_of_row _ _ j c _ (0,0) hc];simpa using hj)
  rw[show c.toList.length=83 by simpa using h83]at hl;simp only[Instr.loadAt,Instr.sureAddr,DX,EM,Result.andThen];unfold loadVar;simp only[DX,isAgg84,sizeOf84,Result.andThen,if_true];rw[hl];simp
 unfold Oper.wp execOp;simp only[ho,DX,EM,DY,hx,hr];exact hK _ _ h
theorem tY(hgd:o.guard=FX)(ho:o.op=.alloc 84)(h:wpList prog ops Q rest (a.put o.dst (.pointer (FZ ⟨w.heap.size,0,FX⟩))) (w.alloc (FT zW 84))):wpList prog ops Q (o::rest) a w:=by
 refine wpList_plain hgd fun K hK=>?_;have hz:=(zero_of_info BC4).1 w;have hr:(Instr.alloc 84 true (.tuple #[])).run prog w=.ok (.pointer (FZ ⟨w.heap.size,0,FX⟩)) (w.alloc (FT zW 84)):=by
  simp[Instr.alloc,newVar,newRow,hz,Value.cells,go_sem]
 unfold Oper.wp execOp;simp only[ho,DX,EM,DY,hr];exact hK _ _ h
theorem A78(hgd:o.guard=FX)(x:Operand)(ho:o.op=.box 84 x)(c:Array FV)(hx:a.eval x=.agg c)(h:wpList prog ops Q rest (a.put o.dst (.pointer (FZ ⟨w.heap.size,0,FX⟩))) (w.alloc (FT c 84))):wpList prog ops Q (o::rest) a w:=by
 refine wpList_plain hgd fun K hK=>?_;have hr:(Instr.box 84 (.agg c)).run prog w=.ok (.pointer (FZ ⟨w.heap.size,0,FX⟩)) (w.alloc (FT c 84)):=by
  simp[Instr.box,newVar,newRow,Value.cells,go_sem]
 unfold Oper.wp execOp;simp only[ho,DX,EM,DY,hx,hr];exact hK _ _ h
theorem tZ(hgd:o.guard=FX)(ho:o.op=.build 84 #[])(h:wpList prog ops Q rest (a.put o.dst (.agg zB)) w):wpList prog ops Q (o::rest) a w:=by
 refine wpList_build hgd 84 #[] ho ?_ ?_
 .simp only[Array.map_empty]
  kernel_rfl
 .simp only[Array.map_empty];exact h
theorem dH(hgd:o.guard=FX)(x y:Operand)(ho:o.op=.store 84 x y)(k:Nat)(c old:Array FV)(hx:a.eval x=P0 k)(hy:a.eval y=.agg c)(hc:w.heap[k]?=FZ (FT old 84 (0,0)))(h83:c.size=83)(ho83:old.size=83)(h1:c.all (·.oneCell')=true)
  (h:wpList prog ops Q rest (a.put o.dst undef) (w.setRow k c)):wpList prog ops Q (o::rest) a w:=
 wpList_store_row hgd _ x y ho k c hx hy _ old hc (CX9 h83) (by omega) h1 h
theorem nO(hgd:o.guard=FX)(x y:Operand)(ho:o.op=.store 84 x y)(c:Array FV)(hx:a.eval x=.pointer (FZ ⟨w.heap.size,0,FX⟩))(hy:a.eval y=.agg c)(h83:c.size=83)(h1:c.all (·.oneCell')=true)
  (h:wpList prog ops Q rest (a.put o.dst undef) (w.alloc (FT c 84))):wpList prog ops Q (o::rest) a (w.alloc (FT zW 84)):=by
 refine dH hgd x y ho w.heap.size c zW hx hy (heap_alloc_last w _) h83 CE1 h1 ?_;rw[World.setRow_alloc_new];exact h
end
def CG5(W:FU)(k:Nat)(x:Rp×Pw)(e:Ending)(w':FU):Prop:=
 ∃v,e=.returned (rpV x.1 v)/\GZ w' W.heap.size v x.1.ns/\Touch (· =k) W w'/\WX w' k x.2
theorem AI0{E:Int}(hk:k<W.heap.size)(h:DT k W V d)(hx:WX V k p)(hp:∀i,i<3->ML 300 (p.s i)):
  CG5 W k (TQ E,p) (.returned (UQ E)) (gY V (W.heap.size+1) (I0 E) (I0 0) (.string ⟨#[]⟩) (.string ⟨#[]⟩) (I0 0) (I0 0) (I0 0) (I0 0) (I0 0) (I0 0) (I0 0) (N0)):=
 ⟨N0,rfl,.inl ⟨rfl,rfl⟩,JZ h.t (by omega) _ _ _ _ _ _ _ _ _ _ _ _,hx.reply hp h.r (by omega) (dD _ _ _ _ _ _ _ _ _ _ _ _ _ _)⟩
theorem BV1(p:Pw)(d:Dd)(h:U0 d.k (lQ p d).1.E=false):(lQ p d).2=p:=by
 unfold lQ at h⊢;by_cases h1:d.k=1
 .rw[if_pos h1]at h⊢;unfold PU at h⊢
  (repeat' split)<;>simp_all[U0]
 .rw[if_neg h1]at h⊢;by_cases h2:d.k=2
  .rw[if_pos h2]at h⊢;unfold lN at h⊢
   (repeat' split)<;>simp_all[U0,BQ4]
   all_goals (split at h<;>simp_all)
  .rw[if_neg h2]at h⊢;by_cases h3:d.k=3
   .rw[if_pos h3]at h⊢;unfold TS at h⊢
    (repeat' split)<;>simp_all[U0,TQ]
   .rw[if_neg h3]at h⊢;by_cases h4:d.k=4
    .rw[if_pos h4]at h⊢;unfold upW at h⊢
     (repeat' split)<;>simp_all[U0,TQ]
    .rw[if_neg h4]at h⊢;unfold SY at h⊢
     (repeat' split)<;>simp_all[U0]
theorem CE3(p:Pw)(d:Dd):(lQ p d).2.h=p.h:=by
 unfold lQ PU lN TS upW SY
 (repeat' split)<;>rfl
theorem dI(W:FU)(k:Nat)(c:Array FV):Touch (· =k) W (W.setRow k c):=by
 refine⟨rfl,rfl,rfl,by simp[World.setRow],fun b _ hb=>?_⟩;simp only[World.setRow,Array.getElem?_modify];rw[if_neg (fun e=>hb e.symm)]
theorem WX.blk(h:WX W k p):∃c,W.heap[k]?=FZ (FT c 84 (0,0))/\c.size=83/\c.all (·.oneCell')=true:=by
 obtain⟨f,⟨c,h1,h2,h3⟩,hr⟩:=h;refine⟨c,h1,h2,?_⟩;rw[Array.all_eq_true];intro j hj;have e:=h3 j (by omega);rw[BP hj]at e;rw[BN e];exact hr.cellP (P:=(·.oneCell'=true)) (fun _=>rfl) (fun _=>rfl) (fun _ _ _=>rfl) j (by omega)
theorem WX.copy{c:Array FV}(h:WX W k p)(hh:p.h=k)(hc:W.heap[k]?=FZ (FT c 84 (0,0))):WX (W.alloc (FT c 84)) W.heap.size p:=by
 have hk:=h.lt;obtain⟨f,⟨c',h1,h2,h3⟩,hr⟩:=h;rw[hc]at h1;simp only[BD,Obj.cells.injEq,and_true]at h1;subst h1;exact⟨f,⟨c,heap_alloc_last W _,h2,h3⟩,(hr.moved (A8 _) (by omega)).next (G7 _ _)⟩
theorem WX.back{q:Nat}{p':Pw}{c:Array FV}(h:WX W k p)(h':WX W q p')(hh:p'.h=k)(hc:W.heap[q]?=FZ (FT c 84 (0,0))):WX (W.setRow k c) k p':=by
 obtain⟨f,hb,hr⟩:=h;have hd:=hr.gW hb;obtain⟨o,ho,_⟩:=hb;obtain⟨g,⟨c',h1,h2,h3⟩,hs⟩:=h';rw[hc]at h1;simp only[BD,Obj.cells.injEq,and_true]at h1;subst h1;refine⟨g,⟨c,setRow_heap W k o c _ _ ho,h2,h3⟩,WdR.touch (W:=W) ?_ (dI W k c)⟩;refine⟨hs.n,fun i hi=>?_,hs.r,fun i hi=>⟨(hs.c i hi).s,(hs.c i hi).z,cO (hs.c i hi).e.1 hd⟩,lS (PK.1 hs.d.1) hd,hs.h,by omega⟩;have s:=hs.s i hi;exact⟨s.up,AF3 (VJ.1 s.d.1) hd,s.id,s.ep,lS (PK.1 s.l.1) hd,s.dn,s.z,yI s.n.1 hd,⟨s.i.1,fun h0=>hs.h i hi h0 k (Nat.le_of_eq hh.symm)⟩,VQ s.w.1 hd⟩
def RpX(W:FU)(g:Nat)(r:Rp)(v:FV):Prop:=W.heap[g]?=FZ (FT #[I0 r.E,I0 r.z,S0 r.p,S0 r.d,I0 r.t.c,I0 r.t.m,I0 r.t.q,I0 r.t.v,I0 r.t.k,I0 r.t.o,I0 r.t.n,v] 37 (0,0))
theorem RpX.lt(h:RpX W g r v):g<W.heap.size:=(AB.1 h).1
theorem RpX.cells(h:RpX W g r v):W.cell? ⟨g,0,FX⟩=FZ (I0 r.E)/\W.cell? ⟨g,1,FX⟩=FZ (I0 r.z)/\W.cell? ⟨g,2,FX⟩=FZ (S0 r.p)/\W.cell? ⟨g,3,FX⟩=FZ (S0 r.d)/\W.cell? ⟨g,4,FX⟩=FZ (I0 r.t.c)/\W.cell? ⟨g,5,FX⟩=FZ (I0 r.t.m)/\W.cell? ⟨g,6,FX⟩=FZ (I0 r.t.q)/\W.cell? ⟨g,7,FX⟩=FZ (I0 r.t.v)/\W.cell? ⟨g,8,FX⟩=FZ (I0 r.t.k)/\W.cell? ⟨g,9,FX⟩=FZ (I0 r.t.o)/\W.cell? ⟨g,10,FX⟩=FZ (I0 r.t.n)/\W.cell? ⟨g,11,FX⟩=FZ (v):=by
 unfold RpX at h;simp[AV,h]
theorem DT.beyond{q:Nat}(h:DT k W V d)(hq:W.heap.size+1<q)(ht:Touch (· =q) V U):DT k W U d:=
 ⟨⟨ht.os.trans h.t.os,ht.tape.trans h.t.tape,ht.output.trans h.t.output,BM h.t.size ht.size,fun b hb hn=>(ht.block b (AX hb h.t.size) (by omega)).trans (h.t.block b hb hn)⟩,h.r.touch ht (by omega),(ht.block _ h.d.ltz (by omega)).trans h.d⟩
theorem BC5{B:Nat}(hk:k<W.heap.size)(h:DT k W V d)(hx:WX V k p)(hp:∀i,i<3->ML 300 (p.s i))(hn:GZ V B v r.ns)(hB:W.heap.size+1<B):
  CG5 W k (r,p) (.returned (rpV r v)) (gY V (W.heap.size+1) (I0 r.E) (I0 r.z) (S0 r.p) (S0 r.d) (I0 r.t.c) (I0 r.t.m) (I0 r.t.q) (I0 r.t.v) (I0 r.t.k) (I0 r.t.o) (I0 r.t.n) v):=
 ⟨v,rfl,KU (hn.lower (by omega)) (dD _ _ _ _ _ _ _ _ _ _ _ _ _ _) (fun q e=>by have:=TG hn q e;omega),JZ h.t (by omega) _ _ _ _ _ _ _ _ _ _ _ _,hx.reply hp h.r (by omega) (dD _ _ _ _ _ _ _ _ _ _ _ _ _ _)⟩
theorem CE4(p:Pw)(d:Dd)(k:Nat)(W:FU)(hx:WX W k p)(hp:∀i,i<3->ML 300 (p.s i))(hn:300<=p.n):FW prog 16 #[wP k,ddV d] W (CG5 W k (TQ 6,p)):=by
 have D0:=G6 ((DB.start W d).dt k);have X0:=G6 (hx.next (DB.start W d).b);have hk0:=hx.lt;have HP:=G6 hp;clear hp hx;unfold wP ddV;go_enter func16,ntmps16;go_upto_region 1 with fail;generalize ((W.alloc _).alloc _)=W0 at*;have c0:=(G5 X0).count;have CR:=G6 (fun V=>KP 6 V);unfold UQ at CR;go_wp2_with fail;refine(G5 CR _).mono ?_;rintro e wr ⟨rfl,hbr⟩;have DR:=(G5 D0).next hk0 hbr;have b0:=DR.r.cells;have g0:=DR.r.GN;have XR:=G6 (AI0 (E:=6) hk0 DR ((G5 X0).next hbr) (G5 HP));clear hbr DR D0 CR;unfold UQ gY at XR;go_wp2_with fail;exact bodyPost_ret (v:=.agg #[I0 6,I0 0,.string ⟨#[]⟩,.string ⟨#[]⟩,I0 0,I0 0,I0 0,I0 0,I0 0,I0 0,I0 0,N0]) (by simp[results,results16,go_sem,b0]) rfl (G5 XR)
theorem CR0(p:Pw)(d:Dd)(k:Nat)(W:FU)(hx:WX W k p)(hp:∀i,i<3->ML 300 (p.s i))(hn:p.n<300)(hn0:0<=p.n)(ha:UO d≠0):FW prog 16 #[wP k,ddV d] W (CG5 W k (TQ (UO d),MR p)):=by
 have D0:=G6 ((DB.start W d).dt k);have X0:=G6 (hx.next (DB.start W d).b);have hk0:=hx.lt;have HP:=G6 hp;have CA:=G6 (fun V=>qC d V);have ha2:(UO d==0)=false:=beq_eq_false_iff_ne.2 ha;clear hp hx ha;generalize UO d=E at*;unfold wP;unfold ddV at CA⊢;go_enter func16,ntmps16;go_upto_region 1 with fail;generalize ((W.alloc _).alloc _)=W0 at*;have c0:=(G5 X0).count;have f0:=(G5 X0).GN 0;have X1:=G6 ((G5 X0).AF5 (p.n+1));have D1:=G6 ((G5 D0).touch hk0 (JJ W0 k 0 (I0 (p.n+1))));go_upto_region 6 with fail;generalize W0.setCell _ _=W1 at*;clear c0 f0 D0 X0;obtain⟨⟨d0,d1,d2,d3,d4,d5,d6⟩,d7,d8,d9,d10,d11,d12⟩:=(G5 D1).cells;go_wp2_with fail;refine(G5 CA _).mono ?_;rintro e w2 ⟨rfl,hb2⟩;have D2:=G6 ((G5 D1).next hk0 hb2);have X2:=G6 ((G5 X1).next hb2);clear d0 d1 d2 d3 d4 d5 d6 d7 d8 d9 d10 d11 d12 hb2 D1 X1;have CR:=G6 (fun V=>KP E V);unfold UQ at CR;go_wp2_with fail;refine(G5 CR _).mono ?_;rintro e wr ⟨rfl,hbr⟩;have DR:=(G5 D2).next hk0 hbr;have b0:=DR.r.cells;have g0:=DR.r.GN;have XR:=G6 (AI0 (E:=E) hk0 DR ((G5 X2).next hbr) (G5 HP));clear hbr DR D2 CR;unfold UQ gY at XR;go_wp2_with fail;exact bodyPost_ret (v:=.agg #[I0 E,I0 0,.string ⟨#[]⟩,.string ⟨#[]⟩,I0 0,I0 0,I0 0,I0 0,I0 0,I0 0,I0 0,N0]) (by simp[results,results16,go_sem,b0]) rfl (G5 XR)
theorem CR1(p:Pw)(d:Dd)(k:Nat)(W:FU)(hx:WX W k p)(hh:p.h=k)(hT:ZV W)(h:PX p)(hn:p.n<300)(ha:UO d=0)(hp:d.q.p.length<=140737488355328)(hd:d.q.d.length<=140737488355328):FW prog 16 #[wP k,ddV d] W (CG5 W k (lQ (MR p) d)):=by
 have D0:=G6 ((DB.start W d).dt k);have X0:=G6 (hx.next (DB.start W d).b);have T0:=G6 (hT.next (DB.start W d).b);have hk0:=hx.lt;have CA:=G6 (fun V=>qC d V);have hn0:=h.n0;have HP:Hid (∀i,i<3->ML 300 ((lQ (MR p) d).2.s i)):=G6 (by
  have hW:=U1 d h;rw[doP,if_neg (by omega),if_neg (by omega)]at hW;exact fun i hi=>(hW.s i hi).more hW.n1)
 have HH:Hid ((lQ (MR p) d).2.h=k):=G6 ((CE3 _ _).trans hh);have HS:=G6 (BV1 (MR p) d);have CH:=G6 (fun V q (hV:WX V q (MR p)) (hT:ZV V)=>AS6 p d q V hV hT h hn ha hp hd);have CL:=G6 (fun V=>A60 d.k (lQ (MR p) d).1.E V);rw[ha]at CA;clear hx hT h hp hd ha;generalize hx1:lQ (MR p) d=x at*;clear hx1;obtain⟨r,p'⟩:=x;simp only at HP HH HS CL;unfold wP;unfold ddV at CA⊢;unfold wP ddV at CH;go_enter func16,ntmps16;go_upto_region 1 with fail;generalize ((W.alloc _).alloc _)=W0 at*;have c0:=(G5 X0).count;have f0:=(G5 X0).GN 0;have X1:=G6 ((G5 X0).AF5 (p.n+1));have D1:=G6 ((G5 D0).touch hk0 (JJ W0 k 0 (I0 (p.n+1))));have T1:=G6 (dF (G5 T0) (G5 X0) (JJ W0 k 0 (I0 (p.n+1))));go_upto_region 6 with fail;generalize W0.setCell _ _=W1 at*;clear c0 f0 D0 X0 T0;obtain⟨⟨d0,d1,d2,d3,d4,d5,d6⟩,d7,d8,d9,d10,d11,d12⟩:=(G5 D1).cells;go_wp2_with fail;refine(G5 CA _).mono ?_;rintro e w2 ⟨rfl,hb2⟩;have D2:=G6 ((G5 D1).next hk0 hb2);have X2:=G6 ((G5 X1).next hb2);have T2:=G6 ((G5 T1).next hb2);clear d0 d1 d2 d3 d4 d5 d6 d7 d8 d9 d10 d11 d12 hb2 D1 X1 T1 CA;obtain⟨c,hc,CG6,hc1⟩:=(G5 X2).blk;have HC:=G6 hc;have hq2:=(G5 D2).r.lt;have X3:=G6 ((G5 X2).copy hh hc);have Y3:=G6 (((G5 X2).offq (A8 _)).next (G7 w2 (FT c 84)));have D3:=G6 ((G5 D2).next hk0 (G7 w2 (FT c 84)));have T3:=G6 ((G5 T2).next (G7 w2 (FT c 84)));clear hc;go_upto_region 10 with(first|refine gQ rfl _ rfl k c rfl (G5 HC) CG6 ?_|refine tY rfl rfl ?_|refine nO rfl _ _ rfl c rfl rfl CG6 hc1 ?_);clear HC CG6 hc1 X2 D2 T2;generalize w2.alloc _=W3 at*;generalize w2.heap.size=q at*;obtain⟨⟨d0,d1,d2,d3,d4,d5,d6⟩,d7,d8,d9,d10,d11,d12⟩:=(G5 D3).cells;have C3:=G6 (G5 CH W3 q (G5 X3) (G5 T3));have hq3:=(G5 X3).lt;go_wp2_with fail;refine(G5 C3).mono ?_;rintro e w4 ⟨vn,rfl,ho4,ht4,hx4⟩;obtain⟨na,nc,rfl⟩:=IY ho4;have hs4:=ht4.size;have R5:Hid (RpX (w4.alloc (FT #[I0 r.E,I0 r.z,S0 r.p,S0 r.d,I0 r.t.c,I0 r.t.m,I0 r.t.q,I0 r.t.v,I0 r.t.k,I0 r.t.o,I0 r.t.n,FQ na r.ns.length nc] 37)) w4.heap.size r (FQ na r.ns.length nc)):=G6 (heap_alloc_last _ _);have B5:=G7 w4 (FT #[I0 r.E,I0 r.z,S0 r.p,S0 r.d,I0 r.t.c,I0 r.t.m,I0 r.t.q,I0 r.t.v,I0 r.t.k,I0 r.t.o,I0 r.t.n,FQ na r.ns.length nc] 37);have D5:=G6 (((G5 D3).beyond (by omega) ht4).next hk0 B5);have Y5:=G6 (((G5 Y3).far (g:=q) rfl (show k≠q by omega) ht4).next B5).x;have O5:=G6 (ho4.next B5);have X5:=G6 (fun hl=>(hx4 hl).next B5);clear d0 d1 d2 d3 d4 d5 d6 d7 d8 d9 d10 d11 d12 C3 CH X3 Y3 D3 T3 ho4 ht4 hx4 B5;unfold rpV;go_upto_region 11 with fail;generalize w4.alloc _=W5 at*;generalize w4.heap.size=g at*;obtain⟨⟨d0,d1,d2,d3,d4,d5,d6⟩,d7,d8,d9,d10,d11,d12⟩:=(G5 D5).cells;obtain⟨r0,r1,r2,r3,r4,r5,r6,r7,r8,r9,r10,r11⟩:=(G5 R5).cells;go_wp2_with fail;refine(G5 CL _).mono ?_;rintro e w6 ⟨rfl,hw6⟩;obtain rfl:=hw6.symm;clear d0 d1 d2 d3 d4 d5 d6 d7 d8 d9 d10 d11 d12 r0 r1 r2 r3 r4 r5 r6 r7 r8 r9 r10 r11 CL;refine Or.elim (show U0 d.k r.E=false\/U0 d.k r.E=true by cases U0 d.k r.E<;>simp) ?a0 ?a1
 case' a1=>
  intro hl;rw[hl];obtain⟨c,hc,CG6,hc1⟩:=(G5 X5 hl).blk;obtain⟨o,ho,ho83,_⟩:=(G5 Y5).blk;have HC:=G6 hc;have HO:=G6 ho;have X6:=G6 ((G5 Y5).back (G5 X5 hl) (G5 HH) hc);have D6:=G6 ((G5 D5).touch hk0 (dI W5 k c));have O6:=G6 (KU (G5 O5) (dI W5 k c) (fun b e=>by have:=TG (G5 O5) b e;omega));have R6:Hid (RpX (W5.setRow k c) g r (FQ na r.ns.length nc)):=G6 (((dI W5 k c).block g (G5 R5).lt (by omega)).trans (G5 R5));clear hc ho X5 Y5 D5 O5 R5;go_upto_region 13 with(first|refine gQ rfl _ rfl q c rfl (G5 HC) CG6 ?_|refine dH rfl _ _ rfl k c o rfl rfl (G5 HO) CG6 ho83 hc1 ?_);generalize W5.setRow k c=W6 at*
 case' a0=>
  intro hl;rw[hl];have X6:Hid (WX W5 k p'):=G6 (by rw[G5 HS hl];exact G5 Y5);have D6:=D5;have O6:=O5;have R6:=R5;clear X5 Y5 D5 O5 R5;go_upto_region 13 with fail
 all_goals
  have DR:=G5 D6;have b0:=DR.r.cells;have g0:=DR.r.GN;obtain⟨r0,r1,r2,r3,r4,r5,r6,r7,r8,r9,r10,r11⟩:=(G5 R6).cells;have XR:=G6 (BC5 hk0 DR (G5 X6) (G5 HP) (G5 O6) (by omega));clear DR X6 D6 O6 R6;unfold rpV gY at XR;go_wp2_with fail;exact bodyPost_ret (v:=.agg #[I0 r.E,I0 r.z,S0 r.p,S0 r.d,I0 r.t.c,I0 r.t.m,I0 r.t.q,I0 r.t.v,I0 r.t.k,I0 r.t.o,I0 r.t.n,FQ na r.ns.length nc]) (by simp[results,results16,go_sem,b0]) rfl (G5 XR)
theorem ZG(p:Pw)(d:Dd)(k:Nat)(W:FU)(hx:WX W k p)(hh:p.h=k)(hT:ZV W)(h:PX p)(hp:d.q.p.length<=140737488355328)(hd:d.q.d.length<=140737488355328):FW prog 16 #[wP k,ddV d] W (CG5 W k (doP p d)):=by
 have ok:∀i,i<3->ML 300 (p.s i):=fun i hi=>(h.s i hi).more h.n1;unfold doP;by_cases hn:300<=p.n
 .rw[if_pos hn];exact CE4 p d k W hx ok hn
 .rw[if_neg hn];by_cases ha:UO d=0
  .rw[if_neg (fun e=>e ha)];exact CR1 p d k W hx hh hT h (by omega) ha hp hd
  .rw[if_pos ha];exact CR0 p d k W hx ok (by omega) h.n0 ha
structure WNf(W:FU)(k:Nat)(f:Nat->FV)(a b:Nat):Prop where
 t:∀j,j<83->∀x,f j≠ .string x
 n:f 0=I0 0
 r:∀i,i<3->f (31+i)=I0 0
 d:f 82=N0
 s:∀i,i<a->SvA W k (fun q=>f (1+10*i+q)) (svP i ps0)
 c:∀i,i<b->ClA W k (fun q=>f (34+3*i+q)) ⟨i+1,0,[]⟩
def WN(W V:FU)(a b:Nat):Prop:=(∃f,WB V W.heap.size f/\WNf V W.heap.size f a b)/\B0 W V
section
variable {W V U:FU} {a b:Nat}
theorem mG(h:B0 W V)(T:Touch (· =W.heap.size) V U):B0 W U:=⟨T.os.trans h.os,T.tape.trans h.tape,T.output.trans h.output,BM h.size T.size,fun b hb=>(T.block b (AX hb h.size) (by omega)).trans (h.block b hb)⟩
theorem WN.next(h:WN W V a b)(hb:B0 V U):WN W U a b:=by
 obtain⟨⟨f,h1,h2⟩,h3⟩:=h;exact⟨⟨f,h1.next hb,h2.t,h2.n,h2.r,h2.d,fun i hi=>(h2.s i hi).next hb,fun i hi=>⟨(h2.c i hi).s,(h2.c i hi).z,(h2.c i hi).e.next hb⟩⟩,G8 h3 hb⟩
theorem WN.srv(h:WN W V a b)(ha:a<3){vd vl vn vs vw:FV}{s:Sv}(hs:svP a ps0=s)(hv:SvV V (.agg #[.bool s.up,vd,I0 s.id,I0 s.ep,vl,I0 s.dn,I0 s.tr.z,vn,vs,vw]) s)(h0:s.tr.ss=[]):WN W (zN V W.heap.size (1+10*a) (.bool s.up) vd (I0 s.id) (I0 s.ep) vl (I0 s.dn) (I0 s.tr.z) vn vs vw) (a+1) b:=by
 obtain⟨⟨f,hb,hn⟩,hB⟩:=h;have T:=Y7 V W.heap.size (1+10*a) (.bool s.up) vd (I0 s.id) (I0 s.ep) vl (I0 s.dn) (I0 s.tr.z) vn vs vw;have hA:SvA V W.heap.size (CG2 (.bool s.up) vd (I0 s.id) (I0 s.ep) vl (I0 s.dn) (I0 s.tr.z) vn vs vw) s:=SvA.of (hb.gW hn.t) hv (fun h=>absurd h0 h) rfl rfl rfl rfl rfl rfl rfl rfl rfl rfl;refine⟨⟨_,hb.zN (o:=1+10*a) (by omega) _ _ _ _ _ _ _ _ _ _,fun j hj x=>?_,by rw[JC (by omega)];exact hn.n,fun i hi=>by rw[JC (by omega)];exact hn.r i hi,by rw[JC (by omega)];exact hn.d,fun i hi=>?_,fun i hi=>?_⟩,mG hB T⟩
 .by_cases e:1+10*a<=j/\j<1+10*a+10
  .obtain⟨q,rfl⟩:∃q,j=1+10*a+q:=⟨j-(1+10*a),by omega⟩;rw[O8 (by omega)];exact hA.cellP (P:=(· ≠ .string x)) (fun _ e=>by cases e) (fun _ e=>by cases e) (fun _ _ _ e=>by cases e) q (by omega)
  .rw[JC (by omega)];exact hn.t j hj x
 .by_cases e:i=a
  .subst e;rw[hs];exact(hA.congr fun q hq=>by rw[O8 hq]).touch T
  .exact((hn.s i (by omega)).congr fun q hq=>by rw[JC (by omega)]).touch T
 .have h:=(hn.c i hi).congr (g':=fun q=>BF1 f (1+10*a) 10 (CG2 (.bool s.up) vd (I0 s.id) (I0 s.ep) vl (I0 s.dn) (I0 s.tr.z) vn vs vw) (34+3*i+q)) fun q hq=>by rw[JC (by omega)]
  exact⟨h.s,h.z,h.e.touch T⟩
theorem WN.cl(h:WN W V a b)(ha:a<=3)(hb:b<16):WN W (sJ V W.heap.size (34+3*b) (I0 (b+1)) (I0 0) (N0)) a (b+1):=by
 obtain⟨⟨f,hf,hn⟩,hB⟩:=h;have T:=TB V W.heap.size (34+3*b) (I0 (b+1)) (I0 0) (N0);refine⟨⟨_,hf.sJ (o:=34+3*b) (by omega) _ _ _,fun j hj x=>?_,by rw[JC (by omega)];exact hn.n,fun i hi=>by rw[JC (by omega)];exact hn.r i hi,by rw[JC (by omega)];exact hn.d,fun i hi=>((hn.s i hi).congr fun q hq=>by rw[JC (by omega)]).touch T,fun i hi=>?_⟩,mG hB T⟩
 .by_cases e:34+3*b<=j/\j<34+3*b+3
  .obtain⟨q,rfl⟩:∃q,j=34+3*b+q:=⟨j-(34+3*b),by omega⟩;rw[O8 (by omega)];rcases(show q=0\/q=1\/q=2 by omega)with rfl|rfl|rfl<;>(intro e;cases e)
  .rw[JC (by omega)];exact hn.t j hj x
 .by_cases e:i=b
  .subst e;exact⟨by rw[O8 (by omega)];rfl,by rw[O8 (by omega)];rfl,by rw[O8 (by omega)];exact Row.nil _ _ 0 (by decide) FX⟩
  .have h:=(hn.c i (by omega)).congr (g':=fun q=>BF1 f (34+3*b) 3 (B73 (I0 (b+1)) (I0 0) (N0)) (34+3*i+q)) fun q hq=>by rw[JC (by omega)]
   exact⟨h.s,h.z,h.e.touch T⟩
theorem C05(i:Nat):(svP i ps0).tr.ss=[]:=by rw[J5 rfl];rfl
theorem WN.done(h:WN W V 3 16):WX V W.heap.size (pw0 W.heap.size):=by
 obtain⟨⟨f,hb,hn⟩,_⟩:=h;exact⟨f,hb,hn.n,fun i hi=>hn.s i hi,hn.r,hn.c,by rw[hn.d];exact Row.nil _ _ 0 (by decide) FX,fun i _ h0=>absurd (C05 i) h0,A8 _⟩
end
def CR2:FV->Bool
 | .string _=>false
 |_=>true
theorem CE5:zB.all CR2=true:=by kernel_rfl
theorem BC6:zB[0]?=FZ (I0 0)/\zB[31]?=FZ (I0 0)/\zB[32]?=FZ (I0 0)/\zB[33]?=FZ (I0 0)/\zB[82]?=FZ (N0):=⟨by kernel_rfl,by kernel_rfl,by kernel_rfl,by kernel_rfl,by kernel_rfl⟩
theorem BV2(W:FU)(z:Array FV)(hz:z.size=83)(ht:z.all CR2=true)(z0:z[0]?=FZ (I0 0))(z1:z[31]?=FZ (I0 0))(z2:z[32]?=FZ (I0 0))(z3:z[33]?=FZ (I0 0))(z4:z[82]?=FZ (N0)):WN W (W.alloc (FT z 84)) 0 0:=by
 have e:∀j:Nat,j<83->∃v,z[j]?=FZ v:=fun j hj=>⟨z[j]'(by omega),BP (by omega)⟩;have g:∀ (j:Nat) v,z[j]?=FZ v->z[j]?.getD undef=v:=fun j v h=>by rw[h];rfl
 refine⟨⟨fun j=>z[j]?.getD undef,⟨z,heap_alloc_last W _,hz,fun j hj=>?_⟩,fun j hj x=>?_,g _ _ z0,fun i hi=>?_,g _ _ z4,fun i hi=>by omega,fun i hi=>by omega⟩,G7 _ _⟩
 .obtain⟨v,h⟩:=e j hj;rw[h,<-g j v h]
 .obtain⟨v,h⟩:=e j hj;rw[g j v h];rintro rfl;have:=Array.all_eq_true.1 ht j (by omega);rw[BP (by omega)]at h;rw[BN h]at this
  cases this
 .rcases(show i=0\/i=1\/i=2 by omega)with rfl|rfl|rfl
  .exact g _ _ z1
  .exact g _ _ z2
  .exact g _ _ z3
theorem WN.start(W:FU):WN W (W.alloc (FT zB 84)) 0 0:=BV2 W zB CE2 CE5 BC6.1 BC6.2.1 BC6.2.2.1 BC6.2.2.2.1 BC6.2.2.2.2
theorem CE6(i:Nat)(hi:i<3)(w:FU):FW prog 31 #[I0 i,.agg #[N0]] w (B79 w (svP i ps0) 0):=by
 have e:svP i ps0=CV8 i:=by rw[J5 rfl,CV8,AO9 (fs:=[]) (by unfold WH;simp only[A20];split<;>simp)];simp[ps0,IC,epD,OE,P6]
 rw[e];exact(B61 i (by omega) (by omega) w).mono fun _ _ h=>sS h rfl
theorem BC7(W:FU):FW prog 15 #[] W fun e w'=>e=.returned (wP W.heap.size)/\WX w' W.heap.size (pw0 W.heap.size)/\B0 W w':=by
 have CB:=G6 (fun i hi V=>CE6 i hi V);have CN:=G6 (fun s h1 h2 V=>BQ8 s V h1 h2);have HE0:=G6 C05;have H0:=G6 (WN.start W);unfold wP;go_enter func15,ntmps15;go_upto_region 2 with(first|refine tZ rfl rfl ?_|refine A78 rfl _ rfl zB rfl ?_);generalize W.alloc _=W0 at*;go_wp2_with fail
 go_loopg [6] 3 (fun kx s6 wr=>∃i:Nat,s6=I0 i/\i<=3/\3-i<=kx/\Hid (WN W wr i 0))
 case atStart=>exact⟨0,rfl,by omega,A8 _,H0⟩
 case round=>
  obtain⟨i,rfl,hi,hg,HN⟩:=hrel;by_cases hlt:i<3
  .have hii:(i:Int)<3:=by omega
   have C1:=G6 (fun V=>G5 CB i hlt V);have HE:=G6 (G5 HE0 i);generalize hs1:svP i ps0=s1 at C1 HE;have HK:=G6 hs1;clear hs1;go_upto_region 5 with fail;have hS0:(fun _:FU=>True) wr.drew:=trivial;refine wp_region_held (S:=fun _:FU=>True) (by kernel_rfl) ?_;change wpAnyH _ _ _ _ _ _ _ _ wr.drew;refine tkH 0 hS0 ?_;refine tkH 1 hS0 ?_;refine tkH 2 hS0 ?_;refine tkH 3 hS0 ?_;refine tkH 8 hS0 ?_;refine tkH 9 hS0 ?_;refine rd1 4 (fun K hK=>?_);go_simp
   with_reducible refine(G5 C1 _).mono ?_
   rintro e w1 ⟨ad,nd,cd,al,cl,an,cn,ai,ci,aw,cw,rfl,H1,hb1⟩;have N1:=(G5 HN).next (G8 (Below.refl wr.heap.size wr).drew hb1);clear hb1;refine nxH hK trivial ?_;clear hK K;refine tkH 5 trivial ?_;refine tkH 6 trivial ?_;refine tkH 7 trivial ?_;refine tkH 10 trivial ?_;refine rd1 11 (fun K hK=>?_);obtain⟨f,hf,_⟩:=N1.1;have x0:=hf.cell (j:=1+i*10) (by omega);have z0:=hf.GN (1+i*10);have x1:=hf.cell (j:=1+i*10+1) (by omega);have z1:=hf.GN (1+i*10+1);have x2:=hf.cell (j:=1+i*10+2) (by omega);have z2:=hf.GN (1+i*10+2);have x3:=hf.cell (j:=1+i*10+3) (by omega);have z3:=hf.GN (1+i*10+3);have x4:=hf.cell (j:=1+i*10+4) (by omega);have z4:=hf.GN (1+i*10+4);have x5:=hf.cell (j:=1+i*10+5) (by omega);have z5:=hf.GN (1+i*10+5);have x6:=hf.cell (j:=1+i*10+6) (by omega);have z6:=hf.GN (1+i*10+6);have x7:=hf.cell (j:=1+i*10+7) (by omega);have z7:=hf.GN (1+i*10+7);have x8:=hf.cell (j:=1+i*10+8) (by omega);have z8:=hf.GN (1+i*10+8);have x9:=hf.cell (j:=1+i*10+9) (by omega);have z9:=hf.GN (1+i*10+9);have hkl:=hf.lt;have HR:=G6 (N1.srv hlt (G5 HK) (G5 H1).1 (G5 HE));unfold zN at HR;rw[DC 10 i]at HR;clear N1 H1 hf;go_simp;refine nxH hK trivial ?_;clear hK K;refine wpAnyH_done (by kernel_rfl) ?_ _;go_wp2_with fail
   go_roundg (3-(i+1))
   case measure=>omega
   case rel=>exact⟨i+1,by simp,by omega,A8 _,HR⟩
  .obtain rfl:i=3:=by omega
   have H3:=HN;clear HN hg hi hlt;go_wp2_with fail
   go_loopg [21] 16 (fun kx s21 wr=>∃i:Nat,s21=I0 i/\i<=16/\16-i<=kx/\Hid (WN W wr 3 i))
   case atStart=>exact⟨0,rfl,by omega,A8 _,H3⟩
   case round=>
    obtain⟨i,rfl,hi,hg,HN⟩:=hrel;by_cases hlt:i<16
    .have hii:(i:Int)<16:=by omega
     have hwr:IntKind.i64.wrap ((i:Int)+1)=(i:Int)+1:=by rw[FD];omega
     have C2:=G6 (fun V=>G5 CN ((i:Int)+1) (by omega) (by omega) V);unfold clV at C2;go_upto_region 10 with fail;have hS0:(fun _:FU=>True) wr.drew:=trivial;refine wp_region_held (S:=fun _:FU=>True) (by kernel_rfl) ?_;change wpAnyH _ _ _ _ _ _ _ _ wr.drew;refine tkH 0 hS0 ?_;refine tkH 1 hS0 ?_;refine tkH 2 hS0 ?_;refine tkH 3 hS0 ?_;refine tkH 8 hS0 ?_;refine tkH 9 hS0 ?_;refine rd1 4 (fun K hK=>?_);go_simp
     with_reducible refine(G5 C2 _).mono ?_
     rintro e w1 ⟨rfl,hb1⟩;have N1:=(G5 HN).next (G8 (Below.refl wr.heap.size wr).drew hb1);clear hb1;refine nxH hK trivial ?_;clear hK K;refine tkH 5 trivial ?_;refine tkH 6 trivial ?_;refine tkH 7 trivial ?_;refine tkH 10 trivial ?_;refine rd1 11 (fun K hK=>?_);obtain⟨f,hf,_⟩:=N1.1;have x0:=hf.cell (j:=34+i*3) (by omega);have z0:=hf.GN (34+i*3);have x1:=hf.cell (j:=34+i*3+1) (by omega);have z1:=hf.GN (34+i*3+1);have x2:=hf.cell (j:=34+i*3+2) (by omega);have z2:=hf.GN (34+i*3+2);have hkl:=hf.lt;have HR:=G6 (N1.cl (A8 3) hlt);unfold sJ at HR;rw[DC 3 i]at HR;clear N1 hf;go_simp;refine nxH hK trivial ?_;clear hK K;refine wpAnyH_done (by kernel_rfl) ?_ _;go_wp2_with fail
     go_roundg (16-(i+1))
     case measure=>omega
     case rel=>exact⟨i+1,by simp,by omega,A8 _,HR⟩
    .obtain rfl:i=16:=by omega
     go_wp2_with fail;go_ret;exact⟨rfl,(G5 HN).done,(G5 HN).2⟩
theorem zH(p:Pw):∀l:List Dd,(OZ p l).h=p.h
 |[]=>rfl
 |d::l=>by
  rw[OZ,zH _ l];unfold doP
  repeat' split
  all_goals first|rfl|exact CE3 _ _
theorem AI2(p:Pw)(d:Dd):∀l:List Dd,OZ p (l++[d])=(doP (OZ p l) d).2
 |[]=>rfl
 |e::l=>by
  show OZ (doP p e).2 (l++[d])=_;rw[AI2 _ d l];rfl
theorem mJ(p:Pw){ds:List Dd}{i:Nat}(h:ds[i]?=FZ d):OZ p (ds.take (i+1))=(doP (OZ p (ds.take i)) d).2:=by
 obtain⟨hk,rfl⟩:=List.getElem?_eq_some_iff.1 h;rw[List.take_succ_eq_append_getElem hk,AI2]
structure BV4(W:FU)(k:Nat)(p:Pw)(V:FU):Prop where
 x:WX V k p
 t:ZV V
 b:B0 W V
 k:W.heap.size<=k
section
variable {W V U:FU} {k:Nat} {p q:Pw}
theorem BV4.next(h:BV4 W k p V)(hb:B0 V U):BV4 W k p U:=⟨h.x.next hb,h.t.next hb,G8 h.b hb,h.k⟩
theorem BV4.turn(h:BV4 W k p V)(ht:Touch (· =k) V U)(hx:WX U k q):BV4 W k q U:=
 ⟨hx,dF h.t h.x ht,⟨ht.os.trans h.b.os,ht.tape.trans h.b.tape,ht.output.trans h.b.output,BM h.b.size ht.size,fun b hb=>(ht.block b (AX hb h.b.size) (by have:=h.k;omega)).trans (h.b.block b hb)⟩,h.k⟩
theorem BV4.start(hT:ZV W)(hb:B0 W V)(hc:B0 V U)(hx:WX U V.heap.size (pw0 V.heap.size)):BV4 W V.heap.size (OZ (pw0 V.heap.size) []) U:=⟨hx,(hT.next hb).next hc,G8 hb hc,hb.size⟩
end
theorem BC9(p:Pw)(k:Nat)(W:FU)(hx:WX W k p)(hD:p.D.length<=300):FW prog 30 #[wP k] W fun e w'=>∃a c,e=.returned (FQ a p.D.length c)/\GZ w' W.heap.size (FQ a p.D.length c) p.D/\B0 W w':=by
 obtain⟨ua,uc,d82,hdv⟩:=hx.ack;have CC:=G6 (A24 (FQ ua p.D.length uc) p.D W hdv (by omega));clear hx hdv;unfold wP;go_enter func30,ntmps30;go_wp2_with fail;refine(G5 CC).mono ?_;rintro e w1 ⟨v1,rfl,ho,hb⟩;obtain⟨a1,c1,rfl⟩:=IY ho;have HO:=G6 (C9 ho hb);clear ho hb CC;go_wp2_with fail;go_ret;exact⟨a1,c1,rfl,(G5 HO).1,(G5 HO).2⟩
theorem BD0(W:FU)(hT:ZV W):FW prog 14 #[] W (R0 W (.bool true)):=by
 have HT:=G6 hT;have CN:=G6 (BC7 W);clear hT;have hfd:∀ (x0 x1 x2 x3 x4 x5 x6 x7 x8 x9 x10 x11:FV) (w:FU),(Instr.field 37 (.agg #[x0,x1,x2,x3,x4,x5,x6,x7,x8,x9,x10,x11]) 0).run prog w=.ok x0 w:=fun _ _ _ _ _ _ _ _ _ _ _ _ _=>by kernel_rfl
 go_enter func14,ntmps14;go_wp2_with fail;refine(G5 CN).mono ?_;rintro e w1 ⟨rfl,hx1,hb1⟩;have P1:=G6 (BV4.start (G5 HT) (Below.refl _ _) hb1 hx1);clear hx1 hb1 CN HT;obtain⟨f,c,h1,hf,hc⟩:=AI1 W.heap.size;have i1:=U1 dEl (MZ W.heap.size);have C1:=G6 (ZG (pw0 W.heap.size) dEl W.heap.size w1 (G5 P1).x rfl (G5 P1).t (MZ W.heap.size) (by simp[dEl]) (by simp[dEl]));rw[h1]at C1 i1;obtain⟨t,ns,p2,h2,hD⟩:=BV3 (k:=W.heap.size) hf hc;have C2:=G6 (fun V hx hT=>ZG ⟨1,f,eR (pw0 W.heap.size).s,c,[],[],W.heap.size⟩ dOp W.heap.size V hx rfl hT i1 (by simp[dOp]) (by simp[dOp]));rw[h2]at C2;have CL:=G6 (fun V hx=>SI ⟨1,f,eR (pw0 W.heap.size).s,c,[],[],W.heap.size⟩ W.heap.size V hx);have CA:=G6 (fun V hx=>BC9 p2 W.heap.size V hx (by omega));simp only[show ldP (eR (pw0 W.heap.size).s)=2 from rfl]at CL;rw[hD]at CA;clear h1 h2 i1 hf hc hD;generalize eR (pw0 W.heap.size).s=ro at*;simp only[wP,ddV,dEl,nd0]at C1;simp only[wP,ddV,dOp]at C2;unfold wP at CL CA⊢;go_wp2_with fail;refine(G5 C1).mono ?_;rintro e w2 ⟨u2,rfl,ho2,ht2,hx2⟩;obtain⟨a2,c2,rfl⟩:=IY ho2;have P2:=G6 ((G5 P1).turn ht2 hx2);clear ho2 ht2 hx2 C1 P1;unfold rpV;go_wp2_with fail;refine(G5 CL _ (G5 P2).x).mono ?_;rintro e w3 ⟨rfl,hb3⟩;have P3:=G6 ((G5 P2).next hb3);clear hb3 CL P2;go_wp2_with fail;refine(G5 C2 _ (G5 P3).x (G5 P3).t).mono ?_;rintro e w4 ⟨u4,rfl,ho4,ht4,hx4⟩;obtain⟨a4,c4,rfl⟩:=IY ho4;have P4:=G6 (fun O=>((G5 P3).turn ht4 hx4).next (G7 w4 O));clear ho4 ht4 hx4 C2 P3;unfold rpV;go_wp2_with fail;refine(G5 CA _ (G5 P4 _).x).mono ?_;rintro e w5 ⟨a5,c5,rfl,_,hb5⟩;have P5:=G6 ((G5 P4 _).next hb5);clear hb5 CA P4;go_wp2_with fail;go_ret;exact⟨rfl,(G5 P5).b⟩
theorem BD1{a b:Int}(h:a=b):Ending.returned (I0 a)=.returned (I0 b):=by rw[h]
theorem A79(k n:Int)(hn:0<n):k.tmod n=k%n\/k.tmod n=k%n-n:=by
 rw[Int.tmod_eq_emod]
 split
 .left;omega
 .right;omega
theorem UW(k n:Int)(w:FU)(hn:0<n)(hn1:n<=1048576)(hk: -9223372036854775808<=k)(hk1:k<=9223372036854775807):
  FW prog 28 #[I0 k,I0 n] w fun e w'=>e=.returned (I0 (k%n))/\w'=w:=by
 have hm1:=Int.emod_nonneg k (show n≠0 by omega);have hm2:=Int.emod_lt_of_pos k hn;by_cases h0:0<=k
 .go_enter func28,ntmps28
  go_wp2
  go_ret;exact⟨rfl,rfl⟩
 .have HT:=G6 (A79 k n hn);go_enter func28,ntmps28
  go_wp2
  all_goals go_ret
  all_goals refine⟨BD1 ?_,rfl⟩
  all_goals (have hT:=G5 HT;clear HT;first|omega|(unfold wrap64;omega))
def A80(k:Int):Rq:=if k=13 then⟨4,0,[47,108],[],-1,0⟩else⟨3,0,[47,108,47,110],[],0,if k%2=0 then 3 else 2⟩
theorem BV5{k:Int}(h:k≠13):(A80 k).o=3/\(A80 k).p=[47,108,47,110]/\2<=(A80 k).f/\(A80 k).f<=3:=by
 rw[A80,if_neg h];refine⟨rfl,rfl,?_,?_⟩<;>(show _<=_;simp only;split<;>omega)
theorem VW{α:Type}[Lay α]{xs:List α}(hp:2<=Lay.k α\/(0<Lay.k α/\∀ (x:α) t,(Lay.cs x)[0]? ≠FZ (.string t)))(h:IU W v xs)(hc:W.heap[c]?=FZ (FT #[S0 l] 9 (0,0))):xs≠[]->UJ v c:=by
 intro h0 b off n cc e;rcases h with⟨a,cap,_,e0,_⟩|⟨b',off',cap,rfl,_,_,h3,_,h4⟩
 .exact absurd e0 h0
 .simp only[AP,BD,Addr.mk.injEq]at e;rintro rfl;obtain⟨x,r,rfl⟩:=List.exists_cons_of_ne_nil h0;have key:∀j,j<Lay.k α->∃t,(Lay.cs x)[j]?=FZ (.string t)/\off'+j=0:=fun j hj=>by
   obtain⟨u,hu⟩:∃u,(Lay.cs x)[j]?=FZ u:=⟨_,List.getElem?_eq_getElem (by rw[Lay.len];exact hj)⟩;have:=h4 (0*Lay.k α+j) _ ((GV (x::r) 0 x rfl j hj).trans hu);rw[e.1.1]at this;simp only[AV,hc,Nat.zero_mul,BI]at this;by_cases h1:off'+j=0
   .rw[h1]at this;simp at this;exact⟨_,by rw[hu,<-this],h1⟩
   .rw[Array.getElem?_eq_none (by simp;omega)]at this
    cases this
  rcases hp with hp|⟨hp,hn⟩
  .obtain⟨_,_,e1⟩:=key 1 (by omega);omega
  .obtain⟨t,ht,_⟩:=key 0 hp;exact hn x t ht
theorem BV6(h:V.heap[c]?=FZ (FT #[S0 l] 9 (0,0))):V.cell? ⟨c,0,FX⟩=FZ (S0 l)/\V.frozen? ⟨c,0,FX⟩=false:=by
 simp[AV,F7,h]
theorem BV7{q:Rq}(h:W.heap[g]?=FZ (FT #[I0 q.o,I0 q.s,S0 q.p,S0 q.d,I0 q.v,I0 q.f] 29 (0,0))):
  W.cell? ⟨g,0,FX⟩=FZ (I0 q.o)/\W.cell? ⟨g,1,FX⟩=FZ (I0 q.s)/\W.cell? ⟨g,2,FX⟩=FZ (S0 q.p)/\W.cell? ⟨g,3,FX⟩=FZ (S0 q.d)/\W.cell? ⟨g,4,FX⟩=FZ (I0 q.v)/\W.cell? ⟨g,5,FX⟩=FZ (I0 q.f):=by
 refine⟨?_,?_,?_,?_,?_,?_⟩<;>simp[AV,h]
theorem A81(w:FU)(k:Nat)(c:Array FV)(hc:w.heap[k]?=FZ (FT c 29 (0,0)))(hn:c.size=6):(loadVar 29 ⟨k,0,FX⟩).run prog w=.ok (.agg c) w:=by
 have hl:=run_loadCells_list (P:=prog) (w:=w) ⟨k,0,FX⟩ c.toList (fun j v hj=>by
  rw[Addr.add_lit];show w.cell? ⟨k,0+j,FX⟩=FZ v;rw[BI];simp only[AV,hc];simpa using hj)
 rw[show c.toList.length=6 by simpa using hn]at hl;unfold loadVar;simp only[DX,isAgg29,sizeOf29,Result.andThen,if_true];rw[hl];simp
theorem YD{fn:Func}{tmps:Array FV}{a b:Nat}{S:TypeId}{x:Addr}{v0:FV}(hfn:fn.results=#[.cell a S,.tmp b])(h2:tmps[a]?.getD undef=.pointer (FZ x))(hl0:(loadVar S x).run prog U=.ok v0 U):(results fn tmps).run prog U=.ok (.tuple #[v0,tmps[b]?.getD undef]) U:=by
 unfold results;rw[hfn];simp[h2,asAddr,hl0,Result.andThen,List.mapM_toArray]
theorem BD2(v:FV)(k c:Int)(W:FU)(hk:0<=k/\k<16):
  FW prog 12 #[v,I0 k,I0 c] W (R0 W (.tuple #[rqV (A80 k),.bool (decide (k≠13))])):=by
 by_cases h13:k=13
 .subst h13;go_enter func12,ntmps12;go_wp2_with fail;refine bodyPost_ret (v:=.tuple #[rqV (A80 13),.bool false]) (YD (a:=6) (b:=7) (x:=⟨W.heap.size,0,FX⟩) rfl rfl ?_) rfl ⟨rfl,G7 _ _⟩;exact A81 _ _ _ (heap_alloc_new _ _) rfl
 .have hd:decide (k≠13)=true:=by simpa using h13
  rw[hd];by_cases h2:k%2=0
  .have h2':k.tmod 2=0:=by rw[Int.tmod_eq_emod_of_nonneg hk.1];omega
   rw[show A80 k=⟨3,0,[47,108,47,110],[],0,3⟩ by rw[A80,if_neg h13,if_pos h2]];go_enter func12,ntmps12;go_wp2_with fail;refine bodyPost_ret (v:=.tuple #[rqV ⟨3,0,[47,108,47,110],[],0,3⟩,.bool true]) (YD (a:=6) (b:=7) (x:=⟨W.heap.size,0,FX⟩) rfl rfl ?_) rfl ⟨rfl,G7 _ _⟩;exact A81 _ _ _ (heap_alloc_new _ _) rfl
  .have h2':k.tmod 2=1:=by rw[Int.tmod_eq_emod_of_nonneg hk.1];omega
   rw[show A80 k=⟨3,0,[47,108,47,110],[],0,2⟩ by rw[A80,if_neg h13,if_neg h2]];go_enter func12,ntmps12;go_wp2_with fail;refine bodyPost_ret (v:=.tuple #[rqV ⟨3,0,[47,108,47,110],[],0,2⟩,.bool true]) (YD (a:=6) (b:=7) (x:=⟨W.heap.size,0,FX⟩) rfl rfl ?_) rfl ⟨rfl,G7 _ _⟩;exact A81 _ _ _ (heap_alloc_new _ _) rfl
theorem dJ(v:FV)(r:Rp)(u:FV)(last:List UInt8)(c:Nat)(W:FU)(hc:W.heap[c]?=FZ (FT #[S0 last] 9 (0,0)))(hr:r.E=0->r.p≠[]->Op.bytesLess last r.p=true/\r.p.length=14):
  FW prog 13 #[v,rpV r u,P0 c] W fun e w'=>e=.returned (.bool true)/\∃W1,B0 W W1/\W1.heap[c]?=FZ (FT #[S0 last] 9 (0,0))/\((¬ (r.E=0/\r.p≠[])/\w'=W1)\/(r.E=0/\r.p≠[]/\w'=W1.setCell ⟨c,0,FX⟩ (S0 r.p))):=by
 have R1:Hid (RpX (W.alloc (FT #[I0 r.E,I0 r.z,S0 r.p,S0 r.d,I0 r.t.c,I0 r.t.m,I0 r.t.q,I0 r.t.v,I0 r.t.k,I0 r.t.o,I0 r.t.n,u] 37)) W.heap.size r u):=G6 (heap_alloc_last _ _);have B1:=G6 (G7 W (FT #[I0 r.E,I0 r.z,S0 r.p,S0 r.d,I0 r.t.c,I0 r.t.m,I0 r.t.q,I0 r.t.v,I0 r.t.k,I0 r.t.o,I0 r.t.n,u] 37));have hcl:=(AB.1 hc).1;have HC:=G6 (((G5 B1).block c hcl).trans hc);unfold rpV;clear hc;go_enter func13,ntmps13;go_upto_region 1 with fail;generalize W.alloc _=W1 at*;have hg:W.heap.size≠c:=by omega
 obtain⟨c0,cf⟩:=BV6 (G5 HC);have HB:=G6 (C9 (G5 B1) (G5 HC));clear HC;obtain⟨r0,_,r2,_,_,_,_,_,_,_,_,_⟩:=(G5 R1).cells;clear R1 B1;by_cases hE:r.E=0
 .by_cases hp:r.p=[]
  .rw[hE]at r0;rw[hp]at r2;have hd:¬ (r.E=0/\r.p≠[]):=fun h=>h.2 hp;clear hr;go_wp2_with fail;go_ret;exact⟨rfl,W1,(G5 HB).1,(G5 HB).2,.inl ⟨hd,rfl⟩⟩
  .obtain⟨hl,h14⟩:=hr hE hp;have HE:=G6 hE;have HP:=G6 hp;rw[hE]at r0;have hlt:Op.bytesLess r.p last=false:=by
    cases h:Op.bytesLess r.p last with
    |false=>rfl
    |true=>exact absurd (QH _ _ _ hl h) (by rw[O9];simp)
   have he:r.p.isEmpty=false:=by simpa using hp
   have hq:(r.p==[])=false:=by simpa using hp
   have hq2:(r.p==last)=false:=beq_eq_false_iff_ne.2 (fun e=>by rw[e]at hl;exact absurd hl (by rw[show Op.bytesLess last last=false from O9 _];simp));clear hr hE;go_wp2_with fail;go_ret;exact⟨rfl,W1,(G5 HB).1,(G5 HB).2,.inr ⟨G5 HE,G5 HP,rfl⟩⟩
 .have hE':(r.E==0)=false:=beq_eq_false_iff_ne.2 hE;have hE2:decide (r.E=0)=false:=decide_eq_false hE;have hd:¬ (r.E=0/\r.p≠[]):=fun h=>hE h.1;clear hr;go_wp2_with fail;go_ret;exact⟨rfl,W1,(G5 HB).1,(G5 HB).2,.inl ⟨hd,rfl⟩⟩
structure CT3(W:FU)(F:Nat->Prop)(I:Nat->Nat->FU->Prop):Prop where
 lt:∀b,F b->b<W.heap.size
 g:¬F 1
 next:∀k i V U,I k i V->B0 V U->I k i U
 turn:∀k i V U,W.heap.size<=k->I k i V->Touch (· =k) V U->I k i U
structure AS7(W:FU)(k:Nat)(F:Nat->Prop)(p:Pw)(I:FU->Prop)(V:FU):Prop where
 x:WX V k p
 t:ZV V
 b:Touch F W V
 kl:W.heap.size<=k
 i:I V
section
variable {W V U:FU} {k i:Nat} {p q:Pw} {F:Nat->Prop} {I:Nat->Nat->FU->Prop}
theorem AS7.next(h:AS7 W k F p (I k i) V)(K:CT3 W F I)(hb:B0 V U):AS7 W k F p (I k i) U:=⟨h.x.next hb,h.t.next hb,h.b.trans (Touch.of_below hb),h.kl,K.next _ _ _ _ h.i hb⟩
theorem AS7.turn(h:AS7 W k F p (I k i) V)(K:CT3 W F I)(ht:Touch (· =k) V U)(hx:WX U k q):AS7 W k F q (I k i) U:=by
 have hk:=h.kl;exact⟨hx,dF h.t h.x ht,⟨ht.os.trans h.b.os,ht.tape.trans h.b.tape,ht.output.trans h.b.output,BM h.b.size ht.size,fun b hb hn=>(ht.block b (AX hb h.b.size) (by omega)).trans (h.b.block b hb hn)⟩,hk,K.turn _ _ _ _ hk h.i ht⟩
theorem AS7.start(K:CT3 W F I)(hT:ZV W)(hb:B0 W V)(hc:B0 V U)(hx:WX U V.heap.size (pw0 V.heap.size))(h0:I V.heap.size 0 W):AS7 W V.heap.size F (OZ (pw0 V.heap.size) []) (I V.heap.size 0) U:=
 ⟨hx,(hT.next hb).next hc,Touch.of_below (G8 hb hc),hb.size,K.next _ _ _ _ h0 (G8 hb hc)⟩
end
theorem WX.strb{m:Nat}(h:WX V k p)(hm:V.heap[m]?=FZ (FT #[S0 l] 9 (0,0)))(hc:m<k)(ht:Touch (· =m) V U):WX U k p:=by
 obtain⟨f,hb,hr⟩:=h;have he:k≠m:=by omega
 refine⟨f,hb.touch ht he,hr.n,fun i hi=>?_,hr.r,fun i hi=>⟨(hr.c i hi).s,(hr.c i hi).z,(hr.c i hi).e.far ht (VW (.inl (by decide)) (hr.c i hi).e.1 hm)⟩,hr.d.far ht (VW (.inl (by decide)) hr.d.1 hm),hr.h,hr.hk⟩;have s:=hr.s i hi;exact⟨s.up,s.d.far ht (VW (.inl (by decide)) s.d.1 hm),s.id,s.ep,s.l.far ht (VW (.inl (by decide)) s.l.1 hm),s.dn,s.z,s.n.far ht (VW (.inl (by decide)) s.n.1 hm),s.i.far ht (VW (.inr ⟨by decide,fun x t e=>by cases e⟩) s.i.1 hm),s.w.far ht (VW (.inl (by decide)) s.w.1 hm)⟩
theorem BD3(x0 x1 x2 x3 x4 x5 x6 x7 x8 x9 x10 x11:FV)(w:FU):(Instr.field 37 (.agg #[x0,x1,x2,x3,x4,x5,x6,x7,x8,x9,x10,x11]) 0).run prog w=.ok x0 w:=by kernel_rfl
def C06:Dd:=⟨5,0,0,⟨0,0,[],[],0,0⟩,0,0,0,false⟩
def BF2(c:Nat):Dd:=⟨1,c,0,⟨1,0,[],[],0,0⟩,0,0,0,false⟩
def C07:Dd:=⟨1,0,0,⟨3,0,[47,108],[],0,0⟩,0,0,0,false⟩
def gD:List Dd:=[C06,BF2 0,BF2 1,BF2 2,BF2 3,C07]
def CR3(d:Dd):Prop:=d.k=3\/d.k=4\/d.k=5\/(d.k=1/\∃κ:Int,κ≠13/\d.q=A80 κ)
def CE7(c:Nat)(last:List UInt8)(V:FU):Prop:=V.heap[c]?=FZ (FT #[S0 last] 9 (0,0))
theorem BV8{b off n cap:Nat}{xs:List Int}{i:Nat}{x:Int}(hv:IU W (FQ (FZ ⟨b,off,FX⟩) n cap) xs)(hd:xs[i]?=FZ x):W.cell? ⟨b,off+i,FX⟩=FZ (I0 x):=by
 obtain⟨b',off',cap',he,_,hr,_,_,_⟩:=pR hv hd;simp only[AP,BD,Addr.mk.injEq,and_true]at he;obtain⟨⟨rfl,rfl⟩,_,_⟩:=he;exact hr.i0 hd
theorem OH(x n:Int)(hn:0<n)(h1: -9223372036854775808<=x)(h2:x<=9223372036854775807): -9223372036854775808<=x.tdiv n/\x.tdiv n<=9223372036854775807:=by
 by_cases h0:0<=x
 .have h3:=Int.ediv_nonneg h0 (Int.le_of_lt hn);have h4:=Int.ediv_le_self n h0;rw[Int.tdiv_eq_ediv_of_nonneg h0];omega
 .have h5:0<= -x:=by omega
  have h3:=Int.ediv_nonneg h5 (Int.le_of_lt hn);have h4:=Int.ediv_le_self n h5;have h6:x.tdiv n=-((-x)/n):=by
   rw[<-Int.tdiv_eq_ediv_of_nonneg h5,Int.neg_tdiv,Int.neg_neg]
  rw[h6];omega
theorem BV9{last:List UInt8}(hl:c<W.heap.size)(hg:1≠c):CT3 W (· =c) (fun _ _ V=>CE7 c last V):=
 ⟨fun b e=>by rw[e];exact hl,fun e=>hg e,fun _ _ V U h hb=>(hb.block _ (AB.1 h).1).trans h,fun k _ V U hk h ht=>(ht.block _ (AB.1 h).1 (by omega)).trans h⟩
theorem BD4(p:Pw)(d:Dd):(doP p d).2.h=p.h:=by
 unfold doP
 repeat' split
 all_goals first|rfl|exact CE3 _ _
theorem UY(h:JF V g d)(j:Nat)(v:FV)(d':Dd)(e:(jT d).toArray.setIfInBounds j v=(jT d').toArray):JF (V.setCell ⟨g,j,FX⟩ v) g d':=by
 have h0:V.heap[g]?=FZ (FT (jT d).toArray 31 (0,0)):=h;unfold JF;rw[GL v h0,e];rfl
theorem TT(h:JF V g d):V.cell? ⟨g,0,FX⟩=FZ (I0 d.k)/\V.cell? ⟨g,1,FX⟩=FZ (I0 d.c)/\V.cell? ⟨g,2,FX⟩=FZ (I0 d.s)/\V.cell? ⟨g,3,FX⟩=FZ (I0 d.q.o)/\V.cell? ⟨g,4,FX⟩=FZ (I0 d.q.s)/\V.cell? ⟨g,5,FX⟩=FZ (S0 d.q.p)/\V.cell? ⟨g,6,FX⟩=FZ (S0 d.q.d)/\V.cell? ⟨g,7,FX⟩=FZ (I0 d.q.v)/\V.cell? ⟨g,8,FX⟩=FZ (I0 d.q.f)/\V.cell? ⟨g,9,FX⟩=FZ (I0 d.lo)/\V.cell? ⟨g,10,FX⟩=FZ (I0 d.sl)/\V.cell? ⟨g,11,FX⟩=FZ (I0 d.ke)/\V.cell? ⟨g,12,FX⟩=FZ (.bool d.wt):=by
 have e:=h.row;simp only[BI]at e;exact⟨e 0 _ rfl,e 1 _ rfl,e 2 _ rfl,e 3 _ rfl,e 4 _ rfl,e 5 _ rfl,e 6 _ rfl,e 7 _ rfl,e 8 _ rfl,e 9 _ rfl,e 10 _ rfl,e 11 _ rfl,e 12 _ rfl⟩
theorem TI(h:JF V g d)(j:Nat):V.frozen? ⟨g,j,FX⟩=false:=by
 unfold JF at h;simp[F7,h]
theorem qI(w:FU):w.drew.heap=w.heap:=rfl
def CT4(V:FU)(g:Nat)(Q:Rq):FU:=World.drew (World.setCell (World.setCell (World.setCell (World.setCell (World.setCell (World.setCell (World.setCell V ⟨g,0,FX⟩ (I0 1)) ⟨g,3,FX⟩ (I0 Q.o)) ⟨g,4,FX⟩ (I0 Q.s)) ⟨g,5,FX⟩ (S0 Q.p)) ⟨g,6,FX⟩ (S0 Q.d)) ⟨g,7,FX⟩ (I0 Q.v)) ⟨g,8,FX⟩ (I0 Q.f))
theorem CR4{cc sv:Int}(h:JF V g (⟨0,cc,sv,⟨0,0,[],[],0,0⟩,0,0,0,false⟩:Dd)):JF (CT4 V g Q) g (⟨1,cc,sv,Q,0,0,0,false⟩:Dd):=by
 have h1:=UY h 0 (I0 1) ⟨1,cc,sv,⟨0,0,[],[],0,0⟩,0,0,0,false⟩ rfl;have h2:=UY h1 3 (I0 Q.o) ⟨1,cc,sv,⟨Q.o,0,[],[],0,0⟩,0,0,0,false⟩ rfl;have h3:=UY h2 4 (I0 Q.s) ⟨1,cc,sv,⟨Q.o,Q.s,[],[],0,0⟩,0,0,0,false⟩ rfl;have h4:=UY h3 5 (S0 Q.p) ⟨1,cc,sv,⟨Q.o,Q.s,Q.p,[],0,0⟩,0,0,0,false⟩ rfl;have h5:=UY h4 6 (S0 Q.d) ⟨1,cc,sv,⟨Q.o,Q.s,Q.p,Q.d,0,0⟩,0,0,0,false⟩ rfl;have h6:=UY h5 7 (I0 Q.v) ⟨1,cc,sv,⟨Q.o,Q.s,Q.p,Q.d,Q.v,0⟩,0,0,0,false⟩ rfl;have h7:=UY h6 8 (I0 Q.f) ⟨1,cc,sv,Q,0,0,0,false⟩ rfl;clear h h1 h2 h3 h4 h5 h6;unfold JF at h7⊢;unfold CT4;rw[qI];exact h7
theorem CE8(hb:Below g W V):Below g W (CT4 V g Q):=by
 have h1:=hb.setCell (p:=⟨g,0,FX⟩) (A8 _) (I0 1);have h2:=h1.setCell (p:=⟨g,3,FX⟩) (A8 _) (I0 Q.o);have h3:=h2.setCell (p:=⟨g,4,FX⟩) (A8 _) (I0 Q.s);have h4:=h3.setCell (p:=⟨g,5,FX⟩) (A8 _) (S0 Q.p);have h5:=h4.setCell (p:=⟨g,6,FX⟩) (A8 _) (S0 Q.d);have h6:=h5.setCell (p:=⟨g,7,FX⟩) (A8 _) (I0 Q.v);have h7:=h6.setCell (p:=⟨g,8,FX⟩) (A8 _) (I0 Q.f);exact h7.drew
def BW0(V:FU)(g:Nat)(lo sl:Int):FU:=World.drew (World.setCell (World.setCell V ⟨g,9,FX⟩ (I0 lo)) ⟨g,10,FX⟩ (I0 sl))
theorem CE9{cc sv lo sl:Int}(h:JF V g (⟨1,cc,sv,Q,0,0,0,false⟩:Dd)):JF (BW0 V g lo sl) g (⟨1,cc,sv,Q,lo,sl,0,false⟩:Dd):=by
 have h1:=UY h 9 (I0 lo) ⟨1,cc,sv,Q,lo,0,0,false⟩ rfl;have h2:=UY h1 10 (I0 sl) ⟨1,cc,sv,Q,lo,sl,0,false⟩ rfl;clear h h1;unfold JF at h2⊢;unfold BW0;rw[qI];exact h2
theorem BW1{lo sl:Int}(hb:Below g W V):Below g W (BW0 V g lo sl):=by
 have h1:=hb.setCell (p:=⟨g,9,FX⟩) (A8 _) (I0 lo);have h2:=h1.setCell (p:=⟨g,10,FX⟩) (A8 _) (I0 sl);exact h2.drew
theorem dK{q:Pw}{last l2:List UInt8}(h:AS7 W k (· =c) q (CE7 c last) V)(hg:1≠c)(hc:c<W.heap.size):AS7 W k (· =c) q (CE7 c l2) (V.setCell ⟨c,0,FX⟩ (S0 l2)):=by
 have ht:Touch (· =c) V (V.setCell ⟨c,0,FX⟩ (S0 l2)):=Touch.set (F:=(· =c)) rfl _;have hk:=h.kl;refine⟨h.x.strb h.i (by omega) ht,h.t.touch ht (fun e=>hg e),h.b.trans ht,h.kl,?_⟩;have h0:V.heap[c]?=FZ (FT #[S0 last] 9 (0,0)):=h.i;show (V.setCell ⟨c,0,FX⟩ _).heap[c]?=_;rw[GL _ h0];rfl
theorem BD5{W:FU}{J:Pw->List UInt8->Prop}(c:Nat)(is:List Int)(v:FV)(hv:∀V,Touch (· =c) W V->IU V v is)(hT:ZV W)(hr:∀x∈is,-9223372036854775808<=x/\x<=9223372036854775807)(hg:1≠c)(hc:CE7 c [] W)
  (hS:∀k j d,gD[j+1]?=FZ d->(doP (OZ (pw0 k) (gD.take (j+1))) d).1.E=0) (hJ:∀k,J (OZ (pw0 k) gD) [])
  (hD:∀p last d,PX p->J p last->CR3 d->((doP p d).1.E=0->(doP p d).1.p≠[]->Op.bytesLess last (doP p d).1.p=true/\(doP p d).1.p.length=14/\J (doP p d).2 (doP p d).1.p)/\J (doP p d).2 last):
  FW prog 11 #[v,.func (.func 12) #[] #[],.func (.func 13) #[] #[P0 c]] W fun e w'=>e=.returned (.bool true)/\Touch (· =c) W w':=by
 have K:=G6 (fun last=>BV9 (last:=last) (AB.1 hc).1 hg);have HV:=G6 hv;have HT:=G6 hT;have HS:=G6 hS;have HJ:=G6 hJ;have HC:=G6 hc;have CA:=G6 (fun V hV=>BD0 V hV);have CN:=G6 (fun V=>BC7 V);obtain⟨va,vc,rfl⟩:=GK (hv W (Touch.refl _ _));have HD:=G6 hD;have HR:=G6 hr;have hfd:=BD3;clear hv hT hS hJ hc hD hr;go_enter func11,ntmps11;go_wp2_with fail;refine(G5 CA _ (G5 HT)).mono ?_;rintro e w1 ⟨rfl,hb1⟩;have B1:=G6 hb1;clear hb1 CA;go_wp2_with fail;refine(G5 CN _).mono ?_;rintro e w2 ⟨rfl,hx2,hb2⟩;have H0:=G6 (AS7.start (G5 K []) (G5 HT) (G5 B1) hb2 hx2 (G5 HC));clear hb2 hx2 B1 HT CN HC;generalize w1.heap.size=k at*;have CD:=G6 (ZG (OZ (pw0 k) []) C06 k w2 (G5 H0).x (zH _ _) (G5 H0).t (QW _ _ (MZ k)) (by simp[C06]) (by simp[C06]));have HN1:=G6 (show OZ (pw0 k) (gD.take 1)=(doP (OZ (pw0 k) []) C06).2 from rfl);generalize doP (OZ (pw0 k) []) C06=x1 at CD HN1;obtain⟨r1,q1⟩:=x1;simp only at HN1;unfold wP ddV C06 at CD
 dsimp only at CD
 unfold wP;go_wp2_with fail;refine(G5 CD).mono ?_;rintro e w3 ⟨u,rfl,ho,ht,hx⟩;have H1:=G6 ((G5 H0).turn (i:=0) (G5 K []) ht hx);rw[<-G5 HN1]at H1;clear ho ht hx CD H0 HN1;go_wp2_with fail
 go_loopg [8] 4 (fun kx s8 wr=>∃j:Nat,s8=I0 j/\j<=4/\4-j<=kx/\Hid (AS7 W k (· =c) (OZ (pw0 k) (gD.take (j+1))) (CE7 c []) wr))
 case atStart=>exact⟨0,rfl,by omega,by omega,H1⟩
 case round=>
  obtain⟨j,rfl,hj,hg,HI⟩:=hrel;clear H1;by_cases hj4:j<4
  .have hj5:(j:Int)<4:=by omega
   have hd:gD[j+1]?=FZ (BF2 j):=by
    rcases(show j=0\/j=1\/j=2\/j=3 by omega)with rfl|rfl|rfl|rfl<;>rfl
   have CD:=G6 (ZG (OZ (pw0 k) (gD.take (j+1))) (BF2 j) k wr (G5 HI).x (zH _ _) (G5 HI).t (QW _ _ (MZ k)) (by simp[BF2]) (by simp[BF2]));have hE:=G5 HS k j _ hd;have HN:=G6 (mJ (pw0 k) hd);generalize doP (OZ (pw0 k) (gD.take (j+1))) (BF2 j)=x at*;obtain⟨r,q⟩:=x;simp only at hE HN;unfold wP ddV BF2 at CD
   dsimp only at CD
   go_wp2_with fail;refine(G5 CD).mono ?_;rintro e w4 ⟨u,rfl,ho,ht,hx⟩;have H2:=G6 ((G5 HI).turn (i:=0) (G5 K []) ht hx);rw[<-G5 HN]at H2;clear ho ht hx CD HI HN;unfold rpV;rw[hE];go_wp2_with fail
   go_roundg (4-(j+1))
   case measure=>omega
   case rel=>exact⟨j+1,by simp,by omega,A8 _,H2⟩
  .obtain rfl:j=4:=by omega
   have CD:=G6 (ZG (OZ (pw0 k) (gD.take 5)) C07 k wr (G5 HI).x (zH _ _) (G5 HI).t (QW _ _ (MZ k)) (by simp[C07]) (by simp[C07]));have hE:=G5 HS k 4 C07 rfl;have hp6:(doP (OZ (pw0 k) (gD.take 5)) C07).2=OZ (pw0 k) gD:=(mJ (pw0 k) (i:=5) (ds:=gD) rfl).symm;have HJ1:=G6 (C9 (show PX (OZ (pw0 k) gD)from QW _ _ (MZ k)) (C9 (show (OZ (pw0 k) gD).h=k from zH _ _) (G5 HJ k)));simp only[show 4+1=5 from rfl]at hE;generalize doP (OZ (pw0 k) (gD.take 5)) C07=x at*;obtain⟨r,q⟩:=x;simp only at hE hp6;unfold wP ddV C07 at CD
   dsimp only at CD
   go_wp2_with fail;refine(G5 CD).mono ?_;rintro e w4 ⟨u,rfl,ho,ht,hx⟩;have H2:=G6 ((G5 HI).turn (i:=0) (G5 K []) ht hx);rw[<-hp6]at HJ1;clear ho ht hx CD HI hp6 HJ HS;unfold rpV;rw[hE];go_wp2_with fail
   go_loopg [9] (min is.length 100) (fun kx s9 wr=>∃ (i:Nat) (last:List UInt8) (p:Pw),s9=I0 i/\i<=min is.length 100/\min is.length 100-i<=kx/\Hid (AS7 W k (· =c) p (CE7 c last) wr)/\Hid (PX p/\p.h=k/\J p last))
   case atStart=>exact⟨0,[],q,rfl,by omega,by omega,H2,HJ1⟩
   case round=>
    obtain⟨i,last,p,rfl,hi,hg,HI,HJ⟩:=hrel;clear H2 HJ1;by_cases hlt:i<is.length
    .by_cases hlh:i<100
     .have hl1:(i:Int)<(is.length:Int):=by omega
      have hl2:(i:Int)<100:=by omega
      obtain⟨x,hx⟩:∃x,is[i]?=FZ x:=⟨_,List.getElem?_eq_getElem hlt⟩;obtain⟨b,off,cap,he,hb,_,_,_,_⟩:=pR (G5 HV W (Touch.refl _ _)) hx;simp only[AP,true_and]at he;obtain⟨rfl,rfl⟩:=he;have HKS:Hid (∀V,Below (World.heap wr).size wr V->V.cell? ⟨b,off+i,FX⟩=FZ (I0 x)):=G6 fun V hV=>BV8 (G5 HV V ((G5 HI).b.trans (Touch.of_below hV))) hx;have hxm:=List.mem_of_getElem? hx;have hx1:=(G5 HR x hxm).1;have hx2:=(G5 HR x hxm).2;obtain⟨κ,hκ⟩:∃κ,κ=x%16:=⟨_,rfl⟩;obtain⟨cc,hcc⟩:∃cc,cc=x.tdiv 16%4:=⟨_,rfl⟩;obtain⟨sv,hsv⟩:∃sv,sv=x.tdiv 64%3:=⟨_,rfl⟩;have CP4:=G6 (fun W=>UW x 16 W (by omega) (by omega) hx1 hx2);have CY0:=G6 (fun W=>UW (x.tdiv 16) 4 W (by omega) (by omega) (OH x 16 (by omega) hx1 hx2).1 (OH x 16 (by omega) hx1 hx2).2);have CY1:=G6 (fun W=>UW (x.tdiv 64) 3 W (by omega) (by omega) (OH x 64 (by omega) hx1 hx2).1 (OH x 64 (by omega) hx1 hx2).2);rw[<-hκ]at CP4;rw[<-hcc]at CY0;rw[<-hsv]at CY1;have hwA:IntKind.i64.wrap (x.tdiv 16)=x.tdiv 16:=by have:=OH x 16 (by omega) hx1 hx2;rw[FD];omega
      have hwB:IntKind.i64.wrap (x.tdiv 64)=x.tdiv 64:=by have:=OH x 64 (by omega) hx1 hx2;rw[FD];omega
      have HB:=G6 (show 0<=κ/\κ<16/\0<=cc/\cc<4/\0<=sv/\sv<3 by omega);have CT5:=G6 (C9 hx1 hx2);clear hκ hcc hsv hx1 hx2;clear hx hxm;go_wp2_with fail;have hS0:=G5 HKS _ (Below.refl wr.heap.size wr).drew;refine wp_region_held (S:=fun V:FU=>V.cell? ⟨b,off+i,FX⟩=FZ (I0 x)) (by kernel_rfl) ?_;change wpAnyH _ _ _ _ _ _ _ _ wr.drew;refine tkH 0 hS0 ?_;refine tkH 1 hS0 ?_;refine tkH 2 hS0 ?_;refine tkH 3 hS0 ?_;refine tkH 5 hS0 ?_;refine tkH 6 hS0 ?_;refine tkH 7 hS0 ?_;refine tkH 8 hS0 ?_;refine tkH 9 hS0 ?_;refine tkH 11 hS0 ?_;refine tkH 12 hS0 ?_;refine tkH 13 hS0 ?_;refine tkH 14 hS0 ?_;refine tkH 15 hS0 ?_;refine rd1 4 (fun K hK=>?_);go_simp
      with_reducible refine(G5 CP4 _).mono ?_
      rintro e w3 ⟨rfl,rfl⟩;refine nxH hK hS0 ?_;clear hK K;refine rd1 10 (fun K hK=>?_);go_simp
      with_reducible refine(G5 CY0 _).mono ?_
      rintro e w3 ⟨rfl,rfl⟩;refine nxH hK hS0 ?_;clear hK K;refine rd1 16 (fun K hK=>?_);go_simp
      with_reducible refine(G5 CY1 _).mono ?_
      rintro e w3 ⟨rfl,rfl⟩;refine nxH hK hS0 ?_;clear hK K;refine tkH 17 hS0 ?_;refine tkH 18 hS0 ?_;refine tkH 19 hS0 ?_;refine wpAnyH_done (by kernel_rfl) ?_ _;clear hS0;go_upto_region 22 with fail;have D2:Hid (JF ((wr.alloc (FT #[I0 0,I0 cc,I0 sv,I0 0,I0 0,.string ⟨#[]⟩,.string ⟨#[]⟩,I0 0,I0 0,I0 0,I0 0,I0 0,.bool false] 31)).drew) wr.heap.size (⟨0,cc,sv,⟨0,0,[],[],0,0⟩,0,0,0,false⟩:Dd)):=G6 (heap_alloc_new wr _);have BB2:=G6 ((G7 wr (FT #[I0 0,I0 cc,I0 sv,I0 0,I0 0,.string ⟨#[]⟩,.string ⟨#[]⟩,I0 0,I0 0,I0 0,I0 0,I0 0,.bool false] 31)).drew);have HGS:Hid (wr.heap.size<=((wr.alloc (FT #[I0 0,I0 cc,I0 sv,I0 0,I0 0,.string ⟨#[]⟩,.string ⟨#[]⟩,I0 0,I0 0,I0 0,I0 0,I0 0,.bool false] 31)).drew).heap.size):=G6 (G5 BB2).size;have HI2:=G6 (fun V (hV:Below (World.heap wr).size wr V)=>(G5 HI).next (i:=0) (G5 K last) hV);clear HI CP4 CY0 CY1 hwA hwB hb;generalize World.drew (World.alloc wr _)=W2 at*;generalize wr.heap.size=g at*;obtain⟨d0,_,_,_,_,_,_,_,_,_,_,d11,_⟩:=TT (G5 D2);have f0:=TI (G5 D2) 0;have f11:=TI (G5 D2) 11;by_cases hA:κ=0
      .subst hA;obtain⟨ke,hke⟩:∃ke,ke=x.tdiv 192%40:=⟨_,rfl⟩;have hx1:=(G5 CT5).1;have hx2:=(G5 CT5).2;have CP:=G6 (fun W=>UW (x.tdiv 192) 40 W (by omega) (by omega) (OH x 192 (by omega) hx1 hx2).1 (OH x 192 (by omega) hx1 hx2).2);rw[<-hke]at CP;have hwC:IntKind.i64.wrap (x.tdiv 192)=x.tdiv 192:=by have:=OH x 192 (by omega) hx1 hx2;rw[FD];omega
       clear hke hx1 hx2;have e1:=G5 HKS W2 (G5 BB2);go_wp2_with fail
       with_reducible refine(G5 CP _).mono ?_
       rintro e w3 ⟨rfl,rfl⟩;go_upto_region 28 with fail;have D3:=G6 (UY (UY (G5 D2) 0 (I0 3) ⟨3,cc,sv,⟨0,0,[],[],0,0⟩,0,0,0,false⟩ rfl) 11 (I0 ke) ⟨3,cc,sv,⟨0,0,[],[],0,0⟩,0,0,ke,false⟩ rfl);have B3:=G6 (((G5 BB2).setCell (p:=⟨g,0,FX⟩) (A8 _) (I0 3)).setCell (p:=⟨g,11,FX⟩) (A8 _) (I0 ke));clear d0 d11 f0 f11 e1 D2 BB2 HKS CP hwC;generalize World.setCell (World.setCell w3 _ _) _ _=W3 at*;have HP3:=G6 (G5 HI2 _ (G5 B3));obtain⟨c0,c1,c2,c3,c4,c5,c6,c7,c8,c9,c10,c11,c12⟩:=TT (G5 D3);have CD:=G6 (ZG p (⟨3,cc,sv,⟨0,0,[],[],0,0⟩,0,0,ke,false⟩) k W3 (G5 HP3).x (G5 HJ).2.1 (G5 HP3).t (G5 HJ).1 (by simp) (by simp));have HDq:=G6 (G5 HD p last (⟨3,cc,sv,⟨0,0,[],[],0,0⟩,0,0,ke,false⟩) (G5 HJ).1 (G5 HJ).2.2 (.inl rfl));have HW5:=G6 (C9 (U1 (⟨3,cc,sv,⟨0,0,[],[],0,0⟩,0,0,ke,false⟩) (G5 HJ).1) ((BD4 p (⟨3,cc,sv,⟨0,0,[],[],0,0⟩,0,0,ke,false⟩)).trans (G5 HJ).2.1));generalize doP p (⟨3,cc,sv,⟨0,0,[],[],0,0⟩,0,0,ke,false⟩)=x0 at CD HDq HW5;obtain⟨r5,q5⟩:=x0;simp only at HDq HW5;unfold wP ddV at CD
       dsimp only at CD c0 c1 c2 c3 c4 c5 c6 c7 c8 c9 c10 c11 c12
       clear D3 B3 HI2 HD HJ;go_wp2_with fail;refine(G5 CD).mono ?_;rintro e w4 ⟨u5,rfl,ho,ht,hx⟩;have H4:=G6 ((G5 HP3).turn (i:=0) (G5 K last) ht hx);have CL:=G6 (dJ (P0 k) r5 u5 last c w4 (G5 H4).i (fun a b=>⟨((G5 HDq).1 a b).1,((G5 HDq).1 a b).2.1⟩));clear ho ht hx CD HP3 c0 c1 c2 c3 c4 c5 c6 c7 c8 c9 c10 c11 c12;unfold rpV at CL⊢;go_wp2_with fail;refine(G5 CL).mono ?_;rintro e w5 ⟨rfl,W6,hb5,hc5,hor⟩;have H5:=G6 ((G5 H4).next (i:=0) (G5 K last) hb5);rcases hor with⟨_,rfl⟩|⟨a,b,rfl⟩
       .clear hb5 hc5 CL H4;go_wp2_with fail
        go_roundg (min is.length 100-(i+1))
        case measure=>omega
        case rel=>exact⟨i+1,last,q5,by simp,by omega,A8 _,H5,G6 ⟨(G5 HW5).1,(G5 HW5).2,(G5 HDq).2⟩⟩
       .have H6:=G6 (dK (l2:=r5.p) (G5 H5) (fun e=>(G5 K last).g e) ((G5 K last).lt c rfl));have HJ6:=G6 (C9 (G5 HW5).1 (C9 (G5 HW5).2 ((G5 HDq).1 a b).2.2));clear hb5 hc5 CL H4 H5 a b HDq HW5;generalize World.setCell W6 _ _=W7 at*;go_wp2_with fail
        go_roundg (min is.length 100-(i+1))
        case measure=>omega
        case rel=>exact⟨i+1,r5.p,q5,by simp,by omega,A8 _,H6,HJ6⟩
      .have hA0:(κ==0)=false:=by simpa using hA
       by_cases hB2:κ<=2
       .have hBd:decide (κ<=2)=true:=by simpa using hB2
        go_upto_region 28 with fail;have D3:=G6 (UY (G5 D2) 0 (I0 4) ⟨4,cc,sv,⟨0,0,[],[],0,0⟩,0,0,0,false⟩ rfl);have B3:=G6 ((G5 BB2).setCell (p:=⟨g,0,FX⟩) (A8 _) (I0 4));clear d0 d11 f0 f11 D2 BB2 HKS;generalize World.setCell W2 _ _=W3 at*;have HP3:=G6 (G5 HI2 _ (G5 B3));obtain⟨c0,c1,c2,c3,c4,c5,c6,c7,c8,c9,c10,c11,c12⟩:=TT (G5 D3);have CD:=G6 (ZG p (⟨4,cc,sv,⟨0,0,[],[],0,0⟩,0,0,0,false⟩) k W3 (G5 HP3).x (G5 HJ).2.1 (G5 HP3).t (G5 HJ).1 (by simp) (by simp));have HDq:=G6 (G5 HD p last (⟨4,cc,sv,⟨0,0,[],[],0,0⟩,0,0,0,false⟩) (G5 HJ).1 (G5 HJ).2.2 (.inr (.inl rfl)));have HW5:=G6 (C9 (U1 (⟨4,cc,sv,⟨0,0,[],[],0,0⟩,0,0,0,false⟩) (G5 HJ).1) ((BD4 p (⟨4,cc,sv,⟨0,0,[],[],0,0⟩,0,0,0,false⟩)).trans (G5 HJ).2.1));generalize doP p (⟨4,cc,sv,⟨0,0,[],[],0,0⟩,0,0,0,false⟩)=x0 at CD HDq HW5;obtain⟨r5,q5⟩:=x0;simp only at HDq HW5;unfold wP ddV at CD
        dsimp only at CD c0 c1 c2 c3 c4 c5 c6 c7 c8 c9 c10 c11 c12
        clear D3 B3 HI2 HD HJ;go_wp2_with fail;refine(G5 CD).mono ?_;rintro e w4 ⟨u5,rfl,ho,ht,hx⟩;have H4:=G6 ((G5 HP3).turn (i:=0) (G5 K last) ht hx);have CL:=G6 (dJ (P0 k) r5 u5 last c w4 (G5 H4).i (fun a b=>⟨((G5 HDq).1 a b).1,((G5 HDq).1 a b).2.1⟩));clear ho ht hx CD HP3 c0 c1 c2 c3 c4 c5 c6 c7 c8 c9 c10 c11 c12;unfold rpV at CL⊢;go_wp2_with fail;refine(G5 CL).mono ?_;rintro e w5 ⟨rfl,W6,hb5,hc5,hor⟩;have H5:=G6 ((G5 H4).next (i:=0) (G5 K last) hb5);rcases hor with⟨_,rfl⟩|⟨a,b,rfl⟩
        .clear hb5 hc5 CL H4;go_wp2_with fail
         go_roundg (min is.length 100-(i+1))
         case measure=>omega
         case rel=>exact⟨i+1,last,q5,by simp,by omega,A8 _,H5,G6 ⟨(G5 HW5).1,(G5 HW5).2,(G5 HDq).2⟩⟩
        .have H6:=G6 (dK (l2:=r5.p) (G5 H5) (fun e=>(G5 K last).g e) ((G5 K last).lt c rfl));have HJ6:=G6 (C9 (G5 HW5).1 (C9 (G5 HW5).2 ((G5 HDq).1 a b).2.2));clear hb5 hc5 CL H4 H5 a b HDq HW5;generalize World.setCell W6 _ _=W7 at*;go_wp2_with fail
         go_roundg (min is.length 100-(i+1))
         case measure=>omega
         case rel=>exact⟨i+1,r5.p,q5,by simp,by omega,A8 _,H6,HJ6⟩
       .have hBd:decide (κ<=2)=false:=by simpa using hB2
        by_cases hC5:κ<=5
        .have hCd:decide (κ<=5)=true:=by simpa using hC5
         go_upto_region 28 with fail;have D3:=G6 (UY (G5 D2) 0 (I0 5) ⟨5,cc,sv,⟨0,0,[],[],0,0⟩,0,0,0,false⟩ rfl);have B3:=G6 ((G5 BB2).setCell (p:=⟨g,0,FX⟩) (A8 _) (I0 5));clear d0 d11 f0 f11 D2 BB2 HKS;generalize World.setCell W2 _ _=W3 at*;have HP3:=G6 (G5 HI2 _ (G5 B3));obtain⟨c0,c1,c2,c3,c4,c5,c6,c7,c8,c9,c10,c11,c12⟩:=TT (G5 D3);have CD:=G6 (ZG p (⟨5,cc,sv,⟨0,0,[],[],0,0⟩,0,0,0,false⟩) k W3 (G5 HP3).x (G5 HJ).2.1 (G5 HP3).t (G5 HJ).1 (by simp) (by simp));have HDq:=G6 (G5 HD p last (⟨5,cc,sv,⟨0,0,[],[],0,0⟩,0,0,0,false⟩) (G5 HJ).1 (G5 HJ).2.2 (.inr (.inr (.inl rfl))));have HW5:=G6 (C9 (U1 (⟨5,cc,sv,⟨0,0,[],[],0,0⟩,0,0,0,false⟩) (G5 HJ).1) ((BD4 p (⟨5,cc,sv,⟨0,0,[],[],0,0⟩,0,0,0,false⟩)).trans (G5 HJ).2.1));generalize doP p (⟨5,cc,sv,⟨0,0,[],[],0,0⟩,0,0,0,false⟩)=x0 at CD HDq HW5;obtain⟨r5,q5⟩:=x0;simp only at HDq HW5;unfold wP ddV at CD
         dsimp only at CD c0 c1 c2 c3 c4 c5 c6 c7 c8 c9 c10 c11 c12
         clear D3 B3 HI2 HD HJ;go_wp2_with fail;refine(G5 CD).mono ?_;rintro e w4 ⟨u5,rfl,ho,ht,hx⟩;have H4:=G6 ((G5 HP3).turn (i:=0) (G5 K last) ht hx);have CL:=G6 (dJ (P0 k) r5 u5 last c w4 (G5 H4).i (fun a b=>⟨((G5 HDq).1 a b).1,((G5 HDq).1 a b).2.1⟩));clear ho ht hx CD HP3 c0 c1 c2 c3 c4 c5 c6 c7 c8 c9 c10 c11 c12;unfold rpV at CL⊢;go_wp2_with fail;refine(G5 CL).mono ?_;rintro e w5 ⟨rfl,W6,hb5,hc5,hor⟩;have H5:=G6 ((G5 H4).next (i:=0) (G5 K last) hb5);rcases hor with⟨_,rfl⟩|⟨a,b,rfl⟩
         .clear hb5 hc5 CL H4;go_wp2_with fail
          go_roundg (min is.length 100-(i+1))
          case measure=>omega
          case rel=>exact⟨i+1,last,q5,by simp,by omega,A8 _,H5,G6 ⟨(G5 HW5).1,(G5 HW5).2,(G5 HDq).2⟩⟩
         .have H6:=G6 (dK (l2:=r5.p) (G5 H5) (fun e=>(G5 K last).g e) ((G5 K last).lt c rfl));have HJ6:=G6 (C9 (G5 HW5).1 (C9 (G5 HW5).2 ((G5 HDq).1 a b).2.2));clear hb5 hc5 CL H4 H5 a b HDq HW5;generalize World.setCell W6 _ _=W7 at*;go_wp2_with fail
          go_roundg (min is.length 100-(i+1))
          case measure=>omega
          case rel=>exact⟨i+1,r5.p,q5,by simp,by omega,A8 _,H6,HJ6⟩
        .have hCd:decide (κ<=5)=false:=by simpa using hC5
         by_cases hD:κ=13
         .subst hD;have CA:=G6 (fun V=>BD2 (P0 k) 13 cc V (by omega));rw[show decide ((13:Int)≠13)=false from rfl]at CA;unfold rqV at CA;generalize A80 13=Q at CA;go_wp2_with fail;refine(G5 CA _).mono ?_;rintro e w3 ⟨rfl,hb3⟩;have HP3:=G6 (G5 HI2 _ ((G5 BB2).trans (hb3.mono (G5 HGS))));clear CA d0 d11 f0 f11 D2 HKS hb3;go_wp2_with fail
          go_roundg (min is.length 100-(i+1))
          case measure=>omega
          case rel=>exact⟨i+1,last,p,by simp,by omega,A8 _,G6 ((G5 HP3).next (i:=0) (G5 K last) (G7 w3 _)),HJ⟩
         .have CA:=G6 (fun V=>BD2 (P0 k) κ cc V (by have:=G5 HB;omega));rw[decide_eq_true hD]at CA;unfold rqV at CA;have HQ:Hid (∃Q,Q=A80 κ):=G6 ⟨_,rfl⟩;obtain⟨Q,hQ⟩:=G5 HQ;rw[<-hQ]at CA;have HQ:=G6 hQ;have HKD:=G6 hD;clear hQ;have hlE:(Q.p.length<=140737488355328/\Q.d.length<=140737488355328):=by rw[G5 HQ,A80,if_neg hD];simp
          go_wp2_with fail;refine(G5 CA _).mono ?_;rintro e w3 ⟨rfl,hb3⟩;have B3:=G6 ((G5 BB2).trans (hb3.mono (G5 HGS)));have D3:=G6 ((G5 D2).Y0 hb3 (G5 D2).ltz);clear CA d0 d11 f0 f11 D2 hb3 BB2;go_upto_region 19 with fail;have A4:=G7 w3 (FT #[I0 Q.o,I0 Q.s,S0 Q.p,S0 Q.d,I0 Q.v,I0 Q.f] 29);have K4:(w3.alloc (FT #[I0 Q.o,I0 Q.s,S0 Q.p,S0 Q.d,I0 Q.v,I0 Q.f] 29)).heap[w3.heap.size]?=FZ (FT #[I0 Q.o,I0 Q.s,S0 Q.p,S0 Q.d,I0 Q.v,I0 Q.f] 29 (0,0)):=heap_alloc_new w3 _;have hgh:g<w3.heap.size:=(G5 D3).ltz;have D4:=G6 ((G5 D3).Y0 A4 (G5 D3).ltz);have B4:=G6 ((G5 B3).trans (A4.mono (Nat.le_of_lt hgh)));clear A4 B3 D3;generalize w3.alloc _=W4 at*;generalize w3.heap.size=h at*;obtain⟨q0,q1,q2,q3,q4,q5⟩:=BV7 K4;have hne:g≠h:=by omega
          have hne2:h≠g:=by omega
          obtain⟨d0,_,_,d3,d4,d5,d6,d7,d8,d9,d10,_,_⟩:=TT (G5 D4);have f0:=TI (G5 D4) 0;have f3:=TI (G5 D4) 3;have f4:=TI (G5 D4) 4;have f5:=TI (G5 D4) 5;have f6:=TI (G5 D4) 6;have f7:=TI (G5 D4) 7;have f8:=TI (G5 D4) 8;clear K4 hgh;simp only at d0 d3 d4 d5 d6 d7 d8 d9 d10;go_region;have D3:=G6 (CR4 (Q:=Q) (G5 D4));have B3:=G6 (CE8 (Q:=Q) (G5 B4));unfold CT4 at D3 B3;have HB4:=G6 (G5 B4).size;clear d0 d3 d4 d5 d6 d7 d8 d9 d10 f0 f3 f4 f5 f6 f7 f8 q0 q1 q2 q3 q4 q5 D4 B4 hne hne2;generalize World.drew _=W3 at*;by_cases h14:14<=κ
          .have CY2:decide (14<=κ)=true:=by simpa using h14
           obtain⟨lo,hlo⟩:∃lo,lo=x.tdiv 192%8:=⟨_,rfl⟩;obtain⟨sl,hsl⟩:∃sl,sl=x.tdiv 1536%8:=⟨_,rfl⟩;have hx1:=(G5 CT5).1;have hx2:=(G5 CT5).2;have CP5:=G6 (fun W=>UW (x.tdiv 192) 8 W (by omega) (by omega) (OH x 192 (by omega) hx1 hx2).1 (OH x 192 (by omega) hx1 hx2).2);have CY3:=G6 (fun W=>UW (x.tdiv 1536) 8 W (by omega) (by omega) (OH x 1536 (by omega) hx1 hx2).1 (OH x 1536 (by omega) hx1 hx2).2);rw[<-hlo]at CP5;rw[<-hsl]at CY3;have hwC:IntKind.i64.wrap (x.tdiv 192)=x.tdiv 192:=by have:=OH x 192 (by omega) hx1 hx2;rw[FD];omega
           have hwD:IntKind.i64.wrap (x.tdiv 1536)=x.tdiv 1536:=by have:=OH x 1536 (by omega) hx1 hx2;rw[FD];omega
           clear hlo hsl hx1 hx2;have HKO:=HKS;have HLT:=G6 (Nat.le_of_lt (G5 D3).ltz);have HKS:Hid (∀V,B0 W3 V->V.cell? ⟨b,off+i,FX⟩=FZ (I0 x)):=G6 fun V hV=>G5 HKO V ((G5 B3).trans (hV.mono (G5 HLT)));go_upto_region 21 with fail;have hS0:=G5 HKS _ (Below.refl W3.heap.size W3).drew;refine wp_region_held (S:=fun V:FU=>V.cell? ⟨b,off+i,FX⟩=FZ (I0 x)) (by kernel_rfl) ?_;change wpAnyH _ _ _ _ _ _ _ _ W3.drew;refine tkH 0 hS0 ?_;refine tkH 1 hS0 ?_;refine tkH 2 hS0 ?_;refine tkH 3 hS0 ?_;refine tkH 4 hS0 ?_;refine tkH 6 hS0 ?_;refine tkH 7 hS0 ?_;refine tkH 8 hS0 ?_;refine tkH 9 hS0 ?_;refine tkH 10 hS0 ?_;refine rd1 5 (fun K hK=>?_);go_simp
           with_reducible refine(G5 CP5 _).mono ?_
           rintro e w3 ⟨rfl,rfl⟩;refine nxH hK hS0 ?_;clear hK K;refine tkH 12 hS0 ?_;refine rd1 11 (fun K hK=>?_);go_simp
           with_reducible refine(G5 CY3 _).mono ?_
           rintro e w3 ⟨rfl,rfl⟩;refine nxH hK hS0 ?_;clear hK K;refine rd1 13 (fun K hK=>?_);obtain⟨_,_,_,_,_,_,_,_,_,d9,d10,_,_⟩:=TT (G5 D3);have f9:=TI (G5 D3) 9;have f10:=TI (G5 D3) 10;simp only at d9 d10;go_simp;have hS6:=G5 HKO _ (((G5 B3).setCell (p:=⟨g,9,FX⟩) (A8 _) (I0 lo)).drew);refine nxH hK hS6 ?_;clear hK K;refine tkH 14 hS6 ?_;refine rd1 15 (fun K hK=>?_);go_simp;have D7:=G6 (CE9 (lo:=lo) (sl:=sl) (G5 D3));have B7:=G6 (BW1 (lo:=lo) (sl:=sl) (G5 B3));have hS7:=G5 HKO _ (G5 B7);unfold BW0 at D7 B7;clear d9 f9 d10 f10;refine nxH hK hS7 ?_;clear hK K;refine wpAnyH_done (by kernel_rfl) ?_ _;go_upto_region 28 with fail;clear hS0 hS6 hS7 CP5 CY3 hwC hwD HKS HKO D3 B3 h14 CY2;generalize World.drew (World.setCell (World.setCell W3 _ _) _ _)=W9 at*;have HP3:=G6 (G5 HI2 _ (G5 B7));obtain⟨c0,c1,c2,c3,c4,c5,c6,c7,c8,c9,c10,c11,c12⟩:=TT (G5 D7);have CD:=G6 (ZG p (⟨1,cc,sv,Q,lo,sl,0,false⟩) k W9 (G5 HP3).x (G5 HJ).2.1 (G5 HP3).t (G5 HJ).1 hlE.1 hlE.2);have HDq:=G6 (G5 HD p last (⟨1,cc,sv,Q,lo,sl,0,false⟩) (G5 HJ).1 (G5 HJ).2.2 (.inr (.inr (.inr ⟨rfl,κ,G5 HKD,G5 HQ⟩))));have HW5:=G6 (C9 (U1 (⟨1,cc,sv,Q,lo,sl,0,false⟩) (G5 HJ).1) ((BD4 p (⟨1,cc,sv,Q,lo,sl,0,false⟩)).trans (G5 HJ).2.1));generalize doP p (⟨1,cc,sv,Q,lo,sl,0,false⟩)=x0 at CD HDq HW5;obtain⟨r5,q5⟩:=x0;simp only at HDq HW5;unfold wP ddV at CD
           dsimp only at CD c0 c1 c2 c3 c4 c5 c6 c7 c8 c9 c10 c11 c12
           clear D7 B7 HI2 HD HJ;go_wp2_with fail;refine(G5 CD).mono ?_;rintro e w4 ⟨u5,rfl,ho,ht,hx⟩;have H4:=G6 ((G5 HP3).turn (i:=0) (G5 K last) ht hx);have CL:=G6 (dJ (P0 k) r5 u5 last c w4 (G5 H4).i (fun a b=>⟨((G5 HDq).1 a b).1,((G5 HDq).1 a b).2.1⟩));clear ho ht hx CD HP3 c0 c1 c2 c3 c4 c5 c6 c7 c8 c9 c10 c11 c12;unfold rpV at CL⊢;go_wp2_with fail;refine(G5 CL).mono ?_;rintro e w5 ⟨rfl,W6,hb5,hc5,hor⟩;have H5:=G6 ((G5 H4).next (i:=0) (G5 K last) hb5);rcases hor with⟨_,rfl⟩|⟨a,b,rfl⟩
           .clear hb5 hc5 CL H4;go_wp2_with fail
            go_roundg (min is.length 100-(i+1))
            case measure=>omega
            case rel=>exact⟨i+1,last,q5,by simp,by omega,A8 _,H5,G6 ⟨(G5 HW5).1,(G5 HW5).2,(G5 HDq).2⟩⟩
           .have H6:=G6 (dK (l2:=r5.p) (G5 H5) (fun e=>(G5 K last).g e) ((G5 K last).lt c rfl));have HJ6:=G6 (C9 (G5 HW5).1 (C9 (G5 HW5).2 ((G5 HDq).1 a b).2.2));clear hb5 hc5 CL H4 H5 a b HDq HW5;generalize World.setCell W6 _ _=W7 at*;go_wp2_with fail
            go_roundg (min is.length 100-(i+1))
            case measure=>omega
            case rel=>exact⟨i+1,r5.p,q5,by simp,by omega,A8 _,H6,HJ6⟩
          .have CY2:decide (14<=κ)=false:=by simpa using h14
           go_upto_region 28 with fail;clear HKS h14 CY2;have HP3:=G6 (G5 HI2 _ (G5 B3));obtain⟨c0,c1,c2,c3,c4,c5,c6,c7,c8,c9,c10,c11,c12⟩:=TT (G5 D3);have CD:=G6 (ZG p (⟨1,cc,sv,Q,0,0,0,false⟩) k W3 (G5 HP3).x (G5 HJ).2.1 (G5 HP3).t (G5 HJ).1 hlE.1 hlE.2);have HDq:=G6 (G5 HD p last (⟨1,cc,sv,Q,0,0,0,false⟩) (G5 HJ).1 (G5 HJ).2.2 (.inr (.inr (.inr ⟨rfl,κ,G5 HKD,G5 HQ⟩))));have HW5:=G6 (C9 (U1 (⟨1,cc,sv,Q,0,0,0,false⟩) (G5 HJ).1) ((BD4 p (⟨1,cc,sv,Q,0,0,0,false⟩)).trans (G5 HJ).2.1));generalize doP p (⟨1,cc,sv,Q,0,0,0,false⟩)=x0 at CD HDq HW5;obtain⟨r5,q5⟩:=x0;simp only at HDq HW5;unfold wP ddV at CD
           dsimp only at CD c0 c1 c2 c3 c4 c5 c6 c7 c8 c9 c10 c11 c12
           clear D3 B3 HI2 HD HJ;go_wp2_with fail;refine(G5 CD).mono ?_;rintro e w4 ⟨u5,rfl,ho,ht,hx⟩;have H4:=G6 ((G5 HP3).turn (i:=0) (G5 K last) ht hx);have CL:=G6 (dJ (P0 k) r5 u5 last c w4 (G5 H4).i (fun a b=>⟨((G5 HDq).1 a b).1,((G5 HDq).1 a b).2.1⟩));clear ho ht hx CD HP3 c0 c1 c2 c3 c4 c5 c6 c7 c8 c9 c10 c11 c12;unfold rpV at CL⊢;go_wp2_with fail;refine(G5 CL).mono ?_;rintro e w5 ⟨rfl,W6,hb5,hc5,hor⟩;have H5:=G6 ((G5 H4).next (i:=0) (G5 K last) hb5);rcases hor with⟨_,rfl⟩|⟨a,b,rfl⟩
           .clear hb5 hc5 CL H4;go_wp2_with fail
            go_roundg (min is.length 100-(i+1))
            case measure=>omega
            case rel=>exact⟨i+1,last,q5,by simp,by omega,A8 _,H5,G6 ⟨(G5 HW5).1,(G5 HW5).2,(G5 HDq).2⟩⟩
           .have H6:=G6 (dK (l2:=r5.p) (G5 H5) (fun e=>(G5 K last).g e) ((G5 K last).lt c rfl));have HJ6:=G6 (C9 (G5 HW5).1 (C9 (G5 HW5).2 ((G5 HDq).1 a b).2.2));clear hb5 hc5 CL H4 H5 a b HDq HW5;generalize World.setCell W6 _ _=W7 at*;go_wp2_with fail
            go_roundg (min is.length 100-(i+1))
            case measure=>omega
            case rel=>exact⟨i+1,r5.p,q5,by simp,by omega,A8 _,H6,HJ6⟩
     .obtain rfl:i=100:=by omega
      have hl1:((100:Nat):Int)<(is.length:Int):=by omega
      have HF:=G6 (G5 HI).b;clear HI HJ;go_wp2_with fail;go_ret;exact⟨rfl,G5 HF⟩
    .obtain rfl:i=is.length:=by omega
     have HF:=G6 (G5 HI).b;clear HI HJ;go_wp2_with fail;go_ret;exact⟨rfl,G5 HF⟩
theorem CF0{P:List GI->Prop}(hw:PX p)(ht:∀m j,P m->P (m.take j))(hx:∀b,Wr p d b->d.k=1->P ((p.s b).m++[wX p d]))(h:∀i,i<3->P (p.s i).m):∀i,i<3->P ((doP p d).2.s i).m:=by
 intro i hi;unfold doP;by_cases hn:300<=p.n
 .rw[if_pos hn];exact h i hi
 rw[if_neg hn];by_cases ha:UO d≠0
 .rw[if_pos ha];exact h i hi
 rw[if_neg ha];unfold lQ;by_cases h1:d.k=1
 .rw[if_pos h1];unfold PU;by_cases hl:ldP (MR p).r=-1
  .rw[if_pos hl];exact h i hi
  rw[if_neg hl];by_cases he:wE (MR p) d≠0
  .rw[if_pos he];exact h i hi
  rw[if_neg he];rcases Y8 p.r with⟨e,_⟩|⟨b,hb,_,hr⟩
  .exact absurd e hl
  have w:Wr p d b:=⟨hb,hr,by omega,by have:wE (MR p) d=wE p d:=rfl;omega⟩;have key:∀k,k<3->P (wSv p d k).m:=fun k hk=>by
   unfold wSv
   split
   .rename_i ht'
    show P ((p.s k).m++[wX p d]);rw[(w.same hw hk (CG4 ht')).1];exact hx b w h1
   .exact h k hk
  by_cases hq:(wL (MR p) d).length<2
  .rw[if_pos hq];exact key i hi
  .rw[if_neg hq];show P ((LV (wSv p d) (wL p d)).1 i).m;rw[yN]
   split
   .exact key i hi
   .exact key i hi
 rw[if_neg h1];by_cases h2:d.k=2
 .rw[if_pos h2];unfold lN
  repeat' split
  all_goals first
   |exact h i hi
   |(show P (LU p.s d.s.toNat _ i).m
     by_cases e:i=d.s.toNat
     .subst e;rw[IG];exact h _ hi
     .rw[GH _ _ e];exact h i hi)
 rw[if_neg h2];by_cases h3:d.k=3
 .rw[if_pos h3];unfold TS
  repeat' split
  all_goals first
   |exact h i hi
   |(show P (LU p.s d.s.toNat _ i).m
     by_cases e:i=d.s.toNat
     .subst e;rw[IG];exact ht _ _ (h _ hi)
     .rw[GH _ _ e];exact h i hi)
 rw[if_neg h3];by_cases h4:d.k=4
 .rw[if_pos h4];unfold upW
  repeat' split
  all_goals first
   |exact h i hi
   |(show P (LU p.s d.s.toNat _ i).m
     by_cases e:i=d.s.toNat
     .subst e;rw[IG];exact h _ hi
     .rw[GH _ _ e];exact h i hi)
 rw[if_neg h4];unfold SY;by_cases hq:(JX (MR p).s).length<2
 .rw[if_pos hq];exact h i hi
 rw[if_neg hq];by_cases hb:AQ1 (MR p).s=true
 .rw[if_pos hb];exact h i hi
 rw[if_neg hb];show P ((LV (eS p.s) (JX p.s)).1 i).m;have eb:=KQ.1 (AG3 (Nat.le_of_not_lt hq));have key:P (eS p.s i).m:=by
  unfold eS
  split
  .exact h _ eb.1
  .exact h i hi
 rw[fE _ _ _ (TF _)]
 split
 .exact key
 .exact key
theorem CF1(d:Dd)(hk:d.k≠2):((doP p d).2.D=p.D/\((doP p d).1.E=0->(doP p d).1.p=[]))\/∃b,Wr p d b/\(doP p d).2.D=p.D++[wX p d]/\(doP p d).1.p=(wX p d).p/\(doP p d).1.E=0/\d.k=1:=by
 unfold doP;by_cases hn:300<=p.n
 .rw[if_pos hn];exact .inl ⟨rfl,fun _=>rfl⟩
 rw[if_neg hn];by_cases ha:UO d≠0
 .rw[if_pos ha];exact .inl ⟨rfl,fun _=>rfl⟩
 rw[if_neg ha];unfold lQ;by_cases h1:d.k=1
 .rw[if_pos h1];unfold PU;by_cases hl:ldP (MR p).r=-1
  .rw[if_pos hl];exact .inl ⟨rfl,fun _=>rfl⟩
  rw[if_neg hl];by_cases he:wE (MR p) d≠0
  .rw[if_pos he];exact .inl ⟨rfl,fun _=>rfl⟩
  rw[if_neg he];rcases Y8 p.r with⟨e,_⟩|⟨b,hb,_,hr⟩
  .exact absurd e hl
  have w:Wr p d b:=⟨hb,hr,by omega,by have:wE (MR p) d=wE p d:=rfl;omega⟩;by_cases hq:(wL (MR p) d).length<2
  .rw[if_pos hq];exact .inl ⟨rfl,fun h=>by cases h⟩
  .rw[if_neg hq];exact .inr ⟨b,w,rfl,rfl,rfl,h1⟩
 rw[if_neg h1,if_neg hk];by_cases h3:d.k=3
 .rw[if_pos h3];unfold TS
  repeat' split
  all_goals exact .inl ⟨rfl,fun _=>rfl⟩
 rw[if_neg h3];by_cases h4:d.k=4
 .rw[if_pos h4];unfold upW
  repeat' split
  all_goals exact .inl ⟨rfl,fun _=>rfl⟩
 rw[if_neg h4];unfold SY
 repeat' split
 all_goals exact .inl ⟨rfl,fun _=>rfl⟩
