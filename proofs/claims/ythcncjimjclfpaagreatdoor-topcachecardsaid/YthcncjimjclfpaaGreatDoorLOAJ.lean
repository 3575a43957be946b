/-
  Part.
-/
import Derived.Test.YthcncjimjclfpaaGreatDoorLOAD
import Derived.Test.YthcncjimjclfpaaGreatDoorLOAF
import Derived.Test.YthcncjimjclfpaaGreatDoorLOAI
import Derived.Deep.WholeRow
import Derived.DeepKeys4
set_option maxRecDepth 20000
set_option maxHeartbeats 8000000
namespace Go.Proofs.YthcncjimjclfpaaGreatDoor
open Go.RowKit Go.Proofs.Tryz
open _root_.Nat renaming le_refl->A8,lt_of_lt_of_le->AX,zero_le->AY,le_trans->BM,mul_comm->DC
open _root_.Array renaming getElem?_eq_some_iff->AB,getElem?_eq_getElem->BP
open _root_.Option.some renaming injEq->BD,inj->BN
open Go.Sem renaming run_bind->DX,run_pure->EM
open Go.Result renaming andThen_ok->DY
open Go.Value renaming slice->FQ
open Go.Obj renaming cells->FT
open Go renaming World->FU,Value->FV,Calls->FW
open _root_.Option renaming none->FX,some->FZ
variable{W V U:FU}{k i:Nat}{d:Dd}{x:MapEntry}{v:FV}{p:Pw}{r:Rp}{es:Array MapEntry}{F:Nat->Prop}
theorem BV2{kd:Int}{x:Rp×Pw}(hk:k<W.heap.size)(D:DB W V d)(ho:GZ U V.heap.size v x.1.ns)(ht:Touch (· =k) V U)(hx:TY kd x.1.E=true->WX U k x.2)(hp:TY kd x.1.E=true->∀i,i<3->LX 300 (x.2.s i)):
  Did W k kd x (.returned (rpV x.1 v)) (gV U (W.heap.size+1) (I0 x.1.E) (I0 x.1.z) (S0 x.1.p) (S0 x.1.d) (I0 x.1.t.c) (I0 x.1.t.m) (I0 x.1.t.q) (I0 x.1.t.v) (I0 x.1.t.k) (I0 x.1.t.o) (I0 x.1.t.n) v):=by
 have h:=(D.dt k).touch hk ht;have hlt:=D.r.lt;exact⟨v,rfl,KQ (ho.lower (by omega)) (bU _ _ _ _ _ _ _ _ _ _ _ _ _ _) (fun q e=>by have:=QL ho e;omega),KC h.t (by omega) _ _ _ _ _ _ _ _ _ _ _ _,fun hl=>(hx hl).reply (hp hl) h.r (by omega) (bU _ _ _ _ _ _ _ _ _ _ _ _ _ _)⟩
theorem CR2(d:Dd)(k:Nat)(W:FU)(x:Rp×Pw)(hk0:k<W.heap.size)(C1:d.k=1->∀V,B0 W V->FW prog 47 #[wP k,ddV d] V (Did V k 1 x))(C2:d.k=2->∀V,B0 W V->FW prog 48 #[wP k,ddV d] V (Did V k 2 x))(C3:d.k=3->∀V,B0 W V->FW prog 49 #[wP k,ddV d] V (Did V k 3 x))(C4:d.k=4->∀V,B0 W V->FW prog 50 #[wP k,ddV d] V (Did V k 4 x))(C5:d.k=5->∀V,B0 W V->FW prog 51 #[wP k] V (Did V k 5 x))(hp:∀i,i<3->LX 300 (x.2.s i))(hd:d.k=1\/d.k=2\/d.k=3\/d.k=4\/d.k=5):FW prog 35 #[wP k,ddV d] W (Did W k d.k x):=by
 have D0:=G6 (DB.start W d);have HP:=G6 (fun(_:TY d.k x.1.E=true)=>hp);rcases hd with hd|hd|hd|hd|hd
 all_goals
  first|have HC:=G6 (C1 hd)|have HC:=G6 (C2 hd)|have HC:=G6 (C3 hd)|have HC:=G6 (C4 hd)|have HC:=G6 (C5 hd)
  rw[hd]at HP⊢;clear C1 C2 C3 C4 C5 hp;obtain⟨dk,dc,ds,⟨o,s,pp,dd,v,f⟩,lo,sl,ke,wt⟩:=d;simp only at hd;subst hd;unfold wP at HC⊢;unfold ddV at*;go_enter func35,ntmps35;go_upto_region 1 with fail;generalize ((W.alloc _).alloc _)=W0 at*;obtain⟨⟨d0,d1,d2,d3,d4,d5,d6⟩,d7,d8,d9,d10,d11,d12⟩:=(G5 D0).cells;simp only at d0 d1 d2 d3 d4 d5 d6 d7 d8 d9 d10 d11 d12;go_wp2_with fail;refine(G5 HC _ (G5 D0).b).mono ?_;rintro e w1 ⟨vn,rfl,ho,ht,hw⟩;obtain⟨na,nc,rfl⟩:=IK ho;have R2:=(((G5 D0).dt k).touch hk0 ht).r;have X1:=G6 (BV2 hk0 (G5 D0) ho ht hw (G5 HP));have b0:=R2.cells;have g0:=R2.GN;clear ho ht hw R2 D0 HC HP d0 d1 d2 d3 d4 d5 d6 d7 d8 d9 d10 d11 d12;unfold rpV gV at X1;unfold rpV;go_wp2_with fail;exact bodyPost_ret (v:=.agg #[I0 x.1.E,I0 x.1.z,S0 x.1.p,S0 x.1.d,I0 x.1.t.c,I0 x.1.t.m,I0 x.1.t.q,I0 x.1.t.v,I0 x.1.t.k,I0 x.1.t.o,I0 x.1.t.n,FQ na x.1.ns.length nc]) (by simp[results,results35,go_sem,b0]) rfl (G5 X1)
theorem BD3(p:Pw)(d:Dd)(k:Nat)(W:FU)(hx:WX W k p)(hc:0<=d.c/\d.c<16)(hs:0<=d.s/\d.s<3)(hok:∀j,j<3->LX 299 (p.s j))(hcl:uD 299 p.H d.c.toNat (p.c d.c.toNat))(hp:d.q.p.length<=140737488355328):FW prog 48 #[wP k,ddV d] W (Did W k 2 (fA p d)):=by
 cases hu:(p.s d.s.toNat).up with
 |true=>exact CD8 p d k W hx hc hs hok hcl hp hu
 |false=>
  rw[fA,if_pos hu];exact BC8 p d k W hx hs hu
theorem AS0(p:Pw)(d:Dd)(k:Nat)(W:FU)(hx:WX W k (KN p))(hT:ZG W)(h:QY p)(hn:p.n<300)(ha:U0 d=0)(hp:d.q.p.length<=140737488355328)(hd:d.q.d.length<=140737488355328):FW prog 35 #[wP k,ddV d] W (Did W k d.k (lH (KN p) d)):=by
 have hW:QY (lH (KN p) d).2:=by
  have:=lJ d h;rw[doP,if_neg (by omega),if_neg (by omega)]at this;exact this
 have hP:∀i,i<3->LX 300 ((lH (KN p) d).2.s i):=fun i hi=>(hW.s i hi).more hW.n1;have ok:∀j,j<3->LX 299 (p.s j):=fun j hj=>(h.s j hj).more (by omega);have ok3:∀j,j<3->LX 300 (p.s j):=fun j hj=>(h.s j hj).more (by omega);have hk:d.k=1\/d.k=2\/d.k=3\/d.k=4\/d.k=5:=by
  unfold U0 at ha;by_cases e:d.k=1\/d.k=2\/d.k=3\/d.k=4\/d.k=5
  .exact e
  .rw[if_neg (by omega),if_neg (by omega),if_neg (by omega),if_neg (by omega)]at ha;cases ha
 exact CR2 d k W _ hx.lt
  (fun h1 V hV=>by rw[lH,if_pos h1];exact AR9 p d k V (hx.next hV) (hT.next hV) h hn (CN9 h1 ha) hp hd)
  (fun h2 V hV=>by
   obtain⟨hc,hs⟩:=BR2 h2 ha;rw[lH,if_neg (by omega),if_pos h2];exact BD3 (KN p) d k V (hx.next hV) hc hs ok ((h.c _ (by omega)).more (by omega) (fun _ hx=>hx)) hp)
  (fun h3 V hV=>by rw[lH,if_neg (by omega),if_neg (by omega),if_pos h3];exact BD2 (KN p) d k V (hx.next hV) (yB (.inl h3) ha) ok3)
  (fun h4 V hV=>by rw[lH,if_neg (by omega),if_neg (by omega),if_neg (by omega),if_pos h4];exact CR1 (KN p) d k V (hx.next hV) (yB (.inr h4) ha) ok3)
  (fun h5 V hV=>by rw[lH,if_neg (by omega),if_neg (by omega),if_neg (by omega),if_neg (by omega)];exact AR6 (KN p) k V (hx.next hV) (hT.next hV) (CY2 h hn))
  hP hk
noncomputable def zW:Array FV:=(((prog.info? 84).bind (·.zero)).getD undef).cells
theorem BD4:(prog.info? 84).map (fun i=>(i.zero,i.size))=FZ (FZ (.agg zW),83):=by kernel_rfl
theorem CD9:zW.size=83:=by kernel_rfl
theorem CZ2{n:Nat}(h:n=83):(prog.info? 84).map (·.size)=FZ n:=by rw[h];exact(zero_of_info BD4).2
noncomputable def zB:Array FV:=(prog.built 84 []).getD #[]
theorem CE0:zB.size=83:=by kernel_rfl
section
variable {w:FU} {ops:Array Oper} {rest:List Oper} {o:Oper} {a:Act} {Q:Exit->Act->FU->Prop}
theorem gJ(hgd:o.guard=FX)(x:Operand)(ho:o.op=.load 84 x)(k:Nat)(c:Array FV)(hx:a.eval x=P0 k)(hc:w.heap[k]?=FZ (FT c 84 (0,0)))(h83:c.size=83)
  (h:wpList prog ops Q rest (a.put o.dst (.agg c)) w):wpList prog ops Q (o::rest) a w:=by
 refine wpList_plain hgd fun K hK=>?_;have hr:(Instr.loadAt 84 (P0 k)).run prog w=.ok (.agg c) w:=by
  have hl:=run_loadCells_list (P:=prog) (w:=w) ⟨k,0,FX⟩ c.toList (fun j v hj=>by
   rw[Addr.add_lit];show w.cell? ⟨k,0+j,FX⟩=FZ v;rw[Nat.zero_add,cell_of_row _ _ j c _ (0,0) hc];simpa using hj)
  rw[show c.toList.length=83 by simpa using h83]at hl;simp only[Instr.loadAt,Instr.sureAddr,DX,EM,Result.andThen];unfold loadVar;simp only[DX,isAgg84,sizeOf84,Result.andThen,if_true];rw[hl];simp
 unfold Oper.wp execOp;simp only[ho,DX,EM,DY,hx,hr];exact hK _ _ h
theorem sW(hgd:o.guard=FX)(ho:o.op=.alloc 84)(h:wpList prog ops Q rest (a.put o.dst (.pointer (FZ ⟨w.heap.size,0,FX⟩))) (w.alloc (FT zW 84))):wpList prog ops Q (o::rest) a w:=by
 refine wpList_plain hgd fun K hK=>?_;have hz:=(zero_of_info BD4).1 w;have hr:(Instr.alloc 84 true (.tuple #[])).run prog w=.ok (.pointer (FZ ⟨w.heap.size,0,FX⟩)) (w.alloc (FT zW 84)):=by
  simp[Instr.alloc,newVar,newRow,hz,Value.cells,go_sem]
 unfold Oper.wp execOp;simp only[ho,DX,EM,DY,hr];exact hK _ _ h
theorem A68(hgd:o.guard=FX)(x:Operand)(ho:o.op=.box 84 x)(c:Array FV)(hx:a.eval x=.agg c)(h:wpList prog ops Q rest (a.put o.dst (.pointer (FZ ⟨w.heap.size,0,FX⟩))) (w.alloc (FT c 84))):wpList prog ops Q (o::rest) a w:=by
 refine wpList_plain hgd fun K hK=>?_;have hr:(Instr.box 84 (.agg c)).run prog w=.ok (.pointer (FZ ⟨w.heap.size,0,FX⟩)) (w.alloc (FT c 84)):=by
  simp[Instr.box,newVar,newRow,Value.cells,go_sem]
 unfold Oper.wp execOp;simp only[ho,DX,EM,DY,hx,hr];exact hK _ _ h
theorem sZ(hgd:o.guard=FX)(ho:o.op=.build 84 #[])(h:wpList prog ops Q rest (a.put o.dst (.agg zB)) w):wpList prog ops Q (o::rest) a w:=by
 refine wpList_build hgd 84 #[] ho ?_ ?_
 .simp only[Array.map_empty]
  kernel_rfl
 .simp only[Array.map_empty];exact h
theorem dB(hgd:o.guard=FX)(x y:Operand)(ho:o.op=.store 84 x y)(k:Nat)(c old:Array FV)(hx:a.eval x=P0 k)(hy:a.eval y=.agg c)(hc:w.heap[k]?=FZ (FT old 84 (0,0)))(h83:c.size=83)(ho83:old.size=83)(h1:c.all (·.oneCell')=true)
  (h:wpList prog ops Q rest (a.put o.dst undef) (w.setRow k c)):wpList prog ops Q (o::rest) a w:=
 wpList_store_row hgd _ x y ho k c hx hy _ old hc (CZ2 h83) (by omega) h1 h
theorem nD(hgd:o.guard=FX)(x y:Operand)(ho:o.op=.store 84 x y)(c:Array FV)(hx:a.eval x=.pointer (FZ ⟨w.heap.size,0,FX⟩))(hy:a.eval y=.agg c)(h83:c.size=83)(h1:c.all (·.oneCell')=true)
  (h:wpList prog ops Q rest (a.put o.dst undef) (w.alloc (FT c 84))):wpList prog ops Q (o::rest) a (w.alloc (FT zW 84)):=by
 refine dB hgd x y ho w.heap.size c zW hx hy (heap_alloc_last w _) h83 CD9 h1 ?_;rw[World.setRow_alloc_new];exact h
end
def CG5(W:FU)(k:Nat)(x:Rp×Pw)(e:Ending)(w':FU):Prop:=
 ∃v,e=.returned (rpV x.1 v)/\GZ w' W.heap.size v x.1.ns/\Touch (· =k) W w'/\WX w' k x.2
theorem AG8{E:Int}(hk:k<W.heap.size)(h:DT k W V d)(hx:WX V k p)(hp:∀i,i<3->LX 300 (p.s i)):
  CG5 W k (RY E,p) (.returned (UM E)) (gV V (W.heap.size+1) (I0 E) (I0 0) (.string ⟨#[]⟩) (.string ⟨#[]⟩) (I0 0) (I0 0) (I0 0) (I0 0) (I0 0) (I0 0) (I0 0) (N0)):=
 ⟨N0,rfl,.inl ⟨rfl,rfl⟩,KC h.t (by omega) _ _ _ _ _ _ _ _ _ _ _ _,hx.reply hp h.r (by omega) (bU _ _ _ _ _ _ _ _ _ _ _ _ _ _)⟩
theorem BV3(p:Pw)(d:Dd)(h:TY d.k (lH p d).1.E=false):(lH p d).2=p:=by
 unfold lH at h⊢;by_cases h1:d.k=1
 .rw[if_pos h1]at h⊢;unfold QO at h⊢
  (repeat' split)<;>simp_all[TY]
 .rw[if_neg h1]at h⊢;by_cases h2:d.k=2
  .rw[if_pos h2]at h⊢;unfold fA at h⊢
   (repeat' split)<;>simp_all[TY,A47]
   all_goals (split at h<;>simp_all)
  .rw[if_neg h2]at h⊢;by_cases h3:d.k=3
   .rw[if_pos h3]at h⊢;unfold TP at h⊢
    (repeat' split)<;>simp_all[TY,RY]
   .rw[if_neg h3]at h⊢;by_cases h4:d.k=4
    .rw[if_pos h4]at h⊢;unfold upW at h⊢
     (repeat' split)<;>simp_all[TY,RY]
    .rw[if_neg h4]at h⊢;unfold SQ at h⊢
     (repeat' split)<;>simp_all[TY]
theorem CR3(p:Pw)(d:Dd):(lH p d).2.h=p.h:=by
 unfold lH QO fA TP upW SQ
 (repeat' split)<;>rfl
theorem dD(W:FU)(k:Nat)(c:Array FV):Touch (· =k) W (W.setRow k c):=by
 refine⟨rfl,rfl,rfl,by simp[World.setRow],fun b _ hb=>?_⟩;simp only[World.setRow,Array.getElem?_modify];rw[if_neg (fun e=>hb e.symm)]
theorem WX.blk(h:WX W k p):∃c,W.heap[k]?=FZ (FT c 84 (0,0))/\c.size=83/\c.all (·.oneCell')=true:=by
 obtain⟨f,⟨c,h1,h2,h3⟩,hr⟩:=h;refine⟨c,h1,h2,?_⟩;rw[Array.all_eq_true];intro j hj;have e:=h3 j (by omega);rw[BP hj]at e;rw[BN e];exact hr.cellP (P:=(·.oneCell'=true)) (fun _=>rfl) (fun _=>rfl) (fun _ _ _=>rfl) j (by omega)
theorem WX.copy{c:Array FV}(h:WX W k p)(hh:p.h=k)(hc:W.heap[k]?=FZ (FT c 84 (0,0))):WX (W.alloc (FT c 84)) W.heap.size p:=by
 have hk:=h.lt;obtain⟨f,⟨c',h1,h2,h3⟩,hr⟩:=h;rw[hc]at h1;simp only[BD,Obj.cells.injEq,and_true]at h1;subst h1;exact⟨f,⟨c,heap_alloc_last W _,h2,h3⟩,(hr.moved (A8 _) (by omega)).next (G7 _ _)⟩
theorem WX.back{q:Nat}{p':Pw}{c:Array FV}(h:WX W k p)(h':WX W q p')(hh:p'.h=k)(hc:W.heap[q]?=FZ (FT c 84 (0,0))):WX (W.setRow k c) k p':=by
 obtain⟨f,hb,hr⟩:=h;have hd:=hr.gU hb;obtain⟨o,ho,_⟩:=hb;obtain⟨g,⟨c',h1,h2,h3⟩,hs⟩:=h';rw[hc]at h1;simp only[BD,Obj.cells.injEq,and_true]at h1;subst h1;refine⟨g,⟨c,setRow_heap W k o c _ _ ho,h2,h3⟩,WdR.touch (W:=W) ?_ (dD W k c)⟩;refine⟨hs.n,fun i hi=>?_,hs.r,fun i hi=>⟨(hs.c i hi).s,(hs.c i hi).z,bQ (hs.c i hi).e.1 hd⟩,lN (OG.1 hs.d.1) hd,hs.h,by omega⟩;have s:=hs.s i hi;exact⟨s.up,AF0 (TK.1 s.d.1) hd,s.id,s.ep,lN (OG.1 s.l.1) hd,s.dn,s.z,yC s.n.1 hd,⟨s.i.1,fun h0=>hs.h i hi h0 k (Nat.le_of_eq hh.symm)⟩,VH s.w.1 hd⟩
def RpX(W:FU)(g:Nat)(r:Rp)(v:FV):Prop:=W.heap[g]?=FZ (FT #[I0 r.E,I0 r.z,S0 r.p,S0 r.d,I0 r.t.c,I0 r.t.m,I0 r.t.q,I0 r.t.v,I0 r.t.k,I0 r.t.o,I0 r.t.n,v] 37 (0,0))
theorem RpX.lt{g:Nat}(h:RpX W g r v):g<W.heap.size:=(AB.1 h).1
theorem RpX.cells{g:Nat}(h:RpX W g r v):W.cell? ⟨g,0,FX⟩=FZ (I0 r.E)/\W.cell? ⟨g,1,FX⟩=FZ (I0 r.z)/\W.cell? ⟨g,2,FX⟩=FZ (S0 r.p)/\W.cell? ⟨g,3,FX⟩=FZ (S0 r.d)/\W.cell? ⟨g,4,FX⟩=FZ (I0 r.t.c)/\W.cell? ⟨g,5,FX⟩=FZ (I0 r.t.m)/\W.cell? ⟨g,6,FX⟩=FZ (I0 r.t.q)/\W.cell? ⟨g,7,FX⟩=FZ (I0 r.t.v)/\W.cell? ⟨g,8,FX⟩=FZ (I0 r.t.k)/\W.cell? ⟨g,9,FX⟩=FZ (I0 r.t.o)/\W.cell? ⟨g,10,FX⟩=FZ (I0 r.t.n)/\W.cell? ⟨g,11,FX⟩=FZ (v):=by
 unfold RpX at h;simp[World.cell?,h]
theorem DT.beyond{q:Nat}(h:DT k W V d)(hq:W.heap.size+1<q)(ht:Touch (· =q) V U):DT k W U d:=
 ⟨⟨ht.os.trans h.t.os,ht.tape.trans h.t.tape,ht.output.trans h.t.output,BM h.t.size ht.size,fun b hb hn=>(ht.block b (AX hb h.t.size) (by omega)).trans (h.t.block b hb hn)⟩,h.r.touch ht (by omega),(ht.block _ h.d.ltz (by omega)).trans h.d⟩
theorem BD5{B:Nat}(hk:k<W.heap.size)(h:DT k W V d)(hx:WX V k p)(hp:∀i,i<3->LX 300 (p.s i))(hn:GZ V B v r.ns)(hB:W.heap.size+1<B):
  CG5 W k (r,p) (.returned (rpV r v)) (gV V (W.heap.size+1) (I0 r.E) (I0 r.z) (S0 r.p) (S0 r.d) (I0 r.t.c) (I0 r.t.m) (I0 r.t.q) (I0 r.t.v) (I0 r.t.k) (I0 r.t.o) (I0 r.t.n) v):=
 ⟨v,rfl,KQ (hn.lower (by omega)) (bU _ _ _ _ _ _ _ _ _ _ _ _ _ _) (fun q e=>by have:=SY hn q e;omega),KC h.t (by omega) _ _ _ _ _ _ _ _ _ _ _ _,hx.reply hp h.r (by omega) (bU _ _ _ _ _ _ _ _ _ _ _ _ _ _)⟩
theorem CE1(p:Pw)(d:Dd)(k:Nat)(W:FU)(hx:WX W k p)(hp:∀i,i<3->LX 300 (p.s i))(hn:300<=p.n):FW prog 16 #[wP k,ddV d] W (CG5 W k (RY 6,p)):=by
 have D0:=G6 ((DB.start W d).dt k);have X0:=G6 (hx.next (DB.start W d).b);have hk0:=hx.lt;have HP:=G6 hp;clear hp hx;unfold wP ddV;go_enter func16,ntmps16;go_upto_region 1 with fail;generalize ((W.alloc _).alloc _)=W0 at*;have c0:=(G5 X0).count;have CR:=G6 (fun V=>KP 6 V);unfold UM at CR;go_wp2_with fail;refine(G5 CR _).mono ?_;rintro e wr ⟨rfl,hbr⟩;have DR:=(G5 D0).next hk0 hbr;have b0:=DR.r.cells;have g0:=DR.r.GN;have XR:=G6 (AG8 (E:=6) hk0 DR ((G5 X0).next hbr) (G5 HP));clear hbr DR D0 CR;unfold UM gV at XR;go_wp2_with fail;exact bodyPost_ret (v:=.agg #[I0 6,I0 0,.string ⟨#[]⟩,.string ⟨#[]⟩,I0 0,I0 0,I0 0,I0 0,I0 0,I0 0,I0 0,N0]) (by simp[results,results16,go_sem,b0]) rfl (G5 XR)
theorem CR4(p:Pw)(d:Dd)(k:Nat)(W:FU)(hx:WX W k p)(hp:∀i,i<3->LX 300 (p.s i))(hn:p.n<300)(hn0:0<=p.n)(ha:U0 d≠0):FW prog 16 #[wP k,ddV d] W (CG5 W k (RY (U0 d),KN p)):=by
 have D0:=G6 ((DB.start W d).dt k);have X0:=G6 (hx.next (DB.start W d).b);have hk0:=hx.lt;have HP:=G6 hp;have CA:=G6 (fun V=>pU d V);have ha2:(U0 d==0)=false:=beq_eq_false_iff_ne.2 ha;clear hp hx ha;generalize U0 d=E at*;unfold wP;unfold ddV at CA⊢;go_enter func16,ntmps16;go_upto_region 1 with fail;generalize ((W.alloc _).alloc _)=W0 at*;have c0:=(G5 X0).count;have f0:=(G5 X0).GN 0;have X1:=G6 ((G5 X0).AF2 (p.n+1));have D1:=G6 ((G5 D0).touch hk0 (JK W0 k 0 (I0 (p.n+1))));go_upto_region 6 with fail;generalize W0.setCell _ _=W1 at*;clear c0 f0 D0 X0;obtain⟨⟨d0,d1,d2,d3,d4,d5,d6⟩,d7,d8,d9,d10,d11,d12⟩:=(G5 D1).cells;go_wp2_with fail;refine(G5 CA _).mono ?_;rintro e w2 ⟨rfl,hb2⟩;have D2:=G6 ((G5 D1).next hk0 hb2);have X2:=G6 ((G5 X1).next hb2);clear d0 d1 d2 d3 d4 d5 d6 d7 d8 d9 d10 d11 d12 hb2 D1 X1;have CR:=G6 (fun V=>KP E V);unfold UM at CR;go_wp2_with fail;refine(G5 CR _).mono ?_;rintro e wr ⟨rfl,hbr⟩;have DR:=(G5 D2).next hk0 hbr;have b0:=DR.r.cells;have g0:=DR.r.GN;have XR:=G6 (AG8 (E:=E) hk0 DR ((G5 X2).next hbr) (G5 HP));clear hbr DR D2 CR;unfold UM gV at XR;go_wp2_with fail;exact bodyPost_ret (v:=.agg #[I0 E,I0 0,.string ⟨#[]⟩,.string ⟨#[]⟩,I0 0,I0 0,I0 0,I0 0,I0 0,I0 0,I0 0,N0]) (by simp[results,results16,go_sem,b0]) rfl (G5 XR)
theorem CR5(p:Pw)(d:Dd)(k:Nat)(W:FU)(hx:WX W k p)(hh:p.h=k)(hT:ZG W)(h:QY p)(hn:p.n<300)(ha:U0 d=0)(hp:d.q.p.length<=140737488355328)(hd:d.q.d.length<=140737488355328):FW prog 16 #[wP k,ddV d] W (CG5 W k (lH (KN p) d)):=by
 have D0:=G6 ((DB.start W d).dt k);have X0:=G6 (hx.next (DB.start W d).b);have T0:=G6 (hT.next (DB.start W d).b);have hk0:=hx.lt;have CA:=G6 (fun V=>pU d V);have hn0:=h.n0;have HP:Hid (∀i,i<3->LX 300 ((lH (KN p) d).2.s i)):=G6 (by
  have hW:=lJ d h;rw[doP,if_neg (by omega),if_neg (by omega)]at hW;exact fun i hi=>(hW.s i hi).more hW.n1)
 have HH:Hid ((lH (KN p) d).2.h=k):=G6 ((CR3 _ _).trans hh);have HS:=G6 (BV3 (KN p) d);have CH:=G6 (fun V q (hV:WX V q (KN p)) (hT:ZG V)=>AS0 p d q V hV hT h hn ha hp hd);have CL:=G6 (fun V=>A52 d.k (lH (KN p) d).1.E V);rw[ha]at CA;clear hx hT h hp hd ha;generalize hx1:lH (KN p) d=x at*;clear hx1;obtain⟨r,p'⟩:=x;simp only at HP HH HS CL;unfold wP;unfold ddV at CA⊢;unfold wP ddV at CH;go_enter func16,ntmps16;go_upto_region 1 with fail;generalize ((W.alloc _).alloc _)=W0 at*;have c0:=(G5 X0).count;have f0:=(G5 X0).GN 0;have X1:=G6 ((G5 X0).AF2 (p.n+1));have D1:=G6 ((G5 D0).touch hk0 (JK W0 k 0 (I0 (p.n+1))));have T1:=G6 (bW (G5 T0) (G5 X0) (JK W0 k 0 (I0 (p.n+1))));go_upto_region 6 with fail;generalize W0.setCell _ _=W1 at*;clear c0 f0 D0 X0 T0;obtain⟨⟨d0,d1,d2,d3,d4,d5,d6⟩,d7,d8,d9,d10,d11,d12⟩:=(G5 D1).cells;go_wp2_with fail;refine(G5 CA _).mono ?_;rintro e w2 ⟨rfl,hb2⟩;have D2:=G6 ((G5 D1).next hk0 hb2);have X2:=G6 ((G5 X1).next hb2);have T2:=G6 ((G5 T1).next hb2);clear d0 d1 d2 d3 d4 d5 d6 d7 d8 d9 d10 d11 d12 hb2 D1 X1 T1 CA;obtain⟨c,hc,CG6,hc1⟩:=(G5 X2).blk;have HC:=G6 hc;have hq2:=(G5 D2).r.lt;have X3:=G6 ((G5 X2).copy hh hc);have Y3:=G6 (((G5 X2).offq (A8 _)).next (G7 w2 (FT c 84)));have D3:=G6 ((G5 D2).next hk0 (G7 w2 (FT c 84)));have T3:=G6 ((G5 T2).next (G7 w2 (FT c 84)));clear hc;go_upto_region 10 with(first|refine gJ rfl _ rfl k c rfl (G5 HC) CG6 ?_|refine sW rfl rfl ?_|refine nD rfl _ _ rfl c rfl rfl CG6 hc1 ?_);clear HC CG6 hc1 X2 D2 T2;generalize w2.alloc _=W3 at*;generalize w2.heap.size=q at*;obtain⟨⟨d0,d1,d2,d3,d4,d5,d6⟩,d7,d8,d9,d10,d11,d12⟩:=(G5 D3).cells;have C3:=G6 (G5 CH W3 q (G5 X3) (G5 T3));have hq3:=(G5 X3).lt;go_wp2_with fail;refine(G5 C3).mono ?_;rintro e w4 ⟨vn,rfl,ho4,ht4,hx4⟩;obtain⟨na,nc,rfl⟩:=IK ho4;have hs4:=ht4.size;have R5:Hid (RpX (w4.alloc (FT #[I0 r.E,I0 r.z,S0 r.p,S0 r.d,I0 r.t.c,I0 r.t.m,I0 r.t.q,I0 r.t.v,I0 r.t.k,I0 r.t.o,I0 r.t.n,FQ na r.ns.length nc] 37)) w4.heap.size r (FQ na r.ns.length nc)):=G6 (heap_alloc_last _ _);have B5:=G7 w4 (FT #[I0 r.E,I0 r.z,S0 r.p,S0 r.d,I0 r.t.c,I0 r.t.m,I0 r.t.q,I0 r.t.v,I0 r.t.k,I0 r.t.o,I0 r.t.n,FQ na r.ns.length nc] 37);have D5:=G6 (((G5 D3).beyond (by omega) ht4).next hk0 B5);have Y5:=G6 (((G5 Y3).far (g:=q) rfl (show k≠q by omega) ht4).next B5).x;have O5:=G6 (ho4.next B5);have X5:=G6 (fun hl=>(hx4 hl).next B5);clear d0 d1 d2 d3 d4 d5 d6 d7 d8 d9 d10 d11 d12 C3 CH X3 Y3 D3 T3 ho4 ht4 hx4 B5;unfold rpV;go_upto_region 11 with fail;generalize w4.alloc _=W5 at*;generalize w4.heap.size=g at*;obtain⟨⟨d0,d1,d2,d3,d4,d5,d6⟩,d7,d8,d9,d10,d11,d12⟩:=(G5 D5).cells;obtain⟨r0,r1,r2,r3,r4,r5,r6,r7,r8,r9,r10,r11⟩:=(G5 R5).cells;go_wp2_with fail;refine(G5 CL _).mono ?_;rintro e w6 ⟨rfl,hw6⟩;obtain rfl:=hw6.symm;clear d0 d1 d2 d3 d4 d5 d6 d7 d8 d9 d10 d11 d12 r0 r1 r2 r3 r4 r5 r6 r7 r8 r9 r10 r11 CL;refine Or.elim (show TY d.k r.E=false\/TY d.k r.E=true by cases TY d.k r.E<;>simp) ?a0 ?a1
 case' a1=>
  intro hl;rw[hl];obtain⟨c,hc,CG6,hc1⟩:=(G5 X5 hl).blk;obtain⟨o,ho,ho83,_⟩:=(G5 Y5).blk;have HC:=G6 hc;have HO:=G6 ho;have X6:=G6 ((G5 Y5).back (G5 X5 hl) (G5 HH) hc);have D6:=G6 ((G5 D5).touch hk0 (dD W5 k c));have O6:=G6 (KQ (G5 O5) (dD W5 k c) (fun b e=>by have:=SY (G5 O5) b e;omega));have R6:Hid (RpX (W5.setRow k c) g r (FQ na r.ns.length nc)):=G6 (((dD W5 k c).block g (G5 R5).lt (by omega)).trans (G5 R5));clear hc ho X5 Y5 D5 O5 R5;go_upto_region 13 with(first|refine gJ rfl _ rfl q c rfl (G5 HC) CG6 ?_|refine dB rfl _ _ rfl k c o rfl rfl (G5 HO) CG6 ho83 hc1 ?_);generalize W5.setRow k c=W6 at*
 case' a0=>
  intro hl;rw[hl];have X6:Hid (WX W5 k p'):=G6 (by rw[G5 HS hl];exact G5 Y5);have D6:=D5;have O6:=O5;have R6:=R5;clear X5 Y5 D5 O5 R5;go_upto_region 13 with fail
 all_goals
  have DR:=G5 D6;have b0:=DR.r.cells;have g0:=DR.r.GN;obtain⟨r0,r1,r2,r3,r4,r5,r6,r7,r8,r9,r10,r11⟩:=(G5 R6).cells;have XR:=G6 (BD5 hk0 DR (G5 X6) (G5 HP) (G5 O6) (by omega));clear DR X6 D6 O6 R6;unfold rpV gV at XR;go_wp2_with fail;exact bodyPost_ret (v:=.agg #[I0 r.E,I0 r.z,S0 r.p,S0 r.d,I0 r.t.c,I0 r.t.m,I0 r.t.q,I0 r.t.v,I0 r.t.k,I0 r.t.o,I0 r.t.n,FQ na r.ns.length nc]) (by simp[results,results16,go_sem,b0]) rfl (G5 XR)
theorem BD6(p:Pw)(d:Dd)(k:Nat)(W:FU)(hx:WX W k p)(hh:p.h=k)(hT:ZG W)(h:QY p)(hp:d.q.p.length<=140737488355328)(hd:d.q.d.length<=140737488355328):FW prog 16 #[wP k,ddV d] W (CG5 W k (doP p d)):=by
 have ok:∀i,i<3->LX 300 (p.s i):=fun i hi=>(h.s i hi).more h.n1;unfold doP;by_cases hn:300<=p.n
 .rw[if_pos hn];exact CE1 p d k W hx ok hn
 .rw[if_neg hn];by_cases ha:U0 d=0
  .rw[if_neg (fun e=>e ha)];exact CR5 p d k W hx hh hT h (by omega) ha hp hd
  .rw[if_pos ha];exact CR4 p d k W hx ok (by omega) h.n0 ha
structure WNf(W:FU)(k:Nat)(f:Nat->FV)(a b:Nat):Prop where
 t:∀j,j<83->∀x,f j≠ .string x
 n:f 0=I0 0
 r:∀i,i<3->f (31+i)=I0 0
 d:f 82=N0
 s:∀i,i<a->SvA W k (fun q=>f (1+10*i+q)) (svP i ps0)
 c:∀i,i<b->ClA W k (fun q=>f (34+3*i+q)) ⟨i+1,0,[]⟩
def WN(W V:FU)(a b:Nat):Prop:=(∃f,WB V W.heap.size f/\WNf V W.heap.size f a b)/\B0 W V
section
variable {W V U:FU} {a b:Nat}
theorem lZ(h:B0 W V)(T:Touch (· =W.heap.size) V U):B0 W U:=⟨T.os.trans h.os,T.tape.trans h.tape,T.output.trans h.output,BM h.size T.size,fun b hb=>(T.block b (AX hb h.size) (by omega)).trans (h.block b hb)⟩
theorem WN.next(h:WN W V a b)(hb:B0 V U):WN W U a b:=by
 obtain⟨⟨f,h1,h2⟩,h3⟩:=h;exact⟨⟨f,h1.next hb,h2.t,h2.n,h2.r,h2.d,fun i hi=>(h2.s i hi).next hb,fun i hi=>⟨(h2.c i hi).s,(h2.c i hi).z,(h2.c i hi).e.next hb⟩⟩,G8 h3 hb⟩
theorem WN.srv(h:WN W V a b)(ha:a<3){vd vl vn vs vw:FV}{s:Sv}(hs:svP a ps0=s)(hv:SvV V (.agg #[.bool s.up,vd,I0 s.id,I0 s.ep,vl,I0 s.dn,I0 s.tr.z,vn,vs,vw]) s)(h0:s.tr.ss=[]):WN W (yY V W.heap.size (1+10*a) (.bool s.up) vd (I0 s.id) (I0 s.ep) vl (I0 s.dn) (I0 s.tr.z) vn vs vw) (a+1) b:=by
 obtain⟨⟨f,hb,hn⟩,hB⟩:=h;have T:=XO V W.heap.size (1+10*a) (.bool s.up) vd (I0 s.id) (I0 s.ep) vl (I0 s.dn) (I0 s.tr.z) vn vs vw;have hA:SvA V W.heap.size (CG4 (.bool s.up) vd (I0 s.id) (I0 s.ep) vl (I0 s.dn) (I0 s.tr.z) vn vs vw) s:=SvA.of (hb.gU hn.t) hv (fun h=>absurd h0 h) rfl rfl rfl rfl rfl rfl rfl rfl rfl rfl;refine⟨⟨_,hb.yY (o:=1+10*a) (by omega) _ _ _ _ _ _ _ _ _ _,fun j hj x=>?_,by rw[JC (by omega)];exact hn.n,fun i hi=>by rw[JC (by omega)];exact hn.r i hi,by rw[JC (by omega)];exact hn.d,fun i hi=>?_,fun i hi=>?_⟩,lZ hB T⟩
 .by_cases e:1+10*a<=j/\j<1+10*a+10
  .obtain⟨q,rfl⟩:∃q,j=1+10*a+q:=⟨j-(1+10*a),by omega⟩;rw[O8 (by omega)];exact hA.cellP (P:=(· ≠ .string x)) (fun _ e=>by cases e) (fun _ e=>by cases e) (fun _ _ _ e=>by cases e) q (by omega)
  .rw[JC (by omega)];exact hn.t j hj x
 .by_cases e:i=a
  .subst e;rw[hs];exact(hA.congr fun q hq=>by rw[O8 hq]).touch T
  .exact((hn.s i (by omega)).congr fun q hq=>by rw[JC (by omega)]).touch T
 .have h:=(hn.c i hi).congr (g':=fun q=>BF3 f (1+10*a) 10 (CG4 (.bool s.up) vd (I0 s.id) (I0 s.ep) vl (I0 s.dn) (I0 s.tr.z) vn vs vw) (34+3*i+q)) fun q hq=>by rw[JC (by omega)]
  exact⟨h.s,h.z,h.e.touch T⟩
theorem WN.cl(h:WN W V a b)(ha:a<=3)(hb:b<16):WN W (sD V W.heap.size (34+3*b) (I0 (b+1)) (I0 0) (N0)) a (b+1):=by
 obtain⟨⟨f,hf,hn⟩,hB⟩:=h;have T:=SV V W.heap.size (34+3*b) (I0 (b+1)) (I0 0) (N0);refine⟨⟨_,hf.sD (o:=34+3*b) (by omega) _ _ _,fun j hj x=>?_,by rw[JC (by omega)];exact hn.n,fun i hi=>by rw[JC (by omega)];exact hn.r i hi,by rw[JC (by omega)];exact hn.d,fun i hi=>((hn.s i hi).congr fun q hq=>by rw[JC (by omega)]).touch T,fun i hi=>?_⟩,lZ hB T⟩
 .by_cases e:34+3*b<=j/\j<34+3*b+3
  .obtain⟨q,rfl⟩:∃q,j=34+3*b+q:=⟨j-(34+3*b),by omega⟩;rw[O8 (by omega)];rcases(show q=0\/q=1\/q=2 by omega)with rfl|rfl|rfl<;>(intro e;cases e)
  .rw[JC (by omega)];exact hn.t j hj x
 .by_cases e:i=b
  .subst e;exact⟨by rw[O8 (by omega)];rfl,by rw[O8 (by omega)];rfl,by rw[O8 (by omega)];exact Row.nil _ _ 0 (by decide) FX⟩
  .have h:=(hn.c i (by omega)).congr (g':=fun q=>BF3 f (34+3*b) 3 (B93 (I0 (b+1)) (I0 0) (N0)) (34+3*i+q)) fun q hq=>by rw[JC (by omega)]
   exact⟨h.s,h.z,h.e.touch T⟩
theorem C04(i:Nat):(svP i ps0).tr.ss=[]:=by rw[IY rfl];rfl
theorem WN.done(h:WN W V 3 16):WX V W.heap.size (pw0 W.heap.size):=by
 obtain⟨⟨f,hb,hn⟩,_⟩:=h;exact⟨f,hb,hn.n,fun i hi=>hn.s i hi,hn.r,hn.c,by rw[hn.d];exact Row.nil _ _ 0 (by decide) FX,fun i _ h0=>absurd (C04 i) h0,A8 _⟩
end
def CR6:FV->Bool
 | .string _=>false
 |_=>true
theorem CE2:zB.all CR6=true:=by kernel_rfl
theorem BD7:zB[0]?=FZ (I0 0)/\zB[31]?=FZ (I0 0)/\zB[32]?=FZ (I0 0)/\zB[33]?=FZ (I0 0)/\zB[82]?=FZ (N0):=⟨by kernel_rfl,by kernel_rfl,by kernel_rfl,by kernel_rfl,by kernel_rfl⟩
theorem BV4(W:FU)(z:Array FV)(hz:z.size=83)(ht:z.all CR6=true)(z0:z[0]?=FZ (I0 0))(z1:z[31]?=FZ (I0 0))(z2:z[32]?=FZ (I0 0))(z3:z[33]?=FZ (I0 0))(z4:z[82]?=FZ (N0)):WN W (W.alloc (FT z 84)) 0 0:=by
 have e:∀j:Nat,j<83->∃v,z[j]?=FZ v:=fun j hj=>⟨z[j]'(by omega),BP (by omega)⟩;have g:∀ (j:Nat) v,z[j]?=FZ v->z[j]?.getD undef=v:=fun j v h=>by rw[h];rfl
 refine⟨⟨fun j=>z[j]?.getD undef,⟨z,heap_alloc_last W _,hz,fun j hj=>?_⟩,fun j hj x=>?_,g _ _ z0,fun i hi=>?_,g _ _ z4,fun i hi=>by omega,fun i hi=>by omega⟩,G7 _ _⟩
 .obtain⟨v,h⟩:=e j hj;rw[h,<-g j v h]
 .obtain⟨v,h⟩:=e j hj;rw[g j v h];rintro rfl;have:=Array.all_eq_true.1 ht j (by omega);rw[BP (by omega)]at h;rw[BN h]at this
  cases this
 .rcases(show i=0\/i=1\/i=2 by omega)with rfl|rfl|rfl
  .exact g _ _ z1
  .exact g _ _ z2
  .exact g _ _ z3
theorem WN.start(W:FU):WN W (W.alloc (FT zB 84)) 0 0:=BV4 W zB CE0 CE2 BD7.1 BD7.2.1 BD7.2.2.1 BD7.2.2.2.1 BD7.2.2.2.2
theorem CE3(i:Nat)(hi:i<3)(w:FU):FW prog 31 #[I0 i,.agg #[N0]] w (B97 w (svP i ps0) 0):=by
 have e:svP i ps0=CX0 i:=by rw[IY rfl,CX0,AO0 (fs:=[]) (by unfold VW;simp only[A08];split<;>simp)];simp[ps0,I9,epD,NI,OW]
 rw[e];exact(B63 i (by omega) (by omega) w).mono fun _ _ h=>sH h rfl
theorem BD8(W:FU):FW prog 15 #[] W fun e w'=>e=.returned (wP W.heap.size)/\WX w' W.heap.size (pw0 W.heap.size)/\B0 W w':=by
 have CB:=G6 (fun i hi V=>CE3 i hi V);have CN:=G6 (fun s h1 h2 V=>BR9 s V h1 h2);have HE0:=G6 C04;have H0:=G6 (WN.start W);unfold wP;go_enter func15,ntmps15;go_upto_region 2 with(first|refine sZ rfl rfl ?_|refine A68 rfl _ rfl zB rfl ?_);generalize W.alloc _=W0 at*;go_wp2_with fail
 go_loopg [6] 3 (fun kx s6 wr=>∃i:Nat,s6=I0 i/\i<=3/\3-i<=kx/\Hid (WN W wr i 0))
 case atStart=>exact⟨0,rfl,by omega,A8 _,H0⟩
 case round=>
  obtain⟨i,rfl,hi,hg,HN⟩:=hrel;by_cases hlt:i<3
  .have hii:(i:Int)<3:=by omega
   have C1:=G6 (fun V=>G5 CB i hlt V);have HE:=G6 (G5 HE0 i);generalize hs1:svP i ps0=s1 at C1 HE;have HK:=G6 hs1;clear hs1;go_upto_region 5 with fail;have hS0:(fun _:FU=>True) wr.drew:=trivial;refine wp_region_held (S:=fun _:FU=>True) (by kernel_rfl) ?_;change wpAnyH _ _ _ _ _ _ _ _ wr.drew;refine tkH 0 hS0 ?_;refine tkH 1 hS0 ?_;refine tkH 2 hS0 ?_;refine tkH 3 hS0 ?_;refine tkH 8 hS0 ?_;refine tkH 9 hS0 ?_;refine rd1 4 (fun K hK=>?_);go_simp
   with_reducible refine(G5 C1 _).mono ?_
   rintro e w1 ⟨ad,nd,cd,al,cl,an,cn,ai,ci,aw,cw,rfl,H1,hb1⟩;have N1:=(G5 HN).next (G8 (Below.refl wr.heap.size wr).drew hb1);clear hb1;refine nxH hK trivial ?_;clear hK K;refine tkH 5 trivial ?_;refine tkH 6 trivial ?_;refine tkH 7 trivial ?_;refine tkH 10 trivial ?_;refine rd1 11 (fun K hK=>?_);obtain⟨f,hf,_⟩:=N1.1;have x0:=hf.cell (j:=1+i*10) (by omega);have z0:=hf.GN (1+i*10);have x1:=hf.cell (j:=1+i*10+1) (by omega);have z1:=hf.GN (1+i*10+1);have x2:=hf.cell (j:=1+i*10+2) (by omega);have z2:=hf.GN (1+i*10+2);have x3:=hf.cell (j:=1+i*10+3) (by omega);have z3:=hf.GN (1+i*10+3);have x4:=hf.cell (j:=1+i*10+4) (by omega);have z4:=hf.GN (1+i*10+4);have x5:=hf.cell (j:=1+i*10+5) (by omega);have z5:=hf.GN (1+i*10+5);have x6:=hf.cell (j:=1+i*10+6) (by omega);have z6:=hf.GN (1+i*10+6);have x7:=hf.cell (j:=1+i*10+7) (by omega);have z7:=hf.GN (1+i*10+7);have x8:=hf.cell (j:=1+i*10+8) (by omega);have z8:=hf.GN (1+i*10+8);have x9:=hf.cell (j:=1+i*10+9) (by omega);have z9:=hf.GN (1+i*10+9);have hkl:=hf.lt;have HR:=G6 (N1.srv hlt (G5 HK) (G5 H1).1 (G5 HE));unfold yY at HR;rw[DC 10 i]at HR;clear N1 H1 hf;go_simp;refine nxH hK trivial ?_;clear hK K;refine wpAnyH_done (by kernel_rfl) ?_ _;go_wp2_with fail
   go_roundg (3-(i+1))
   case measure=>omega
   case rel=>exact⟨i+1,by simp,by omega,A8 _,HR⟩
  .obtain rfl:i=3:=by omega
   have H3:=HN;clear HN hg hi hlt;go_wp2_with fail
   go_loopg [21] 16 (fun kx s21 wr=>∃i:Nat,s21=I0 i/\i<=16/\16-i<=kx/\Hid (WN W wr 3 i))
   case atStart=>exact⟨0,rfl,by omega,A8 _,H3⟩
   case round=>
    obtain⟨i,rfl,hi,hg,HN⟩:=hrel;by_cases hlt:i<16
    .have hii:(i:Int)<16:=by omega
     have hwr:IntKind.i64.wrap ((i:Int)+1)=(i:Int)+1:=by rw[IntKind.wrap_i64];omega
     have C2:=G6 (fun V=>G5 CN ((i:Int)+1) (by omega) (by omega) V);unfold clV at C2;go_upto_region 10 with fail;have hS0:(fun _:FU=>True) wr.drew:=trivial;refine wp_region_held (S:=fun _:FU=>True) (by kernel_rfl) ?_;change wpAnyH _ _ _ _ _ _ _ _ wr.drew;refine tkH 0 hS0 ?_;refine tkH 1 hS0 ?_;refine tkH 2 hS0 ?_;refine tkH 3 hS0 ?_;refine tkH 8 hS0 ?_;refine tkH 9 hS0 ?_;refine rd1 4 (fun K hK=>?_);go_simp
     with_reducible refine(G5 C2 _).mono ?_
     rintro e w1 ⟨rfl,hb1⟩;have N1:=(G5 HN).next (G8 (Below.refl wr.heap.size wr).drew hb1);clear hb1;refine nxH hK trivial ?_;clear hK K;refine tkH 5 trivial ?_;refine tkH 6 trivial ?_;refine tkH 7 trivial ?_;refine tkH 10 trivial ?_;refine rd1 11 (fun K hK=>?_);obtain⟨f,hf,_⟩:=N1.1;have x0:=hf.cell (j:=34+i*3) (by omega);have z0:=hf.GN (34+i*3);have x1:=hf.cell (j:=34+i*3+1) (by omega);have z1:=hf.GN (34+i*3+1);have x2:=hf.cell (j:=34+i*3+2) (by omega);have z2:=hf.GN (34+i*3+2);have hkl:=hf.lt;have HR:=G6 (N1.cl (A8 3) hlt);unfold sD at HR;rw[DC 3 i]at HR;clear N1 hf;go_simp;refine nxH hK trivial ?_;clear hK K;refine wpAnyH_done (by kernel_rfl) ?_ _;go_wp2_with fail
     go_roundg (16-(i+1))
     case measure=>omega
     case rel=>exact⟨i+1,by simp,by omega,A8 _,HR⟩
    .obtain rfl:i=16:=by omega
     go_wp2_with fail;go_ret;exact⟨rfl,(G5 HN).done,(G5 HN).2⟩
theorem C05(p:Pw):∀l:List Dd,(TV p l).h=p.h
 |[]=>rfl
 |d::l=>by
  rw[TV,C05 _ l];unfold doP
  repeat' split
  all_goals first|rfl|exact CR3 _ _
theorem AG9(p:Pw)(d:Dd):∀l:List Dd,TV p (l++[d])=(doP (TV p l) d).2
 |[]=>rfl
 |e::l=>by
  show TV (doP p e).2 (l++[d])=_;rw[AG9 _ d l];rfl
theorem yS(p:Pw){ds:List Dd}(h:ds[i]?=FZ d):TV p (ds.take (i+1))=(doP (TV p (ds.take i)) d).2:=by
 obtain⟨hk,rfl⟩:=List.getElem?_eq_some_iff.1 h;rw[List.take_succ_eq_append_getElem hk,AG9]
structure BV7(W:FU)(k:Nat)(p:Pw)(V:FU):Prop where
 x:WX V k p
 t:ZG V
 b:B0 W V
 k:W.heap.size<=k
section
variable {W V U:FU} {k:Nat} {p q:Pw}
theorem BV7.next(h:BV7 W k p V)(hb:B0 V U):BV7 W k p U:=⟨h.x.next hb,h.t.next hb,G8 h.b hb,h.k⟩
theorem BV7.turn(h:BV7 W k p V)(ht:Touch (· =k) V U)(hx:WX U k q):BV7 W k q U:=
 ⟨hx,bW h.t h.x ht,⟨ht.os.trans h.b.os,ht.tape.trans h.b.tape,ht.output.trans h.b.output,BM h.b.size ht.size,fun b hb=>(ht.block b (AX hb h.b.size) (by have:=h.k;omega)).trans (h.b.block b hb)⟩,h.k⟩
theorem BV7.start(hT:ZG W)(hb:B0 W V)(hc:B0 V U)(hx:WX U V.heap.size (pw0 V.heap.size)):BV7 W V.heap.size (TV (pw0 V.heap.size) []) U:=⟨hx,(hT.next hb).next hc,G8 hb hc,hb.size⟩
end
theorem CR7{b off n cap:Nat}{ds:List Dd}(hv:IQ W (FQ (FZ ⟨b,off,FX⟩) n cap) ds)(hd:ds[i]?=FZ d):(W.cell? ⟨b,off+i*13,FX⟩=FZ (I0 d.k)/\W.cell? ⟨b,off+i*13+1,FX⟩=FZ (I0 d.c)/\W.cell? ⟨b,off+i*13+2,FX⟩=FZ (I0 d.s)/\W.cell? ⟨b,off+i*13+3,FX⟩=FZ (I0 d.q.o)/\W.cell? ⟨b,off+i*13+4,FX⟩=FZ (I0 d.q.s)/\W.cell? ⟨b,off+i*13+5,FX⟩=FZ (S0 d.q.p)/\W.cell? ⟨b,off+i*13+6,FX⟩=FZ (S0 d.q.d))/\W.cell? ⟨b,off+i*13+7,FX⟩=FZ (I0 d.q.v)/\W.cell? ⟨b,off+i*13+8,FX⟩=FZ (I0 d.q.f)/\W.cell? ⟨b,off+i*13+9,FX⟩=FZ (I0 d.lo)/\W.cell? ⟨b,off+i*13+10,FX⟩=FZ (I0 d.sl)/\W.cell? ⟨b,off+i*13+11,FX⟩=FZ (I0 d.ke)/\W.cell? ⟨b,off+i*13+12,FX⟩=FZ (.bool d.wt):=by
 obtain⟨b',off',cap',he,_,hr,_,_,_⟩:=oZ hv hd;simp only[Value.slice.injEq,BD,Addr.mk.injEq,and_true]at he;obtain⟨⟨rfl,rfl⟩,_,_⟩:=he;have h:∀ (j:Nat) (v:FV),j<13->(Lay.cs d)[j]?=FZ v->W.cell? ⟨b,off+i*13+j,FX⟩=FZ v:=fun j v hj hv=>by
  rw[Nat.add_assoc];exact hr (i*13+j) v ((GV ds i d hd j hj).trans hv)
 exact⟨⟨h 0 _ (by omega) rfl,h 1 _ (by omega) rfl,h 2 _ (by omega) rfl,h 3 _ (by omega) rfl,h 4 _ (by omega) rfl,h 5 _ (by omega) rfl,h 6 _ (by omega) rfl⟩,h 7 _ (by omega) rfl,h 8 _ (by omega) rfl,h 9 _ (by omega) rfl,h 10 _ (by omega) rfl,h 11 _ (by omega) rfl,h 12 _ (by omega) rfl⟩
theorem BE0(p:Pw)(k:Nat)(W:FU)(hx:WX W k p)(hD:p.D.length<=300):FW prog 30 #[wP k] W fun e w'=>∃a c,e=.returned (FQ a p.D.length c)/\GZ w' W.heap.size (FQ a p.D.length c) p.D/\B0 W w':=by
 obtain⟨ua,uc,d82,hdv⟩:=hx.ack;have CC:=G6 (qZ (FQ ua p.D.length uc) p.D W hdv (by omega));clear hx hdv;unfold wP;go_enter func30,ntmps30;go_wp2_with fail;refine(G5 CC).mono ?_;rintro e w1 ⟨v1,rfl,ho,hb⟩;obtain⟨a1,c1,rfl⟩:=IK ho;have HO:=G6 (And.intro ho hb);clear ho hb CC;go_wp2_with fail;go_ret;exact⟨a1,c1,rfl,(G5 HO).1,(G5 HO).2⟩
theorem BE1(W:FU)(hT:ZG W):FW prog 14 #[] W (R0 W (.bool true)):=by
 have HT:=G6 hT;have CN:=G6 (BD8 W);clear hT;have hfd:∀ (x0 x1 x2 x3 x4 x5 x6 x7 x8 x9 x10 x11:FV) (w:FU),(Instr.field 37 (.agg #[x0,x1,x2,x3,x4,x5,x6,x7,x8,x9,x10,x11]) 0).run prog w=.ok x0 w:=fun _ _ _ _ _ _ _ _ _ _ _ _ _=>by kernel_rfl
 go_enter func14,ntmps14;go_wp2_with fail;refine(G5 CN).mono ?_;rintro e w1 ⟨rfl,hx1,hb1⟩;have P1:=G6 (BV7.start (G5 HT) (Below.refl _ _) hb1 hx1);clear hx1 hb1 CN HT;obtain⟨f,c,h1,hf,hc⟩:=BV5 W.heap.size;have i1:=lJ dEl (YG W.heap.size);have C1:=G6 (BD6 (pw0 W.heap.size) dEl W.heap.size w1 (G5 P1).x rfl (G5 P1).t (YG W.heap.size) (by simp[dEl]) (by simp[dEl]));rw[h1]at C1 i1;obtain⟨t,ns,p2,h2,hD⟩:=BV6 (k:=W.heap.size) hf hc;have C2:=G6 (fun V hx hT=>BD6 ⟨1,f,eR (pw0 W.heap.size).s,c,[],[],W.heap.size⟩ dOp W.heap.size V hx rfl hT i1 (by simp[dOp]) (by simp[dOp]));rw[h2]at C2;have CL:=G6 (fun V hx=>SC ⟨1,f,eR (pw0 W.heap.size).s,c,[],[],W.heap.size⟩ W.heap.size V hx);have CA:=G6 (fun V hx=>BE0 p2 W.heap.size V hx (by omega));simp only[show ldP (eR (pw0 W.heap.size).s)=2 from rfl]at CL;rw[hD]at CA;clear h1 h2 i1 hf hc hD;generalize eR (pw0 W.heap.size).s=ro at*;simp only[wP,ddV,dEl,nd0]at C1;simp only[wP,ddV,dOp]at C2;unfold wP at CL CA⊢;go_wp2_with fail;refine(G5 C1).mono ?_;rintro e w2 ⟨u2,rfl,ho2,ht2,hx2⟩;obtain⟨a2,c2,rfl⟩:=IK ho2;have P2:=G6 ((G5 P1).turn ht2 hx2);clear ho2 ht2 hx2 C1 P1;unfold rpV;go_wp2_with fail;refine(G5 CL _ (G5 P2).x).mono ?_;rintro e w3 ⟨rfl,hb3⟩;have P3:=G6 ((G5 P2).next hb3);clear hb3 CL P2;go_wp2_with fail;refine(G5 C2 _ (G5 P3).x (G5 P3).t).mono ?_;rintro e w4 ⟨u4,rfl,ho4,ht4,hx4⟩;obtain⟨a4,c4,rfl⟩:=IK ho4;have P4:=G6 (fun O=>((G5 P3).turn ht4 hx4).next (G7 w4 O));clear ho4 ht4 hx4 C2 P3;unfold rpV;go_wp2_with fail;refine(G5 CA _ (G5 P4 _).x).mono ?_;rintro e w5 ⟨a5,c5,rfl,_,hb5⟩;have P5:=G6 ((G5 P4 _).next hb5);clear hb5 CA P4;go_wp2_with fail;go_ret;exact⟨rfl,(G5 P5).b⟩
structure CG7(W:FU)(F:Nat->Prop)(I:Nat->Nat->FU->Prop):Prop where
 lt:∀b,F b->b<W.heap.size
 g:¬F 1
 next:∀k i V U,I k i V->B0 V U->I k i U
 turn:∀k i V U,W.heap.size<=k->I k i V->Touch (· =k) V U->I k i U
structure A69(W:FU)(k:Nat)(F:Nat->Prop)(p:Pw)(I:FU->Prop)(V:FU):Prop where
 x:WX V k p
 t:ZG V
 b:Touch F W V
 kl:W.heap.size<=k
 i:I V
section
variable {W V U:FU} {k i:Nat} {p q:Pw} {F:Nat->Prop} {I:Nat->Nat->FU->Prop}
theorem A69.next(h:A69 W k F p (I k i) V)(K:CG7 W F I)(hb:B0 V U):A69 W k F p (I k i) U:=⟨h.x.next hb,h.t.next hb,h.b.trans (Touch.of_below hb),h.kl,K.next _ _ _ _ h.i hb⟩
theorem A69.turn(h:A69 W k F p (I k i) V)(K:CG7 W F I)(ht:Touch (· =k) V U)(hx:WX U k q):A69 W k F q (I k i) U:=by
 have hk:=h.kl;exact⟨hx,bW h.t h.x ht,⟨ht.os.trans h.b.os,ht.tape.trans h.b.tape,ht.output.trans h.b.output,BM h.b.size ht.size,fun b hb hn=>(ht.block b (AX hb h.b.size) (by omega)).trans (h.b.block b hb hn)⟩,hk,K.turn _ _ _ _ hk h.i ht⟩
theorem A69.start(K:CG7 W F I)(hT:ZG W)(hb:B0 W V)(hc:B0 V U)(hx:WX U V.heap.size (pw0 V.heap.size))(h0:I V.heap.size 0 W):A69 W V.heap.size F (TV (pw0 V.heap.size) []) (I V.heap.size 0) U:=
 ⟨hx,(hT.next hb).next hc,Touch.of_below (G8 hb hc),hb.size,K.next _ _ _ _ h0 (G8 hb hc)⟩
theorem A69.look(K:CG7 W F I)(h:A69 W k F p (I k i) V)(ht:Touch F V U)(hx:WX U k p)(hi:I k (i+1) U):A69 W k F p (I k (i+1)) U:=⟨hx,h.t.touch ht K.g,h.b.trans ht,h.kl,hi⟩
end
structure SB2(w W:FU)(up:Bool)(vd:FV)(id ep:Int)(vl:FV)(dn z:Int)(vn vs vw:FV):Prop where
 below:B0 w W
 s:IG W (w.heap.size+1) up vd id ep vl dn z vn vs vw
 r:IG W w.heap.size false (N0) 0 0 (N0) 0 0 (N0) (N0) (N0)
section
variable {w W V:FU} {up:Bool} {id ep dn z:Int} {vd vl vn vs vw:FV}
theorem SB2.next(h:SB2 w W up vd id ep vl dn z vn vs vw)(hb:B0 W V):SB2 w V up vd id ep vl dn z vn vs vw:=⟨G8 h.below hb,h.s.next hb,h.r.next hb⟩
theorem SB2.put(h:SB2 w W up vd id ep vl dn z vn vs vw)(j:Nat)(u:FV){vd' vl' vn' vs' vw':FV}(e:(#[.bool up,vd,I0 id,I0 ep,vl,I0 dn,I0 z,vn,vs,vw]:Array FV).setIfInBounds j u=#[.bool up,vd',I0 id,I0 ep,vl',I0 dn,I0 z,vn',vs',vw']):SB2 w (W.setCell ⟨w.heap.size+1,j,FX⟩ u) up vd' id ep vl' dn z vn' vs' vw':=by
 refine⟨h.below.setCell (by simp) u,?_,h.r.other (by omega)⟩;unfold IG;rw[GL u h.s,e]
theorem SB2.start(w:FU)(up:Bool)(id ep dn z:Int)(vd vl vn vs vw:FV):SB2 w ((w.alloc (FT #[.bool false,N0,I0 0,I0 0,N0,I0 0,I0 0,N0,N0,N0] 64)).alloc (FT #[.bool up,vd,I0 id,I0 ep,vl,I0 dn,I0 z,vn,vs,vw] 64)) up vd id ep vl dn z vn vs vw:=by
 have h:=IG.new (w.alloc (FT #[.bool false,N0,I0 0,I0 0,N0,I0 0,I0 0,N0,N0,N0] 64)) up id ep dn z vd vl vn vs vw;rw[show (w.alloc (FT #[.bool false,N0,I0 0,I0 0,N0,I0 0,I0 0,N0,N0,N0] 64)).heap.size=w.heap.size+1 by simp]at h;exact⟨G8 (G7 _ _) (G7 _ _),h,(IG.new w false 0 0 0 0 _ _ _ _ _).next (G7 _ _)⟩
end
structure Few5(s:Sv):Prop where
 d:s.fs.length<=400
 l:s.ts.length<=400
 n:s.tr.ns.length<=400
 i:s.tr.ss.length<=2147483647
 w:s.ws.length<=400
theorem LX.few{q:Ps}(ok:LX 300 q):Few5 (svP i q):=by
 have h2:=ok.small.2;have he:∀ (e:Int) (x:DF),(epD e++[x]).length<=400:=fun e x=>by simp only[epD];split<;>simp
 cases hu:q.up with
 |true=>
  have g:=ok.play.good ok.dn;have hw:=ok.wl;rw[IY hu];exact⟨he _ _,by show q.m.length<=400;omega,by show (NI q.m q.dn).ns.length<=400;exact g.nod.few,TI g.ses,by show q.ws.length<=400;omega⟩
 |false=>
  rw[TN hu];exact⟨he _ _,AY _,by show QH.ns.length<=400;decide,by show QH.ss.length<=2147483647;decide,AY _⟩
def CE4(w:FU)(s:Sv)(e:Ending)(w':FU):Prop:=
 ∃ad cd al cl an cn ai ci aw cw,e=.returned (.agg #[.bool s.up,FQ ad s.fs.length cd,I0 s.id,I0 s.ep,FQ al s.ts.length cl,I0 s.dn,I0 s.tr.z,FQ an s.tr.ns.length cn,FQ ai s.tr.ss.length ci,FQ aw s.ws.length cw])/\
  GZ w' w.heap.size (FQ ad s.fs.length cd) s.fs/\GZ w' w.heap.size (FQ al s.ts.length cl) s.ts/\GZ w' w.heap.size (FQ an s.tr.ns.length cn) s.tr.ns/\GZ w' w.heap.size (FQ ai s.tr.ss.length ci) s.tr.ss/\GZ w' w.heap.size (FQ aw s.ws.length cw) s.ws/\B0 w w'
theorem AS1(p:Pw)(k i:Nat)(W:FU)(hx:WX W k p)(hi:i<3)(s:Sv)(hs:svP i (p.s i)=s)(hf:Few5 s):
  FW prog 10 #[wP k,I0 i] W (CE4 W s):=by
 obtain⟨ad,nd,cd,al,cl,an,cn,ai,ci,aw,cw,S0,hv,_⟩:=hx.srv hi hs;obtain⟨vd,vl,vn,vs,vw,he,d1,l1,n1,s1,k1⟩:=hv;simp only[Value.agg.injEq,Array.mk.injEq,List.cons.injEq,true_and,and_true]at he;obtain⟨rfl,rfl,rfl,rfl,rfl⟩:=he;have hk0:=hx.lt;have HD:=G6 (fun V (hV:B0 W V)=>B06 _ s.fs V (TK.2 (d1.next hV)) (by have:=hf.d;omega));have HL:=G6 (fun V (hV:B0 W V)=>qZ _ s.ts V (OG.2 (l1.next hV)) (by have:=hf.l;omega));have HN:=G6 (fun V (hV:B0 W V)=>B07 _ s.tr.ns V (n1.next hV) (by have:=hf.n;omega));have HI:=G6 (fun V (hV:B0 W V)=>dW _ s.tr.ss V (s1.next hV) hf.i);have HW:=G6 (fun V (hV:B0 W V)=>B08 _ s.ws V (k1.next hV) (by have:=hf.w;omega));have HS:=G6 (fun V (hV:B0 W V)=>S0.next hk0 hV);have CC:=XP i 3;rw[show lG i 3=true by simp[lG];omega]at CC;clear d1 l1 n1 s1 k1 hf hx hs S0;obtain⟨up,fs,id,ep,ts,dn,⟨tz,tns,tss⟩,ws⟩:=s;simp only[DC 10 i]at*;have hi4:(i:Int)<3:=by omega
 have hi5:(0:Int)<=i:=by omega
 unfold wP;go_enter func10,ntmps10;go_wp2_with fail;refine(CC _).mono ?_;rintro e w1 ⟨rfl,rfl⟩;obtain⟨c0,c1,c2,c3,c4,c5,c6,c7,c8,c9⟩:=G5 HS _ (G7 W (FT #[.bool false,N0,I0 0,I0 0,N0,I0 0,I0 0,N0,N0,N0] 64));clear CC HS;go_upto_region 4 with fail;clear c0 c1 c2 c3 c4 c5 c6 c7 c8 c9;have X0:=SB2.start W up id ep dn tz (FQ ad nd cd) (FQ al ts.length cl) (FQ an tns.length cn) (FQ ai tss.length ci) (FQ aw ws.length cw);generalize ((W.alloc (FT #[.bool false,N0,I0 0,I0 0,N0,I0 0,I0 0,N0,N0,N0] 64)).alloc _)=V0 at*;have HX0:=G6 X0;obtain⟨x0,x1,x2,x3,x4,x5,x6,x7,x8,x9⟩:=X0.s.cells;clear X0 hi4 hi5 hi hk0;go_wp2_with fail;refine(G5 HD _ (G5 HX0).below).mono ?_;rintro e w1 ⟨v1,rfl,o1,hb1⟩;obtain⟨a1,c1,rfl,_⟩:=o1.slice;have z1:W.heap.size+2<=V0.heap.size:=(G5 HX0).s.lt;have X1:=(G5 HX0).next hb1;have Y1:=X1.put 1 (FQ a1 fs.length c1) rfl;have y:=(X1.s.cells);have g1:=X1.s.GN 1;have O1:=G6 (IV (j:=1) (u:=FQ a1 fs.length c1) (o1.lower z1) (by omega:W.heap.size+1<_));clear X1 o1 hb1 z1 HX0 HD x0 x1 x2 x3 x4 x5 x6 x7 x8 x9;obtain⟨x0,x1,x2,x3,x4,x5,x6,x7,x8,x9⟩:=y;have HX1:=G6 Y1;clear Y1;go_upto_region 5 with fail;generalize w1.setCell ⟨W.heap.size+1,1,FX⟩ (FQ a1 fs.length c1)=V1 at*;clear x0 x1 x2 x3 x4 x5 x6 x7 x8 x9 g1;obtain⟨x0,x1,x2,x3,x4,x5,x6,x7,x8,x9⟩:=(G5 HX1).s.cells;go_wp2_with fail;refine(G5 HL _ (G5 HX1).below).mono ?_;rintro e w2 ⟨v2,rfl,o2,hb2⟩;obtain⟨a2,c2,rfl,_⟩:=o2.slice;have z2:W.heap.size+2<=V1.heap.size:=(G5 HX1).s.lt;have X2:=(G5 HX1).next hb2;have Y2:=X2.put 4 (FQ a2 ts.length c2) rfl;have y:=(X2.s.cells);have g2:=X2.s.GN 4;replace O1:=G6 (IV (j:=4) (u:=FQ a2 ts.length c2) ((G5 O1).next hb2) (by omega:W.heap.size+1<_));have O2:=G6 (IV (j:=4) (u:=FQ a2 ts.length c2) (o2.lower z2) (by omega:W.heap.size+1<_));clear X2 o2 hb2 z2 HX1 HL x0 x1 x2 x3 x4 x5 x6 x7 x8 x9;obtain⟨x0,x1,x2,x3,x4,x5,x6,x7,x8,x9⟩:=y;have HX2:=G6 Y2;clear Y2;go_upto_region 6 with fail;generalize w2.setCell ⟨W.heap.size+1,4,FX⟩ (FQ a2 ts.length c2)=V2 at*;clear x0 x1 x2 x3 x4 x5 x6 x7 x8 x9 g2;obtain⟨x0,x1,x2,x3,x4,x5,x6,x7,x8,x9⟩:=(G5 HX2).s.cells;go_wp2_with fail;refine(G5 HN _ (G5 HX2).below).mono ?_;rintro e w3 ⟨v3,rfl,o3,hb3⟩;obtain⟨a3,c3,rfl,_⟩:=o3.slice;have z3:W.heap.size+2<=V2.heap.size:=(G5 HX2).s.lt;have X3:=(G5 HX2).next hb3;have Y3:=X3.put 7 (FQ a3 tns.length c3) rfl;have y:=(X3.s.cells);have g3:=X3.s.GN 7;replace O1:=G6 (IV (j:=7) (u:=FQ a3 tns.length c3) ((G5 O1).next hb3) (by omega:W.heap.size+1<_));replace O2:=G6 (IV (j:=7) (u:=FQ a3 tns.length c3) ((G5 O2).next hb3) (by omega:W.heap.size+1<_));have O3:=G6 (IV (j:=7) (u:=FQ a3 tns.length c3) (o3.lower z3) (by omega:W.heap.size+1<_));clear X3 o3 hb3 z3 HX2 HN x0 x1 x2 x3 x4 x5 x6 x7 x8 x9;obtain⟨x0,x1,x2,x3,x4,x5,x6,x7,x8,x9⟩:=y;have HX3:=G6 Y3;clear Y3;go_upto_region 7 with fail;generalize w3.setCell ⟨W.heap.size+1,7,FX⟩ (FQ a3 tns.length c3)=V3 at*;clear x0 x1 x2 x3 x4 x5 x6 x7 x8 x9 g3;obtain⟨x0,x1,x2,x3,x4,x5,x6,x7,x8,x9⟩:=(G5 HX3).s.cells;go_wp2_with fail;refine(G5 HI _ (G5 HX3).below).mono ?_;rintro e w4 ⟨v4,rfl,o4,hb4⟩;obtain⟨a4,c4,rfl,_⟩:=o4.slice;have z4:W.heap.size+2<=V3.heap.size:=(G5 HX3).s.lt;have X4:=(G5 HX3).next hb4;have Y4:=X4.put 8 (FQ a4 tss.length c4) rfl;have y:=(X4.s.cells);have g4:=X4.s.GN 8;replace O1:=G6 (IV (j:=8) (u:=FQ a4 tss.length c4) ((G5 O1).next hb4) (by omega:W.heap.size+1<_));replace O2:=G6 (IV (j:=8) (u:=FQ a4 tss.length c4) ((G5 O2).next hb4) (by omega:W.heap.size+1<_));replace O3:=G6 (IV (j:=8) (u:=FQ a4 tss.length c4) ((G5 O3).next hb4) (by omega:W.heap.size+1<_));have O4:=G6 (IV (j:=8) (u:=FQ a4 tss.length c4) (o4.lower z4) (by omega:W.heap.size+1<_));clear X4 o4 hb4 z4 HX3 HI x0 x1 x2 x3 x4 x5 x6 x7 x8 x9;obtain⟨x0,x1,x2,x3,x4,x5,x6,x7,x8,x9⟩:=y;have HX4:=G6 Y4;clear Y4;go_upto_region 8 with fail;generalize w4.setCell ⟨W.heap.size+1,8,FX⟩ (FQ a4 tss.length c4)=V4 at*;clear x0 x1 x2 x3 x4 x5 x6 x7 x8 x9 g4;obtain⟨x0,x1,x2,x3,x4,x5,x6,x7,x8,x9⟩:=(G5 HX4).s.cells
 go_wp2_with fail;refine(G5 HW _ (G5 HX4).below).mono ?_;rintro e w5 ⟨v5,rfl,o5,hb5⟩;obtain⟨a5,c5,rfl,_⟩:=o5.slice;have z5:W.heap.size+2<=V4.heap.size:=(G5 HX4).s.lt;have X5:=(G5 HX4).next hb5;have Y5:=X5.put 9 (FQ a5 ws.length c5) rfl;have y:=(X5.s.cells);have g5:=X5.s.GN 9;replace O1:=G6 (IV (j:=9) (u:=FQ a5 ws.length c5) ((G5 O1).next hb5) (by omega:W.heap.size+1<_));replace O2:=G6 (IV (j:=9) (u:=FQ a5 ws.length c5) ((G5 O2).next hb5) (by omega:W.heap.size+1<_));replace O3:=G6 (IV (j:=9) (u:=FQ a5 ws.length c5) ((G5 O3).next hb5) (by omega:W.heap.size+1<_));replace O4:=G6 (IV (j:=9) (u:=FQ a5 ws.length c5) ((G5 O4).next hb5) (by omega:W.heap.size+1<_));have O5:=G6 (IV (j:=9) (u:=FQ a5 ws.length c5) (o5.lower z5) (by omega:W.heap.size+1<_));clear X5 o5 hb5 z5 HX4 HW x0 x1 x2 x3 x4 x5 x6 x7 x8 x9;obtain⟨x0,x1,x2,x3,x4,x5,x6,x7,x8,x9⟩:=y;have HX5:=G6 Y5;clear Y5;go_upto_region 9 with fail;generalize w5.setCell ⟨W.heap.size+1,9,FX⟩ (FQ a5 ws.length c5)=V5 at*;clear x0 x1 x2 x3 x4 x5 x6 x7 x8 x9 g5;obtain⟨x0,x1,x2,x3,x4,x5,x6,x7,x8,x9⟩:=(G5 HX5).s.cells;obtain⟨r0,r1,r2,r3,r4,r5,r6,r7,r8,r9⟩:=(G5 HX5).r.cells;have rf0:=(G5 HX5).r.GN 0;have rf1:=(G5 HX5).r.GN 1;have rf2:=(G5 HX5).r.GN 2;have rf3:=(G5 HX5).r.GN 3;have rf4:=(G5 HX5).r.GN 4;have rf5:=(G5 HX5).r.GN 5;have rf6:=(G5 HX5).r.GN 6;have rf7:=(G5 HX5).r.GN 7;have rf8:=(G5 HX5).r.GN 8;have rf9:=(G5 HX5).r.GN 9;have HF:=G6 (JL (G5 HX5).below (A8 _) (.bool up) (FQ a1 fs.length c1) (I0 id) (I0 ep) (FQ a2 ts.length c2) (I0 dn) (I0 tz) (FQ a3 tns.length c3) (FQ a4 tss.length c4) (FQ a5 ws.length c5));have Q1:=G6 ((OA (G5 O1) (by omega:W.heap.size<_) (.bool up) (FQ a1 fs.length c1) (I0 id) (I0 ep) (FQ a2 ts.length c2) (I0 dn) (I0 tz) (FQ a3 tns.length c3) (FQ a4 tss.length c4) (FQ a5 ws.length c5)).lower (Nat.le_add_right _ 2));have Q2:=G6 ((OA (G5 O2) (by omega:W.heap.size<_) (.bool up) (FQ a1 fs.length c1) (I0 id) (I0 ep) (FQ a2 ts.length c2) (I0 dn) (I0 tz) (FQ a3 tns.length c3) (FQ a4 tss.length c4) (FQ a5 ws.length c5)).lower (Nat.le_add_right _ 2));have Q3:=G6 ((OA (G5 O3) (by omega:W.heap.size<_) (.bool up) (FQ a1 fs.length c1) (I0 id) (I0 ep) (FQ a2 ts.length c2) (I0 dn) (I0 tz) (FQ a3 tns.length c3) (FQ a4 tss.length c4) (FQ a5 ws.length c5)).lower (Nat.le_add_right _ 2));have Q4:=G6 ((OA (G5 O4) (by omega:W.heap.size<_) (.bool up) (FQ a1 fs.length c1) (I0 id) (I0 ep) (FQ a2 ts.length c2) (I0 dn) (I0 tz) (FQ a3 tns.length c3) (FQ a4 tss.length c4) (FQ a5 ws.length c5)).lower (Nat.le_add_right _ 2));have Q5:=G6 ((OA (G5 O5) (by omega:W.heap.size<_) (.bool up) (FQ a1 fs.length c1) (I0 id) (I0 ep) (FQ a2 ts.length c2) (I0 dn) (I0 tz) (FQ a3 tns.length c3) (FQ a4 tss.length c4) (FQ a5 ws.length c5)).lower (Nat.le_add_right _ 2));clear O1 O2 O3 O4 O5 HX5;go_wp2_with fail;exact bodyPost_ret (v:=.agg #[.bool up,FQ a1 fs.length c1,I0 id,I0 ep,FQ a2 ts.length c2,I0 dn,I0 tz,FQ a3 tns.length c3,FQ a4 tss.length c4,FQ a5 ws.length c5]) (by simp[results,results10,go_sem,r0,r1,r2,r3,r4,r5,r6,r7,r8,r9]) rfl ⟨a1,c1,a2,c2,a3,c3,a4,c4,a5,c5,rfl,G5 Q1,G5 Q2,G5 Q3,G5 Q4,G5 Q5,G5 HF⟩
structure LB(w W:FU)(d:Dd)(r:Rp)(u:FV):Prop where
 b:Below w.heap.size w W
 d:JG W w.heap.size d
 r:RpX W (w.heap.size+1) r u
theorem LB.start(w:FU)(d:Dd)(r:Rp)(u:FV):LB w ((w.alloc (FT #[.int .i64 d.k,.int .i64 d.c,.int .i64 d.s,.int .i64 d.q.o,.int .i64 d.q.s,.string ⟨d.q.p.toArray⟩,.string ⟨d.q.d.toArray⟩,.int .i64 d.q.v,.int .i64 d.q.f,.int .i64 d.lo,.int .i64 d.sl,.int .i64 d.ke,.bool d.wt] 31)).alloc (FT #[.int .i64 r.E,.int .i64 r.z,.string ⟨r.p.toArray⟩,.string ⟨r.d.toArray⟩,.int .i64 r.t.c,.int .i64 r.t.m,.int .i64 r.t.q,.int .i64 r.t.v,.int .i64 r.t.k,.int .i64 r.t.o,.int .i64 r.t.n,u] 37)) d r u:=by
 refine⟨G8 (G7 _ _) (G7 _ _),?_,bT _ _ _⟩;exact JG.TW (heap_alloc_new w _:JG (w.alloc _) w.heap.size d) (G7 _ _) (by simp)
section
variable {W V U:FU} {c m k:Nat} {H G:List GI} {p:Pw}
theorem yT(V:FU)(m:Nat)(o:Obj):Touch (· =m) V (Go.ChangeMaps.setBlock V m o):=⟨rfl,rfl,rfl,by simp[Go.ChangeMaps.setBlock],fun b _ hn=>by simp only[Go.ChangeMaps.setBlock];rw[Array.getElem?_setIfInBounds_ne (fun e=>hn e.symm)]⟩
theorem VL{α:Type}[Lay α]{xs:List α}(hp:0<Lay.k α)(h:IQ V v xs){cl:Nat}(hm:V.heap[m]?=FZ (.map es cl)):xs≠[]->UG v m:=by
 intro h0 b off n cc e;rcases h with⟨a,cap,_,e0,_⟩|⟨b',off',cap,rfl,_,_,h3,_,h4⟩
 .exact absurd e0 h0
 .simp only[Value.slice.injEq,BD,Addr.mk.injEq]at e;rintro rfl;obtain⟨x,r,rfl⟩:=List.exists_cons_of_ne_nil h0;obtain⟨u,hu⟩:∃u,(Lay.cs x)[0]?=FZ u:=⟨_,List.getElem?_eq_getElem (by rw[Lay.len];exact hp)⟩;have:=h4 (0*Lay.k α+0) _ ((GV (x::r) 0 x rfl 0 (hp)).trans hu);rw[e.1.1]at this;simp[World.cell?,hm]at this
theorem WX.mapb(h:WX V k p){cl:Nat}(hm:V.heap[m]?=FZ (.map es cl))(hc:m<k)(ht:Touch (· =m) V U):WX U k p:=by
 obtain⟨f,hb,hr⟩:=h;have he:k≠m:=by omega
 refine⟨f,hb.touch ht he,hr.n,fun i hi=>?_,hr.r,fun i hi=>⟨(hr.c i hi).s,(hr.c i hi).z,(hr.c i hi).e.far ht (VL (by decide) (hr.c i hi).e.1 hm)⟩,hr.d.far ht (VL (by decide) hr.d.1 hm),hr.h,hr.hk⟩;have s:=hr.s i hi;exact⟨s.up,s.d.far ht (VL (by decide) s.d.1 hm),s.id,s.ep,s.l.far ht (VL (by decide) s.l.1 hm),s.dn,s.z,s.n.far ht (VL (by decide) s.n.1 hm),s.i.far ht (VL (by decide) s.i.1 hm),s.w.far ht (VL (by decide) s.w.1 hm)⟩
theorem BE2:Go.Maps.Keyed prog 3:=Go.Maps.int_keyed underlying3
theorem Touch.wide{G:Nat->Prop}{a b:FU}(h:Touch F a b)(hFG:∀q,F q->G q):Touch G a b:=⟨h.os,h.tape,h.output,h.size,fun q hq hn=>h.block q hq (fun e=>hn (hFG q e))⟩
end
open Go.WideMaps Go.ChangeMaps Go.MapKept Go.Maps
theorem BV8:laidOutB prog=true:=by kernel_rfl
def BE3(c:Int)(l:List UInt8):FV:=.agg #[I0 c,S0 l]
theorem BE4:Go.Maps.Keyed prog 39:=Keyed.of_law (deep_law_laid BV8 (m:=2) (by omega) (of_decide_eq_true (by kernel_rfl)) (by kernel_rfl) (by kernel_rfl))
theorem tH(c:Int)(l:List UInt8)(hc: -9223372036854775808<=c/\c<=9223372036854775807)(hl:l.length<=140737488355328):∃x,keyOf prog 39 (BE3 c l)=FZ x:=by
 obtain⟨m,hm⟩:∃m,prog.types.size=m+1:=⟨prog.types.size-1,by
  have:0<prog.types.size:=of_decide_eq_true (by kernel_rfl);omega⟩
 have h0:prog.keyType 39=true:=by kernel_rfl
 have e:prog.cellsOf 39=2:=by kernel_rfl
 have h1:(BE3 c l).formed prog 39=true:=by simp[BE3,Value.formed,underlying39,e]
 have h2:prog.keyLits (prog.types.size+1) 39 (BE3 c l).cells.toList=FZ [Lit.int .i64 c,Lit.string l]:=by
  have e3:prog.cellsOf 3=1:=by kernel_rfl
  have e9:prog.cellsOf 9=1:=by kernel_rfl
  have hw:(Lit.int .i64 c).wf=true:=WalkArith.wf_i64 (by omega);have hs:l.length<=maxLen:=by unfold maxLen;omega
  have hA:prog.keyLits (m+1) 3 [I0 c]=FZ [Lit.int .i64 c]:=by
   unfold Program.keyLits;simp only[underlying3];rw[if_pos ⟨trivial,hw⟩]
  have hB:prog.keyLits (m+1) 9 [S0 l]=FZ [Lit.string l]:=by
   unfold Program.keyLits;simp only[underlying9];rw[if_pos (by simpa [ByteArray.size]using hs)]
  rw[hm];show prog.keyLits (m+1+1) 39 [I0 c,S0 l]=_;unfold Program.keyLits;simp only[underlying39];rw[if_pos (by rw[e];exact⟨rfl,by simp⟩)];simp only[List.mapM_cons,List.mapM_nil,e3,e9,List.drop_zero,List.take_succ_cons,List.take_zero,List.drop_succ_cons,hA,hB];rfl
 refine⟨.string (keyBytes [Lit.int .i64 c,Lit.string l]),?_⟩;unfold keyOf;rw[underlying39];simp only[h0,h1,h2,Bool.and_self,if_true,Option.map_some]
theorem ZK.left_eq{b r:Nat}{seen:Array Nat}(h:ZK W b r es seen):W.rangeLeft b r=(leftOf es seen).size:=by
 obtain⟨cl,hm,si,c0,hr,_⟩:=h.m;simp only[World.rangeLeft,hm.h,hr]
def BV9(p:Pw)(cls:Int->Prop)(x:MapEntry):Prop:=∃ (c:Nat) (l:List UInt8) (s:Nat),c<16/\s<3/\l.length<=140737488355328/\x.key=BE3 (c:Int) l/\x.val=I0 (s:Int)/\CaQ p cls c l s
def CloQ(x:MapEntry):Prop:=∃c:Int,(-9223372036854775808<=c/\c<=9223372036854775807)/\x.key=I0 c/\x.val=.bool true
theorem tJ{cls:Int->Prop}(h:∀x∈es.toList,BV9 p cls x):A51 prog 39 es:=fun x hx=>by
 obtain⟨c,l,s,hc,_,hl,e,_⟩:=h x hx;rw[e];exact tH _ _ (by omega) hl
theorem AH0(h:∀x∈es.toList,CloQ x):A51 prog 3 es:=fun x hx=>by
 obtain⟨c,hc,e,_⟩:=h x hx;rw[e];exact⟨_,Go.Maps.keyOf_int_mk underlying3 (WalkArith.wf_i64 (by omega))⟩
def CE5(cls:Int->Prop)(es:Array MapEntry):Prop:=(∀x∈es.toList,CloQ x)/\∀c,cls c->∃x∈es.toList,x.key=I0 c
def CE6(c1 c2 m1 m2 b:Nat):Prop:=b=c1\/b=c2\/b=m1\/b=m2
structure BF4(c1 c2 m1 m2:Nat)(p:Pw)(cls:Int->Prop)(V:FU):Prop where
 b1:V.heap[c1]?=FZ (FT #[.map (FZ m1)] 23 (0,0))
 b2:V.heap[c2]?=FZ (FT #[.map (FZ m2)] 24 (0,0))
 fr:∃es cl,dI V m1 es cl/\∀x∈es.toList,BV9 p cls x
 co:∃es cl,dI V m2 es cl/\CE5 cls es
 hh:CaH p.H cls
section
variable {W V U:FU} {c1 c2 m1 m2 k:Nat} {p q:Pw} {cls cls':Int->Prop} {d:Dd}
theorem BF4.touch(h:BF4 c1 c2 m1 m2 p cls V)(ht:Touch F V U)(h1:¬F c1)(h2:¬F c2)(h3:¬F m1)(h4:¬F m2):BF4 c1 c2 m1 m2 p cls U:=by
 obtain⟨es,cl,f1,f2⟩:=h.fr;obtain⟨fs,dl,g1,g2⟩:=h.co;exact⟨(ht.block _ (AB.1 h.b1).1 h1).trans h.b1,(ht.block _ (AB.1 h.b2).1 h2).trans h.b2,⟨es,cl,f1.touch ht h3,f2⟩,⟨fs,dl,g1.touch ht h4,g2⟩,h.hh⟩
theorem BF4.next(h:BF4 c1 c2 m1 m2 p cls V)(hb:B0 V U):BF4 c1 c2 m1 m2 p cls U:=h.touch (F:=fun _=>False) (Touch.of_below hb) id id id id
theorem BE5(h:QY p)(hH:CaH p.H cls)(hx:BV9 p cls x)(h2:¬ (d.k=2/\d.wt=true/\((doP p d).1.E=0\/(doP p d).1.E=7))\/x.key≠BE3 d.c d.q.p)(h3:¬ (d.k=3/\(doP p d).1.E=0)\/x.val≠I0 d.s):BV9 (doP p d).2 (uF cls d) x:=by
 obtain⟨c,l,s,hc,hs,hl,ek,ev,hq⟩:=hx;refine⟨c,l,s,hc,hs,hl,ek,ev,BR4 h hH hc hs hq ?_ ?_⟩
 .rintro⟨e1,e2,e3,e4,e5⟩;rcases h2 with h2|h2
  .exact h2 ⟨e1,e2,e3⟩
  .exact h2 (by rw[ek,e4,e5])
 .rintro⟨e1,e2,e3⟩;rcases h3 with h3|h3
  .exact h3 ⟨e1,e2⟩
  .exact h3 (by rw[ev,e3])
theorem BW0(h:QY p)(hl:d.q.p.length<=140737488355328)(hk:d.k=2)(hw:d.wt=true)(hE:(doP p d).1.E=0\/(doP p d).1.E=7)(ek:x.key=BE3 d.c d.q.p)(ev:x.val=I0 d.s):BV9 (doP p d).2 (uF cls d) x:=by
 obtain⟨hc,hs,hq⟩:=C95 (cl:=cls) h hk hw hE;exact⟨d.c.toNat,d.q.p,d.s.toNat,by omega,by omega,hl,by rw[ek,Int.toNat_of_nonneg hc.1],by rw[ev,Int.toNat_of_nonneg hs.1],hq⟩
theorem tK(h:CE5 cls es)(hn:¬ (d.k=1/\d.q.o=2)):CE5 (uF cls d) es:=⟨h.1,fun c hc=>by
 rcases hc with hc|⟨e1,e2,_⟩
 .exact h.2 c hc
 .exact absurd ⟨e1,e2⟩ hn⟩
theorem CE7{es':Array MapEntry}(h:CE5 cls es)(hd: -9223372036854775808<=d.c/\d.c<=9223372036854775807)(hp:PutS es es' (I0 d.c) (.bool true)):CE5 (uF cls d) es':=by
 refine⟨fun x hx=>?_,fun c hc=>?_⟩
 .rcases hp.old x hx with⟨h1,_⟩|⟨h1,h2⟩
  .exact h.1 x h1
  .exact⟨d.c,hd,h1,h2⟩
 .by_cases e:c=d.c
  .subst e;exact hp.new
  .rcases hc with hc|⟨_,_,e'⟩
   .obtain⟨x,hx,hk⟩:=h.2 c hc;exact⟨x,hp.keep x hx (by rw[hk];simpa using e),hk⟩
   .exact absurd e' e
structure BE6(c1 c2 m1 m2 k:Nat)(q:Pw)(cls:Int->Prop)(V W:FU):Prop where
 t:Touch (CE6 c1 c2 m1 m2) V W
 x:WX W k q
 i:BF4 c1 c2 m1 m2 q cls W
theorem BE6.next(h:BE6 c1 c2 m1 m2 k q cls V W)(hb:B0 W U):BE6 c1 c2 m1 m2 k q cls V U:=⟨h.t.trans (Touch.of_below hb),h.x.next hb,h.i.next hb⟩
end
structure Apt(c1 c2 m1 m2 k:Nat):Prop where
 k1:c1<k
 k2:c2<k
 k3:m1<k
 k4:m2<k
 a:c1≠c2
 b:c1≠m1
 c:c1≠m2
 d:c2≠m1
 e:c2≠m2
 f:m1≠m2
section
variable {W V U:FU} {c1 c2 m1 m2 k:Nat} {p q:Pw} {cls cls':Int->Prop} {P:MapEntry->Prop}
theorem BE7(A:Apt c1 c2 m1 m2 k)(ht:Touch (CE6 c1 c2 m1 m2) V W)(hx:WX W k q)(b1:W.heap[c1]?=FZ (FT #[.map (FZ m1)] 23 (0,0)))(b2:W.heap[c2]?=FZ (FT #[.map (FZ m2)] 24 (0,0)))
  {es0:Array MapEntry} {cl0:Nat} (h0:dI W m1 es0 cl0) (co:∃es cl,dI W m2 es cl/\CE5 cls es) (hh:CaH q.H cls) (hT:Touch (· =m1) W U) {es:Array MapEntry} {cl:Nat} (hm:dI U m1 es cl) (hq:∀x∈es.toList,BV9 q cls x):BE6 c1 c2 m1 m2 k q cls V U:=by
 obtain⟨fs,dl,g1,g2⟩:=co;exact⟨ht.trans (hT.wide (fun b e=>.inr (.inr (.inl e)))),hx.mapb h0.h A.k3 hT,(hT.block _ (AB.1 b1).1 A.b).trans b1,(hT.block _ (AB.1 b2).1 A.d).trans b2,⟨es,cl,hm,hq⟩,⟨fs,dl,g1.touch hT A.f.symm,g2⟩,hh⟩
theorem CE8(A:Apt c1 c2 m1 m2 k)(ht:Touch (CE6 c1 c2 m1 m2) V W)(hx:WX W k q)(b1:W.heap[c1]?=FZ (FT #[.map (FZ m1)] 23 (0,0)))(b2:W.heap[c2]?=FZ (FT #[.map (FZ m2)] 24 (0,0)))
  {es0:Array MapEntry} {cl0:Nat} (h0:dI W m2 es0 cl0) (fr:∃es cl,dI W m1 es cl/\∀x∈es.toList,BV9 q cls x) (hh:CaH q.H cls) (hT:Touch (· =m2) W U) {es:Array MapEntry} {cl:Nat} (hm:dI U m2 es cl) (hq:CE5 cls es):BE6 c1 c2 m1 m2 k q cls V U:=by
 obtain⟨fs,dl,g1,g2⟩:=fr;exact⟨ht.trans (hT.wide (fun b e=>.inr (.inr (.inr e)))),hx.mapb h0.h A.k4 hT,(hT.block _ (AB.1 b1).1 A.c).trans b1,(hT.block _ (AB.1 b2).1 A.e).trans b2,⟨fs,dl,g1.touch hT A.f,g2⟩,⟨es,cl,hm,hq⟩,hh⟩
end
structure SkI(P:MapEntry->Prop)(dS:Int)(m1 r:Nat)(V W:FU)(es:Array MapEntry)(seen:Array Nat):Prop where
 g:ZK W m1 r es seen
 t:Touch (· =m1) V W
 p:∀x∈es.toList,P x
 s:∀x∈es.toList,seen.contains x.born=true->x.val≠I0 dS
theorem qA{r:Nat}(h:Touch F V W)(hr:V.heap.size<=r)(ht:Touch (· =r) W U):Touch F V U:=
 ⟨ht.os.trans h.os,ht.tape.trans h.tape,ht.output.trans h.output,BM h.size ht.size,fun b hb hn=>(ht.block b (AX hb h.size) (by omega)).trans (h.block b hb hn)⟩
section
variable {P:MapEntry->Prop} {dS:Int} {m1 r:Nat} {V W U:FU} {es es':Array MapEntry} {seen:Array Nat} {x:MapEntry}
theorem ZK.same(h:ZK W m1 r es seen){y:MapEntry}(hx:x∈es.toList)(hy:y∈es.toList)(e:x.born=y.born):x=y:=by
 obtain⟨cl,hm,_⟩:=h.m;exact born_inj ((stamped_iff es cl).1 hm.st).2.1 hx hy e
theorem SkI.kept(h:SkI P dS m1 r V W es seen)(hx:x∈es.toList)(hg:ZK U m1 r es (seen.push x.born))(ht:Touch (· =m1) V U)(hv:x.val≠I0 dS):SkI P dS m1 r V U es (seen.push x.born):=by
 refine⟨hg,ht,h.p,fun y hy hs=>?_⟩;by_cases e:y.born=x.born
 .rw[h.g.same hy hx e];exact hv
 .rw[contains_push]at hs;refine h.s y hy ?_;simpa [e]using hs
theorem SkI.struck(h:SkI P dS m1 r V W es seen)(hx:x∈es.toList)(hg:ZK U m1 r es' (seen.push x.born))(ht:Touch (· =m1) V U)(hsub:es'.toList.Sublist es.toList)(hk:∀y∈es'.toList,y.key≠x.key):SkI P dS m1 r V U es' (seen.push x.born):=by
 refine⟨hg,ht,fun y hy=>h.p y (hsub.subset hy),fun y hy hs=>?_⟩;have hy':=hsub.subset hy;by_cases e:y.born=x.born
 .exact absurd (congrArg MapEntry.key (h.g.same hy' hx e)) (hk y hy)
 .rw[contains_push]at hs;refine h.s y hy' ?_;simpa [e]using hs
end
theorem BW1(x0 x1 x2 x3 x4 x5 x6 x7 x8 x9:FV)(w:FU):(Instr.field 64 (.agg #[x0,x1,x2,x3,x4,x5,x6,x7,x8,x9]) 3).run prog w=.ok (.agg #[x6,x7,x8]) w:=by kernel_rfl
structure CB2(w W:FU)(s z:Int)(v:FV):Prop where
 below:B0 w W
 s:NK W (w.heap.size+1) s z v
 r:NK W w.heap.size 0 0 (N0)
section
variable {w W V:FU} {s z:Int} {v:FV}
theorem CB2.next(h:CB2 w W s z v)(hb:B0 W V):CB2 w V s z v:=⟨G8 h.below hb,h.s.next hb,h.r.next hb⟩
theorem CB2.put(h:CB2 w W s z v)(u:FV):CB2 w (W.setCell ⟨w.heap.size+1,2,FX⟩ u) s z u:=
 ⟨h.below.setCell (by simp) u,h.s.set2,h.r.other (by simp) u⟩
theorem CB2.start(w:FU)(s z:Int)(v:FV):CB2 w ((w.alloc (FT #[I0 0,I0 0,N0] 46)).alloc (FT #[I0 s,I0 z,v] 46)) s z v:=by
 have h:=NK.new (w.alloc (FT #[I0 0,I0 0,N0] 46)) s z v;rw[show (w.alloc (FT #[I0 0,I0 0,N0] 46)).heap.size=w.heap.size+1 by simp]at h;exact⟨G8 (G7 _ _) (G7 _ _),h,(NK.new w 0 0 _).next (G7 _ _)⟩
end
def CE9(w:FU)(c:Cl)(e:Ending)(w':FU):Prop:=
 ∃a n,e=.returned (.agg #[I0 c.s,I0 c.z,FQ a c.es.length n])/\GZ w' w.heap.size (FQ a c.es.length n) c.es/\B0 w w'
theorem AS2(p:Pw)(k i:Nat)(W:FU)(hx:WX W k p)(hi:i<16)(c:Cl)(hc:p.c i=c)(hl:c.es.length<=400):
  FW prog 8 #[wP k,I0 i] W (CE9 W c):=by
 obtain⟨a,cp,e0,e1,e2,hv⟩:=hx.cl hi;rw[hc]at e0 e1 e2 hv;have hk0:=hx.lt;have HC:=G6 (fun V (hV:B0 W V)=>B94 _ c.es V (hv.next hV) (by omega));have HS:Hid (∀V,B0 W V->V.cell? ⟨k,34+3*i,FX⟩=FZ (I0 c.s)/\V.cell? ⟨k,34+3*i+1,FX⟩=FZ (I0 c.z)/\V.cell? ⟨k,34+3*i+2,FX⟩=FZ (FQ a c.es.length cp)):=G6 fun V hV=>⟨(hV.cell (p:=⟨k,_,FX⟩) hk0).trans e0,(hV.cell (p:=⟨k,_,FX⟩) hk0).trans e1,(hV.cell (p:=⟨k,_,FX⟩) hk0).trans e2⟩;have CC:=XP i 16;rw[show lG i 16=true by simp[lG];omega]at CC;clear e0 e1 e2 hv hx hc hl;obtain⟨s,z,es⟩:=c;simp only[DC 3 i]at*;have hi4:(i:Int)<16:=by omega
 have hi5:(0:Int)<=i:=by omega
 unfold wP;go_enter func8,ntmps8;go_wp2_with fail;refine(CC _).mono ?_;rintro e w1 ⟨rfl,rfl⟩;obtain⟨c0,c1,c2⟩:=G5 HS _ (G7 W (FT #[I0 0,I0 0,N0] 46));clear CC HS;go_upto_region 4 with fail;clear c0 c1 c2;have X0:=CB2.start W s z (FQ a es.length cp);generalize ((W.alloc (FT #[I0 0,I0 0,N0] 46)).alloc _)=V0 at*;have HX0:=G6 X0;have x0:=X0.s.c0;have x1:=X0.s.c1;have x2:=X0.s.c2;clear X0 hi4 hi5 hi hk0;go_wp2_with fail;refine(G5 HC _ (G5 HX0).below).mono ?_;rintro e w1 ⟨v1,rfl,o1,hb1⟩;obtain⟨a1,c1,rfl,_⟩:=o1.slice;have z1:W.heap.size+2<=V0.heap.size:=(G5 HX0).s.lt;have X1:=(G5 HX0).next hb1;have HX1:=G6 (X1.put (FQ a1 es.length c1));clear x0 x1 x2;have x0:=X1.s.c0;have x1:=X1.s.c1;have x2:=X1.s.c2;have g2:=X1.s.fr 2;have O1:=G6 (IV (j:=2) (u:=FQ a1 es.length c1) (o1.lower z1) (by omega:W.heap.size+1<_));clear X1 o1 hb1 z1 HX0 HC;go_upto_region 5 with fail;generalize w1.setCell ⟨W.heap.size+1,2,FX⟩ (FQ a1 es.length c1)=V1 at*;clear x0 x1 x2 g2;have x0:=(G5 HX1).s.c0;have x1:=(G5 HX1).s.c1;have x2:=(G5 HX1).s.c2;have r0:=(G5 HX1).r.c0;have r1:=(G5 HX1).r.c1;have r2:=(G5 HX1).r.c2;have rf0:=(G5 HX1).r.fr 0;have rf1:=(G5 HX1).r.fr 1;have rf2:=(G5 HX1).r.fr 2;have HF:=G6 ((((G5 HX1).below.setCell (p:=⟨W.heap.size,0,FX⟩) (A8 _) (I0 s)).setCell (p:=⟨W.heap.size,1,FX⟩) (A8 _) (I0 z)).setCell (p:=⟨W.heap.size,2,FX⟩) (A8 _) (FQ a1 es.length c1));have Q1:=G6 ((IV (j:=2) (u:=FQ a1 es.length c1) (IV (j:=1) (u:=I0 z) (IV (j:=0) (u:=I0 s) (G5 O1) (by omega:W.heap.size<_)) (by omega:W.heap.size<_)) (by omega:W.heap.size<_)).lower (Nat.le_add_right _ 2));clear O1 HX1;go_wp2_with fail;exact bodyPost_ret (v:=.agg #[I0 s,I0 z,FQ a1 es.length c1]) (by simp[results,results8,go_sem,r0,r1,r2]) rfl ⟨a1,c1,rfl,G5 Q1,G5 HF⟩
