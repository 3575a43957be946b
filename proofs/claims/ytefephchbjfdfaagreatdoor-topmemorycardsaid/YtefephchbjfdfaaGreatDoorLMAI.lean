/-
  Part.
-/
import Derived.Test.YtefephchbjfdfaaGreatDoorLMAC
import Derived.Test.YtefephchbjfdfaaGreatDoorLMAE
import Derived.Test.YtefephchbjfdfaaGreatDoorLMAH
import Derived.Deep.WholeRow
set_option maxRecDepth 20000
set_option maxHeartbeats 8000000
namespace Go.Proofs.YtefephchbjfdfaaGreatDoor
open Go.RowKit Go.Proofs.Tryz
open _root_.Nat renaming le_refl->AA,lt_of_lt_of_le->AY,zero_le->AZ,le_trans->BP,mul_comm->DL,add_assoc->EM
open Go.RowKit.Below renaming refl->AB
open _root_.List renaming getElem?_eq_getElem->AO,take_of_length_le->BO
open Go.Value.slice renaming injEq->AQ
open _root_.Option.some renaming injEq->BF,inj->BQ
open _root_.Array renaming getElem?_eq_getElem->BU
open _root_.And renaming intro->DJ
open Go.Sem renaming run_bind->EG,run_pure->ER
open Go.Result renaming andThen_ok->EH
open Go.Value renaming slice->FV
open Go.Obj renaming cells->FW
open Go renaming World->FX,Value->FZ,Calls->G5
open _root_.Option renaming none->G6,some->G8
variable{W V:FX}{k g i:Nat}{d:Dd}{v:FZ}{p:Pw}{r:Rp}
theorem BU3{U:FX}{kd:Int}{x:Rp×Pw}(hk:k<W.heap.size)(D:DB W V d)(ho:ZW U V.heap.size v x.1.ns)(ht:Touch (· =k) V U)(hx:UA kd x.1.E=true->WX U k (grH x.2 v))(hp:UA kd x.1.E=true->∀i,i<3->MP 300 (x.2.s i)):
  Did W k kd x (.returned (rpV x.1 v)) (gW U (W.heap.size+1) (I0 x.1.E) (I0 x.1.z) (S0 x.1.p) (S0 x.1.d) (I0 x.1.t.c) (I0 x.1.t.m) (I0 x.1.t.q) (I0 x.1.t.v) (I0 x.1.t.k) (I0 x.1.t.o) (I0 x.1.t.n) v):=by
 have h:=(D.dt k).touch hk ht;have hlt:=D.r.lt;exact⟨v,rfl,OB (ho.lower (by omega)) (dA _ _ _ _ _ _ _ _ _ _ _ _ _ _) (fun q e=>by have:=QY ho.o e;omega),KH h.t (by omega) _ _ _ _ _ _ _ _ _ _ _ _,fun hl=>(hx hl).reply (hp hl) h.r (by omega) (dA _ _ _ _ _ _ _ _ _ _ _ _ _ _)⟩
theorem CQ6(d:Dd)(k:Nat)(W:FX)(x:Rp×Pw)(hk0:k<W.heap.size)(C1:d.k=1->∀V,B0 W V->G5 prog 34 #[wP k,ddV d] V (Did V k 1 x))(C2:d.k=2->∀V,B0 W V->G5 prog 35 #[wP k,ddV d] V (Did V k 2 x))(C3:d.k=3->∀V,B0 W V->G5 prog 36 #[wP k,ddV d] V (Did V k 3 x))(C4:d.k=4->∀V,B0 W V->G5 prog 37 #[wP k,ddV d] V (Did V k 4 x))(C5:d.k=5->∀V,B0 W V->G5 prog 38 #[wP k] V (Did V k 5 x))(hp:∀i,i<3->MP 300 (x.2.s i))(hd:d.k=1\/d.k=2\/d.k=3\/d.k=4\/d.k=5):G5 prog 20 #[wP k,ddV d] W (Did W k d.k x):=by
 have D0:=GH (DB.start W d);have HP:=GH (fun(_:UA d.k x.1.E=true)=>hp);rcases hd with hd|hd|hd|hd|hd
 all_goals
  first|have HC:=GH (C1 hd)|have HC:=GH (C2 hd)|have HC:=GH (C3 hd)|have HC:=GH (C4 hd)|have HC:=GH (C5 hd)
  rw[hd]at HP⊢;clear C1 C2 C3 C4 C5 hp;obtain⟨dk,dc,ds,⟨o,s,pp,dd,v,f⟩,lo,sl,ke,wt⟩:=d;simp only at hd;subst hd;unfold wP at HC⊢;unfold ddV at*;go_enter func20,ntmps20;go_upto_region 1 with fail;generalize ((W.alloc _).alloc _)=W0 at*;obtain⟨⟨d0,d1,d2,d3,d4,d5,d6⟩,d7,d8,d9,d10,d11,d12⟩:=(G9 D0).cells;simp only at d0 d1 d2 d3 d4 d5 d6 d7 d8 d9 d10 d11 d12;go_wp2_with fail;refine(G9 HC _ (G9 D0).b).mono ?_;rintro e w1 ⟨vn,rfl,ho,ht,hw⟩;obtain⟨na,nc,rfl⟩:=IQ ho.o;have R2:=(((G9 D0).dt k).touch hk0 ht).r;have X1:=GH (BU3 hk0 (G9 D0) ho ht hw (G9 HP));have b0:=R2.cells;have g0:=R2.H6;clear ho ht hw R2 D0 HC HP d0 d1 d2 d3 d4 d5 d6 d7 d8 d9 d10 d11 d12;unfold rpV gW at X1;unfold rpV;go_wp2_with fail;exact bodyPost_ret (v:=.agg #[I0 x.1.E,I0 x.1.z,S0 x.1.p,S0 x.1.d,I0 x.1.t.c,I0 x.1.t.m,I0 x.1.t.q,I0 x.1.t.v,I0 x.1.t.k,I0 x.1.t.o,I0 x.1.t.n,FV na x.1.ns.length nc]) (by simp[results,results20,go_sem,b0]) rfl (G9 X1)
theorem BC1(p:Pw)(d:Dd)(k:Nat)(W:FX)(hx:WX W k p)(hc:0<=d.c/\d.c<16)(hs:0<=d.s/\d.s<3)(hok:∀j,j<3->MP 299 (p.s j))(hcl:uG 299 p.H d.c.toNat (p.c d.c.toNat))(hp:d.q.p.length<=140737488355328):G5 prog 35 #[wP k,ddV d] W (Did W k 2 (bZ p d)):=by
 cases hu:(p.s d.s.toNat).up with
 |true=>exact CD8 p d k W hx hc hs hok hcl hp hu
 |false=>
  rw[bZ,if_pos hu];exact BB6 p d k W hx hs hu
theorem AR3(p:Pw)(d:Dd)(k:Nat)(W:FX)(hx:WX W k (OQ p))(hT:VP W)(h:QI p)(hn:p.n<300)(ha:VR d=0)(hp:d.q.p.length<=140737488355328)(hd:d.q.d.length<=140737488355328):G5 prog 20 #[wP k,ddV d] W (Did W k d.k (iM (OQ p) d)):=by
 have hW:QI (iM (OQ p) d).2:=by
  have:=lM d h;rw[doP,if_neg (by omega),if_neg (by omega)]at this;exact this
 have hP:∀i,i<3->MP 300 ((iM (OQ p) d).2.s i):=fun i hi=>(hW.s i hi).more hW.n1;have ok:∀j,j<3->MP 299 (p.s j):=fun j hj=>(h.s j hj).more (by omega);have ok3:∀j,j<3->MP 300 (p.s j):=fun j hj=>(h.s j hj).more (by omega);have hk:d.k=1\/d.k=2\/d.k=3\/d.k=4\/d.k=5:=by
  unfold VR at ha;by_cases e:d.k=1\/d.k=2\/d.k=3\/d.k=4\/d.k=5
  .exact e
  .rw[if_neg (by omega),if_neg (by omega),if_neg (by omega),if_neg (by omega)]at ha;cases ha
 exact CQ6 d k W _ hx.lt
  (fun h1 V hV=>by rw[iM,if_pos h1];exact AR2 p d k V (hx.next hV) (hT.next hV) h hn (CW5 h1 ha) hp hd)
  (fun h2 V hV=>by
   obtain⟨hc,hs⟩:=CN3 h2 ha;rw[iM,if_neg (by omega),if_pos h2];exact BC1 (OQ p) d k V (hx.next hV) hc hs ok ((h.c _ (by omega)).more (by omega) (fun _ hx=>hx)) hp)
  (fun h3 V hV=>by rw[iM,if_neg (by omega),if_neg (by omega),if_pos h3];exact BC0 (OQ p) d k V (hx.next hV) (AE5 (.inl h3) ha) ok3)
  (fun h4 V hV=>by rw[iM,if_neg (by omega),if_neg (by omega),if_neg (by omega),if_pos h4];exact CQ5 (OQ p) d k V (hx.next hV) (AE5 (.inr h4) ha) ok3)
  (fun h5 V hV=>by rw[iM,if_neg (by omega),if_neg (by omega),if_neg (by omega),if_neg (by omega)];exact AQ9 (OQ p) k V (hx.next hV) (hT.next hV) (CW9 h hn))
  hP hk
noncomputable def zW:Array FZ:=(((prog.info? 83).bind (·.zero)).getD undef).cells
theorem BC2:(prog.info? 83).map (fun i=>(i.zero,i.size))=G8 (G8 (.agg zW),83):=by kernel_rfl
theorem CD9:zW.size=83:=by kernel_rfl
theorem CX9{n:Nat}(h:n=83):(prog.info? 83).map (·.size)=G8 n:=by rw[h];exact(zero_of_info BC2).2
noncomputable def zB:Array FZ:=(prog.built 83 []).getD #[]
theorem CE0:zB.size=83:=by kernel_rfl
section
variable {w:FX} {ops:Array Oper} {rest:List Oper} {o:Oper} {a:Act} {Q:Exit->Act->FX->Prop}
theorem gK(hgd:o.guard=G6)(x:Operand)(ho:o.op=.load 83 x)(k:Nat)(c:Array FZ)(hx:a.eval x=P0 k)(hc:w.heap[k]?=G8 (FW c 83 (0,0)))(h83:c.size=83)
  (h:wpList prog ops Q rest (a.put o.dst (.agg c)) w):wpList prog ops Q (o::rest) a w:=by
 refine wpList_plain hgd fun K hK=>?_;have hr:(Instr.loadAt 83 (P0 k)).run prog w=.ok (.agg c) w:=by
  have hl:=run_loadCells_list (P:=prog) (w:=w) ⟨k,0,G6⟩ c.toList (fun j v hj=>by
   rw[Addr.add_lit];show w.cell? ⟨k,0+j,G6⟩=G8 v;rw[Nat.zero_add,cell_of_row _ _ j c _ (0,0) hc];simpa using hj)
  rw[show c.toList.length=83 by simpa using h83]at hl;simp only[Instr.loadAt,Instr.sureAddr,EG,ER,Result.andThen];unfold loadVar;simp only[EG,isAgg83,sizeOf83,Result.andThen,if_true];rw[hl];simp
 unfold Oper.wp execOp;simp only[ho,EG,ER,EH,hx,hr];exact hK _ _ h
theorem tH(hgd:o.guard=G6)(ho:o.op=.alloc 83)(h:wpList prog ops Q rest (a.put o.dst (.pointer (G8 ⟨w.heap.size,0,G6⟩))) (w.alloc (FW zW 83))):wpList prog ops Q (o::rest) a w:=by
 refine wpList_plain hgd fun K hK=>?_;have hz:=(zero_of_info BC2).1 w;have hr:(Instr.alloc 83 true (.tuple #[])).run prog w=.ok (.pointer (G8 ⟨w.heap.size,0,G6⟩)) (w.alloc (FW zW 83)):=by
  simp[Instr.alloc,newVar,newRow,hz,Value.cells,go_sem]
 unfold Oper.wp execOp;simp only[ho,EG,ER,EH,hr];exact hK _ _ h
theorem A65(hgd:o.guard=G6)(x:Operand)(ho:o.op=.box 83 x)(c:Array FZ)(hx:a.eval x=.agg c)(h:wpList prog ops Q rest (a.put o.dst (.pointer (G8 ⟨w.heap.size,0,G6⟩))) (w.alloc (FW c 83))):wpList prog ops Q (o::rest) a w:=by
 refine wpList_plain hgd fun K hK=>?_;have hr:(Instr.box 83 (.agg c)).run prog w=.ok (.pointer (G8 ⟨w.heap.size,0,G6⟩)) (w.alloc (FW c 83)):=by
  simp[Instr.box,newVar,newRow,Value.cells,go_sem]
 unfold Oper.wp execOp;simp only[ho,EG,ER,EH,hx,hr];exact hK _ _ h
theorem tJ(hgd:o.guard=G6)(ho:o.op=.build 83 #[])(h:wpList prog ops Q rest (a.put o.dst (.agg zB)) w):wpList prog ops Q (o::rest) a w:=by
 refine wpList_build hgd 83 #[] ho ?_ ?_
 .simp only[Array.map_empty]
  kernel_rfl
 .simp only[Array.map_empty];exact h
theorem dG(hgd:o.guard=G6)(x y:Operand)(ho:o.op=.store 83 x y)(k:Nat)(c old:Array FZ)(hx:a.eval x=P0 k)(hy:a.eval y=.agg c)(hc:w.heap[k]?=G8 (FW old 83 (0,0)))(h83:c.size=83)(ho83:old.size=83)(h1:c.all (·.oneCell')=true)
  (h:wpList prog ops Q rest (a.put o.dst undef) (w.setRow k c)):wpList prog ops Q (o::rest) a w:=
 wpList_store_row hgd _ x y ho k c hx hy _ old hc (CX9 h83) (by omega) h1 h
theorem mX(hgd:o.guard=G6)(x y:Operand)(ho:o.op=.store 83 x y)(c:Array FZ)(hx:a.eval x=.pointer (G8 ⟨w.heap.size,0,G6⟩))(hy:a.eval y=.agg c)(h83:c.size=83)(h1:c.all (·.oneCell')=true)
  (h:wpList prog ops Q rest (a.put o.dst undef) (w.alloc (FW c 83))):wpList prog ops Q (o::rest) a (w.alloc (FW zW 83)):=by
 refine dG hgd x y ho w.heap.size c zW hx hy (heap_alloc_last w _) h83 CD9 h1 ?_;rw[World.setRow_alloc_new];exact h
end
def AR4(W:FX)(k:Nat)(x:Rp×Pw)(e:Ending)(w':FX):Prop:=
 ∃v,e=.returned (rpV x.1 v)/\ZW w' W.heap.size v x.1.ns/\Touch (· =k) W w'/\WX w' k (grH x.2 v)
theorem AG1{E:Int}(hk:k<W.heap.size)(h:DT k W V d)(hx:WX V k p)(hp:∀i,i<3->MP 300 (p.s i)):
  AR4 W k (U4 E,p) (.returned (UY E)) (gW V (W.heap.size+1) (I0 E) (I0 0) (.string ⟨#[]⟩) (.string ⟨#[]⟩) (I0 0) (I0 0) (I0 0) (I0 0) (I0 0) (I0 0) (I0 0) (N0)):=
 ⟨N0,rfl,ZW.nil _ _,KH h.t (by omega) _ _ _ _ _ _ _ _ _ _ _ _,(WX.grN (v:=N0) hx rfl).reply hp h.r (by omega) (dA _ _ _ _ _ _ _ _ _ _ _ _ _ _)⟩
theorem BU4(p:Pw)(d:Dd)(h:UA d.k (iM p d).1.E=false):(iM p d).2=p:=by
 unfold iM at h⊢;by_cases h1:d.k=1
 .rw[if_pos h1]at h⊢;unfold PY at h⊢
  (repeat' split)<;>simp_all[UA]
 .rw[if_neg h1]at h⊢;by_cases h2:d.k=2
  .rw[if_pos h2]at h⊢;unfold bZ at h⊢
   (repeat' split)<;>simp_all[UA,BP6]
   all_goals (split at h<;>simp_all)
  .rw[if_neg h2]at h⊢;by_cases h3:d.k=3
   .rw[if_pos h3]at h⊢;unfold RS at h⊢
    (repeat' split)<;>simp_all[UA,U4]
   .rw[if_neg h3]at h⊢;by_cases h4:d.k=4
    .rw[if_pos h4]at h⊢;unfold upW at h⊢
     (repeat' split)<;>simp_all[UA,U4]
    .rw[if_neg h4]at h⊢;unfold RD at h⊢
     (repeat' split)<;>simp_all[UA]
theorem CQ7(p:Pw)(d:Dd):(iM p d).2.h=p.h:=by
 unfold iM PY bZ RS upW RD
 (repeat' split)<;>rfl
theorem dH(W:FX)(k:Nat)(c:Array FZ):Touch (· =k) W (W.setRow k c):=by
 refine⟨rfl,rfl,rfl,by simp[World.setRow],fun b _ hb=>?_⟩;simp only[World.setRow,Array.getElem?_modify];rw[if_neg (fun e=>hb e.symm)]
theorem WX.blk(h:WX W k p):∃c,W.heap[k]?=G8 (FW c 83 (0,0))/\c.size=83/\c.all (·.oneCell')=true:=by
 obtain⟨f,⟨c,h1,h2,h3⟩,hr⟩:=h;refine⟨c,h1,h2,?_⟩;rw[Array.all_eq_true];intro j hj;have e:=h3 j (by omega);rw[BU hj]at e;rw[BQ e];exact hr.cellP (P:=(·.oneCell'=true)) (fun _=>rfl) (fun _=>rfl) (fun _ _ _=>rfl) j (by omega)
theorem WX.copy{c:Array FZ}(h:WX W k p)(hc:W.heap[k]?=G8 (FW c 83 (0,0))):WX (W.alloc (FW c 83)) W.heap.size p:=by
 have hk:=h.lt;obtain⟨f,⟨c',h1,h2,h3⟩,hr⟩:=h;rw[hc]at h1;simp only[BF,Obj.cells.injEq,and_true]at h1;subst h1;exact⟨f,⟨c,heap_alloc_last W _,h2,h3⟩,(hr.moved (AA _)).next (GI _ _)⟩
theorem WX.back{q:Nat}{p':Pw}{c:Array FZ}(h:WX W k p)(h':WX W q p')(hh:p'.h k)(hc:W.heap[q]?=G8 (FW c 83 (0,0))):WX (W.setRow k c) k p':=by
 obtain⟨f,hb,hr⟩:=h;have hd:=hr.fK hb;obtain⟨o,ho,_⟩:=hb;obtain⟨g,⟨c',h1,h2,h3⟩,hs⟩:=h';rw[hc]at h1;simp only[BF,Obj.cells.injEq,and_true]at h1;subst h1;refine⟨g,⟨c,setRow_heap W k o c _ _ ho,h2,h3⟩,WdR.touch (W:=W) ?_ (dH W k c)⟩;refine⟨hs.n,fun i hi=>?_,hs.r,fun i hi=>⟨(hs.c i hi).s,(hs.c i hi).z,XY (hs.c i hi).e.1 hd⟩,ZT (MJ.1 hs.d.1) hd,hs.h,hs.hk⟩;have s:=hs.s i hi;exact⟨s.up,rX (OU.1 s.d.1) hd,s.id,s.ep,ZT (MJ.1 s.l.1) hd,s.dn,s.z,l9 s.n.1 hd,⟨s.i.1,(hs.h i hi k hh).1⟩,VT s.w.1 hd⟩
def RpX(W:FX)(g:Nat)(r:Rp)(v:FZ):Prop:=W.heap[g]?=G8 (FW #[I0 r.E,I0 r.z,S0 r.p,S0 r.d,I0 r.t.c,I0 r.t.m,I0 r.t.q,I0 r.t.v,I0 r.t.k,I0 r.t.o,I0 r.t.n,v] 36 (0,0))
theorem RpX.lt(h:RpX W g r v):g<W.heap.size:=(Array.getElem?_eq_some_iff.1 h).1
theorem RpX.cells(h:RpX W g r v):W.cell? ⟨g,0,G6⟩=G8 (I0 r.E)/\W.cell? ⟨g,1,G6⟩=G8 (I0 r.z)/\W.cell? ⟨g,2,G6⟩=G8 (S0 r.p)/\W.cell? ⟨g,3,G6⟩=G8 (S0 r.d)/\W.cell? ⟨g,4,G6⟩=G8 (I0 r.t.c)/\W.cell? ⟨g,5,G6⟩=G8 (I0 r.t.m)/\W.cell? ⟨g,6,G6⟩=G8 (I0 r.t.q)/\W.cell? ⟨g,7,G6⟩=G8 (I0 r.t.v)/\W.cell? ⟨g,8,G6⟩=G8 (I0 r.t.k)/\W.cell? ⟨g,9,G6⟩=G8 (I0 r.t.o)/\W.cell? ⟨g,10,G6⟩=G8 (I0 r.t.n)/\W.cell? ⟨g,11,G6⟩=G8 (v):=by
 unfold RpX at h;simp[World.cell?,h]
theorem DT.beyond{q:Nat}{U:FX}(h:DT k W V d)(hq:W.heap.size+1<q)(ht:Touch (· =q) V U):DT k W U d:=
 ⟨⟨ht.os.trans h.t.os,ht.tape.trans h.t.tape,ht.output.trans h.t.output,BP h.t.size ht.size,fun b hb hn=>(ht.block b (AY hb h.t.size) (by omega)).trans (h.t.block b hb hn)⟩,h.r.touch ht (by omega),(ht.block _ h.d.ltz (by omega)).trans h.d⟩
theorem BC3{B:Nat}(hk:k<W.heap.size)(h:DT k W V d)(hx:WX V k (grH p v))(hp:∀i,i<3->MP 300 (p.s i))(hn:ZW V B v r.ns)(hB:W.heap.size+1<B):
  AR4 W k (r,p) (.returned (rpV r v)) (gW V (W.heap.size+1) (I0 r.E) (I0 r.z) (S0 r.p) (S0 r.d) (I0 r.t.c) (I0 r.t.m) (I0 r.t.q) (I0 r.t.v) (I0 r.t.k) (I0 r.t.o) (I0 r.t.n) v):=
 ⟨v,rfl,OB (hn.lower (by omega)) (dA _ _ _ _ _ _ _ _ _ _ _ _ _ _) (fun q e=>by have:=OJ hn.o q e;omega),KH h.t (by omega) _ _ _ _ _ _ _ _ _ _ _ _,hx.reply hp h.r (by omega) (dA _ _ _ _ _ _ _ _ _ _ _ _ _ _)⟩
theorem CE1(p:Pw)(d:Dd)(k:Nat)(W:FX)(hx:WX W k p)(hp:∀i,i<3->MP 300 (p.s i))(hn:300<=p.n):G5 prog 7 #[wP k,ddV d] W (AR4 W k (U4 6,p)):=by
 have D0:=GH ((DB.start W d).dt k);have X0:=GH (hx.next (DB.start W d).b);have hk0:=hx.lt;have HP:=GH hp;clear hp hx;unfold wP ddV;go_enter func7,ntmps7;go_upto_region 1 with fail;generalize ((W.alloc _).alloc _)=W0 at*;have c0:=(G9 X0).count;have CR:=GH (fun V=>KQ 6 V);unfold UY at CR;go_wp2_with fail;refine(G9 CR _).mono ?_;rintro e wr ⟨rfl,hbr⟩;have DR:=(G9 D0).next hk0 hbr;have b0:=DR.r.cells;have g0:=DR.r.H6;have XR:=GH (AG1 (E:=6) hk0 DR ((G9 X0).next hbr) (G9 HP));clear hbr DR D0 CR;unfold UY gW at XR;go_wp2_with fail;exact bodyPost_ret (v:=.agg #[I0 6,I0 0,.string ⟨#[]⟩,.string ⟨#[]⟩,I0 0,I0 0,I0 0,I0 0,I0 0,I0 0,I0 0,N0]) (by simp[results,results7,go_sem,b0]) rfl (G9 XR)
theorem CQ8(p:Pw)(d:Dd)(k:Nat)(W:FX)(hx:WX W k p)(hp:∀i,i<3->MP 300 (p.s i))(hn:p.n<300)(hn0:0<=p.n)(ha:VR d≠0):G5 prog 7 #[wP k,ddV d] W (AR4 W k (U4 (VR d),OQ p)):=by
 have D0:=GH ((DB.start W d).dt k);have X0:=GH (hx.next (DB.start W d).b);have hk0:=hx.lt;have HP:=GH hp;have CA:=GH (fun V=>pO d V);have ha2:(VR d==0)=false:=beq_eq_false_iff_ne.2 ha;clear hp hx ha;generalize VR d=E at*;unfold wP;unfold ddV at CA⊢;go_enter func7,ntmps7;go_upto_region 1 with fail;generalize ((W.alloc _).alloc _)=W0 at*;have c0:=(G9 X0).count;have f0:=(G9 X0).H6 0;have X1:=GH ((G9 X0).AD6 (p.n+1));have D1:=GH ((G9 D0).touch hk0 (JQ W0 k 0 (I0 (p.n+1))));go_upto_region 6 with fail;generalize W0.setCell _ _=W1 at*;clear c0 f0 D0 X0;obtain⟨⟨d0,d1,d2,d3,d4,d5,d6⟩,d7,d8,d9,d10,d11,d12⟩:=(G9 D1).cells;go_wp2_with fail;refine(G9 CA _).mono ?_;rintro e w2 ⟨rfl,hb2⟩;have D2:=GH ((G9 D1).next hk0 hb2);have X2:=GH ((G9 X1).next hb2);clear d0 d1 d2 d3 d4 d5 d6 d7 d8 d9 d10 d11 d12 hb2 D1 X1;have CR:=GH (fun V=>KQ E V);unfold UY at CR;go_wp2_with fail;refine(G9 CR _).mono ?_;rintro e wr ⟨rfl,hbr⟩;have DR:=(G9 D2).next hk0 hbr;have b0:=DR.r.cells;have g0:=DR.r.H6;have XR:=GH (AG1 (E:=E) hk0 DR ((G9 X2).next hbr) (G9 HP));clear hbr DR D2 CR;unfold UY gW at XR;go_wp2_with fail;exact bodyPost_ret (v:=.agg #[I0 E,I0 0,.string ⟨#[]⟩,.string ⟨#[]⟩,I0 0,I0 0,I0 0,I0 0,I0 0,I0 0,I0 0,N0]) (by simp[results,results7,go_sem,b0]) rfl (G9 XR)
theorem CQ9(p:Pw)(d:Dd)(k:Nat)(W:FX)(hx:WX W k p)(hh:p.h k)(hT:VP W)(h:QI p)(hn:p.n<300)(ha:VR d=0)(hp:d.q.p.length<=140737488355328)(hd:d.q.d.length<=140737488355328):G5 prog 7 #[wP k,ddV d] W (AR4 W k (iM (OQ p) d)):=by
 have D0:=GH ((DB.start W d).dt k);have X0:=GH (hx.next (DB.start W d).b);have T0:=GH (hT.next (DB.start W d).b);have hk0:=hx.lt;have CA:=GH (fun V=>pO d V);have hn0:=h.n0;have HP:Hid (∀i,i<3->MP 300 ((iM (OQ p) d).2.s i)):=GH (by
  have hW:=lM d h;rw[doP,if_neg (by omega),if_neg (by omega)]at hW;exact fun i hi=>(hW.s i hi).more hW.n1)
 have HH:Hid ((iM (OQ p) d).2.h k):=GH (by rw[CQ7];exact hh);have HS:=GH (BU4 (OQ p) d);have CH:=GH (fun V q (hV:WX V q (OQ p)) (hT:VP V)=>AR3 p d q V hV hT h hn ha hp hd);have CL:=GH (fun V=>A48 d.k (iM (OQ p) d).1.E V);rw[ha]at CA;clear hx hT h hp hd ha;generalize hx1:iM (OQ p) d=x at*;clear hx1;obtain⟨r,p'⟩:=x;simp only at HP HH HS CL;unfold wP;unfold ddV at CA⊢;unfold wP ddV at CH;go_enter func7,ntmps7;go_upto_region 1 with fail;generalize ((W.alloc _).alloc _)=W0 at*;have c0:=(G9 X0).count;have f0:=(G9 X0).H6 0;have X1:=GH ((G9 X0).AD6 (p.n+1));have D1:=GH ((G9 D0).touch hk0 (JQ W0 k 0 (I0 (p.n+1))));have T1:=GH (dD (G9 T0) (G9 X0) (JQ W0 k 0 (I0 (p.n+1))));go_upto_region 6 with fail;generalize W0.setCell _ _=W1 at*;clear c0 f0 D0 X0 T0;obtain⟨⟨d0,d1,d2,d3,d4,d5,d6⟩,d7,d8,d9,d10,d11,d12⟩:=(G9 D1).cells;go_wp2_with fail;refine(G9 CA _).mono ?_;rintro e w2 ⟨rfl,hb2⟩;have D2:=GH ((G9 D1).next hk0 hb2);have X2:=GH ((G9 X1).next hb2);have T2:=GH ((G9 T1).next hb2);clear d0 d1 d2 d3 d4 d5 d6 d7 d8 d9 d10 d11 d12 hb2 D1 X1 T1 CA;obtain⟨c,hc,CF8,hc1⟩:=(G9 X2).blk;have HC:=GH hc;have hq2:=(G9 D2).r.lt;have X3:=GH ((G9 X2).copy hc);have Y3:=GH (((G9 X2).offq (AA _)).next (GI w2 (FW c 83)));have D3:=GH ((G9 D2).next hk0 (GI w2 (FW c 83)));have T3:=GH ((G9 T2).next (GI w2 (FW c 83)));clear hc;go_upto_region 10 with(first|refine gK rfl _ rfl k c rfl (G9 HC) CF8 ?_|refine tH rfl rfl ?_|refine mX rfl _ _ rfl c rfl rfl CF8 hc1 ?_);clear HC CF8 hc1 X2 D2 T2;generalize w2.alloc _=W3 at*;generalize w2.heap.size=q at*;obtain⟨⟨d0,d1,d2,d3,d4,d5,d6⟩,d7,d8,d9,d10,d11,d12⟩:=(G9 D3).cells;have C3:=GH (G9 CH W3 q (G9 X3) (G9 T3));have hq3:=(G9 X3).lt;go_wp2_with fail;refine(G9 C3).mono ?_;rintro e w4 ⟨vn,rfl,ho4,ht4,hx4⟩;obtain⟨na,nc,rfl⟩:=IQ ho4.o;have hs4:=ht4.size;have R5:Hid (RpX (w4.alloc (FW #[I0 r.E,I0 r.z,S0 r.p,S0 r.d,I0 r.t.c,I0 r.t.m,I0 r.t.q,I0 r.t.v,I0 r.t.k,I0 r.t.o,I0 r.t.n,FV na r.ns.length nc] 36)) w4.heap.size r (FV na r.ns.length nc)):=GH (heap_alloc_last _ _);have B5:=GI w4 (FW #[I0 r.E,I0 r.z,S0 r.p,S0 r.d,I0 r.t.c,I0 r.t.m,I0 r.t.q,I0 r.t.v,I0 r.t.k,I0 r.t.o,I0 r.t.n,FV na r.ns.length nc] 36);have D5:=GH (((G9 D3).beyond (by omega) ht4).next hk0 B5);have Y5:=GH (((G9 Y3).farG (u:=FV na r.ns.length nc) (g:=q) rfl (show k≠q by omega) ht4 (fun b e=>⟨OJ ho4.o b e,ho4.o.low b e⟩)).next B5);have O5:=GH (ho4.next B5);have X5:=GH (fun hl=>(hx4 hl).next B5);clear d0 d1 d2 d3 d4 d5 d6 d7 d8 d9 d10 d11 d12 C3 CH X3 Y3 D3 T3 ho4 ht4 hx4 B5;unfold rpV;go_upto_region 11 with fail;generalize w4.alloc _=W5 at*;generalize w4.heap.size=g at*;obtain⟨⟨d0,d1,d2,d3,d4,d5,d6⟩,d7,d8,d9,d10,d11,d12⟩:=(G9 D5).cells;obtain⟨r0,r1,r2,r3,r4,r5,r6,r7,r8,r9,r10,r11⟩:=(G9 R5).cells;go_wp2_with fail;refine(G9 CL _).mono ?_;rintro e w6 ⟨rfl,hw6⟩;obtain rfl:=hw6.symm;clear d0 d1 d2 d3 d4 d5 d6 d7 d8 d9 d10 d11 d12 r0 r1 r2 r3 r4 r5 r6 r7 r8 r9 r10 r11 CL;refine Or.elim (show UA d.k r.E=false\/UA d.k r.E=true by cases UA d.k r.E<;>simp) ?a0 ?a1
 case' a1=>
  intro hl;rw[hl];obtain⟨c,hc,CF8,hc1⟩:=(G9 X5 hl).blk;obtain⟨o,ho,ho83,_⟩:=(G9 Y5).blk;have HC:=GH hc;have HO:=GH ho;have X6:=GH ((G9 Y5).back (G9 X5 hl) (.inl (G9 HH)) hc);have D6:=GH ((G9 D5).touch hk0 (dH W5 k c));have O6:=GH (OB (G9 O5) (dH W5 k c) (fun b e=>by have:=OJ (G9 O5).o b e;omega));have R6:Hid (RpX (W5.setRow k c) g r (FV na r.ns.length nc)):=GH (((dH W5 k c).block g (G9 R5).lt (by omega)).trans (G9 R5));clear hc ho X5 Y5 D5 O5 R5;go_upto_region 13 with(first|refine gK rfl _ rfl q c rfl (G9 HC) CF8 ?_|refine dG rfl _ _ rfl k c o rfl rfl (G9 HO) CF8 ho83 hc1 ?_);generalize W5.setRow k c=W6 at*
 case' a0=>
  intro hl;rw[hl];have X6:Hid (WX W5 k (grH p' (FV na r.ns.length nc))):=GH (by rw[G9 HS hl];exact G9 Y5);have D6:=D5;have O6:=O5;have R6:=R5;clear X5 Y5 D5 O5 R5;go_upto_region 13 with fail
 all_goals
  have DR:=G9 D6;have b0:=DR.r.cells;have g0:=DR.r.H6;obtain⟨r0,r1,r2,r3,r4,r5,r6,r7,r8,r9,r10,r11⟩:=(G9 R6).cells;have XR:=GH (BC3 hk0 DR (G9 X6) (G9 HP) (G9 O6) (by omega));clear DR X6 D6 O6 R6;unfold rpV gW at XR;go_wp2_with fail;exact bodyPost_ret (v:=.agg #[I0 r.E,I0 r.z,S0 r.p,S0 r.d,I0 r.t.c,I0 r.t.m,I0 r.t.q,I0 r.t.v,I0 r.t.k,I0 r.t.o,I0 r.t.n,FV na r.ns.length nc]) (by simp[results,results7,go_sem,b0]) rfl (G9 XR)
theorem BC4(p:Pw)(d:Dd)(k:Nat)(W:FX)(hx:WX W k p)(hh:p.h k)(hT:VP W)(h:QI p)(hp:d.q.p.length<=140737488355328)(hd:d.q.d.length<=140737488355328):G5 prog 7 #[wP k,ddV d] W (AR4 W k (doP p d)):=by
 have ok:∀i,i<3->MP 300 (p.s i):=fun i hi=>(h.s i hi).more h.n1;unfold doP;by_cases hn:300<=p.n
 .rw[if_pos hn];exact CE1 p d k W hx ok hn
 .rw[if_neg hn];by_cases ha:VR d=0
  .rw[if_neg (fun e=>e ha)];exact CQ9 p d k W hx hh hT h (by omega) ha hp hd
  .rw[if_pos ha];exact CQ8 p d k W hx ok (by omega) h.n0 ha
def Done(W:FX)(k:Nat)(x:Rp×Pw)(e:Ending)(w':FX):Prop:=
 ∃v,e=.returned (rpV x.1 v)/\I5 w' W.heap.size v x.1.ns/\Touch (· =k) W w'/\WX w' k x.2
theorem BC5(p:Pw)(d:Dd)(k:Nat)(W:FX)(hx:WX W k p)(hh:p.h k)(hT:VP W)(h:QI p)(hp:d.q.p.length<=140737488355328)(hd:d.q.d.length<=140737488355328):G5 prog 7 #[wP k,ddV d] W (Done W k (doP p d)):=
 (BC4 p d k W hx hh hT h hp hd).mono fun _ _ ⟨v,h1,h2,h3,h4⟩=>⟨v,h1,h2.o,h3,h4.gr0⟩
structure WNf(W:FX)(k:Nat)(f:Nat->FZ)(a b:Nat):Prop where
 t:∀j,j<83->∀x,f j≠ .string x
 n:f 0=I0 0
 r:∀i,i<3->f (31+i)=I0 0
 d:f 82=N0
 s:∀i,i<a->SvA W k (fun q=>f (1+10*i+q)) (svP i ps0)
 c:∀i,i<b->ClA W k (fun q=>f (34+3*i+q)) ⟨i+1,0,[]⟩
def WN(W V:FX)(a b:Nat):Prop:=(∃f,WB V W.heap.size f/\WNf V W.heap.size f a b)/\B0 W V
section
variable {W V U:FX} {a b:Nat}
theorem lW(h:B0 W V)(T:Touch (· =W.heap.size) V U):B0 W U:=⟨T.os.trans h.os,T.tape.trans h.tape,T.output.trans h.output,BP h.size T.size,fun b hb=>(T.block b (AY hb h.size) (by omega)).trans (h.block b hb)⟩
theorem WN.next(h:WN W V a b)(hb:B0 V U):WN W U a b:=by
 obtain⟨⟨f,h1,h2⟩,h3⟩:=h;exact⟨⟨f,h1.next hb,h2.t,h2.n,h2.r,h2.d,fun i hi=>(h2.s i hi).next hb,fun i hi=>⟨(h2.c i hi).s,(h2.c i hi).z,(h2.c i hi).e.next hb⟩⟩,GK h3 hb⟩
theorem WN.srv(h:WN W V a b)(ha:a<3){vd vl vn vs vw:FZ}{s:Sv}(hs:svP a ps0=s)(hv:SvV V (.agg #[.bool s.up,vd,I0 s.id,I0 s.ep,vl,I0 s.dn,I0 s.tr.z,vn,vs,vw]) s)(h0:s.tr.ss=[]):WN W (yY V W.heap.size (1+10*a) (.bool s.up) vd (I0 s.id) (I0 s.ep) vl (I0 s.dn) (I0 s.tr.z) vn vs vw) (a+1) b:=by
 obtain⟨⟨f,hb,hn⟩,hB⟩:=h;have T:=XZ V W.heap.size (1+10*a) (.bool s.up) vd (I0 s.id) (I0 s.ep) vl (I0 s.dn) (I0 s.tr.z) vn vs vw;have hA:SvA V W.heap.size (CF6 (.bool s.up) vd (I0 s.id) (I0 s.ep) vl (I0 s.dn) (I0 s.tr.z) vn vs vw) s:=SvA.of (hb.fK hn.t) hv (fun h=>absurd h0 h) rfl rfl rfl rfl rfl rfl rfl rfl rfl rfl;refine⟨⟨_,hb.yY (o:=1+10*a) (by omega) _ _ _ _ _ _ _ _ _ _,fun j hj x=>?_,by rw[JB (by omega)];exact hn.n,fun i hi=>by rw[JB (by omega)];exact hn.r i hi,by rw[JB (by omega)];exact hn.d,fun i hi=>?_,fun i hi=>?_⟩,lW hB T⟩
 .by_cases e:1+10*a<=j/\j<1+10*a+10
  .obtain⟨q,rfl⟩:∃q,j=1+10*a+q:=⟨j-(1+10*a),by omega⟩;rw[NC (by omega)];exact hA.cellP (P:=(· ≠ .string x)) (fun _ e=>by cases e) (fun _ e=>by cases e) (fun _ _ _ e=>by cases e) q (by omega)
  .rw[JB (by omega)];exact hn.t j hj x
 .by_cases e:i=a
  .subst e;rw[hs];exact(hA.congr fun q hq=>by rw[NC hq]).touch T
  .exact((hn.s i (by omega)).congr fun q hq=>by rw[JB (by omega)]).touch T
 .have h:=(hn.c i hi).congr (g':=fun q=>BE2 f (1+10*a) 10 (CF6 (.bool s.up) vd (I0 s.id) (I0 s.ep) vl (I0 s.dn) (I0 s.tr.z) vn vs vw) (34+3*i+q)) fun q hq=>by rw[JB (by omega)]
  exact⟨h.s,h.z,h.e.touch T⟩
theorem WN.cl(h:WN W V a b)(ha:a<=3)(hb:b<16):WN W (rY V W.heap.size (34+3*b) (I0 (b+1)) (I0 0) (N0)) a (b+1):=by
 obtain⟨⟨f,hf,hn⟩,hB⟩:=h;have T:=TK V W.heap.size (34+3*b) (I0 (b+1)) (I0 0) (N0);refine⟨⟨_,hf.rY (o:=34+3*b) (by omega) _ _ _,fun j hj x=>?_,by rw[JB (by omega)];exact hn.n,fun i hi=>by rw[JB (by omega)];exact hn.r i hi,by rw[JB (by omega)];exact hn.d,fun i hi=>((hn.s i hi).congr fun q hq=>by rw[JB (by omega)]).touch T,fun i hi=>?_⟩,lW hB T⟩
 .by_cases e:34+3*b<=j/\j<34+3*b+3
  .obtain⟨q,rfl⟩:∃q,j=34+3*b+q:=⟨j-(34+3*b),by omega⟩;rw[NC (by omega)];rcases(show q=0\/q=1\/q=2 by omega)with rfl|rfl|rfl<;>(intro e;cases e)
  .rw[JB (by omega)];exact hn.t j hj x
 .by_cases e:i=b
  .subst e;exact⟨by rw[NC (by omega)];rfl,by rw[NC (by omega)];rfl,by rw[NC (by omega)];exact Row.nil _ _ 0 (by decide) G6⟩
  .have h:=(hn.c i (by omega)).congr (g':=fun q=>BE2 f (34+3*b) 3 (B67 (I0 (b+1)) (I0 0) (N0)) (34+3*i+q)) fun q hq=>by rw[JB (by omega)]
   exact⟨h.s,h.z,h.e.touch T⟩
theorem BC6(i:Nat):(svP i ps0).tr.ss=[]:=by rw[J5 rfl];rfl
theorem WN.done(h:WN W V 3 16):WX V W.heap.size (pw0 W.heap.size):=by
 obtain⟨⟨f,hb,hn⟩,_⟩:=h;exact⟨f,hb,hn.n,fun i hi=>hn.s i hi,hn.r,hn.c,by rw[hn.d];exact Row.nil _ _ 0 (by decide) G6,fun i _ b _=>⟨fun h0=>absurd (BC6 i) h0,fun h0=>absurd rfl h0⟩,fun b e=>Nat.lt_of_le_of_lt e hb.lt⟩
end
def CR0:FZ->Bool
 | .string _=>false
 |_=>true
theorem CE2:zB.all CR0=true:=by kernel_rfl
theorem BC7:zB[0]?=G8 (I0 0)/\zB[31]?=G8 (I0 0)/\zB[32]?=G8 (I0 0)/\zB[33]?=G8 (I0 0)/\zB[82]?=G8 (N0):=⟨by kernel_rfl,by kernel_rfl,by kernel_rfl,by kernel_rfl,by kernel_rfl⟩
theorem BU5(W:FX)(z:Array FZ)(hz:z.size=83)(ht:z.all CR0=true)(z0:z[0]?=G8 (I0 0))(z1:z[31]?=G8 (I0 0))(z2:z[32]?=G8 (I0 0))(z3:z[33]?=G8 (I0 0))(z4:z[82]?=G8 (N0)):WN W (W.alloc (FW z 83)) 0 0:=by
 have e:∀j:Nat,j<83->∃v,z[j]?=G8 v:=fun j hj=>⟨z[j]'(by omega),BU (by omega)⟩;have g:∀ (j:Nat) v,z[j]?=G8 v->z[j]?.getD undef=v:=fun j v h=>by rw[h];rfl
 refine⟨⟨fun j=>z[j]?.getD undef,⟨z,heap_alloc_last W _,hz,fun j hj=>?_⟩,fun j hj x=>?_,g _ _ z0,fun i hi=>?_,g _ _ z4,fun i hi=>by omega,fun i hi=>by omega⟩,GI _ _⟩
 .obtain⟨v,h⟩:=e j hj;rw[h,<-g j v h]
 .obtain⟨v,h⟩:=e j hj;rw[g j v h];rintro rfl;have:=Array.all_eq_true.1 ht j (by omega);rw[BU (by omega)]at h;rw[BQ h]at this
  cases this
 .rcases(show i=0\/i=1\/i=2 by omega)with rfl|rfl|rfl
  .exact g _ _ z1
  .exact g _ _ z2
  .exact g _ _ z3
theorem WN.start(W:FX):WN W (W.alloc (FW zB 83)) 0 0:=BU5 W zB CE0 CE2 BC7.1 BC7.2.1 BC7.2.2.1 BC7.2.2.2.1 BC7.2.2.2.2
theorem CE3(i:Nat)(hi:i<3)(w:FX):G5 prog 15 #[I0 i,.agg #[N0]] w (B74 w (svP i ps0) 0):=by
 have e:svP i ps0=CV7 i:=by rw[J5 rfl,CV7,AN3 (fs:=[]) (by unfold WG;simp only[A09];split<;>simp)];simp[ps0,IJ,epD,SK,PL]
 rw[e];exact(B57 i (by omega) (by omega) w).mono fun _ _ h=>sH h rfl
theorem A66(W:FX):G5 prog 4 #[] W fun e w'=>e=.returned (wP W.heap.size)/\WX w' W.heap.size (pw0 W.heap.size)/\B0 W w':=by
 have CB:=GH (fun i hi V=>CE3 i hi V);have CN:=GH (fun s h1 h2 V=>BQ0 s V h1 h2);have HE0:=GH BC6;have H0:=GH (WN.start W);unfold wP;go_enter func4,ntmps4;go_upto_region 2 with(first|refine tJ rfl rfl ?_|refine A65 rfl _ rfl zB rfl ?_);generalize W.alloc _=W0 at*;go_wp2_with fail
 go_loopg [6] 3 (fun kx s6 wr=>∃i:Nat,s6=I0 i/\i<=3/\3-i<=kx/\Hid (WN W wr i 0))
 case atStart=>exact⟨0,rfl,by omega,AA _,H0⟩
 case round=>
  obtain⟨i,rfl,hi,hg,HN⟩:=hrel;by_cases hlt:i<3
  .have hii:(i:Int)<3:=by omega
   have C1:=GH (fun V=>G9 CB i hlt V);have HE:=GH (G9 HE0 i);generalize hs1:svP i ps0=s1 at C1 HE;have HK:=GH hs1;clear hs1;go_upto_region 5 with fail;have hS0:(fun _:FX=>True) wr.drew:=trivial;refine wp_region_held (S:=fun _:FX=>True) (by kernel_rfl) ?_;change wpAnyH _ _ _ _ _ _ _ _ wr.drew;refine tkH 0 hS0 ?_;refine tkH 1 hS0 ?_;refine tkH 2 hS0 ?_;refine tkH 3 hS0 ?_;refine tkH 8 hS0 ?_;refine tkH 9 hS0 ?_;refine rd1 4 (fun K hK=>?_);go_simp
   with_reducible refine(G9 C1 _).mono ?_
   rintro e w1 ⟨ad,nd,cd,al,cl,an,cn,ai,ci,aw,cw,rfl,H1,hb1⟩;have N1:=(G9 HN).next (GK (AB wr.heap.size wr).drew hb1);clear hb1;refine nxH hK trivial ?_;clear hK K;refine tkH 5 trivial ?_;refine tkH 6 trivial ?_;refine tkH 7 trivial ?_;refine tkH 10 trivial ?_;refine rd1 11 (fun K hK=>?_);obtain⟨f,hf,_⟩:=N1.1;have x0:=hf.cell (j:=1+i*10) (by omega);have z0:=hf.H6 (1+i*10);have x1:=hf.cell (j:=1+i*10+1) (by omega);have z1:=hf.H6 (1+i*10+1);have x2:=hf.cell (j:=1+i*10+2) (by omega);have z2:=hf.H6 (1+i*10+2);have x3:=hf.cell (j:=1+i*10+3) (by omega);have z3:=hf.H6 (1+i*10+3);have x4:=hf.cell (j:=1+i*10+4) (by omega);have z4:=hf.H6 (1+i*10+4);have x5:=hf.cell (j:=1+i*10+5) (by omega);have z5:=hf.H6 (1+i*10+5);have x6:=hf.cell (j:=1+i*10+6) (by omega);have z6:=hf.H6 (1+i*10+6);have x7:=hf.cell (j:=1+i*10+7) (by omega);have z7:=hf.H6 (1+i*10+7);have x8:=hf.cell (j:=1+i*10+8) (by omega);have z8:=hf.H6 (1+i*10+8);have x9:=hf.cell (j:=1+i*10+9) (by omega);have z9:=hf.H6 (1+i*10+9);have hkl:=hf.lt;have HR:=GH (N1.srv hlt (G9 HK) (G9 H1).1 (G9 HE));unfold yY at HR;rw[DL 10 i]at HR;clear N1 H1 hf;go_simp;refine nxH hK trivial ?_;clear hK K;refine wpAnyH_done (by kernel_rfl) ?_ _;go_wp2_with fail
   go_roundg (3-(i+1))
   case measure=>omega
   case rel=>exact⟨i+1,by simp,by omega,AA _,HR⟩
  .obtain rfl:i=3:=by omega
   have H3:=HN;clear HN hg hi hlt;go_wp2_with fail
   go_loopg [21] 16 (fun kx s21 wr=>∃i:Nat,s21=I0 i/\i<=16/\16-i<=kx/\Hid (WN W wr 3 i))
   case atStart=>exact⟨0,rfl,by omega,AA _,H3⟩
   case round=>
    obtain⟨i,rfl,hi,hg,HN⟩:=hrel;by_cases hlt:i<16
    .have hii:(i:Int)<16:=by omega
     have hwr:IntKind.i64.wrap ((i:Int)+1)=(i:Int)+1:=by rw[IntKind.wrap_i64];omega
     have C2:=GH (fun V=>G9 CN ((i:Int)+1) (by omega) (by omega) V);unfold clV at C2;go_upto_region 10 with fail;have hS0:(fun _:FX=>True) wr.drew:=trivial;refine wp_region_held (S:=fun _:FX=>True) (by kernel_rfl) ?_;change wpAnyH _ _ _ _ _ _ _ _ wr.drew;refine tkH 0 hS0 ?_;refine tkH 1 hS0 ?_;refine tkH 2 hS0 ?_;refine tkH 3 hS0 ?_;refine tkH 8 hS0 ?_;refine tkH 9 hS0 ?_;refine rd1 4 (fun K hK=>?_);go_simp
     with_reducible refine(G9 C2 _).mono ?_
     rintro e w1 ⟨rfl,hb1⟩;have N1:=(G9 HN).next (GK (AB wr.heap.size wr).drew hb1);clear hb1;refine nxH hK trivial ?_;clear hK K;refine tkH 5 trivial ?_;refine tkH 6 trivial ?_;refine tkH 7 trivial ?_;refine tkH 10 trivial ?_;refine rd1 11 (fun K hK=>?_);obtain⟨f,hf,_⟩:=N1.1;have x0:=hf.cell (j:=34+i*3) (by omega);have z0:=hf.H6 (34+i*3);have x1:=hf.cell (j:=34+i*3+1) (by omega);have z1:=hf.H6 (34+i*3+1);have x2:=hf.cell (j:=34+i*3+2) (by omega);have z2:=hf.H6 (34+i*3+2);have hkl:=hf.lt;have HR:=GH (N1.cl (AA 3) hlt);unfold rY at HR;rw[DL 3 i]at HR;clear N1 hf;go_simp;refine nxH hK trivial ?_;clear hK K;refine wpAnyH_done (by kernel_rfl) ?_ _;go_wp2_with fail
     go_roundg (16-(i+1))
     case measure=>omega
     case rel=>exact⟨i+1,by simp,by omega,AA _,HR⟩
    .obtain rfl:i=16:=by omega
     go_wp2_with fail;go_ret;exact⟨rfl,(G9 HN).done,(G9 HN).2⟩
theorem BC8(h:QI p)(H:Nat->Prop):QI (TS p H):=by
 cases h
 constructor<;>assumption
def UC(V:FX)(k m:Nat)(p:Pw)(u:FZ):Prop:=∃H:Nat->Prop,H m/\H k/\(∀g,u.ownBlock=G8 g->H g)/\WX V m (TS p H)
section
variable {V U:FX} {k m:Nat} {p q:Pw} {u v:FZ}
theorem UC.next(h:UC V k m p u)(hb:B0 V U):UC U k m p u:=by
 obtain⟨H,h1,h2,h3,hx⟩:=h;exact⟨H,h1,h2,h3,hx.next hb⟩
theorem UC.did(h:UC V k m p v)(hk:WX V k q)(hmk:m≠k)(ht:Touch (· =k) V U)(hu:∀g,u.ownBlock=G8 g->V.heap.size<=g/\g<U.heap.size):UC U k m p u:=by
 obtain⟨H,h1,h2,_,hx⟩:=h;have hy:=hx.CN5 h2 hk.CN4 hmk ht;exact⟨fun b=>H b\/u.ownBlock=G8 b,.inl h1,.inl h2,fun g e=>.inr e,hx.newer ht hy (fun b e hb=>hmk (by rw[hb,e])) hu⟩
theorem UC.notes(h:UC V k m p u)(hg:u.ownBlock=G8 g)(hn:NtP V g)(hm:m≠g)(ht:Touch (· =g) V U):UC U k m p u:=by
 obtain⟨H,h1,h2,h3,hx⟩:=h;exact⟨H,h1,h2,h3,hx.notes (h3 g hg) hn hm ht⟩
end
theorem CE4(p:Pw)(d:Dd)(k m:Nat)(u:FZ)(W:FX)(h:UC W k m p u)(hT:VP W)(hw:QI p)(hp:d.q.p.length<=140737488355328)(hd:d.q.d.length<=140737488355328):G5 prog 7 #[wP m,ddV d] W fun e w'=>∃v,e=.returned (rpV (doP p d).1 v)/\I5 w' W.heap.size v (doP p d).1.ns/\Touch (· =m) W w'/\UC w' k m (doP p d).2 u:=by
 obtain⟨H,h1,h2,h3,hx⟩:=h;refine(BC5 (TS p H) d m W hx h1 hT (BC8 hw H) hp hd).mono ?_;rintro e w' ⟨v,he,ho,ht,hy⟩;rw[C99]at he ho hy;exact⟨v,he,ho,ht,H,h1,h2,h3,hy⟩
theorem AR5{m:Nat}(h:WX V m (pw0 m))(hk:k<V.heap.size):UC V k m (pw0 k) (N0):=
 ⟨fun b=>b=m\/b=k,.inl rfl,.inr rfl,fun g e=>by simp[Value.ownBlock]at e,h.bare (fun i _=>by
  refine⟨?_,rfl⟩;exact BC6 i) (fun b e=>by
  rcases e with rfl|rfl
  .exact h.lt
  .exact hk)⟩
theorem BD0(p:Pw):∀l:List Dd,(TQ p l).h=p.h
 |[]=>rfl
 |d::l=>by
  rw[TQ,BD0 _ l];unfold doP
  repeat' split
  all_goals first|rfl|exact CQ7 _ _
theorem CE5(k:Nat)(l:List Dd):(TQ (pw0 k) l).h k:=by
 rw[BD0];exact AA k
theorem tN(p:Pw)(d:Dd):∀l:List Dd,TQ p (l++[d])=(doP (TQ p l) d).2
 |[]=>rfl
 |e::l=>by
  show TQ (doP p e).2 (l++[d])=_;rw[tN _ d l];rfl
theorem BD1(p:Pw){ds:List Dd}(h:ds[i]?=G8 d):TQ p (ds.take (i+1))=(doP (TQ p (ds.take i)) d).2:=by
 obtain⟨hk,rfl⟩:=List.getElem?_eq_some_iff.1 h;rw[List.take_succ_eq_append_getElem hk,tN]
structure BU8(W:FX)(k:Nat)(p:Pw)(V:FX):Prop where
 x:WX V k p
 t:VP V
 b:B0 W V
 k:W.heap.size<=k
section
variable {W V U:FX} {k:Nat} {p q:Pw}
theorem BU8.next(h:BU8 W k p V)(hb:B0 V U):BU8 W k p U:=⟨h.x.next hb,h.t.next hb,GK h.b hb,h.k⟩
theorem BU8.turn(h:BU8 W k p V)(ht:Touch (· =k) V U)(hx:WX U k q):BU8 W k q U:=
 ⟨hx,dD h.t h.x ht,⟨ht.os.trans h.b.os,ht.tape.trans h.b.tape,ht.output.trans h.b.output,BP h.b.size ht.size,fun b hb=>(ht.block b (AY hb h.b.size) (by have:=h.k;omega)).trans (h.b.block b hb)⟩,h.k⟩
theorem BU8.start(hT:VP W)(hb:B0 W V)(hc:B0 V U)(hx:WX U V.heap.size (pw0 V.heap.size)):BU8 W V.heap.size (TQ (pw0 V.heap.size) []) U:=⟨hx,(hT.next hb).next hc,GK hb hc,hb.size⟩
end
theorem CR1{b off n cap:Nat}{ds:List Dd}(hv:IV W (FV (G8 ⟨b,off,G6⟩) n cap) ds)(hd:ds[i]?=G8 d):(W.cell? ⟨b,off+i*13,G6⟩=G8 (I0 d.k)/\W.cell? ⟨b,off+i*13+1,G6⟩=G8 (I0 d.c)/\W.cell? ⟨b,off+i*13+2,G6⟩=G8 (I0 d.s)/\W.cell? ⟨b,off+i*13+3,G6⟩=G8 (I0 d.q.o)/\W.cell? ⟨b,off+i*13+4,G6⟩=G8 (I0 d.q.s)/\W.cell? ⟨b,off+i*13+5,G6⟩=G8 (S0 d.q.p)/\W.cell? ⟨b,off+i*13+6,G6⟩=G8 (S0 d.q.d))/\W.cell? ⟨b,off+i*13+7,G6⟩=G8 (I0 d.q.v)/\W.cell? ⟨b,off+i*13+8,G6⟩=G8 (I0 d.q.f)/\W.cell? ⟨b,off+i*13+9,G6⟩=G8 (I0 d.lo)/\W.cell? ⟨b,off+i*13+10,G6⟩=G8 (I0 d.sl)/\W.cell? ⟨b,off+i*13+11,G6⟩=G8 (I0 d.ke)/\W.cell? ⟨b,off+i*13+12,G6⟩=G8 (.bool d.wt):=by
 obtain⟨b',off',cap',he,_,hr,_,_,_⟩:=oW hv hd;simp only[AQ,BF,Addr.mk.injEq,and_true]at he;obtain⟨⟨rfl,rfl⟩,_,_⟩:=he;have h:∀ (j:Nat) (v:FZ),j<13->(Lay.cs d)[j]?=G8 v->W.cell? ⟨b,off+i*13+j,G6⟩=G8 v:=fun j v hj hv=>by
  rw[EM];exact hr (i*13+j) v ((GZ ds i d hd j hj).trans hv)
 exact⟨⟨h 0 _ (by omega) rfl,h 1 _ (by omega) rfl,h 2 _ (by omega) rfl,h 3 _ (by omega) rfl,h 4 _ (by omega) rfl,h 5 _ (by omega) rfl,h 6 _ (by omega) rfl⟩,h 7 _ (by omega) rfl,h 8 _ (by omega) rfl,h 9 _ (by omega) rfl,h 10 _ (by omega) rfl,h 11 _ (by omega) rfl,h 12 _ (by omega) rfl⟩
theorem lX(p:Pw)(k:Nat)(W:FX)(hx:WX W k p)(hD:p.D.length<=300):G5 prog 11 #[wP k] W fun e w'=>∃a c,e=.returned (FV a p.D.length c)/\I5 w' W.heap.size (FV a p.D.length c) p.D/\B0 W w':=by
 obtain⟨ua,uc,d82,hdv⟩:=hx.ack;have CC:=GH (rD (FV ua p.D.length uc) p.D W hdv (by omega));clear hx hdv;unfold wP;go_enter func11,ntmps11;go_wp2_with fail;refine(G9 CC).mono ?_;rintro e w1 ⟨v1,rfl,ho,hb⟩;obtain⟨a1,c1,rfl⟩:=IQ ho;have HO:=GH (DJ ho hb);clear ho hb CC;go_wp2_with fail;go_ret;exact⟨a1,c1,rfl,(G9 HO).1,(G9 HO).2⟩
theorem BD2(W:FX)(hT:VP W):G5 prog 17 #[] W (R0 W (.bool true)):=by
 have HT:=GH hT;have CN:=GH (A66 W);clear hT;have hfd:∀ (x0 x1 x2 x3 x4 x5 x6 x7 x8 x9 x10 x11:FZ) (w:FX),(Instr.field 36 (.agg #[x0,x1,x2,x3,x4,x5,x6,x7,x8,x9,x10,x11]) 0).run prog w=.ok x0 w:=fun _ _ _ _ _ _ _ _ _ _ _ _ _=>by kernel_rfl
 go_enter func17,ntmps17;go_wp2_with fail;refine(G9 CN).mono ?_;rintro e w1 ⟨rfl,hx1,hb1⟩;have P1:=GH (BU8.start (G9 HT) (AB _ _) hb1 hx1);clear hx1 hb1 CN HT;obtain⟨f,c,h1,hf,hc⟩:=BU6 W.heap.size;have i1:=lM dEl (YO W.heap.size);have C1:=GH (BC5 (pw0 W.heap.size) dEl W.heap.size w1 (G9 P1).x (AA _) (G9 P1).t (YO W.heap.size) (by simp[dEl]) (by simp[dEl]));rw[h1]at C1 i1;obtain⟨t,ns,p2,h2,hD⟩:=BU7 (k:=W.heap.size) hf hc;have C2:=GH (fun V hx hT=>BC5 ⟨1,f,eR (pw0 W.heap.size).s,c,[],[],(· <=W.heap.size)⟩ dOp W.heap.size V hx (AA _) hT i1 (by simp[dOp]) (by simp[dOp]));rw[h2]at C2;have CL:=GH (fun V hx=>TA ⟨1,f,eR (pw0 W.heap.size).s,c,[],[],(· <=W.heap.size)⟩ W.heap.size V hx);have CA:=GH (fun V hx=>lX p2 W.heap.size V hx (by omega));simp only[show ldP (eR (pw0 W.heap.size).s)=2 from rfl]at CL;rw[hD]at CA;clear h1 h2 i1 hf hc hD;generalize eR (pw0 W.heap.size).s=ro at*;simp only[wP,ddV,dEl,nd0]at C1;simp only[wP,ddV,dOp]at C2;unfold wP at CL CA⊢;go_wp2_with fail;refine(G9 C1).mono ?_;rintro e w2 ⟨u2,rfl,ho2,ht2,hx2⟩;obtain⟨a2,c2,rfl⟩:=IQ ho2;have P2:=GH ((G9 P1).turn ht2 hx2);clear ho2 ht2 hx2 C1 P1;unfold rpV;go_wp2_with fail;refine(G9 CL _ (G9 P2).x).mono ?_;rintro e w3 ⟨rfl,hb3⟩;have P3:=GH ((G9 P2).next hb3);clear hb3 CL P2;go_wp2_with fail;refine(G9 C2 _ (G9 P3).x (G9 P3).t).mono ?_;rintro e w4 ⟨u4,rfl,ho4,ht4,hx4⟩;obtain⟨a4,c4,rfl⟩:=IQ ho4;have P4:=GH (fun O=>((G9 P3).turn ht4 hx4).next (GI w4 O));clear ho4 ht4 hx4 C2 P3;unfold rpV;go_wp2_with fail;refine(G9 CA _ (G9 P4 _).x).mono ?_;rintro e w5 ⟨a5,c5,rfl,_,hb5⟩;have P5:=GH ((G9 P4 _).next hb5);clear hb5 CA P4;go_wp2_with fail;go_ret;exact⟨rfl,(G9 P5).b⟩
structure CR2(W:FX)(k m:Nat)(p:Pw)(V:FX):Prop where
 x:WX V k p
 t:VP V
 b:Touch (· =m) W V
 kl:W.heap.size<=k
 a:UC V k m p (N0)
section
variable {W V U:FX} {k m:Nat} {p:Pw}
theorem CR2.CY0(h:CR2 W k m p V)(ht:Touch (· =k) V U):Touch (· =m) W U:=
 ⟨ht.os.trans h.b.os,ht.tape.trans h.b.tape,ht.output.trans h.b.output,BP h.b.size ht.size,fun b hb hn=>(ht.block b (AY hb h.b.size) (by have:=h.kl;omega)).trans (h.b.block b hb hn)⟩
theorem pX{u:FZ}(h:Touch (· =m) W V)(ht:Touch (fun b=>b=m\/u.ownBlock=G8 b) V U)(hu:∀g,u.ownBlock=G8 g->W.heap.size<=g):Touch (· =m) W U:=
 ⟨ht.os.trans h.os,ht.tape.trans h.tape,ht.output.trans h.output,BP h.size ht.size,fun b hb hn=>(ht.block b (AY hb h.size) (fun e=>e.elim hn fun e=>by have:=hu b e;omega)).trans (h.block b hb hn)⟩
end
theorem BU9{W:FX}(m c:Nat)(hmW:m<W.heap.size)(hxm:WX W m (pw0 m))(ds:List Dd)(v:FZ)(hv:∀V,Touch (· =m) W V->IV V v ds)(hm:∀d∈ds,d.q.p.length<=140737488355328/\d.q.d.length<=140737488355328)(hT:VP W)
  (L:∀k V i d u,ds[i]?=G8 d->WX V k (grH (doP (TQ (pw0 k) (ds.take i)) d).2 u)->ZW V (k+1) u (doP (TQ (pw0 k) (ds.take i)) d).1.ns->W.heap.size<=k->VP V->Touch (· =m) W V->UC V k m (TQ (pw0 k) (ds.take i)) u->G5 prog 6 #[wP k,ddV d,rpV (doP (TQ (pw0 k) (ds.take i)) d).1 u,P0 c] V fun e w'=>e=.returned (.bool true)/\Touch (fun b=>b=m\/u.ownBlock=G8 b) V w'/\CR2 W k m (doP (TQ (pw0 k) (ds.take i)) d).2 w'):
  G5 prog 5 #[v,.func (.func 6) #[] #[P0 c]] W fun e w'=>∃k,e=.returned (.tuple #[wP k,.bool true])/\Touch (· =m) W w':=by
 have HX0:=GH hxm;have HV:=GH hv;have HM:=GH hm;have HT:=GH hT;have HL:=GH L;have CA:=GH (fun V hV=>BD2 V hV);have CN:=GH (fun V=>A66 V);obtain⟨va,vc,rfl⟩:=GU (hv W (Touch.refl _ _));clear hv hm hT L hxm;go_enter func5,ntmps5;go_wp2_with fail;refine(G9 CA _ (G9 HT)).mono ?_;rintro e w1 ⟨rfl,hb1⟩;have B1:=GH hb1;clear hb1 CA;go_wp2_with fail;refine(G9 CN _).mono ?_;rintro e w2 ⟨rfl,hx2,hb2⟩;have hbb:=GK (G9 B1) hb2;have H0:Hid (CR2 W w1.heap.size m (TQ (pw0 w1.heap.size) []) w2):=GH ⟨hx2,(G9 HT).next hbb,Touch.of_below hbb,(G9 B1).size,AR5 ((G9 HX0).next hbb) hx2.lt⟩;clear hb2 hx2 B1 HT CN hbb HX0;generalize w1.heap.size=k at*;unfold wP;go_wp2_with fail
 go_loopg [7] (min ds.length 100) (fun kx s7 wr=>∃i:Nat,s7=I0 i/\i<=min ds.length 100/\min ds.length 100-i<=kx/\Hid (CR2 W k m (TQ (pw0 k) (ds.take i)) wr))
 case atStart=>exact⟨0,rfl,by omega,by omega,H0⟩
 case round=>
  obtain⟨i,rfl,hi,hg,HI⟩:=hrel;by_cases hlt:i<ds.length
  .by_cases hlh:i<100
   .have hl1:(i:Int)<(ds.length:Int):=by omega
    have hl2:(i:Int)<100:=by omega
    obtain⟨d,hd⟩:∃d,ds[i]?=G8 d:=⟨_,AO hlt⟩;obtain⟨b,off,cap,he,hb,_,_,_,_⟩:=oW (G9 HV W (Touch.refl _ _)) hd;simp only[AQ,true_and]at he;obtain⟨rfl,rfl⟩:=he;have HC:=GH (fun V (hV:Touch (· =m) W V)=>CR1 (G9 HV V hV) hd);have hmd:=G9 HM d (List.mem_of_getElem? hd);have CD:=GH (BC4 (TQ (pw0 k) (ds.take i)) d k wr (G9 HI).x (CE5 _ _) (G9 HI).t (lN _ _ (YO k)) hmd.1 hmd.2);have CK0:=GH (fun V u=>G9 HL k V i d u hd);have HS:=GH (BD1 (pw0 k) hd);obtain⟨⟨e0,e1,e2,e3,e4,e5,e6⟩,e7,e8,e9,e10,e11,e12⟩:=G9 HC wr (G9 HI).b;have hmin:i+1<=min ds.length 100:=by omega
    clear hmd hd;unfold wP ddV at CD;generalize hx0:doP (TQ (pw0 k) (ds.take i)) d=x0 at*;obtain⟨r,y⟩:=x0;clear hx0;simp only at CK0 HS;go_wp2_with fail;refine(G9 CD).mono ?_;rintro e w3 ⟨u,rfl,ho,ht,hx⟩;have hsz:=ht.size;obtain⟨na,nc,rfl⟩:=IQ ho.o;have R2:Hid (RpX (w3.alloc (FW #[I0 r.E,I0 r.z,S0 r.p,S0 r.d,I0 r.t.c,I0 r.t.m,I0 r.t.q,I0 r.t.v,I0 r.t.k,I0 r.t.o,I0 r.t.n,FV na r.ns.length nc] 36)) w3.heap.size r (FV na r.ns.length nc)):=GH (heap_alloc_last _ _);have hmk:m≠k:=by have:=(G9 HI).kl;omega
    have HN:=GH (DJ (hx.next (GI w3 (FW #[I0 r.E,I0 r.z,S0 r.p,S0 r.d,I0 r.t.c,I0 r.t.m,I0 r.t.q,I0 r.t.v,I0 r.t.k,I0 r.t.o,I0 r.t.n,FV na r.ns.length nc] 36))) (DJ ((dD (G9 HI).t (G9 HI).x ht).next (GI w3 (FW #[I0 r.E,I0 r.z,S0 r.p,S0 r.d,I0 r.t.c,I0 r.t.m,I0 r.t.q,I0 r.t.v,I0 r.t.k,I0 r.t.o,I0 r.t.n,FV na r.ns.length nc] 36))) (DJ (((G9 HI).CY0 ht).trans (Touch.of_below (GI w3 (FW #[I0 r.E,I0 r.z,S0 r.p,S0 r.d,I0 r.t.c,I0 r.t.m,I0 r.t.q,I0 r.t.v,I0 r.t.k,I0 r.t.o,I0 r.t.n,FV na r.ns.length nc] 36)))) (((G9 HI).a.did (u:=FV na r.ns.length nc) (G9 HI).x hmk ht (fun g e=>⟨OJ ho.o g e,ho.o.low g e⟩)).next (GI w3 (FW #[I0 r.E,I0 r.z,S0 r.p,S0 r.d,I0 r.t.c,I0 r.t.m,I0 r.t.q,I0 r.t.v,I0 r.t.k,I0 r.t.o,I0 r.t.n,FV na r.ns.length nc] 36))))));have HU:=GH (fun g (e:(Value.slice na r.ns.length nc).ownBlock=G8 g)=>DJ (BP (G9 HI).b.size (OJ ho.o g e)) (ho.o.low g e));have HO:=GH ((ho.lower (C:=k+1) (G9 HI).x.lt).next (GI w3 (FW #[I0 r.E,I0 r.z,S0 r.p,S0 r.d,I0 r.t.c,I0 r.t.m,I0 r.t.q,I0 r.t.v,I0 r.t.k,I0 r.t.o,I0 r.t.n,FV na r.ns.length nc] 36)));have hkl:=(G9 HI).kl;clear e0 e1 e2 e3 e4 e5 e6 e7 e8 e9 e10 e11 e12 ho ht CD;unfold rpV;go_upto_region 8 with fail;generalize w3.alloc _=W2 at*;have hcq:W.heap.size<=w3.heap.size:=BP (G9 HI).b.size hsz;clear HI hx;generalize w3.heap.size=q at*;have HKS:Hid (∀V,Touch (fun b=>b=m\/(Value.slice na r.ns.length nc).ownBlock=G8 b) W2 V->V.cell? ⟨b,off+i*13,G6⟩=G8 (I0 d.k)/\V.cell? ⟨b,off+i*13+1,G6⟩=G8 (I0 d.c)/\V.cell? ⟨b,off+i*13+2,G6⟩=G8 (I0 d.s)/\V.cell? ⟨b,off+i*13+3,G6⟩=G8 (I0 d.q.o)/\V.cell? ⟨b,off+i*13+4,G6⟩=G8 (I0 d.q.s)/\V.cell? ⟨b,off+i*13+5,G6⟩=G8 (S0 d.q.p)/\V.cell? ⟨b,off+i*13+6,G6⟩=G8 (S0 d.q.d)/\V.cell? ⟨b,off+i*13+7,G6⟩=G8 (I0 d.q.v)/\V.cell? ⟨b,off+i*13+8,G6⟩=G8 (I0 d.q.f)/\V.cell? ⟨b,off+i*13+9,G6⟩=G8 (I0 d.lo)/\V.cell? ⟨b,off+i*13+10,G6⟩=G8 (I0 d.sl)/\V.cell? ⟨b,off+i*13+11,G6⟩=G8 (I0 d.ke)/\V.cell? ⟨b,off+i*13+12,G6⟩=G8 (.bool d.wt)/\V.cell? ⟨q,0,G6⟩=G8 (I0 r.E)/\V.cell? ⟨q,1,G6⟩=G8 (I0 r.z)/\V.cell? ⟨q,2,G6⟩=G8 (S0 r.p)/\V.cell? ⟨q,3,G6⟩=G8 (S0 r.d)/\V.cell? ⟨q,4,G6⟩=G8 (I0 r.t.c)/\V.cell? ⟨q,5,G6⟩=G8 (I0 r.t.m)/\V.cell? ⟨q,6,G6⟩=G8 (I0 r.t.q)/\V.cell? ⟨q,7,G6⟩=G8 (I0 r.t.v)/\V.cell? ⟨q,8,G6⟩=G8 (I0 r.t.k)/\V.cell? ⟨q,9,G6⟩=G8 (I0 r.t.o)/\V.cell? ⟨q,10,G6⟩=G8 (I0 r.t.n)/\V.cell? ⟨q,11,G6⟩=G8 (FV na r.ns.length nc)):=GH fun V hV=>by
     obtain⟨⟨e0,e1,e2,e3,e4,e5,e6⟩,e7,e8,e9,e10,e11,e12⟩:=G9 HC V (pX (G9 HN).2.2.1 hV (fun g e=>(G9 HU g e).1));obtain⟨r0,r1,r2,r3,r4,r5,r6,r7,r8,r9,r10,r11⟩:=RpX.cells (W:=V) ((hV.block q (G9 R2).lt (fun hf=>hf.elim (fun e=>by omega) (fun e=>by have:=(G9 HU q e).2;omega))).trans (G9 R2));exact⟨e0,e1,e2,e3,e4,e5,e6,e7,e8,e9,e10,e11,e12,r0,r1,r2,r3,r4,r5,r6,r7,r8,r9,r10,r11⟩
    have CK:=GH (fun V (hV:B0 W2 V)=>G9 CK0 V (FV na r.ns.length nc) ((G9 HN).1.next hV) ((G9 HO).next hV) hkl ((G9 HN).2.1.next hV) ((G9 HN).2.2.1.trans (Touch.of_below hV)) ((G9 HN).2.2.2.next hV));unfold wP ddV rpV at CK;clear CK0 HO R2 HC HN hkl;have hS0:=G9 HKS _ (Touch.of_below (AB W2.heap.size W2).drew);refine wp_region_held (S:=fun V:FX=>V.cell? ⟨b,off+i*13,G6⟩=G8 (I0 d.k)/\V.cell? ⟨b,off+i*13+1,G6⟩=G8 (I0 d.c)/\V.cell? ⟨b,off+i*13+2,G6⟩=G8 (I0 d.s)/\V.cell? ⟨b,off+i*13+3,G6⟩=G8 (I0 d.q.o)/\V.cell? ⟨b,off+i*13+4,G6⟩=G8 (I0 d.q.s)/\V.cell? ⟨b,off+i*13+5,G6⟩=G8 (S0 d.q.p)/\V.cell? ⟨b,off+i*13+6,G6⟩=G8 (S0 d.q.d)/\V.cell? ⟨b,off+i*13+7,G6⟩=G8 (I0 d.q.v)/\V.cell? ⟨b,off+i*13+8,G6⟩=G8 (I0 d.q.f)/\V.cell? ⟨b,off+i*13+9,G6⟩=G8 (I0 d.lo)/\V.cell? ⟨b,off+i*13+10,G6⟩=G8 (I0 d.sl)/\V.cell? ⟨b,off+i*13+11,G6⟩=G8 (I0 d.ke)/\V.cell? ⟨b,off+i*13+12,G6⟩=G8 (.bool d.wt)/\V.cell? ⟨q,0,G6⟩=G8 (I0 r.E)/\V.cell? ⟨q,1,G6⟩=G8 (I0 r.z)/\V.cell? ⟨q,2,G6⟩=G8 (S0 r.p)/\V.cell? ⟨q,3,G6⟩=G8 (S0 r.d)/\V.cell? ⟨q,4,G6⟩=G8 (I0 r.t.c)/\V.cell? ⟨q,5,G6⟩=G8 (I0 r.t.m)/\V.cell? ⟨q,6,G6⟩=G8 (I0 r.t.q)/\V.cell? ⟨q,7,G6⟩=G8 (I0 r.t.v)/\V.cell? ⟨q,8,G6⟩=G8 (I0 r.t.k)/\V.cell? ⟨q,9,G6⟩=G8 (I0 r.t.o)/\V.cell? ⟨q,10,G6⟩=G8 (I0 r.t.n)/\V.cell? ⟨q,11,G6⟩=G8 (FV na r.ns.length nc)) (by kernel_rfl) ?_;change wpAnyH _ _ _ _ _ _ _ _ W2.drew;refine tkH 0 hS0 ?_;refine tkH 1 hS0 ?_;refine tkH 2 hS0 ?_;refine tkH 3 hS0 ?_;refine tkH 4 hS0 ?_;refine tkH 5 hS0 ?_;refine tkH 6 hS0 ?_;refine rd1 7 (fun K hK=>?_);go_simp;refine(G9 CK _ (AB _ _).drew).mono ?_;rintro e w3 ⟨rfl,ht3,hx3⟩;have HB:=GH (DJ ((Touch.of_below (F:=fun b=>b=m\/(Value.slice na r.ns.length nc).ownBlock=G8 b) (AB W2.heap.size W2).drew).trans ht3) hx3);have hS1:=G9 HKS _ (G9 HB).1;clear ht3 hx3;refine nxH hK hS1 ?_;clear hK K;refine tkH 8 hS1 ?_;refine wpAnyH_done (by kernel_rfl) ?_ _;go_wp2_with fail
    go_roundg (min ds.length 100-(i+1))
    case measure=>omega
    case rel=>exact⟨i+1,by simp,by omega,AA _,GH (by rw[G9 HS];exact(G9 HB).2)⟩
   .obtain rfl:i=100:=by omega
    have hl1:((100:Nat):Int)<(ds.length:Int):=by omega
    have HF:=HI;clear HI;go_wp2_with fail;exact bodyPost_ret (v:=.tuple #[P0 k,.bool true]) (by simp[results,results5,go_sem]) rfl ⟨k,rfl,(G9 HF).b⟩
  .obtain rfl:i=ds.length:=by omega
   have HF:=HI;have hle:ds.length<=100:=by omega
   rw[show ds.take ds.length=ds.take 100 by rw[BO (AA _),BO hle]]at HF;clear HI;go_wp2_with fail;exact bodyPost_ret (v:=.tuple #[P0 k,.bool true]) (by simp[results,results5,go_sem]) rfl ⟨k,rfl,(G9 HF).b⟩
structure LB(w W:FX)(d:Dd)(r:Rp)(u:FZ):Prop where
 b:Below w.heap.size w W
 d:JU W w.heap.size d
 r:RpX W (w.heap.size+1) r u
theorem LB.start(w:FX)(d:Dd)(r:Rp)(u:FZ):LB w ((w.alloc (FW #[.int .i64 d.k,.int .i64 d.c,.int .i64 d.s,.int .i64 d.q.o,.int .i64 d.q.s,.string ⟨d.q.p.toArray⟩,.string ⟨d.q.d.toArray⟩,.int .i64 d.q.v,.int .i64 d.q.f,.int .i64 d.lo,.int .i64 d.sl,.int .i64 d.ke,.bool d.wt] 30)).alloc (FW #[.int .i64 r.E,.int .i64 r.z,.string ⟨r.p.toArray⟩,.string ⟨r.d.toArray⟩,.int .i64 r.t.c,.int .i64 r.t.m,.int .i64 r.t.q,.int .i64 r.t.v,.int .i64 r.t.k,.int .i64 r.t.o,.int .i64 r.t.n,u] 36)) d r u:=by
 refine⟨GK (GI _ _) (GI _ _),?_,cO _ _ _⟩;exact JU.XV (heap_alloc_new w _:JU (w.alloc _) w.heap.size d) (GI _ _) (by simp)
structure SB2(w W:FX)(up:Bool)(vd:FZ)(id ep:Int)(vl:FZ)(dn z:Int)(vn vs vw:FZ):Prop where
 below:B0 w W
 s:IB W (w.heap.size+1) up vd id ep vl dn z vn vs vw
 r:IB W w.heap.size false (N0) 0 0 (N0) 0 0 (N0) (N0) (N0)
section
variable {w W V:FX} {up:Bool} {id ep dn z:Int} {vd vl vn vs vw:FZ}
theorem SB2.next(h:SB2 w W up vd id ep vl dn z vn vs vw)(hb:B0 W V):SB2 w V up vd id ep vl dn z vn vs vw:=⟨GK h.below hb,h.s.next hb,h.r.next hb⟩
theorem SB2.put(h:SB2 w W up vd id ep vl dn z vn vs vw)(j:Nat)(u:FZ){vd' vl' vn' vs' vw':FZ}(e:(#[.bool up,vd,I0 id,I0 ep,vl,I0 dn,I0 z,vn,vs,vw]:Array FZ).setIfInBounds j u=#[.bool up,vd',I0 id,I0 ep,vl',I0 dn,I0 z,vn',vs',vw']):SB2 w (W.setCell ⟨w.heap.size+1,j,G6⟩ u) up vd' id ep vl' dn z vn' vs' vw':=by
 refine⟨h.below.setCell (by simp) u,?_,h.r.other (by omega)⟩;unfold IB;rw[GY u h.s,e]
theorem SB2.start(w:FX)(up:Bool)(id ep dn z:Int)(vd vl vn vs vw:FZ):SB2 w ((w.alloc (FW #[.bool false,N0,I0 0,I0 0,N0,I0 0,I0 0,N0,N0,N0] 55)).alloc (FW #[.bool up,vd,I0 id,I0 ep,vl,I0 dn,I0 z,vn,vs,vw] 55)) up vd id ep vl dn z vn vs vw:=by
 have h:=IB.new (w.alloc (FW #[.bool false,N0,I0 0,I0 0,N0,I0 0,I0 0,N0,N0,N0] 55)) up id ep dn z vd vl vn vs vw;rw[show (w.alloc (FW #[.bool false,N0,I0 0,I0 0,N0,I0 0,I0 0,N0,N0,N0] 55)).heap.size=w.heap.size+1 by simp]at h;exact⟨GK (GI _ _) (GI _ _),h,(IB.new w false 0 0 0 0 _ _ _ _ _).next (GI _ _)⟩
end
structure CT5(s:Sv):Prop where
 d:s.fs.length<=400
 l:s.ts.length<=400
 n:s.tr.ns.length<=400
 i:s.tr.ss.length<=2147483647
 w:s.ws.length<=400
theorem MP.few{q:Ps}(ok:MP 300 q):CT5 (svP i q):=by
 have h2:=ok.small.2;have he:∀ (e:Int) (x:DF),(epD e++[x]).length<=400:=fun e x=>by simp only[epD];split<;>simp
 cases hu:q.up with
 |true=>
  have g:=ok.play.good ok.dn;have hw:=ok.wl;rw[J5 hu];exact⟨he _ _,by show q.m.length<=400;omega,by show (SK q.m q.dn).ns.length<=400;exact g.nod.few,TW g.ses,by show q.ws.length<=400;omega⟩
 |false=>
  rw[SN hu];exact⟨he _ _,AZ _,by show QW.ns.length<=400;decide,by show QW.ss.length<=2147483647;decide,AZ _⟩
def BD3(w:FX)(s:Sv)(e:Ending)(w':FX):Prop:=
 ∃ad cd al cl an cn ai ci aw cw,e=.returned (.agg #[.bool s.up,FV ad s.fs.length cd,I0 s.id,I0 s.ep,FV al s.ts.length cl,I0 s.dn,I0 s.tr.z,FV an s.tr.ns.length cn,FV ai s.tr.ss.length ci,FV aw s.ws.length cw])/\
  I5 w' w.heap.size (FV ad s.fs.length cd) s.fs/\I5 w' w.heap.size (FV al s.ts.length cl) s.ts/\I5 w' w.heap.size (FV an s.tr.ns.length cn) s.tr.ns/\I5 w' w.heap.size (FV ai s.tr.ss.length ci) s.tr.ss/\I5 w' w.heap.size (FV aw s.ws.length cw) s.ws/\B0 w w'
theorem pY(p:Pw)(k i:Nat)(W:FX)(hx:WX W k p)(hi:i<3)(s:Sv)(hs:svP i (p.s i)=s)(hf:CT5 s):
  G5 prog 9 #[wP k,I0 i] W (BD3 W s):=by
 obtain⟨ad,nd,cd,al,cl,an,cn,ai,ci,aw,cw,S0,hv,_⟩:=hx.srv hi hs;obtain⟨vd,vl,vn,vs,vw,he,d1,l1,n1,s1,k1⟩:=hv;simp only[Value.agg.injEq,Array.mk.injEq,List.cons.injEq,true_and,and_true]at he;obtain⟨rfl,rfl,rfl,rfl,rfl⟩:=he;have hk0:=hx.lt;have HD:=GH (fun V (hV:B0 W V)=>B00 _ s.fs V (OU.2 (d1.next hV)) (by have:=hf.d;omega));have HL:=GH (fun V (hV:B0 W V)=>rD _ s.ts V (MJ.2 (l1.next hV)) (by have:=hf.l;omega));have HN:=GH (fun V (hV:B0 W V)=>B01 _ s.tr.ns V (n1.next hV) (by have:=hf.n;omega));have HI:=GH (fun V (hV:B0 W V)=>dX _ s.tr.ss V (s1.next hV) hf.i);have HW:=GH (fun V (hV:B0 W V)=>B02 _ s.ws V (k1.next hV) (by have:=hf.w;omega));have HS:=GH (fun V (hV:B0 W V)=>S0.next hk0 hV);have CC:=Y0 i 3;rw[show l7 i 3=true by simp[l7];omega]at CC;clear d1 l1 n1 s1 k1 hf hx hs S0;obtain⟨up,fs,id,ep,ts,dn,⟨tz,tns,tss⟩,ws⟩:=s;simp only[DL 10 i]at*;have hi4:(i:Int)<3:=by omega
 have hi5:(0:Int)<=i:=by omega
 unfold wP;go_enter func9,ntmps9;go_wp2_with fail;refine(CC _).mono ?_;rintro e w1 ⟨rfl,rfl⟩;obtain⟨c0,c1,c2,c3,c4,c5,c6,c7,c8,c9⟩:=G9 HS _ (GI W (FW #[.bool false,N0,I0 0,I0 0,N0,I0 0,I0 0,N0,N0,N0] 55));clear CC HS;go_upto_region 4 with fail;clear c0 c1 c2 c3 c4 c5 c6 c7 c8 c9;have X0:=SB2.start W up id ep dn tz (FV ad nd cd) (FV al ts.length cl) (FV an tns.length cn) (FV ai tss.length ci) (FV aw ws.length cw);generalize ((W.alloc (FW #[.bool false,N0,I0 0,I0 0,N0,I0 0,I0 0,N0,N0,N0] 55)).alloc _)=V0 at*;have HX0:=GH X0;obtain⟨x0,x1,x2,x3,x4,x5,x6,x7,x8,x9⟩:=X0.s.cells;clear X0 hi4 hi5 hi hk0;go_wp2_with fail;refine(G9 HD _ (G9 HX0).below).mono ?_;rintro e w1 ⟨v1,rfl,o1,hb1⟩;obtain⟨a1,c1,rfl,_⟩:=o1.slice;have z1:W.heap.size+2<=V0.heap.size:=(G9 HX0).s.lt;have X1:=(G9 HX0).next hb1;have Y1:=X1.put 1 (FV a1 fs.length c1) rfl;have y:=(X1.s.cells);have g1:=X1.s.H6 1;have O1:=GH (IZ (j:=1) (u:=FV a1 fs.length c1) (o1.lower z1) (by omega:W.heap.size+1<_));clear X1 o1 hb1 z1 HX0 HD x0 x1 x2 x3 x4 x5 x6 x7 x8 x9;obtain⟨x0,x1,x2,x3,x4,x5,x6,x7,x8,x9⟩:=y;have HX1:=GH Y1;clear Y1;go_upto_region 5 with fail;generalize w1.setCell ⟨W.heap.size+1,1,G6⟩ (FV a1 fs.length c1)=V1 at*;clear x0 x1 x2 x3 x4 x5 x6 x7 x8 x9 g1;obtain⟨x0,x1,x2,x3,x4,x5,x6,x7,x8,x9⟩:=(G9 HX1).s.cells;go_wp2_with fail;refine(G9 HL _ (G9 HX1).below).mono ?_;rintro e w2 ⟨v2,rfl,o2,hb2⟩;obtain⟨a2,c2,rfl,_⟩:=o2.slice;have z2:W.heap.size+2<=V1.heap.size:=(G9 HX1).s.lt;have X2:=(G9 HX1).next hb2;have Y2:=X2.put 4 (FV a2 ts.length c2) rfl;have y:=(X2.s.cells);have g2:=X2.s.H6 4;replace O1:=GH (IZ (j:=4) (u:=FV a2 ts.length c2) ((G9 O1).next hb2) (by omega:W.heap.size+1<_));have O2:=GH (IZ (j:=4) (u:=FV a2 ts.length c2) (o2.lower z2) (by omega:W.heap.size+1<_));clear X2 o2 hb2 z2 HX1 HL x0 x1 x2 x3 x4 x5 x6 x7 x8 x9;obtain⟨x0,x1,x2,x3,x4,x5,x6,x7,x8,x9⟩:=y;have HX2:=GH Y2;clear Y2;go_upto_region 6 with fail;generalize w2.setCell ⟨W.heap.size+1,4,G6⟩ (FV a2 ts.length c2)=V2 at*;clear x0 x1 x2 x3 x4 x5 x6 x7 x8 x9 g2;obtain⟨x0,x1,x2,x3,x4,x5,x6,x7,x8,x9⟩:=(G9 HX2).s.cells;go_wp2_with fail;refine(G9 HN _ (G9 HX2).below).mono ?_;rintro e w3 ⟨v3,rfl,o3,hb3⟩;obtain⟨a3,c3,rfl,_⟩:=o3.slice;have z3:W.heap.size+2<=V2.heap.size:=(G9 HX2).s.lt;have X3:=(G9 HX2).next hb3;have Y3:=X3.put 7 (FV a3 tns.length c3) rfl;have y:=(X3.s.cells);have g3:=X3.s.H6 7;replace O1:=GH (IZ (j:=7) (u:=FV a3 tns.length c3) ((G9 O1).next hb3) (by omega:W.heap.size+1<_));replace O2:=GH (IZ (j:=7) (u:=FV a3 tns.length c3) ((G9 O2).next hb3) (by omega:W.heap.size+1<_));have O3:=GH (IZ (j:=7) (u:=FV a3 tns.length c3) (o3.lower z3) (by omega:W.heap.size+1<_));clear X3 o3 hb3 z3 HX2 HN x0 x1 x2 x3 x4 x5 x6 x7 x8 x9;obtain⟨x0,x1,x2,x3,x4,x5,x6,x7,x8,x9⟩:=y;have HX3:=GH Y3;clear Y3;go_upto_region 7 with fail;generalize w3.setCell ⟨W.heap.size+1,7,G6⟩ (FV a3 tns.length c3)=V3 at*;clear x0 x1 x2 x3 x4 x5 x6 x7 x8 x9 g3;obtain⟨x0,x1,x2,x3,x4,x5,x6,x7,x8,x9⟩:=(G9 HX3).s.cells;go_wp2_with fail;refine(G9 HI _ (G9 HX3).below).mono ?_;rintro e w4 ⟨v4,rfl,o4,hb4⟩;obtain⟨a4,c4,rfl,_⟩:=o4.slice;have z4:W.heap.size+2<=V3.heap.size:=(G9 HX3).s.lt;have X4:=(G9 HX3).next hb4;have Y4:=X4.put 8 (FV a4 tss.length c4) rfl;have y:=(X4.s.cells);have g4:=X4.s.H6 8;replace O1:=GH (IZ (j:=8) (u:=FV a4 tss.length c4) ((G9 O1).next hb4) (by omega:W.heap.size+1<_));replace O2:=GH (IZ (j:=8) (u:=FV a4 tss.length c4) ((G9 O2).next hb4) (by omega:W.heap.size+1<_));replace O3:=GH (IZ (j:=8) (u:=FV a4 tss.length c4) ((G9 O3).next hb4) (by omega:W.heap.size+1<_));have O4:=GH (IZ (j:=8) (u:=FV a4 tss.length c4) (o4.lower z4) (by omega:W.heap.size+1<_));clear X4 o4 hb4 z4 HX3 HI x0 x1 x2 x3 x4 x5 x6 x7 x8 x9;obtain⟨x0,x1,x2,x3,x4,x5,x6,x7,x8,x9⟩:=y;have HX4:=GH Y4;clear Y4;go_upto_region 8 with fail;generalize w4.setCell ⟨W.heap.size+1,8,G6⟩ (FV a4 tss.length c4)=V4 at*;clear x0 x1 x2 x3 x4 x5 x6 x7 x8 x9 g4;obtain⟨x0,x1,x2,x3,x4,x5,x6,x7,x8,x9⟩:=(G9 HX4).s.cells
 go_wp2_with fail;refine(G9 HW _ (G9 HX4).below).mono ?_;rintro e w5 ⟨v5,rfl,o5,hb5⟩;obtain⟨a5,c5,rfl,_⟩:=o5.slice;have z5:W.heap.size+2<=V4.heap.size:=(G9 HX4).s.lt;have X5:=(G9 HX4).next hb5;have Y5:=X5.put 9 (FV a5 ws.length c5) rfl;have y:=(X5.s.cells);have g5:=X5.s.H6 9;replace O1:=GH (IZ (j:=9) (u:=FV a5 ws.length c5) ((G9 O1).next hb5) (by omega:W.heap.size+1<_));replace O2:=GH (IZ (j:=9) (u:=FV a5 ws.length c5) ((G9 O2).next hb5) (by omega:W.heap.size+1<_));replace O3:=GH (IZ (j:=9) (u:=FV a5 ws.length c5) ((G9 O3).next hb5) (by omega:W.heap.size+1<_));replace O4:=GH (IZ (j:=9) (u:=FV a5 ws.length c5) ((G9 O4).next hb5) (by omega:W.heap.size+1<_));have O5:=GH (IZ (j:=9) (u:=FV a5 ws.length c5) (o5.lower z5) (by omega:W.heap.size+1<_));clear X5 o5 hb5 z5 HX4 HW x0 x1 x2 x3 x4 x5 x6 x7 x8 x9;obtain⟨x0,x1,x2,x3,x4,x5,x6,x7,x8,x9⟩:=y;have HX5:=GH Y5;clear Y5;go_upto_region 9 with fail;generalize w5.setCell ⟨W.heap.size+1,9,G6⟩ (FV a5 ws.length c5)=V5 at*;clear x0 x1 x2 x3 x4 x5 x6 x7 x8 x9 g5;obtain⟨x0,x1,x2,x3,x4,x5,x6,x7,x8,x9⟩:=(G9 HX5).s.cells;obtain⟨r0,r1,r2,r3,r4,r5,r6,r7,r8,r9⟩:=(G9 HX5).r.cells;have rf0:=(G9 HX5).r.H6 0;have rf1:=(G9 HX5).r.H6 1;have rf2:=(G9 HX5).r.H6 2;have rf3:=(G9 HX5).r.H6 3;have rf4:=(G9 HX5).r.H6 4;have rf5:=(G9 HX5).r.H6 5;have rf6:=(G9 HX5).r.H6 6;have rf7:=(G9 HX5).r.H6 7;have rf8:=(G9 HX5).r.H6 8;have rf9:=(G9 HX5).r.H6 9;have HF:=GH (JE (G9 HX5).below (AA _) (.bool up) (FV a1 fs.length c1) (I0 id) (I0 ep) (FV a2 ts.length c2) (I0 dn) (I0 tz) (FV a3 tns.length c3) (FV a4 tss.length c4) (FV a5 ws.length c5));have Q1:=GH ((OM (G9 O1) (by omega:W.heap.size<_) (.bool up) (FV a1 fs.length c1) (I0 id) (I0 ep) (FV a2 ts.length c2) (I0 dn) (I0 tz) (FV a3 tns.length c3) (FV a4 tss.length c4) (FV a5 ws.length c5)).lower (Nat.le_add_right _ 2));have Q2:=GH ((OM (G9 O2) (by omega:W.heap.size<_) (.bool up) (FV a1 fs.length c1) (I0 id) (I0 ep) (FV a2 ts.length c2) (I0 dn) (I0 tz) (FV a3 tns.length c3) (FV a4 tss.length c4) (FV a5 ws.length c5)).lower (Nat.le_add_right _ 2));have Q3:=GH ((OM (G9 O3) (by omega:W.heap.size<_) (.bool up) (FV a1 fs.length c1) (I0 id) (I0 ep) (FV a2 ts.length c2) (I0 dn) (I0 tz) (FV a3 tns.length c3) (FV a4 tss.length c4) (FV a5 ws.length c5)).lower (Nat.le_add_right _ 2));have Q4:=GH ((OM (G9 O4) (by omega:W.heap.size<_) (.bool up) (FV a1 fs.length c1) (I0 id) (I0 ep) (FV a2 ts.length c2) (I0 dn) (I0 tz) (FV a3 tns.length c3) (FV a4 tss.length c4) (FV a5 ws.length c5)).lower (Nat.le_add_right _ 2));have Q5:=GH ((OM (G9 O5) (by omega:W.heap.size<_) (.bool up) (FV a1 fs.length c1) (I0 id) (I0 ep) (FV a2 ts.length c2) (I0 dn) (I0 tz) (FV a3 tns.length c3) (FV a4 tss.length c4) (FV a5 ws.length c5)).lower (Nat.le_add_right _ 2));clear O1 O2 O3 O4 O5 HX5;go_wp2_with fail;exact bodyPost_ret (v:=.agg #[.bool up,FV a1 fs.length c1,I0 id,I0 ep,FV a2 ts.length c2,I0 dn,I0 tz,FV a3 tns.length c3,FV a4 tss.length c4,FV a5 ws.length c5]) (by simp[results,results9,go_sem,r0,r1,r2,r3,r4,r5,r6,r7,r8,r9]) rfl ⟨a1,c1,a2,c2,a3,c3,a4,c4,a5,c5,rfl,G9 Q1,G9 Q2,G9 Q3,G9 Q4,G9 Q5,G9 HF⟩
theorem AR6(t:Tr)(vn vs un us:FZ)(w:FX)(hn:IV w vn t.ns)(hs:IV w vs t.ss)(gn:IV w un t.ns)(gs:IV w us t.ss)(hl:t.ns.length<=140737488355328)(hls:t.ss.length<=140737488355328):
  G5 prog 28 #[.agg #[I0 t.z,vn,vs],.agg #[I0 t.z,un,us]] w (R0 w (.bool true)):=by
 have K:∀ {α:Type} [Lay α] (v:FZ) (xs:List α),IV w v xs->∀W,B0 w W->∀ (i:Nat) (x:α),xs[i]?=G8 x->∃b off c,v=FV (G8 ⟨b,off,G6⟩) xs.length c/\b<w.heap.size/\II W b off (GL xs):=by
  intro α _ v xs hv W hW i x hx;obtain⟨b,off,c,e,hb,hr,_,_⟩:=N8 hv (by intro h0;rw[h0]at hx;simp at hx);exact⟨b,off,c,e,hb,hr.kept hW hb⟩
 have K1:=GH (K vn t.ns hn);have K2:=GH (K un t.ns gn);have K3:=GH (K vs t.ss hs);have K4:=GH (K us t.ss gs);have T0:=GH (TT.new w t.z vn vs un us);obtain⟨na,nc,rfl⟩:=GU hn;obtain⟨sa,sc,rfl⟩:=GU hs;obtain⟨ma,mc,rfl⟩:=GU gn;obtain⟨ra,rc,rfl⟩:=GU gs;clear hn hs gn gs K;go_enter func28,ntmps28;go_wp2_with fail
 go_loopg [5] t.ns.length (fun kx s5 wr=>∃k:Nat,s5=I0 k/\k<=t.ns.length/\t.ns.length-k<=kx/\Hid (TT w wr t.z (FV na t.ns.length nc) (FV sa t.ss.length sc) (FV ma t.ns.length mc) (FV ra t.ss.length rc)))
 case atStart=>exact⟨0,rfl,AZ _,AA _,T0⟩
 case round=>
  obtain⟨k,rfl,hk,hg,hT⟩:=hrel;obtain⟨c0,c1,c2,c3,c4,c5⟩:=(G9 hT).six;have hsz:=(G9 hT).bl.size;by_cases hlt:k<t.ns.length
  .obtain⟨x,hx⟩:∃x,t.ns[k]?=G8 x:=⟨_,AO hlt⟩;obtain⟨b1,o1,cc1,he,hb1,q1⟩:=G9 K1 wr (G9 hT).bl k x hx;simp only[AQ]at he;obtain⟨rfl,_,rfl⟩:=he;obtain⟨b2,o2,cc2,he,hb2,q2⟩:=G9 K2 wr (G9 hT).bl k x hx;simp only[AQ]at he;obtain⟨rfl,_,rfl⟩:=he;have d0:=q1.n0 hx;have d1:=q1.n1 hx;have d2:=q1.n2 hx;have d3:=q1.n3 hx;have d4:=q1.n4 hx;have d5:=q1.n5 hx;have d6:=q1.n6 hx;have d7:=q1.n7 hx;have d8:=q1.n8 hx;have r0:=q2.n0 hx;have r1:=q2.n1 hx;have r2:=q2.n2 hx;have r3:=q2.n3 hx;have r4:=q2.n4 hx;have r5:=q2.n5 hx;have r6:=q2.n6 hx;have r7:=q2.n7 hx;have r8:=q2.n8 hx;clear q1 q2 hx;go_wp2_with fail;go_region;go_wp2_with fail
   go_roundg (t.ns.length-(k+1))
   case measure=>omega
   case rel=>exact⟨k+1,rfl,by omega,AA _,GH ((G9 hT).next (AB _ _).drew)⟩
  .obtain rfl:k=t.ns.length:=by omega
   go_wp2_with fail
   go_loopg [6] t.ss.length (fun kx s6 wr=>∃k:Nat,s6=I0 k/\k<=t.ss.length/\t.ss.length-k<=kx/\Hid (TT w wr t.z (FV na t.ns.length nc) (FV sa t.ss.length sc) (FV ma t.ns.length mc) (FV ra t.ss.length rc)))
   case atStart=>exact⟨0,rfl,AZ _,AA _,hT⟩
   case round=>
    obtain⟨k,rfl,hk,hg,hT⟩:=hrel;obtain⟨c0,c1,c2,c3,c4,c5⟩:=(G9 hT).six;by_cases hlt:k<t.ss.length
    .obtain⟨x,hx⟩:∃x,t.ss[k]?=G8 x:=⟨_,AO hlt⟩;obtain⟨b1,o1,cc1,he,hb1,q1⟩:=G9 K3 wr (G9 hT).bl k x hx;simp only[AQ]at he;obtain⟨rfl,_,rfl⟩:=he;obtain⟨b2,o2,cc2,he,hb2,q2⟩:=G9 K4 wr (G9 hT).bl k x hx;simp only[AQ]at he;obtain⟨rfl,_,rfl⟩:=he;have d0:=q1.i0 hx;have r0:=q2.i0 hx;clear q1 q2 hx;go_wp2_with fail;go_region;go_wp2_with fail
     go_roundg (t.ss.length-(k+1))
     case measure=>omega
     case rel=>exact⟨k+1,rfl,by omega,AA _,GH ((G9 hT).next (AB _ _).drew)⟩
    .obtain rfl:k=t.ss.length:=by omega
     go_wp2_with fail;go_ret;exact⟨rfl,(G9 hT).bl⟩
theorem tV{w:FX}{ts:List GV}(hv:NQ w v ts):(∃a c,v=FV a 0 c/\ts=[])\/∃b off c,v=FV (G8 ⟨b,off,G6⟩) ts.length c/\b<w.heap.size/\II w b off (KF ts)/\ts≠[]:=by
 rcases hv with⟨a,cap,rfl,rfl,_⟩|⟨b,off,cap,rfl,_,_,hb,h0,hr⟩
 .exact .inl ⟨a,cap,rfl,rfl⟩
 .exact .inr ⟨b,off,cap,rfl,hb,hr,h0⟩
theorem BV0(a a':Option Addr)(c c':Nat)(w:FX):
  G5 prog 14 #[FV a 0 c,FV a' 0 c'] w (R0 w (.bool true)):=by
 go_enter func14,ntmps14;go_wp2_with fail
 go_loopg [5] 1 (fun _ s wr=>s=I0 0/\wr=w)
 case atStart=>exact⟨rfl,rfl⟩
 case round=>
  obtain⟨rfl,rfl⟩:=hrel;go_wp2_with fail;go_ret;exact⟨rfl,AB _ _⟩
theorem BV1(b off c b' off' c':Nat)(ts:List GV)(w:FX)(hl:ts.length<=1000000)(hr:II w b off (KF ts))(hr':II w b' off' (KF ts)):
  G5 prog 14 #[FV (G8 ⟨b,off,G6⟩) ts.length c,FV (G8 ⟨b',off',G6⟩) ts.length c'] w (R0 w (.bool true)):=by
 have HR:=GH hr;have HR':=GH hr';clear hr hr';go_enter func14,ntmps14;go_wp2_with fail
 go_loopg [5] ts.length (fun kx s wr=>∃ (k:Nat) (q:Nat),s=I0 k/\k<=ts.length/\ts.length-k<=kx/\wr=w.drewN q)
 case atStart=>exact⟨0,0,rfl,AZ _,by omega,rfl⟩
 case round=>
  obtain⟨k,q,rfl,hk,hkx,rfl⟩:=hrel;by_cases hlt:k<ts.length
  .obtain⟨t,ht⟩:∃t,ts[k]?=G8 t:=⟨_,AO hlt⟩;have r:=G9 HR;have e0:=r.z ht;have e1:=r.o ht;have e2:=r.s ht;have e3:=r.p ht;have e4:=r.d ht;have e5:=r.v ht;have e6:=r.w ht;have r':=G9 HR';have e0':=r'.z ht;have e1':=r'.o ht;have e2':=r'.s ht;have e3':=r'.p ht;have e4':=r'.d ht;have e5':=r'.v ht;have e6':=r'.w ht;have vT:(k:Int)<(ts.length:Int):=by omega
   clear r r' ht;go_wp2_with fail;go_region;go_wp2_with fail
   go_roundg (ts.length-(k+1))
   case measure=>omega
   case rel=>exact⟨k+1,q+1,rfl,by omega,AA _,rfl⟩
  .have hki:¬ ((k:Int)<(ts.length:Int)):=by omega
   go_wp2_with fail;go_ret;exact⟨rfl,⟨rfl,rfl,rfl,AA _,fun _ _=>rfl⟩⟩
theorem BD4(v v':FZ)(ts:List GV)(w:FX)(hl:ts.length<=1000000)(hv:NQ w v ts)(hv':NQ w v' ts):
  G5 prog 14 #[v,v'] w (R0 w (.bool true)):=by
 rcases tV hv with⟨a,c,rfl,h0⟩|⟨b,off,c,rfl,hb,hr,h0⟩
 .rcases tV hv' with⟨a',c',rfl,_⟩|⟨b',off',c',rfl,hb',hr',h0'⟩
  .exact BV0 a a' c c' w
  .exact absurd h0 h0'
 .rcases tV hv' with⟨a',c',rfl,h0'⟩|⟨b',off',c',rfl,hb',hr',h0'⟩
  .exact absurd h0' h0
  .exact BV1 b off c b' off' c' ts w hl hr hr'
theorem V9{α:Type}[Lay α]{w:FX}{xs:List α}(hv:IV w v xs):∀W,B0 w W->∀ (i:Nat) (x:α),xs[i]?=G8 x->∃b off c,v=FV (G8 ⟨b,off,G6⟩) xs.length c/\b<w.heap.size/\∀ (j:Nat) (u:FZ),j<Lay.k α->(Lay.cs x)[j]?=G8 u->W.cell? ⟨b,off+i*Lay.k α+j,G6⟩=G8 u:=by
 intro W hW i x hx;obtain⟨b,off,c,e,hb,hr,_,_⟩:=N8 hv (by intro h0;rw[h0]at hx;simp at hx);refine⟨b,off,c,e,hb,fun j u hj hu=>?_⟩;have:=hr.kept hW hb (i*Lay.k α+j) u ((GZ xs i x hx j hj).trans hu);rwa[<-EM]at this
structure SS(w W:FX)(up:Bool)(vd:FZ)(id ep:Int)(vl:FZ)(dn z:Int)(vn vs vw ud ul un us uw:FZ):Prop where
 a:IB W w.heap.size up vd id ep vl dn z vn vs vw
 b:IB W (w.heap.size+1) up ud id ep ul dn z un us uw
 bl:B0 w W
section
variable {w W V:FX} {up:Bool} {id ep dn z:Int} {vd vl vn vs vw ud ul un us uw:FZ}
theorem SS.next(h:SS w W up vd id ep vl dn z vn vs vw ud ul un us uw)(hb:B0 W V):SS w V up vd id ep vl dn z vn vs vw ud ul un us uw:=⟨h.a.next hb,h.b.next hb,GK h.bl hb⟩
theorem SS.new(w:FX)(up:Bool)(id ep dn z:Int)(vd vl vn vs vw ud ul un us uw:FZ):SS w ((w.alloc (FW #[.bool up,vd,I0 id,I0 ep,vl,I0 dn,I0 z,vn,vs,vw] 55)).alloc (FW #[.bool up,ud,I0 id,I0 ep,ul,I0 dn,I0 z,un,us,uw] 55)) up vd id ep vl dn z vn vs vw ud ul un us uw:=by
 have h:=IB.new (w.alloc (FW #[.bool up,vd,I0 id,I0 ep,vl,I0 dn,I0 z,vn,vs,vw] 55)) up id ep dn z ud ul un us uw;rw[show (w.alloc (FW #[.bool up,vd,I0 id,I0 ep,vl,I0 dn,I0 z,vn,vs,vw] 55)).heap.size=w.heap.size+1 by simp]at h;exact⟨(IB.new w up id ep dn z vd vl vn vs vw).next (GI _ _),h,GK (GI _ _) (GI _ _)⟩
theorem SS.cells(h:SS w W up vd id ep vl dn z vn vs vw ud ul un us uw):(W.cell? ⟨w.heap.size,0,G6⟩=G8 (.bool up)/\W.cell? ⟨w.heap.size,1,G6⟩=G8 vd/\W.cell? ⟨w.heap.size,2,G6⟩=G8 (I0 id)/\W.cell? ⟨w.heap.size,3,G6⟩=G8 (I0 ep)/\W.cell? ⟨w.heap.size,4,G6⟩=G8 vl/\W.cell? ⟨w.heap.size,5,G6⟩=G8 (I0 dn)/\W.cell? ⟨w.heap.size,6,G6⟩=G8 (I0 z)/\W.cell? ⟨w.heap.size,7,G6⟩=G8 vn/\W.cell? ⟨w.heap.size,8,G6⟩=G8 vs/\W.cell? ⟨w.heap.size,9,G6⟩=G8 vw)/\W.cell? ⟨w.heap.size+1,0,G6⟩=G8 (.bool up)/\W.cell? ⟨w.heap.size+1,1,G6⟩=G8 ud/\W.cell? ⟨w.heap.size+1,2,G6⟩=G8 (I0 id)/\W.cell? ⟨w.heap.size+1,3,G6⟩=G8 (I0 ep)/\W.cell? ⟨w.heap.size+1,4,G6⟩=G8 ul/\W.cell? ⟨w.heap.size+1,5,G6⟩=G8 (I0 dn)/\W.cell? ⟨w.heap.size+1,6,G6⟩=G8 (I0 z)/\W.cell? ⟨w.heap.size+1,7,G6⟩=G8 un/\W.cell? ⟨w.heap.size+1,8,G6⟩=G8 us/\W.cell? ⟨w.heap.size+1,9,G6⟩=G8 uw:=⟨h.a.cells,h.b.cells⟩
end
theorem A67(s:Sv)(v1 v2:FZ)(w:FX)(hf:CT5 s)(h1:SvV w v1 s)(h2:SvV w v2 s):
  G5 prog 10 #[v1,v2] w (R0 w (.bool true)):=by
 obtain⟨ad,nd,cd,al,cl,an,cn,ai,ci,aw,cw,rfl,d1,l1,n1,s1,k1⟩:=h1.five;obtain⟨bd,md,ed,bl,el,bn,en,bi,ei,bw,ew,rfl,d2,l2,n2,s2,k2⟩:=h2.five;have q1:=OU.2 d1;have q2:=OU.2 d2;obtain⟨_,_,e1⟩:=GU q1;obtain⟨_,_,e2⟩:=GU q2;simp only[AQ]at e1 e2;have em1:nd=s.fs.length:=e1.2.1;have em2:md=s.fs.length:=e2.2.1;subst em1;obtain rfl:=em2;clear e1 e2;have CL:=GH (fun W (hW:B0 w W)=>BD4 _ _ s.ts W (by have:=hf.l;omega) (l1.next hW) (l2.next hW));have CT:=GH (fun W (hW:B0 w W)=>AR6 s.tr _ _ _ _ W (n1.next hW) (s1.next hW) (n2.next hW) (s2.next hW) (by have:=hf.n;omega) (by have:=hf.i;omega));have K1:=GH (V9 q1);have K2:=GH (V9 q2);have K3:=GH (V9 k1);have K4:=GH (V9 k2);have hfd:=hf.d;have hfw:=hf.w;clear h1 h2 d1 d2 l1 l2 n1 n2 s1 s2 k1 k2 hf q1 q2;obtain⟨up,fs,id,ep,ts,dn,tr,ws⟩:=s;simp only at*;go_enter func10,ntmps10;go_upto_region 1 with fail;have HS0:=GH (SS.new w up id ep dn tr.z (FV ad fs.length cd) (FV al ts.length cl) (FV an tr.ns.length cn) (FV ai tr.ss.length ci) (FV aw ws.length cw) (FV bd fs.length ed) (FV bl ts.length el) (FV bn tr.ns.length en) (FV bi tr.ss.length ei) (FV bw ws.length ew));generalize ((w.alloc _).alloc _)=W0 at*;obtain⟨⟨x0,x1,x2,x3,x4,x5,x6,x7,x8,x9⟩,y0,y1,y2,y3,y4,y5,y6,y7,y8,y9⟩:=(G9 HS0).cells;go_wp2_with fail;refine(G9 CL _ (G9 HS0).bl).mono ?_;rintro e w1 ⟨rfl,hb1⟩;have HS1:=GH ((G9 HS0).next hb1);clear x0 y0 x1 y1 x2 y2 x3 y3 x4 y4 x5 y5 x6 y6 x7 y7 x8 y8 x9 y9 hb1 HS0 CL;obtain⟨⟨x0,x1,x2,x3,x4,x5,x6,x7,x8,x9⟩,y0,y1,y2,y3,y4,y5,y6,y7,y8,y9⟩:=(G9 HS1).cells;go_wp2_with fail;refine(G9 CT _ (G9 HS1).bl).mono ?_;rintro e w2 ⟨rfl,hb2⟩;have HS:=GH ((G9 HS1).next hb2);clear x0 y0 x1 y1 x2 y2 x3 y3 x4 y4 x5 y5 x6 y6 x7 y7 x8 y8 x9 y9 hb2 HS1 CT;obtain⟨⟨x0,x1,x2,x3,x4,x5,x6,x7,x8,x9⟩,y0,y1,y2,y3,y4,y5,y6,y7,y8,y9⟩:=(G9 HS).cells;go_wp2_with fail;clear x0 y0 x1 y1 x2 y2 x3 y3 x4 y4 x5 y5 x6 y6 x7 y7 x8 y8 x9 y9
 go_loopg [5] fs.length (fun kx s wr=>∃i:Nat,s=I0 i/\i<=fs.length/\fs.length-i<=kx/\Hid (SS w wr up (FV ad fs.length cd) id ep (FV al ts.length cl) dn tr.z (FV an tr.ns.length cn) (FV ai tr.ss.length ci) (FV aw ws.length cw) (FV bd fs.length ed) (FV bl ts.length el) (FV bn tr.ns.length en) (FV bi tr.ss.length ei) (FV bw ws.length ew)))
 case atStart=>exact⟨0,rfl,AZ _,AA _,HS⟩
 case round=>
  obtain⟨i,rfl,hi,hg,HS⟩:=hrel;obtain⟨⟨x0,x1,x2,x3,x4,x5,x6,x7,x8,x9⟩,y0,y1,y2,y3,y4,y5,y6,y7,y8,y9⟩:=(G9 HS).cells;have hsz:=(G9 HS).bl.size;by_cases hlt:i<fs.length
  .obtain⟨x,hx⟩:∃x,fs[i]?=G8 x:=⟨_,AO hlt⟩;have vT:(i:Int)<(fs.length:Int):=by omega
   obtain⟨b1,o1,cc1,he,hb1,q1⟩:=G9 K1 wr (G9 HS).bl i x hx;simp only[AQ]at he;obtain⟨rfl,_,rfl⟩:=he;obtain⟨b2,o2,cc2,he,hb2,q2⟩:=G9 K2 wr (G9 HS).bl i x hx;simp only[AQ]at he;obtain⟨rfl,_,rfl⟩:=he;have df0:=q1 0 _ (by decide) rfl;have ef0:=q2 0 _ (by decide) rfl;have df1:=q1 1 _ (by decide) rfl;have ef1:=q2 1 _ (by decide) rfl;have df2:=q1 2 _ (by decide) rfl;have ef2:=q2 2 _ (by decide) rfl;clear q1 q2 hx;simp only[Lay.k,Nat.add_zero]at df0 df1 df2 ef0 ef1 ef2;go_wp2_with fail;go_region;go_wp2_with fail
   go_roundg (fs.length-(i+1))
   case measure=>omega
   case rel=>exact⟨i+1,rfl,by omega,AA _,GH ((G9 HS).next (AB _ _).drew)⟩
  .obtain rfl:i=fs.length:=by omega
   go_wp2_with fail
   go_loopg [6] ws.length (fun kx s wr=>∃i:Nat,s=I0 i/\i<=ws.length/\ws.length-i<=kx/\Hid (SS w wr up (FV ad fs.length cd) id ep (FV al ts.length cl) dn tr.z (FV an tr.ns.length cn) (FV ai tr.ss.length ci) (FV aw ws.length cw) (FV bd fs.length ed) (FV bl ts.length el) (FV bn tr.ns.length en) (FV bi tr.ss.length ei) (FV bw ws.length ew)))
   case atStart=>exact⟨0,rfl,AZ _,AA _,HS⟩
   case round=>
    obtain⟨i,rfl,hi,hg,HS⟩:=hrel;obtain⟨⟨x0,x1,x2,x3,x4,x5,x6,x7,x8,x9⟩,y0,y1,y2,y3,y4,y5,y6,y7,y8,y9⟩:=(G9 HS).cells;have hsz:=(G9 HS).bl.size;by_cases hlt:i<ws.length
    .obtain⟨x,hx⟩:∃x,ws[i]?=G8 x:=⟨_,AO hlt⟩;have vT:(i:Int)<(ws.length:Int):=by omega
     obtain⟨b1,o1,cc1,he,hb1,q1⟩:=G9 K3 wr (G9 HS).bl i x hx;simp only[AQ]at he;obtain⟨rfl,_,rfl⟩:=he;obtain⟨b2,o2,cc2,he,hb2,q2⟩:=G9 K4 wr (G9 HS).bl i x hx;simp only[AQ]at he;obtain⟨rfl,_,rfl⟩:=he;have dw0:=q1 0 _ (by decide) rfl;have ew0:=q2 0 _ (by decide) rfl;have dw1:=q1 1 _ (by decide) rfl;have ew1:=q2 1 _ (by decide) rfl;have dw2:=q1 2 _ (by decide) rfl;have ew2:=q2 2 _ (by decide) rfl;clear q1 q2 hx;simp only[Lay.k,Nat.add_zero]at dw0 dw1 dw2 ew0 ew1 ew2;go_wp2_with fail;go_region;go_wp2_with fail
     go_roundg (ws.length-(i+1))
     case measure=>omega
     case rel=>exact⟨i+1,rfl,by omega,AA _,GH ((G9 HS).next (AB _ _).drew)⟩
    .obtain rfl:i=ws.length:=by omega
     go_wp2_with fail;go_ret;exact⟨rfl,(G9 HS).bl⟩
structure CB2(w W:FX)(s z:Int)(v:FZ):Prop where
 below:B0 w W
 s:NH W (w.heap.size+1) s z v
 r:NH W w.heap.size 0 0 (N0)
section
variable {w W V:FX} {s z:Int} {v:FZ}
theorem CB2.next(h:CB2 w W s z v)(hb:B0 W V):CB2 w V s z v:=⟨GK h.below hb,h.s.next hb,h.r.next hb⟩
theorem CB2.put(h:CB2 w W s z v)(u:FZ):CB2 w (W.setCell ⟨w.heap.size+1,2,G6⟩ u) s z u:=
 ⟨h.below.setCell (by simp) u,h.s.set2,h.r.other (by simp) u⟩
theorem CB2.start(w:FX)(s z:Int)(v:FZ):CB2 w ((w.alloc (FW #[I0 0,I0 0,N0] 70)).alloc (FW #[I0 s,I0 z,v] 70)) s z v:=by
 have h:=NH.new (w.alloc (FW #[I0 0,I0 0,N0] 70)) s z v;rw[show (w.alloc (FW #[I0 0,I0 0,N0] 70)).heap.size=w.heap.size+1 by simp]at h;exact⟨GK (GI _ _) (GI _ _),h,(NH.new w 0 0 _).next (GI _ _)⟩
end
def CE6(w:FX)(c:Cl)(e:Ending)(w':FX):Prop:=
 ∃a n,e=.returned (.agg #[I0 c.s,I0 c.z,FV a c.es.length n])/\I5 w' w.heap.size (FV a c.es.length n) c.es/\B0 w w'
theorem AR7(p:Pw)(k i:Nat)(W:FX)(hx:WX W k p)(hi:i<16)(c:Cl)(hc:p.c i=c)(hl:c.es.length<=400):
  G5 prog 12 #[wP k,I0 i] W (CE6 W c):=by
 obtain⟨a,cp,e0,e1,e2,hv⟩:=hx.cl hi;rw[hc]at e0 e1 e2 hv;have hk0:=hx.lt;have HC:=GH (fun V (hV:B0 W V)=>B68 _ c.es V (hv.next hV) (by omega));have HS:Hid (∀V,B0 W V->V.cell? ⟨k,34+3*i,G6⟩=G8 (I0 c.s)/\V.cell? ⟨k,34+3*i+1,G6⟩=G8 (I0 c.z)/\V.cell? ⟨k,34+3*i+2,G6⟩=G8 (FV a c.es.length cp)):=GH fun V hV=>⟨(hV.cell (p:=⟨k,_,G6⟩) hk0).trans e0,(hV.cell (p:=⟨k,_,G6⟩) hk0).trans e1,(hV.cell (p:=⟨k,_,G6⟩) hk0).trans e2⟩;have CC:=Y0 i 16;rw[show l7 i 16=true by simp[l7];omega]at CC;clear e0 e1 e2 hv hx hc hl;obtain⟨s,z,es⟩:=c;simp only[DL 3 i]at*;have hi4:(i:Int)<16:=by omega
 have hi5:(0:Int)<=i:=by omega
 unfold wP;go_enter func12,ntmps12;go_wp2_with fail;refine(CC _).mono ?_;rintro e w1 ⟨rfl,rfl⟩;obtain⟨c0,c1,c2⟩:=G9 HS _ (GI W (FW #[I0 0,I0 0,N0] 70));clear CC HS;go_upto_region 4 with fail;clear c0 c1 c2;have X0:=CB2.start W s z (FV a es.length cp);generalize ((W.alloc (FW #[I0 0,I0 0,N0] 70)).alloc _)=V0 at*;have HX0:=GH X0;have x0:=X0.s.c0;have x1:=X0.s.c1;have x2:=X0.s.c2;clear X0 hi4 hi5 hi hk0;go_wp2_with fail;refine(G9 HC _ (G9 HX0).below).mono ?_;rintro e w1 ⟨v1,rfl,o1,hb1⟩;obtain⟨a1,c1,rfl,_⟩:=o1.slice;have z1:W.heap.size+2<=V0.heap.size:=(G9 HX0).s.lt;have X1:=(G9 HX0).next hb1;have HX1:=GH (X1.put (FV a1 es.length c1));clear x0 x1 x2;have x0:=X1.s.c0;have x1:=X1.s.c1;have x2:=X1.s.c2;have g2:=X1.s.fr 2;have O1:=GH (IZ (j:=2) (u:=FV a1 es.length c1) (o1.lower z1) (by omega:W.heap.size+1<_));clear X1 o1 hb1 z1 HX0 HC;go_upto_region 5 with fail;generalize w1.setCell ⟨W.heap.size+1,2,G6⟩ (FV a1 es.length c1)=V1 at*;clear x0 x1 x2 g2;have x0:=(G9 HX1).s.c0;have x1:=(G9 HX1).s.c1;have x2:=(G9 HX1).s.c2;have r0:=(G9 HX1).r.c0;have r1:=(G9 HX1).r.c1;have r2:=(G9 HX1).r.c2;have rf0:=(G9 HX1).r.fr 0;have rf1:=(G9 HX1).r.fr 1;have rf2:=(G9 HX1).r.fr 2;have HF:=GH ((((G9 HX1).below.setCell (p:=⟨W.heap.size,0,G6⟩) (AA _) (I0 s)).setCell (p:=⟨W.heap.size,1,G6⟩) (AA _) (I0 z)).setCell (p:=⟨W.heap.size,2,G6⟩) (AA _) (FV a1 es.length c1));have Q1:=GH ((IZ (j:=2) (u:=FV a1 es.length c1) (IZ (j:=1) (u:=I0 z) (IZ (j:=0) (u:=I0 s) (G9 O1) (by omega:W.heap.size<_)) (by omega:W.heap.size<_)) (by omega:W.heap.size<_)).lower (Nat.le_add_right _ 2));clear O1 HX1;go_wp2_with fail;exact bodyPost_ret (v:=.agg #[I0 s,I0 z,FV a1 es.length c1]) (by simp[results,results12,go_sem,r0,r1,r2]) rfl ⟨a1,c1,rfl,G9 Q1,G9 HF⟩
