/-
  Part.
-/
import Derived.Test.YtkpojhhfjddegaaGreatDoorLOZ
set_option maxRecDepth 20000
set_option maxHeartbeats 8000000
namespace Go.Proofs.YtkpojhhfjddegaaGreatDoor
open Go.RowKit Go.Proofs.Tryz
open Go.Sem renaming run_bind->EG,run_pure->ER
open Go.Result renaming andThen_ok->EH
open Go.Obj renaming cells->FW
open Go renaming World->FX,Value->FZ
open _root_.Option renaming none->G6,some->G7
variable{c:Array FZ}{o:Nat}
structure AB(T:TypeId)(n:Nat)(W:FX)(k:Nat)(c:Array FZ):Prop where
 b:W.heap[k]?=G7 (FW c T (0,0))
 n:c.size=n
section
variable {T:TypeId} {n:Nat} {W V:FX} {k j:Nat} {c:Array FZ}
theorem AB.lt(h:AB T n W k c):k<W.heap.size:=(Array.getElem?_eq_some_iff.1 h.b).1
theorem AB.next(h:AB T n W k c)(hb:B0 W V):AB T n V k c:=⟨(hb.block k h.lt).trans h.b,h.n⟩
theorem AB.touch{F:Nat->Prop}(h:AB T n W k c)(ht:Touch F W V)(hk:¬F k):AB T n V k c:=⟨(ht.block k h.lt hk).trans h.b,h.n⟩
theorem AB.cell(h:AB T n W k c)(j:Nat):W.cell? ⟨k,j,G6⟩=c[j]? :=by
 have:=h.b;simp[World.cell?,this]
theorem AB.GX(h:AB T n W k c)(j:Nat):W.frozen? ⟨k,j,G6⟩=false:=by
 have:=h.b;simp[World.frozen?,this]
theorem AB.set(h:AB T n W k c)(j:Nat)(v:FZ):AB T n (W.setCell ⟨k,j,G6⟩ v) k (c.setIfInBounds j v):=⟨GV v h.b,by rw[Array.size_setIfInBounds];exact h.n⟩
theorem AB.new(w:FX)(c:Array FZ)(T:TypeId)(hn:c.size=n):AB T n (w.alloc (FW c T)) w.heap.size c:=⟨heap_alloc_new w _,hn⟩
end
def RP(c:Array FZ)(o:Nat)(x0 x1 x2 x3 x4 x5 x6 x7 x8 x9:FZ):Array FZ:=((((((((((c.setIfInBounds (o) x0).setIfInBounds (o+1) x1).setIfInBounds (o+2) x2).setIfInBounds (o+3) x3).setIfInBounds (o+4) x4).setIfInBounds (o+5) x5).setIfInBounds (o+6) x6).setIfInBounds (o+7) x7).setIfInBounds (o+8) x8).setIfInBounds (o+9) x9)
def o7(c:Array FZ)(o:Nat)(x0 x1 x2:FZ):Array FZ:=((c.setIfInBounds o x0).setIfInBounds (o+1) x1).setIfInBounds (o+2) x2
theorem B99{j:Nat}{x0 x1 x2 x3 x4 x5 x6 x7 x8 x9:FZ}(h:j<o\/o+10<=j):(RP c o x0 x1 x2 x3 x4 x5 x6 x7 x8 x9)[j]?=c[j]? :=by
 simp only[RP,Array.getElem?_setIfInBounds];rw[if_neg (by omega:¬o+9=j)];rw[if_neg (by omega:¬o+8=j)];rw[if_neg (by omega:¬o+7=j)];rw[if_neg (by omega:¬o+6=j)];rw[if_neg (by omega:¬o+5=j)];rw[if_neg (by omega:¬o+4=j)];rw[if_neg (by omega:¬o+3=j)];rw[if_neg (by omega:¬o+2=j)];rw[if_neg (by omega:¬o+1=j)];rw[if_neg (by omega:¬o=j)]
theorem BS9{j:Nat}{x0 x1 x2:FZ}(h:j<o\/o+3<=j):(o7 c o x0 x1 x2)[j]?=c[j]? :=by
 simp only[o7,Array.getElem?_setIfInBounds];rw[if_neg (by omega:¬o+2=j),if_neg (by omega:¬o+1=j),if_neg (by omega:¬o=j)]
theorem BA0(x0 x1 x2 x3 x4 x5 x6 x7 x8 x9:FZ)(h:o+10<=c.size):(RP c o x0 x1 x2 x3 x4 x5 x6 x7 x8 x9)[o]?=G7 x0/\(RP c o x0 x1 x2 x3 x4 x5 x6 x7 x8 x9)[o+1]?=G7 x1/\(RP c o x0 x1 x2 x3 x4 x5 x6 x7 x8 x9)[o+2]?=G7 x2/\(RP c o x0 x1 x2 x3 x4 x5 x6 x7 x8 x9)[o+3]?=G7 x3/\(RP c o x0 x1 x2 x3 x4 x5 x6 x7 x8 x9)[o+4]?=G7 x4/\(RP c o x0 x1 x2 x3 x4 x5 x6 x7 x8 x9)[o+5]?=G7 x5/\(RP c o x0 x1 x2 x3 x4 x5 x6 x7 x8 x9)[o+6]?=G7 x6/\(RP c o x0 x1 x2 x3 x4 x5 x6 x7 x8 x9)[o+7]?=G7 x7/\(RP c o x0 x1 x2 x3 x4 x5 x6 x7 x8 x9)[o+8]?=G7 x8/\(RP c o x0 x1 x2 x3 x4 x5 x6 x7 x8 x9)[o+9]?=G7 x9:=by
 refine⟨?_,?_,?_,?_,?_,?_,?_,?_,?_,?_⟩<;>(simp[RP,Array.getElem?_setIfInBounds];omega)
theorem BT0(x0 x1 x2:FZ)(h:o+3<=c.size):(o7 c o x0 x1 x2)[o]?=G7 x0/\(o7 c o x0 x1 x2)[o+1]?=G7 x1/\(o7 c o x0 x1 x2)[o+2]?=G7 x2:=by
 refine⟨?_,?_,?_⟩<;>(simp[o7,Array.getElem?_setIfInBounds];omega)
theorem AB.OU{T:TypeId}{n:Nat}{W:FX}{k:Nat}(h:AB T n W k c)(o:Nat)(x0 x1 x2 x3 x4 x5 x6 x7 x8 x9:FZ):AB T n (qE W k o x0 x1 x2 x3 x4 x5 x6 x7 x8 x9) k (RP c o x0 x1 x2 x3 x4 x5 x6 x7 x8 x9):=
 h.set _ _|>.set _ _|>.set _ _|>.set _ _|>.set _ _|>.set _ _|>.set _ _|>.set _ _|>.set _ _|>.set _ _
theorem AB.put3{T:TypeId}{n:Nat}{W:FX}{k:Nat}(h:AB T n W k c)(o:Nat)(x0 x1 x2:FZ):AB T n (jF W k o x0 x1 x2) k (o7 c o x0 x1 x2):=
 h.set _ _|>.set _ _|>.set _ _
theorem QO{v:FZ}(h:c.all (·.oneCell')=true)(hv:v.oneCell'=true)(j:Nat):(c.setIfInBounds j v).all (·.oneCell')=true:=by
 rw[Array.all_eq_true_iff_forall_mem]at h⊢;intro x hx;rcases Array.mem_or_eq_of_mem_setIfInBounds hx with hx|rfl
 .exact h x hx
 .exact hv
noncomputable def SH:Array FZ:=(((prog.info? 56).bind (·.zero)).getD undef).cells
theorem yQ:(prog.info? 56).map (fun i=>(i.zero,i.size))=G7 (G7 (.agg SH),30):=by kernel_rfl
theorem TW:SH.size=30:=by kernel_rfl
theorem BT1:SH.all (·.oneCell')=true:=by kernel_rfl
theorem BA1(h:c.size=30):(prog.info? 56).map (·.size)=G7 c.size:=by rw[h];exact(zero_of_info yQ).2
theorem AG3(w:FX)(k:Nat)(c:Array FZ)(hc:w.heap[k]?=G7 (FW c 56 (0,0)))(hn:c.size=30):(loadVar 56 ⟨k,0,G6⟩).run prog w=.ok (.agg c) w:=by
 have hl:=run_loadCells_list (P:=prog) (w:=w) ⟨k,0,G6⟩ c.toList (fun j v hj=>by
  rw[Addr.add_lit];show w.cell? ⟨k,0+j,G6⟩=G7 v;rw[Nat.zero_add,cell_of_row _ _ j c _ (0,0) hc];simpa using hj)
 rw[show c.toList.length=30 by simpa using hn]at hl;unfold loadVar;simp only[EG,isAgg56,sizeOf56,Result.andThen,if_true];rw[hl];simp
theorem CB1(w:FX)(k:Nat)(c:Array FZ)(hc:w.heap[k]?=G7 (FW c 56 (0,0)))(hn:c.size=30):(Instr.loadAt 56 (P0 k)).run prog w=.ok (.agg c) w:=by
 simp only[Instr.loadAt,Instr.sureAddr,EG,ER,Result.andThen];exact AG3 w k c hc hn
section
variable {w:FX} {ops:Array Oper} {rest:List Oper} {o:Oper} {a:Act} {Q:Exit->Act->FX->Prop}
theorem CB3(x:Operand)(ho:o.op=.load 56 x)(k:Nat)(c:Array FZ)(hx:a.eval x=P0 k)(hc:w.heap[k]?=G7 (FW c 56 (0,0)))(hn:c.size=30):(execOp a.eval o).run prog w=.ok (.value (.agg c)) w:=by
 unfold execOp;simp only[ho,EG,ER,EH,hx,CB1 w k c hc hn]
theorem NU(hgd:o.guard=G6)(ho:o.op=.alloc 56)(h:wpList prog ops Q rest (a.put o.dst (.pointer (G7 ⟨w.heap.size,0,G6⟩))) (w.alloc (FW SH 56))):wpList prog ops Q (o::rest) a w:=by
 refine wpList_plain hgd fun K hK=>?_;have hz:=(zero_of_info yQ).1 w;have hr:(Instr.alloc 56 true (.tuple #[])).run prog w=.ok (.pointer (G7 ⟨w.heap.size,0,G6⟩)) (w.alloc (FW SH 56)):=by
  simp[Instr.alloc,newVar,newRow,hz,Value.cells,go_sem]
 unfold Oper.wp execOp;simp only[ho,EG,ER,EH,hr];exact hK _ _ h
theorem QA(hgd:o.guard=G6)(x y:Operand)(ho:o.op=.store 56 x y)(k:Nat)(c old:Array FZ)(hx:a.eval x=P0 k)(hy:a.eval y=.agg c)(hc:w.heap[k]?=G7 (FW old 56 (0,0)))(hn:c.size=30)(hon:old.size=30)(h1:c.all (·.oneCell')=true)
  (h:wpList prog ops Q rest (a.put o.dst undef) (w.setRow k c)):wpList prog ops Q (o::rest) a w:=
 wpList_store_row hgd _ x y ho k c hx hy _ old hc (BA1 hn) (by omega) h1 h
end
noncomputable def UQ:Array FZ:=(((prog.info? 57).bind (·.zero)).getD undef).cells
theorem yR:(prog.info? 57).map (fun i=>(i.zero,i.size))=G7 (G7 (.agg UQ),48):=by kernel_rfl
theorem TY:UQ.size=48:=by kernel_rfl
theorem BT2:UQ.all (·.oneCell')=true:=by kernel_rfl
theorem BA2(h:c.size=48):(prog.info? 57).map (·.size)=G7 c.size:=by rw[h];exact(zero_of_info yR).2
theorem AG4(w:FX)(k:Nat)(c:Array FZ)(hc:w.heap[k]?=G7 (FW c 57 (0,0)))(hn:c.size=48):(loadVar 57 ⟨k,0,G6⟩).run prog w=.ok (.agg c) w:=by
 have hl:=run_loadCells_list (P:=prog) (w:=w) ⟨k,0,G6⟩ c.toList (fun j v hj=>by
  rw[Addr.add_lit];show w.cell? ⟨k,0+j,G6⟩=G7 v;rw[Nat.zero_add,cell_of_row _ _ j c _ (0,0) hc];simpa using hj)
 rw[show c.toList.length=48 by simpa using hn]at hl;unfold loadVar;simp only[EG,isAgg57,sizeOf57,Result.andThen,if_true];rw[hl];simp
theorem CB5(w:FX)(k:Nat)(c:Array FZ)(hc:w.heap[k]?=G7 (FW c 57 (0,0)))(hn:c.size=48):(Instr.loadAt 57 (P0 k)).run prog w=.ok (.agg c) w:=by
 simp only[Instr.loadAt,Instr.sureAddr,EG,ER,Result.andThen];exact AG4 w k c hc hn
section
variable {w:FX} {ops:Array Oper} {rest:List Oper} {o:Oper} {a:Act} {Q:Exit->Act->FX->Prop}
theorem CB6(x:Operand)(ho:o.op=.load 57 x)(k:Nat)(c:Array FZ)(hx:a.eval x=P0 k)(hc:w.heap[k]?=G7 (FW c 57 (0,0)))(hn:c.size=48):(execOp a.eval o).run prog w=.ok (.value (.agg c)) w:=by
 unfold execOp;simp only[ho,EG,ER,EH,hx,CB5 w k c hc hn]
theorem NV(hgd:o.guard=G6)(ho:o.op=.alloc 57)(h:wpList prog ops Q rest (a.put o.dst (.pointer (G7 ⟨w.heap.size,0,G6⟩))) (w.alloc (FW UQ 57))):wpList prog ops Q (o::rest) a w:=by
 refine wpList_plain hgd fun K hK=>?_;have hz:=(zero_of_info yR).1 w;have hr:(Instr.alloc 57 true (.tuple #[])).run prog w=.ok (.pointer (G7 ⟨w.heap.size,0,G6⟩)) (w.alloc (FW UQ 57)):=by
  simp[Instr.alloc,newVar,newRow,hz,Value.cells,go_sem]
 unfold Oper.wp execOp;simp only[ho,EG,ER,EH,hr];exact hK _ _ h
theorem QB(hgd:o.guard=G6)(x y:Operand)(ho:o.op=.store 57 x y)(k:Nat)(c old:Array FZ)(hx:a.eval x=P0 k)(hy:a.eval y=.agg c)(hc:w.heap[k]?=G7 (FW old 57 (0,0)))(hn:c.size=48)(hon:old.size=48)(h1:c.all (·.oneCell')=true)
  (h:wpList prog ops Q rest (a.put o.dst undef) (w.setRow k c)):wpList prog ops Q (o::rest) a w:=
 wpList_store_row hgd _ x y ho k c hx hy _ old hc (BA2 hn) (by omega) h1 h
end
