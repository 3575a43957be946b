/-
  Part.
-/
import Derived.Test.YthcncjimjclfpaaGreatDoorLOX
set_option maxRecDepth 20000
set_option maxHeartbeats 8000000
namespace Go.Proofs.YthcncjimjclfpaaGreatDoor
open Go.RowKit Go.Proofs.Tryz
theorem BU2(s z:Nat->Int)(a:Nat->Option Addr)(n c:Nat->Nat)(m:Nat)(hm:m<16):(QZ s z a n c)[3*m]?=some (I0 (s m))/\(QZ s z a n c)[3*m+1]?=some (I0 (z m))/\(QZ s z a n c)[3*m+2]?=some (.slice (a m) (n m) (c m)):=by
 rcases(show m=0\/m=1\/m=2\/m=3\/m=4\/m=5\/m=6\/m=7\/m=8\/m=9\/m=10\/m=11\/m=12\/m=13\/m=14\/m=15 by omega)with rfl|rfl|rfl|rfl|rfl|rfl|rfl|rfl|rfl|rfl|rfl|rfl|rfl|rfl|rfl|rfl<;>exact⟨rfl,rfl,rfl⟩
theorem AR3(w:World)(k:Nat)(s z:Nat->Int)(a:Nat->Option Addr)(n c:Nat->Nat)(hc:∀m,m<16->w.cell? ⟨k,34+3*m,none⟩=some (I0 (s m))/\w.cell? ⟨k,34+3*m+1,none⟩=some (I0 (z m))/\w.cell? ⟨k,34+3*m+2,none⟩=some (.slice (a m) (n m) (c m))):
  (Instr.loadAt 82 (.pointer (some ⟨k,34,none⟩))).run prog w=.ok (.agg (QZ s z a n c)) w:=by
 have hl:=run_loadCells_list (P:=prog) (w:=w) ⟨k,34,none⟩ (QZ s z a n c).toList (fun j v hj=>by
  have hj48:j<48:=by
   have:=(List.getElem?_eq_some_iff.1 hj).1;simpa [QZ]using this
  rw[Array.getElem?_toList]at hj;have h:=BU2 s z a n c (j/3) (by omega);have hw:=hc (j/3) (by omega);rw[Addr.add_lit];show w.cell? ⟨k,34+j,none⟩=some v;rcases(show j=3*(j/3)\/j=3*(j/3)+1\/j=3*(j/3)+2 by omega)with e|e|e
  .rw[e]at hj⊢;rw[h.1]at hj;rw[<-hj];exact hw.1
  .rw[e]at hj⊢;rw[h.2.1]at hj;rw[<-hj,<-Nat.add_assoc];exact hw.2.1
  .rw[e]at hj⊢;rw[h.2.2]at hj;rw[<-hj,<-Nat.add_assoc];exact hw.2.2)
 have h48:(QZ s z a n c).toList.length=48:=rfl;rw[h48]at hl;simp only[Instr.loadAt,Instr.sureAddr,Sem.run_bind,Sem.run_pure,Result.andThen];unfold loadVar;simp only[Sem.run_bind,isAgg82,sizeOf82,Result.andThen,if_true];rw[hl];rfl
theorem sU{w:World}{ops:Array Oper}{rest:List Oper}{o:Oper}{a:Act}{Q:Exit->Act->World->Prop}(hgd:o.guard=none)(x:Operand)(ho:o.op=.load 82 x)(k:Nat)(s z:Nat->Int)(ad:Nat->Option Addr)(n c:Nat->Nat)
  (hx:a.eval x=.pointer (some ⟨k,34,none⟩)) (hc:∀m,m<16->w.cell? ⟨k,34+3*m,none⟩=some (I0 (s m))/\w.cell? ⟨k,34+3*m+1,none⟩=some (I0 (z m))/\w.cell? ⟨k,34+3*m+2,none⟩=some (.slice (ad m) (n m) (c m)))
  (h:wpList prog ops Q rest (a.put o.dst (.agg (QZ s z ad n c))) w):wpList prog ops Q (o::rest) a w:=by
 refine wpList_plain hgd fun K hK=>?_;have hr:=AR3 w k s z ad n c hc;unfold Oper.wp execOp;simp only[ho,Sem.run_bind,Sem.run_pure,Result.andThen_ok,hx,hr];exact hK _ _ h
