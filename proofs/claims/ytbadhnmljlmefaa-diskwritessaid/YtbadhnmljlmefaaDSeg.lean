/-
  Runs of cells stored into a row of the call's own.
-/
import Derived.Test.YtbadhnmljlmefaaDSet
import Derived.Laws.IdiomCopy
import Derived.Lib.AppendZeros
import Derived.Lib.JoinLaws
namespace Go.Proofs.Ytbadhnmljlmefaa
open Go.RowKit

theorem block_setCells {g : Nat} {t : TypeId} {fz : Nat × Nat} : ∀ (vs : List Value) (o : Nat) (w : World) (l : List Value), w.heap[g]? = some (.cells l.toArray t fz) → o + vs.length ≤ l.length →
    (w.setCells g o vs).heap[g]? = some (.cells (l.take o ++ vs ++ l.drop (o + vs.length)).toArray t fz)
  | [], o, w, l, h, _ => by simpa [World.setCells] using h
  | v :: r, o, w, l, h, hl => by
    have h1 : (w.setCell ⟨g, o, none⟩ v).heap[g]? = some (.cells (l.set o v).toArray t fz) := by rw [block_set v h]; simp
    rw [World.setCells, block_setCells r (o + 1) _ _ h1 (by simp at hl ⊢; omega)]
    have ho : o < l.length := by simp at hl; omega
    have e1 : (l.set o v).take (o + 1) = l.take o ++ [v] := by
      rw [List.take_set, List.take_succ_eq_append_getElem ho, List.set_append_right _ _ (by simp; omega)]
      simp [Nat.min_eq_left (Nat.le_of_lt ho)]
    have e2 : (l.set o v).drop (o + 1 + r.length) = l.drop (o + (r.length + 1)) := by
      rw [List.drop_set_of_lt (by omega)]; congr 1; omega
    rw [e1, e2]
    simp
theorem grown_setCells {g : Nat} : ∀ (vs : List Value) (o : Nat) (w : World), w.grownBy (w.setCells g o vs) (some g)
  | [], _, _ => ⟨rfl, rfl, rfl, Nat.le_refl _, fun _ _ _ => rfl⟩
  | v :: r, o, _ => grown_trans (grown_set v) (grown_setCells r (o + 1) _)

/-- new files laid behind the first ones -/
theorem Own.splice {W : World} {g cap : Nat} {pre tl : List DF} (h : Own W g cap (pre ++ tl)) (new : List DF) (hfit : pre.length + new.length ≤ cap) : Own (W.setCells g (pre.length * 3) (cellsF new)) g cap (pre ++ new) := by
  obtain ⟨rest, h1, h2, h3⟩ := h
  have hlen : (cellsF (pre ++ tl) ++ rest).length = cap * 3 := by rw [List.length_append, cellsF_length]; exact h2
  refine ⟨(cellsF (pre ++ tl) ++ rest).drop (pre.length * 3 + (cellsF new).length), ?_, ?_, h3⟩
  · rw [block_setCells (cellsF new) (pre.length * 3) W _ h1 (by rw [hlen, cellsF_length]; omega), cellsF_append pre new]
    congr 3
    have e : cellsF (pre ++ tl) ++ rest = cellsF pre ++ (cellsF tl ++ rest) := by rw [cellsF_append, List.append_assoc]
    rw [e, ← cellsF_length pre, List.take_left]
  · rw [List.length_drop, hlen, cellsF_length, List.length_append]; omega
/-- cells behind the files -/
theorem Own.spare {W : World} {g cap : Nat} {fs : List DF} (h : Own W g cap fs) (vs : List Value) (o : Nat) (ho : fs.length * 3 ≤ o) (hfit : o + vs.length ≤ cap * 3) : Own (W.setCells g o vs) g cap fs := by
  obtain ⟨rest, h1, h2, h3⟩ := h
  have hlen : (cellsF fs ++ rest).length = cap * 3 := by rw [List.length_append, cellsF_length]; exact h2
  have hc := cellsF_length fs
  refine ⟨rest.take (o - fs.length * 3) ++ vs ++ (cellsF fs ++ rest).drop (o + vs.length), ?_, ?_, h3⟩
  · rw [block_setCells vs o W _ h1 (by rw [hlen]; omega)]
    congr 2
    rw [List.take_append, List.take_of_length_le (by omega), hc]
    simp only [List.append_assoc]
  · simp only [List.length_append, List.length_take, List.length_drop, hc]
    omega
/-- one file for another -/
theorem Own.swap1 {W : World} {g cap : Nat} {A B : List DF} {y : DF} (h : Own W g cap (A ++ y :: B)) (x : DF) : Own (W.setCells g (A.length * 3) (fcells x)) g cap (A ++ x :: B) := by
  obtain ⟨rest, h1, h2, h3⟩ := h
  have hlen : (cellsF (A ++ y :: B) ++ rest).length = cap * 3 := by rw [List.length_append, cellsF_length]; exact h2
  refine ⟨rest, ?_, by simpa using h2, h3⟩
  have hA := cellsF_length A
  rw [block_setCells (fcells x) (A.length * 3) W _ h1 (by rw [hlen]; simp [fcells] at h2 ⊢; omega)]
  have e : cellsF (A ++ y :: B) ++ rest = cellsF A ++ (fcells y ++ (cellsF B ++ rest)) := by simp [cellsF_append, cellsF]
  have e' : cellsF (A ++ x :: B) ++ rest = cellsF A ++ (fcells x ++ (cellsF B ++ rest)) := by simp [cellsF_append, cellsF]
  rw [e, e']
  have hx3 : (fcells x).length = 3 := rfl
  have hy3 : (fcells y).length = 3 := rfl
  congr 2
  rw [hx3, ← hA, List.take_left, show (cellsF A).length + 3 = (cellsF A ++ fcells y).length by rw [List.length_append, hy3], ← List.append_assoc (cellsF A) (fcells y), List.drop_left, List.append_assoc]
end Go.Proofs.Ytbadhnmljlmefaa
