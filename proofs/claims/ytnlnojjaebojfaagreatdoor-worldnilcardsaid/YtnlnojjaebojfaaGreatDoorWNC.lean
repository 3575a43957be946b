/-
  What disk.Write answers: the walks.
-/
import Derived.Test.YtnlnojjaebojfaaGreatDoorWNB
namespace Go.Proofs.YtnlnojjaebojfaaGreatDoor
open Go.RowKit
/-- a box of the call's own that holds a disk -/
def BoxAt (W : World) (k : Nat) (v : Value) : Prop := W.heap[k]? = some (.cells #[v] 40 (0, 0))
theorem BoxAt.c {W : World} {k : Nat} {v : Value} (h : BoxAt W k v) : W.cell? ⟨k, 0, none⟩ = some v := by unfold BoxAt at h; simp [World.cell?, h]
theorem BoxAt.f {W : World} {k : Nat} {v : Value} (h : BoxAt W k v) : W.frozen? ⟨k, 0, none⟩ = false := by unfold BoxAt at h; simp [World.frozen?, h]
theorem BoxAt.next {W V : World} {k : Nat} {v : Value} (h : BoxAt W k v) (hb : Below W.heap.size W V) : BoxAt V k v := (hb.block k (by unfold BoxAt at h; exact (Array.getElem?_eq_some_iff.1 h).1)).trans h
theorem BoxAt.grown {W V : World} {k : Nat} {v : Value} {r : Option Nat} (h : BoxAt W k v) (hb : W.grownBy V r) (hr : some k ≠ r) : BoxAt V k v := (hb.block k (by unfold BoxAt at h; exact (Array.getElem?_eq_some_iff.1 h).1) hr).trans h
theorem BoxAt.set {W : World} {k : Nat} {v : Value} (h : BoxAt W k v) (u : Value) : BoxAt (W.setCell ⟨k, 0, none⟩ u) k u := block_set u h
theorem BoxAt.new (W : World) (v : Value) : BoxAt (W.alloc (.cells #[v] 40)) W.heap.size v := heap_alloc_new W _
theorem Boxes.other {w W : World} {v : Value} (h : Boxes w W v) {k : Nat} (hk : w.heap.size + 2 ≤ k) (j : Nat) (u : Value) : Boxes w (W.setCell ⟨k, j, none⟩ u) v := h.grown (grown_set u) hk

end Go.Proofs.YtnlnojjaebojfaaGreatDoor
