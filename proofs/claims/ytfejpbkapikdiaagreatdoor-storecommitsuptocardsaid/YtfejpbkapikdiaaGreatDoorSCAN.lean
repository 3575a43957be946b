/-
  store.extended: the walks.
-/
import Derived.Test.YtfejpbkapikdiaaGreatDoorSCAM
import Derived.Test.YtfejpbkapikdiaaGreatDoorSCAJ
namespace Go.Proofs.YtfejpbkapikdiaaGreatDoor
open Go.RowKit
/-- the boxes of a call that is handed a server and a transaction: theirs, the result's -/
structure EB (w W : World) (up : Bool) (vd : Value) (id ep : Int) (vl : Value) (dn z : Int) (vn vs vw : Value) (x : WTxn) : Prop where
  s : Box10 W w.heap.size up vd id ep vl dn z vn vs vw
  x : TAt W (w.heap.size + 1) x
  r : Box10 W (w.heap.size + 1 + 1) false (.slice none 0 0) 0 0 (.slice none 0 0) 0 0 (.slice none 0 0) (.slice none 0 0) (.slice none 0 0)
section
variable {w W V : World} {up : Bool} {id ep dn z : Int} {vd vl vn vs vw : Value} {x : WTxn}
theorem EB.next (h : EB w W up vd id ep vl dn z vn vs vw x) (hb : Below W.heap.size W V) : EB w V up vd id ep vl dn z vn vs vw x := ⟨h.s.next hb, h.x.next hb, h.r.next hb⟩
theorem EB.lt (h : EB w W up vd id ep vl dn z vn vs vw x) : w.heap.size + 3 ≤ W.heap.size := h.r.lt
theorem EB.put (h : EB w W up vd id ep vl dn z vn vs vw x) (j : Nat) (u : Value) {vd' vl' vn' vs' vw' : Value} (e : (#[.bool up, vd, .int .i64 id, .int .i64 ep, vl, .int .i64 dn, .int .i64 z, vn, vs, vw] : Array Value).setIfInBounds j u = #[.bool up, vd', .int .i64 id, .int .i64 ep, vl', .int .i64 dn, .int .i64 z, vn', vs', vw']) : EB w (W.setCell ⟨w.heap.size, j, none⟩ u) up vd' id ep vl' dn z vn' vs' vw' x := by
  refine ⟨?_, (Below.heap_setCell W ⟨w.heap.size, j, none⟩ u _ (by simp)).trans h.x, h.r.other (by omega)⟩
  unfold Box10
  rw [block_set u h.s, e]
theorem EB.touch {F : Nat → Prop} (h : EB w W up vd id ep vl dn z vn vs vw x) (ht : Touch F W V) (hF : ∀ k, w.heap.size ≤ k → k < w.heap.size + 3 → ¬ F k) : EB w V up vd id ep vl dn z vn vs vw x := by
  have hl := h.lt
  exact ⟨(ht.block _ (by omega) (hF _ (by omega) (by omega))).trans h.s, (ht.block _ (by omega) (hF _ (by omega) (by omega))).trans h.x, (ht.block _ (by omega) (hF _ (by omega) (by omega))).trans h.r⟩
theorem EB.start (w : World) (up : Bool) (id ep dn z : Int) (vd vl vn vs vw : Value) (x : WTxn) : EB w (((w.alloc (.cells #[.bool up, vd, .int .i64 id, .int .i64 ep, vl, .int .i64 dn, .int .i64 z, vn, vs, vw] 34)).alloc (.cells #[.int .i64 x.z, .int .i64 x.o, .int .i64 x.s, .string ⟨x.p.toArray⟩, .string ⟨x.d.toArray⟩, .int .i64 x.v, .int .i64 x.w] 45)).alloc (.cells #[.bool false, .slice none 0 0, .int .i64 0, .int .i64 0, .slice none 0 0, .int .i64 0, .int .i64 0, .slice none 0 0, .slice none 0 0, .slice none 0 0] 34)) up vd id ep vl dn z vn vs vw x := by
  refine ⟨((Box10.new w up id ep dn z vd vl vn vs vw).next (allocB _ _)).next (allocB _ _), ?_, ?_⟩
  · have h := (TAt.new (w.alloc (.cells #[.bool up, vd, .int .i64 id, .int .i64 ep, vl, .int .i64 dn, .int .i64 z, vn, vs, vw] 34)) x).next (allocB _ (.cells #[.bool false, .slice none 0 0, .int .i64 0, .int .i64 0, .slice none 0 0, .int .i64 0, .int .i64 0, .slice none 0 0, .slice none 0 0, .slice none 0 0] 34))
    rw [show (w.alloc (.cells #[.bool up, vd, .int .i64 id, .int .i64 ep, vl, .int .i64 dn, .int .i64 z, vn, vs, vw] 34)).heap.size = w.heap.size + 1 by simp] at h
    exact h
  · have h := Box10.new ((w.alloc (.cells #[.bool up, vd, .int .i64 id, .int .i64 ep, vl, .int .i64 dn, .int .i64 z, vn, vs, vw] 34)).alloc (.cells #[.int .i64 x.z, .int .i64 x.o, .int .i64 x.s, .string ⟨x.p.toArray⟩, .string ⟨x.d.toArray⟩, .int .i64 x.v, .int .i64 x.w] 45)) false 0 0 0 0 (.slice none 0 0) (.slice none 0 0) (.slice none 0 0) (.slice none 0 0) (.slice none 0 0)
    rw [show ((w.alloc (.cells #[.bool up, vd, .int .i64 id, .int .i64 ep, vl, .int .i64 dn, .int .i64 z, vn, vs, vw] 34)).alloc (.cells #[.int .i64 x.z, .int .i64 x.o, .int .i64 x.s, .string ⟨x.p.toArray⟩, .string ⟨x.d.toArray⟩, .int .i64 x.v, .int .i64 x.w] 45)).heap.size = w.heap.size + 1 + 1 by simp] at h
    exact h
end
theorem RowAt.touch {F : Nat → Prop} {W V : World} {b off : Nat} {cs : List Value} (h : RowAt W b off cs) (ht : Touch F W V) (hb : b < W.heap.size) (hf : ¬ F b) : RowAt V b off cs := fun i v hi => by
  rw [World.cell?, ht.block b hb hf]
  exact h i v hi
end Go.Proofs.YtfejpbkapikdiaaGreatDoor
