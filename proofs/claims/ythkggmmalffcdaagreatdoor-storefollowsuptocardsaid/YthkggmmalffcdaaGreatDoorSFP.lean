/-
  store.Take: the walk.
-/
import Derived.Test.YthkggmmalffcdaaGreatDoorSFO
namespace Go.Proofs.YthkggmmalffcdaaGreatDoor
open Go.RowKit
theorem fresh_ownS {α : Type} [Lay α] {W : World} {B : Nat} {v : Value} {xs : List α} (h : OwnS W B v xs) : Fresh B v := by
  intro b off n c e
  rcases h with ⟨rfl, _⟩ | ⟨g, cap, rfl, hB, _⟩
  · simp at e
  · simp only [Value.slice.injEq, Option.some.injEq, Addr.mk.injEq] at e
    omega
/-- as GivesV, and the sessions lie in new memory -/
def GivesVF (w : World) (s : Sv) (E : Int) (e : Ending) (w' : World) : Prop :=
  ∃ ad nd cd al nl cl an nn cn ai ni ci aw nw cw, e = .returned (.tuple #[.agg #[.bool s.up, .slice ad nd cd, .int .i64 s.id, .int .i64 s.ep, .slice al nl cl, .int .i64 s.dn, .int .i64 s.tr.z, .slice an nn cn, .slice ai ni ci, .slice aw nw cw], .int .i64 E]) ∧
    Hid (SvV w' (.agg #[.bool s.up, .slice ad nd cd, .int .i64 s.id, .int .i64 s.ep, .slice al nl cl, .int .i64 s.dn, .int .i64 s.tr.z, .slice an nn cn, .slice ai ni ci, .slice aw nw cw]) s ∧ Fresh w.heap.size (.slice ai ni ci)) ∧ Below w.heap.size w w'
theorem GivesVF.v {w w' : World} {s : Sv} {E : Int} {e : Ending} (h : GivesVF w s E e w') : GivesV w s E e w' := by
  obtain ⟨ad, nd, cd, al, nl, cl, an, nn, cn, ai, ni, ci, aw, nw, cw, he, hs, hb⟩ := h
  exact ⟨_, he, (unhide hs).1, hb⟩
theorem own_touch {α : Type} [Lay α] {F : Nat → Prop} {W V : World} {B : Nat} {v : Value} {xs : List α} (h : OwnS W B v xs) (ht : Touch F W V) (hf : ∀ k, v.ownBlock = some k → ¬ F k) : OwnS V B v xs := by
  rcases h with h | ⟨g, cap, rfl, hB, h⟩
  · exact .inl h
  · obtain ⟨rest, h1, h2⟩ := h
    have hlt := (Array.getElem?_eq_some_iff.1 h1).1
    exact .inr ⟨g, cap, rfl, hB, rest, (ht.block g hlt (hf g rfl)).trans h1, h2⟩
theorem own_ge {α : Type} [Lay α] {W : World} {B k : Nat} {v : Value} {xs : List α} (h : OwnS W B v xs) (hk : v.ownBlock = some k) : B ≤ k := by
  rcases h with ⟨rfl, _⟩ | ⟨g, cap, rfl, hB, _⟩
  · simp [Value.ownBlock] at hk
  · simp [Value.ownBlock] at hk; omega

/-- the boxes of Take: as EB -/
theorem EB.zero {w W : World} {up : Bool} {id ep dn z : Int} {vd vl vn vs vw : Value} {x : WTxn} (h : EB w W up vd id ep vl dn z vn vs vw x) : w.heap.size + 1 + 1 < W.heap.size := h.r.lt

end Go.Proofs.YthkggmmalffcdaaGreatDoor
