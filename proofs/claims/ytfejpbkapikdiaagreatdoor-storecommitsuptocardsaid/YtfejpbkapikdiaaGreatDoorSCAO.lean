/-
  store.Take: the walk.
-/
import Derived.Test.YtfejpbkapikdiaaGreatDoorSCAN
namespace Go.Proofs.YtfejpbkapikdiaaGreatDoor
open Go.RowKit
/-- as GivesV, and the sessions lie in new memory -/
def GivesVF (w : World) (s : Sv) (E : Int) (e : Ending) (w' : World) : Prop :=
  ∃ ad nd cd al nl cl an nn cn ai ni ci aw nw cw, e = .returned (.tuple #[.agg #[.bool s.up, .slice ad nd cd, .int .i64 s.id, .int .i64 s.ep, .slice al nl cl, .int .i64 s.dn, .int .i64 s.tr.z, .slice an nn cn, .slice ai ni ci, .slice aw nw cw], .int .i64 E]) ∧
    Hid (SvV w' (.agg #[.bool s.up, .slice ad nd cd, .int .i64 s.id, .int .i64 s.ep, .slice al nl cl, .int .i64 s.dn, .int .i64 s.tr.z, .slice an nn cn, .slice ai ni ci, .slice aw nw cw]) s ∧ Fresh w.heap.size (.slice ai ni ci)) ∧ Below w.heap.size w w'
theorem GivesVF.v {w w' : World} {s : Sv} {E : Int} {e : Ending} (h : GivesVF w s E e w') : GivesV w s E e w' := by
  obtain ⟨ad, nd, cd, al, nl, cl, an, nn, cn, ai, ni, ci, aw, nw, cw, he, hs, hb⟩ := h
  exact ⟨_, he, (unhide hs).1, hb⟩
/-- the boxes of Take: as EB -/
theorem EB.zero {w W : World} {up : Bool} {id ep dn z : Int} {vd vl vn vs vw : Value} {x : WTxn} (h : EB w W up vd id ep vl dn z vn vs vw x) : w.heap.size + 1 + 1 < W.heap.size := h.r.lt

end Go.Proofs.YtfejpbkapikdiaaGreatDoor
