/-
  What store.Crash and aviaryref.CrashServer answer: the walks.
-/
import Derived.Test.YtoacignhobchbaaGreatDoorSUAJ
import Derived.Test.YtoacignhobchbaaGreatDoorSUX
namespace Go.Proofs.YtoacignhobchbaaGreatDoor
open Go.RowKit

theorem CB.zero {w W : World} {up : Bool} {id ep dn z : Int} {vd vl vn vs vw : Value} (h : CB w W up vd id ep vl dn z vn vs vw) : Below w.heap.size w (put10 W (w.heap.size + 1) (.bool false) (.slice none 0 0) (.int .i64 0) (.int .i64 0) (.slice none 0 0) (.int .i64 0) (.int .i64 0) (.slice none 0 0) (.slice none 0 0) (.slice none 0 0)) := put10_below h.below (by omega) _ _ _ _ _ _ _ _ _ _

end Go.Proofs.YtoacignhobchbaaGreatDoor
