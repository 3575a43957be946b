/-
  aviarykeep.numbers answers true: the walk.
-/
import Derived.Test.YtpdlefafgbdadaaDoorZxNum
namespace Go.Proofs.YtpdlefafgbdadaaDoor
open Go.RowKit

set_option maxHeartbeats 400000 in
theorem numbers_any (w : World) : Calls Tryd.prog 14 #[] w fun e w' => e = .returned (.bool true) ∧ w' = w := by
  go_enter Tryd.func14, Tryd.ntmps14
  go_wp2_with fail
  refine (zmake_any 0 5 _).mono ?_
  rintro e w1 ⟨rfl, rfl⟩
  rw [show zMake 0 5 = 5 from by decide, show zMakeE 0 5 = 0 from by decide]
  go_wp2_with fail
  refine (zgood_any 5 _).mono ?_
  rintro e w1 ⟨rfl, rfl⟩
  rw [show zGood 5 = true from by decide]
  go_wp2_with fail
  go_ret
  exact ⟨rfl, rfl⟩

end Go.Proofs.YtpdlefafgbdadaaDoor
