/-
  What aviaryref.GoodZxid answers, for every number: the walk.
-/
import Derived.Test.YtnbkpilgmjjflaaDoorZxGood
namespace Go.Proofs.YtnbkpilgmjjflaaDoor
open Go.RowKit

theorem tdq {z : Int} (h0 : 0 ≤ z) (hm : z ≤ 9223372036854775807) : wrap64 (z.tdiv 2147483648) = z / 2147483648 := by
  rw [Int.tdiv_eq_ediv_of_nonneg h0]; unfold wrap64; omega
theorem tmq {z : Int} (h0 : 0 ≤ z) : wrap64 (z.tmod 2147483648) = z % 2147483648 := by
  rw [Int.tmod_eq_emod_of_nonneg h0]; unfold wrap64; omega
theorem tmq' {z : Int} (h0 : 0 ≤ z) : z.tmod 2147483648 = z % 2147483648 := Int.tmod_eq_emod_of_nonneg h0

set_option maxHeartbeats 400000 in
theorem rgood_any (z : Int) (hm : z ≤ 9223372036854775807) (w : World) : Calls Tryd.prog 25 #[.int .i64 z] w fun e w' => e = .returned (.bool (zGood z)) ∧ w' = w := by
  by_cases h0 : 0 ≤ z
  · by_cases h1 : z < 4611686018427387904
    · have H := hide (zGood_iff.2 ⟨h0, h1⟩)
      have h2 : decide (z / 2147483648 < 2147483648) = true := decide_eq_true (by omega)
      go_enter Tryd.func25, Tryd.ntmps25
      go_wp2_with fail
      go_ret
      exact ⟨zret_bool (Eq.trans (by first | rfl | exact h2 | (rw [tdq h0 hm]; exact h2)) (unhide H).symm), rfl⟩
    · have H := hide (zGood_no (z := z) (by omega))
      have h2 : decide (z / 2147483648 < 2147483648) = false := decide_eq_false (by omega)
      go_enter Tryd.func25, Tryd.ntmps25
      go_wp2_with fail
      go_ret
      exact ⟨zret_bool (Eq.trans (by first | rfl | exact h2 | (rw [tdq h0 hm]; exact h2)) (unhide H).symm), rfl⟩
  · have H := hide (zGood_no (z := z) (by omega))
    go_enter Tryd.func25, Tryd.ntmps25
    go_wp2_with fail
    go_ret
    exact ⟨zret_bool (by rw [unhide H]), rfl⟩

end Go.Proofs.YtnbkpilgmjjflaaDoor
