/-
  What aviarykeep.pick answers: the walk.
-/
import Derived.Test.YtbadhnmljlmefaaRows
import Derived.Test.YtbadhnmljlmefaaPlain
import Derived.WalkKit
import Derived.WalkSpells
import Derived.WalkLawsBesides
namespace Go.Proofs.Ytbadhnmljlmefaa
open Go.RowKit

theorem ret_pick {a b : Int} (h : a = b) : Ending.returned (.int .i64 a) = .returned (.int .i64 b) := by rw [h]

theorem tmod_cases (k n : Int) (hn : 0 < n) : k.tmod n = k % n ∨ k.tmod n = k % n - n := by
  rw [Int.tmod_eq_emod]
  split
  · left; omega
  · right; omega

set_option maxHeartbeats 400000 in
theorem pick_any (k n : Int) (w : World) (hn : 0 < n) (hn1 : n ≤ 1048576) (hk : -9223372036854775808 ≤ k) (hk1 : k ≤ 9223372036854775807) :
    Calls Try.prog 28 #[.int .i64 k, .int .i64 n] w fun e w' => e = .returned (.int .i64 (k % n)) ∧ w' = w := by
  have hm1 := Int.emod_nonneg k (show n ≠ 0 by omega)
  have hm2 := Int.emod_lt_of_pos k hn
  by_cases h0 : 0 ≤ k
  · go_enter Try.func28, Try.ntmps28
    go_wp2
    go_ret
    exact ⟨rfl, rfl⟩
  · have HT := hide (tmod_cases k n hn)
    go_enter Try.func28, Try.ntmps28
    go_wp2
    all_goals go_ret
    all_goals refine ⟨ret_pick ?_, rfl⟩
    all_goals (have hT := unhide HT; clear HT; first | omega | (unfold wrap64; omega))

end Go.Proofs.Ytbadhnmljlmefaa
