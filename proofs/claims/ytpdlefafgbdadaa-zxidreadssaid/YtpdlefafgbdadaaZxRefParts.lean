/-
  What aviaryref.GoodZxid, Epoch and Count answer, for every number: the walks.
-/
import Derived.Test.YtpdlefafgbdadaaZxNum
namespace Go.Proofs.Ytpdlefafgbdadaa
open Go.RowKit

theorem tdq {z : Int} (h0 : 0 ≤ z) (hm : z ≤ 9223372036854775807) : wrap64 (z.tdiv 2147483648) = z / 2147483648 := by
  rw [Int.tdiv_eq_ediv_of_nonneg h0]; unfold wrap64; omega
theorem tmq {z : Int} (h0 : 0 ≤ z) : wrap64 (z.tmod 2147483648) = z % 2147483648 := by
  rw [Int.tmod_eq_emod_of_nonneg h0]; unfold wrap64; omega
theorem tmq' {z : Int} (h0 : 0 ≤ z) : z.tmod 2147483648 = z % 2147483648 := Int.tmod_eq_emod_of_nonneg h0

set_option maxHeartbeats 400000 in
theorem rgood_any (z : Int) (hm : z ≤ 9223372036854775807) (w : World) : Calls Try.prog 18 #[.int .i64 z] w fun e w' => e = .returned (.bool (zGood z)) ∧ w' = w := by
  by_cases h0 : 0 ≤ z
  · by_cases h1 : z < 4611686018427387904
    · have H := hide (zGood_iff.2 ⟨h0, h1⟩)
      have h2 : decide (z / 2147483648 < 2147483648) = true := decide_eq_true (by omega)
      go_enter Try.func18, Try.ntmps18
      go_wp2_with fail
      go_ret
      exact ⟨zret_bool (Eq.trans (by first | rfl | exact h2 | (rw [tdq h0 hm]; exact h2)) (unhide H).symm), rfl⟩
    · have H := hide (zGood_no (z := z) (by omega))
      have h2 : decide (z / 2147483648 < 2147483648) = false := decide_eq_false (by omega)
      go_enter Try.func18, Try.ntmps18
      go_wp2_with fail
      go_ret
      exact ⟨zret_bool (Eq.trans (by first | rfl | exact h2 | (rw [tdq h0 hm]; exact h2)) (unhide H).symm), rfl⟩
  · have H := hide (zGood_no (z := z) (by omega))
    go_enter Try.func18, Try.ntmps18
    go_wp2_with fail
    go_ret
    exact ⟨zret_bool (by rw [unhide H]), rfl⟩

set_option maxHeartbeats 400000 in
theorem repoch_any (z : Int) (hm : z ≤ 9223372036854775807) (w : World) : Calls Try.prog 19 #[.int .i64 z] w fun e w' => e = .returned (.int .i64 (zEpoch z)) ∧ w' = w := by
  cases hg : zGood z
  · have H := hide (zEpoch_no hg)
    have Hg := hide hg
    clear hg
    go_enter Try.func19, Try.ntmps19
    go_wp2_with fail
    refine (rgood_any z hm _).mono ?_
    rintro e w1 ⟨rfl, rfl⟩
    rw [unhide Hg]
    go_wp2_with fail
    go_ret
    exact ⟨ret_int (unhide H).symm, rfl⟩
  · have H := hide (zEpoch_yes hg)
    have Hg := hide hg
    have h0 := (zGood_iff.1 hg).1
    clear hg
    go_enter Try.func19, Try.ntmps19
    go_wp2_with fail
    refine (rgood_any z hm _).mono ?_
    rintro e w1 ⟨rfl, rfl⟩
    rw [unhide Hg]
    go_wp2_with fail
    go_ret
    exact ⟨ret_int (Eq.trans (by first | rfl | exact tdq h0 hm) (unhide H).symm), rfl⟩

set_option maxHeartbeats 400000 in
theorem rcount_any (z : Int) (hm : z ≤ 9223372036854775807) (w : World) : Calls Try.prog 20 #[.int .i64 z] w fun e w' => e = .returned (.int .i64 (zCount z)) ∧ w' = w := by
  cases hg : zGood z
  · have H := hide (zCount_no hg)
    have Hg := hide hg
    clear hg
    go_enter Try.func20, Try.ntmps20
    go_wp2_with fail
    refine (rgood_any z hm _).mono ?_
    rintro e w1 ⟨rfl, rfl⟩
    rw [unhide Hg]
    go_wp2_with fail
    go_ret
    exact ⟨ret_int (unhide H).symm, rfl⟩
  · have H := hide (zCount_yes hg)
    have Hg := hide hg
    have h0 := (zGood_iff.1 hg).1
    clear hg
    go_enter Try.func20, Try.ntmps20
    go_wp2_with fail
    refine (rgood_any z hm _).mono ?_
    rintro e w1 ⟨rfl, rfl⟩
    rw [unhide Hg]
    go_wp2_with fail
    go_ret
    exact ⟨ret_int (Eq.trans (by first | rfl | exact tmq h0 | exact tmq' h0) (unhide H).symm), rfl⟩

end Go.Proofs.Ytpdlefafgbdadaa
