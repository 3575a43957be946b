/-
  What zxid's functions on numbers answer, for every number: the walks.
-/
import Derived.Test.YtpdlefafgbdadaaRows
import Derived.Test.YtpdlefafgbdadaaZx
import Derived.WalkKit
import Derived.WalkSpells
import Derived.WalkLawsBesides
namespace Go.Proofs.Ytpdlefafgbdadaa
open Go.RowKit

theorem zret_bool {a b : Bool} (h : a = b) : Ending.returned (.bool a) = .returned (.bool b) := by rw [h]

set_option maxHeartbeats 400000 in
theorem zgood_any (z : Int) (w : World) :
    Calls Try.prog 17 #[.int .i64 z] w fun e w' => e = .returned (.bool (zGood z)) ∧ w' = w := by
  go_enter Try.func17, Try.ntmps17
  go_wp2
  go_ret
  exact ⟨zret_bool (by rw [Bool.eq_iff_iff, zGood_iff, beq_iff_eq]; omega), rfl⟩

set_option maxHeartbeats 400000 in
theorem zmake_any (e c : Int) (w : World) :
    Calls Try.prog 6 #[.int .i64 e, .int .i64 c] w fun x w' => x = .returned (.tuple #[.int .i64 (zMake e c), .int .i64 (zMakeE e c)]) ∧ w' = w := by
  by_cases h1 : e < 0
  · have H := hide (zMake_no (e := e) (c := c) (.inl (zIn_no (by omega))))
    go_enter Try.func6, Try.ntmps6
    go_wp2
    go_ret2
    exact ⟨ret_int2 (unhide H).1.symm (unhide H).2.symm, rfl⟩
  by_cases h2 : 2147483647 < e
  · have H := hide (zMake_no (e := e) (c := c) (.inl (zIn_no (by omega))))
    go_enter Try.func6, Try.ntmps6
    go_wp2
    go_ret2
    exact ⟨ret_int2 (unhide H).1.symm (unhide H).2.symm, rfl⟩
  by_cases h3 : c < 0
  · have H := hide (zMake_no (e := e) (c := c) (.inr (zIn_no (by omega))))
    go_enter Try.func6, Try.ntmps6
    go_wp2
    go_ret2
    exact ⟨ret_int2 (unhide H).1.symm (unhide H).2.symm, rfl⟩
  by_cases h4 : 2147483647 < c
  · have H := hide (zMake_no (e := e) (c := c) (.inr (zIn_no (by omega))))
    go_enter Try.func6, Try.ntmps6
    go_wp2
    go_ret2
    exact ⟨ret_int2 (unhide H).1.symm (unhide H).2.symm, rfl⟩
  have H := hide (zMake_yes (e := e) (c := c) (zIn_iff.2 (by omega)) (zIn_iff.2 (by omega)))
  go_enter Try.func6, Try.ntmps6
  go_wp2
  go_ret2
  exact ⟨ret_int2 ((or_join (by omega) (by omega) (by omega) (by omega)).trans (unhide H).1.symm) (unhide H).2.symm, rfl⟩

set_option maxHeartbeats 400000 in
theorem zepoch_any (z : Int) (w : World) :
    Calls Try.prog 15 #[.int .i64 z] w fun e w' => e = .returned (.int .i64 (zEpoch z)) ∧ w' = w := by
  cases hg : zGood z
  · have H := hide (zEpoch_no hg)
    have Hg := hide hg
    clear hg
    go_enter Try.func15, Try.ntmps15
    go_wp2_with fail
    refine (zgood_any z _).mono ?_
    rintro e w1 ⟨rfl, rfl⟩
    rw [unhide Hg]
    go_wp2_with fail
    go_ret
    exact ⟨ret_int (unhide H).symm, rfl⟩
  · have H := hide (zEpoch_yes hg)
    have Hg := hide hg
    clear hg
    go_enter Try.func15, Try.ntmps15
    go_wp2_with fail
    refine (zgood_any z _).mono ?_
    rintro e w1 ⟨rfl, rfl⟩
    rw [unhide Hg]
    go_wp2_with fail
    go_ret
    exact ⟨ret_int (unhide H).symm, rfl⟩

set_option maxHeartbeats 400000 in
theorem zcount_any (z : Int) (w : World) :
    Calls Try.prog 16 #[.int .i64 z] w fun e w' => e = .returned (.int .i64 (zCount z)) ∧ w' = w := by
  cases hg : zGood z
  · have H := hide (zCount_no hg)
    have Hg := hide hg
    clear hg
    go_enter Try.func16, Try.ntmps16
    go_wp2_with fail
    refine (zgood_any z _).mono ?_
    rintro e w1 ⟨rfl, rfl⟩
    rw [unhide Hg]
    go_wp2_with fail
    go_ret
    exact ⟨ret_int (unhide H).symm, rfl⟩
  · have H := hide (zCount_yes hg)
    have Hg := hide hg
    clear hg
    go_enter Try.func16, Try.ntmps16
    go_wp2_with fail
    refine (zgood_any z _).mono ?_
    rintro e w1 ⟨rfl, rfl⟩
    rw [unhide Hg]
    go_wp2_with fail
    go_ret
    have h := zGood_iff.1 (unhide Hg)
    exact ⟨ret_int ((and_mask h.1 h.2).trans (unhide H).symm), rfl⟩

end Go.Proofs.Ytpdlefafgbdadaa
