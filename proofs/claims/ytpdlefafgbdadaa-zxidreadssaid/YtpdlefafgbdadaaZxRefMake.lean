/-
  What aviaryref.Make, Next and Begin answer, for every number: the walks.
-/
import Derived.Test.YtpdlefafgbdadaaZxRefParts
namespace Go.Proofs.Ytpdlefafgbdadaa
open Go.RowKit

set_option maxHeartbeats 400000 in
theorem rmake_any (e c : Int) (w : World) :
    Calls Try.prog 7 #[.int .i64 e, .int .i64 c] w fun x w' => x = .returned (.tuple #[.int .i64 (zMake e c), .int .i64 (zMakeE e c)]) ∧ w' = w := by
  by_cases h1 : e < 0
  · have H := hide (zMake_no (e := e) (c := c) (.inl (zIn_no (by omega))))
    go_enter Try.func7, Try.ntmps7
    go_wp2_with fail
    go_ret2
    exact ⟨ret_int2 (unhide H).1.symm (unhide H).2.symm, rfl⟩
  by_cases h2 : 2147483648 ≤ e
  · have H := hide (zMake_no (e := e) (c := c) (.inl (zIn_no (by omega))))
    go_enter Try.func7, Try.ntmps7
    go_wp2_with fail
    go_ret2
    exact ⟨ret_int2 (unhide H).1.symm (unhide H).2.symm, rfl⟩
  by_cases h3 : c < 0
  · have H := hide (zMake_no (e := e) (c := c) (.inr (zIn_no (by omega))))
    go_enter Try.func7, Try.ntmps7
    go_wp2_with fail
    go_ret2
    exact ⟨ret_int2 (unhide H).1.symm (unhide H).2.symm, rfl⟩
  by_cases h4 : 2147483648 ≤ c
  · have H := hide (zMake_no (e := e) (c := c) (.inr (zIn_no (by omega))))
    go_enter Try.func7, Try.ntmps7
    go_wp2_with fail
    go_ret2
    exact ⟨ret_int2 (unhide H).1.symm (unhide H).2.symm, rfl⟩
  have H := hide (zMake_yes (e := e) (c := c) (zIn_iff.2 (by omega)) (zIn_iff.2 (by omega)))
  go_enter Try.func7, Try.ntmps7
  go_wp2_with fail
  go_ret2
  exact ⟨ret_int2 (unhide H).1.symm (unhide H).2.symm, rfl⟩

set_option maxHeartbeats 400000 in
theorem rnext_any (z : Int) (hm : z ≤ 9223372036854775807) (w : World) : Calls Try.prog 9 #[.int .i64 z] w fun e w' => e = .returned (.tuple #[.int .i64 (zNext z), .int .i64 (zNextE z)]) ∧ w' = w := by
  cases hg : zGood z
  · have H := hide (zNext_bad hg)
    have Hg := hide hg
    clear hg
    go_enter Try.func9, Try.ntmps9
    go_wp2_with fail
    refine (rgood_any z hm _).mono ?_
    rintro e w1 ⟨rfl, rfl⟩
    rw [unhide Hg]
    go_wp2_with fail
    go_ret2
    exact ⟨ret_int2 (unhide H).1.symm (unhide H).2.symm, rfl⟩
  have hz := zGood_iff.1 hg
  have Ez : Hid (zEpoch z = z / 2147483648) := hide (zEpoch_yes hg)
  have Cz : Hid (zCount z = z % 2147483648) := hide (zCount_yes hg)
  obtain ⟨q, hq⟩ : ∃ q, z / 2147483648 = q := ⟨_, rfl⟩
  obtain ⟨r, hr⟩ : ∃ r, z % 2147483648 = r := ⟨_, rfl⟩
  have q0 : 0 ≤ q := by omega
  have q1 : q < 2147483648 := by omega
  have r0 : 0 ≤ r := by omega
  have r1 : r < 2147483648 := by omega
  have zqr : z = q * 2147483648 + r := by omega
  have Hg := hide hg
  have Hq := hide hq
  have Hr := hide hr
  cases hi : zIn (r + 1)
  · have H := hide (zNext_full hg (by rw [hr]; exact hi))
    have HM := hide (zMake_no (e := q) (c := (r + 1)) (.inr hi))
    clear hg hq hr hi hz zqr
    go_enter Try.func9, Try.ntmps9
    go_wp2_with fail
    refine (rgood_any z hm _).mono ?_
    rintro e w1 ⟨rfl, rfl⟩
    rw [unhide Hg]
    go_wp2_with fail
    refine (repoch_any z hm _).mono ?_
    rintro e w1 ⟨rfl, rfl⟩
    rw [unhide Ez, unhide Hq]
    go_wp2_with fail
    refine (rcount_any z hm _).mono ?_
    rintro e w1 ⟨rfl, rfl⟩
    rw [unhide Cz, unhide Hr]
    go_wp2_with fail
    refine (rmake_any q (r + 1) _).mono ?_
    rintro e w1 ⟨rfl, rfl⟩
    rw [(unhide HM).1, (unhide HM).2]
    go_wp2_with fail
    go_ret2
    exact ⟨ret_int2 (unhide H).1.symm (unhide H).2.symm, rfl⟩
  · have H := hide (zNext_ok hg (by rw [hr]; exact hi))
    have HM := hide (zMake_yes (e := q) (c := (r + 1)) (zIn_iff.2 ⟨q0, q1⟩) hi)
    have Hzq := hide zqr
    clear hg hq hr hi hz zqr
    go_enter Try.func9, Try.ntmps9
    go_wp2_with fail
    refine (rgood_any z hm _).mono ?_
    rintro e w1 ⟨rfl, rfl⟩
    rw [unhide Hg]
    go_wp2_with fail
    refine (repoch_any z hm _).mono ?_
    rintro e w1 ⟨rfl, rfl⟩
    rw [unhide Ez, unhide Hq]
    go_wp2_with fail
    refine (rcount_any z hm _).mono ?_
    rintro e w1 ⟨rfl, rfl⟩
    rw [unhide Cz, unhide Hr]
    go_wp2_with fail
    refine (rmake_any q (r + 1) _).mono ?_
    rintro e w1 ⟨rfl, rfl⟩
    rw [(unhide HM).1, (unhide HM).2]
    go_wp2_with fail
    go_ret2
    exact ⟨ret_int2 (by have h := unhide Hzq; rw [(unhide H).1]; omega) (unhide H).2.symm, rfl⟩

set_option maxHeartbeats 400000 in
theorem rbegin_any (z : Int) (hm : z ≤ 9223372036854775807) (w : World) : Calls Try.prog 11 #[.int .i64 z] w fun e w' => e = .returned (.tuple #[.int .i64 (zBegin z), .int .i64 (zBeginE z)]) ∧ w' = w := by
  cases hg : zGood z
  · have H := hide (zBegin_bad hg)
    have Hg := hide hg
    clear hg
    go_enter Try.func11, Try.ntmps11
    go_wp2_with fail
    refine (rgood_any z hm _).mono ?_
    rintro e w1 ⟨rfl, rfl⟩
    rw [unhide Hg]
    go_wp2_with fail
    go_ret2
    exact ⟨ret_int2 (unhide H).1.symm (unhide H).2.symm, rfl⟩
  have hz := zGood_iff.1 hg
  have Ez : Hid (zEpoch z = z / 2147483648) := hide (zEpoch_yes hg)
  have Cz : Hid (zCount z = z % 2147483648) := hide (zCount_yes hg)
  obtain ⟨q, hq⟩ : ∃ q, z / 2147483648 = q := ⟨_, rfl⟩
  obtain ⟨r, hr⟩ : ∃ r, z % 2147483648 = r := ⟨_, rfl⟩
  have q0 : 0 ≤ q := by omega
  have q1 : q < 2147483648 := by omega
  have r0 : 0 ≤ r := by omega
  have r1 : r < 2147483648 := by omega
  have zqr : z = q * 2147483648 + r := by omega
  have Hg := hide hg
  have Hq := hide hq
  have Hr := hide hr
  cases hi : zIn (q + 1)
  · have H := hide (zBegin_full hg (by rw [hq]; exact hi))
    have HM := hide (zMake_no (e := (q + 1)) (c := 0) (.inl hi))
    clear hg hq hr hi hz zqr
    go_enter Try.func11, Try.ntmps11
    go_wp2_with fail
    refine (rgood_any z hm _).mono ?_
    rintro e w1 ⟨rfl, rfl⟩
    rw [unhide Hg]
    go_wp2_with fail
    refine (repoch_any z hm _).mono ?_
    rintro e w1 ⟨rfl, rfl⟩
    rw [unhide Ez, unhide Hq]
    go_wp2_with fail
    refine (rmake_any (q + 1) 0 _).mono ?_
    rintro e w1 ⟨rfl, rfl⟩
    rw [(unhide HM).1, (unhide HM).2]
    go_wp2_with fail
    go_ret2
    exact ⟨ret_int2 (unhide H).1.symm (unhide H).2.symm, rfl⟩
  · have H := hide (zBegin_ok hg (by rw [hq]; exact hi))
    have HM := hide (zMake_yes (e := (q + 1)) (c := 0) hi (by decide))
    have Hzq := hide zqr
    clear hg hq hr hi hz zqr
    go_enter Try.func11, Try.ntmps11
    go_wp2_with fail
    refine (rgood_any z hm _).mono ?_
    rintro e w1 ⟨rfl, rfl⟩
    rw [unhide Hg]
    go_wp2_with fail
    refine (repoch_any z hm _).mono ?_
    rintro e w1 ⟨rfl, rfl⟩
    rw [unhide Ez, unhide Hq]
    go_wp2_with fail
    refine (rmake_any (q + 1) 0 _).mono ?_
    rintro e w1 ⟨rfl, rfl⟩
    rw [(unhide HM).1, (unhide HM).2]
    go_wp2_with fail
    go_ret2
    exact ⟨ret_int2 (by rw [(unhide H).1, unhide Hq] <;> omega) (unhide H).2.symm, rfl⟩

end Go.Proofs.Ytpdlefafgbdadaa
