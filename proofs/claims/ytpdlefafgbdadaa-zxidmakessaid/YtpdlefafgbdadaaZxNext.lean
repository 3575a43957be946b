/-
  What zxid.Next and zxid.Begin answer, for every number: the walks.
-/
import Derived.Test.YtpdlefafgbdadaaZxNum
namespace Go.Proofs.Ytpdlefafgbdadaa
open Go.RowKit

set_option maxHeartbeats 400000 in
theorem znext_any (z : Int) (w : World) :
    Calls Try.prog 8 #[.int .i64 z] w fun e w' => e = .returned (.tuple #[.int .i64 (zNext z), .int .i64 (zNextE z)]) ∧ w' = w := by
  cases hg : zGood z
  · have H := hide (zNext_bad hg)
    have Hg := hide hg
    clear hg
    go_enter Try.func8, Try.ntmps8
    go_wp2_with fail
    refine (zgood_any z _).mono ?_
    rintro e w1 ⟨rfl, rfl⟩
    rw [unhide Hg]
    go_wp2_with fail
    go_ret2
    exact ⟨ret_int2 (unhide H).1.symm (unhide H).2.symm, rfl⟩
  have hz := zGood_iff.1 hg
  have h0 := hz.1
  have h1 := hz.2
  clear hz
  cases hi : zIn (z % 2147483648 + 1)
  · have H := hide (zNext_full hg hi)
    have Hg := hide hg
    have hf : (z % 2147483648 == 2147483647) = true := by
      rw [beq_iff_eq]
      have := Int.emod_nonneg z (show (2147483648 : Int) ≠ 0 by decide)
      have := Int.emod_lt_of_pos z (show (0 : Int) < 2147483648 by decide)
      by_cases h : z % 2147483648 = 2147483647
      · exact h
      · rw [zIn_iff.2 (by omega)] at hi; exact absurd hi (by decide)
    clear hg hi
    go_enter Try.func8, Try.ntmps8
    go_wp2_with fail
    refine (zgood_any z _).mono ?_
    rintro e w1 ⟨rfl, rfl⟩
    rw [unhide Hg]
    go_wp2_with fail
    refine (zcount_any z _).mono ?_
    rintro e w2 ⟨rfl, rfl⟩
    rw [zCount_yes (unhide Hg)]
    go_wp2_with fail
    go_ret2
    exact ⟨ret_int2 (unhide H).1.symm (unhide H).2.symm, rfl⟩
  · have H := hide (zNext_ok hg hi)
    have Hg := hide hg
    have hf : (z % 2147483648 == 2147483647) = false := by
      rw [beq_eq_false_iff_ne]
      have := (zIn_iff.1 hi).2
      omega
    clear hg hi
    go_enter Try.func8, Try.ntmps8
    go_wp2_with fail
    refine (zgood_any z _).mono ?_
    rintro e w1 ⟨rfl, rfl⟩
    rw [unhide Hg]
    go_wp2_with fail
    refine (zcount_any z _).mono ?_
    rintro e w2 ⟨rfl, rfl⟩
    rw [zCount_yes (unhide Hg)]
    go_wp2_with fail
    go_ret2
    exact ⟨ret_int2 (unhide H).1.symm (unhide H).2.symm, rfl⟩

set_option maxHeartbeats 400000 in
theorem zbegin_any (z : Int) (w : World) :
    Calls Try.prog 10 #[.int .i64 z] w fun e w' => e = .returned (.tuple #[.int .i64 (zBegin z), .int .i64 (zBeginE z)]) ∧ w' = w := by
  cases hg : zGood z
  · have H := hide (zBegin_bad hg)
    have Hg := hide hg
    clear hg
    go_enter Try.func10, Try.ntmps10
    go_wp2_with fail
    refine (zgood_any z _).mono ?_
    rintro e w1 ⟨rfl, rfl⟩
    rw [unhide Hg]
    go_wp2_with fail
    go_ret2
    exact ⟨ret_int2 (unhide H).1.symm (unhide H).2.symm, rfl⟩
  have hz := zGood_iff.1 hg
  have h0 : 0 ≤ z / 2147483648 := by omega
  have h1 : z / 2147483648 < 2147483648 := by omega
  clear hz
  cases hi : zIn (z / 2147483648 + 1)
  · have H := hide (zBegin_full hg hi)
    have Hg := hide hg
    have hf : (z / 2147483648 == 2147483647) = true := by
      rw [beq_iff_eq]
      by_cases h : z / 2147483648 = 2147483647
      · exact h
      · rw [zIn_iff.2 (by omega)] at hi; exact absurd hi (by decide)
    clear hg hi
    go_enter Try.func10, Try.ntmps10
    go_wp2_with fail
    refine (zgood_any z _).mono ?_
    rintro e w1 ⟨rfl, rfl⟩
    rw [unhide Hg]
    go_wp2_with fail
    refine (zepoch_any z _).mono ?_
    rintro e w2 ⟨rfl, rfl⟩
    rw [zEpoch_yes (unhide Hg)]
    go_wp2_with fail
    go_ret2
    exact ⟨ret_int2 (unhide H).1.symm (unhide H).2.symm, rfl⟩
  · have H := hide (zBegin_ok hg hi)
    have Hg := hide hg
    have hlt := (zIn_iff.1 hi).2
    have hf : (z / 2147483648 == 2147483647) = false := by
      rw [beq_eq_false_iff_ne]
      omega
    clear hg hi
    go_enter Try.func10, Try.ntmps10
    go_wp2_with fail
    refine (zgood_any z _).mono ?_
    rintro e w1 ⟨rfl, rfl⟩
    rw [unhide Hg]
    go_wp2_with fail
    refine (zepoch_any z _).mono ?_
    rintro e w2 ⟨rfl, rfl⟩
    rw [zEpoch_yes (unhide Hg)]
    go_wp2_with fail
    refine (zepoch_any z _).mono ?_
    rintro e w3 ⟨rfl, rfl⟩
    rw [zEpoch_yes (unhide Hg)]
    generalize hq : z / 2147483648 = q at *
    have Hq := hide hq
    clear hq
    go_wp2_with fail
    go_ret2
    exact ⟨ret_int2 (unhide H).1.symm (unhide H).2.symm, rfl⟩

end Go.Proofs.Ytpdlefafgbdadaa
