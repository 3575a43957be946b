/-
  ZxidSteps: the law's walk, out of the contracts of Next, Begin, Epoch, Count and Good.
-/
import Derived.Test.YtpdlefafgbdadabZxNext
import Derived.Test.YtpdlefafgbdadabZxNumbers
namespace Go.Proofs.Ytpdlefafgbdadab
open Go.RowKit

set_option maxHeartbeats 1000000 in
theorem zxidSteps_walk (z : Int) (w : World) : Calls Try.prog 3 #[.int .i64 z] w fun e w' => e = .returned (.bool true) ∧ Below w.heap.size w w' := by
  cases hg : zGood z
  · have H1 := hide (zNext_bad hg)
    have H2 := hide (zBegin_bad hg)
    have Hg := hide hg
    clear hg
    go_enter Try.func3, Try.ntmps3
    go_wp2_with fail
    refine (znext_any z _).mono ?_
    rintro e w1 ⟨rfl, rfl⟩
    rw [(unhide H1).1, (unhide H1).2]
    go_wp2_with fail
    refine (zbegin_any z _).mono ?_
    rintro e w1 ⟨rfl, rfl⟩
    rw [(unhide H2).1, (unhide H2).2]
    go_wp2_with fail
    refine (numbers_any _).mono ?_
    rintro e w1 ⟨rfl, rfl⟩
    go_wp2_with fail
    refine (zgood_any z _).mono ?_
    rintro e w1 ⟨rfl, rfl⟩
    rw [unhide Hg]
    go_wp2_with fail
    go_ret
    exact ⟨rfl, Below.refl _ _⟩
  have hz := zGood_iff.1 hg
  have Hez : Hid (zEpoch z = z / 2147483648) := hide (zEpoch_yes hg)
  have Hcz : Hid (zCount z = z % 2147483648) := hide (zCount_yes hg)
  obtain ⟨q, hq⟩ : ∃ q, z / 2147483648 = q := ⟨_, rfl⟩
  obtain ⟨r, hr⟩ : ∃ r, z % 2147483648 = r := ⟨_, rfl⟩
  have q0 : 0 ≤ q := by omega
  have q1 : q < 2147483648 := by omega
  have r0 : 0 ≤ r := by omega
  have r1 : r < 2147483648 := by omega
  have zqr : z = q * 2147483648 + r := by omega
  have Hg := hide hg
  have Ez : Hid (zEpoch z = q) := hide (by rw [unhide Hez, hq])
  have Cz : Hid (zCount z = r) := hide (by rw [unhide Hcz, hr])
  have Hn1 : Hid (zIn (r + 1) = false → zNext z = 0 ∧ zNextE z = 6) := hide (fun h => zNext_full hg (by rw [hr]; exact h))
  have Hn2 : Hid (zIn (r + 1) = true → zNext z = z + 1 ∧ zNextE z = 0) := hide (fun h => zNext_ok hg (by rw [hr]; exact h))
  have Hb1 : Hid (zIn (q + 1) = false → zBegin z = 0 ∧ zBeginE z = 6) := hide (fun h => zBegin_full hg (by rw [hq]; exact h))
  have Hb2 : Hid (zIn (q + 1) = true → zBegin z = (q + 1) * 2147483648 ∧ zBeginE z = 0) := hide (fun h => by
    have h1 := zBegin_ok hg (by rw [hq]; exact h)
    rw [hq] at h1
    exact h1)
  clear hg Hez Hcz hq hr hz
  cases hi : zIn (r + 1) <;> cases hj : zIn (q + 1)
  · have H1 := hide (unhide Hn1 hi)
    have H2 := hide (unhide Hb1 hj)
    clear Hn1 Hn2 Hb1 Hb2 hi hj zqr
    go_enter Try.func3, Try.ntmps3
    go_wp2_with fail
    refine (znext_any z _).mono ?_
    rintro e w1 ⟨rfl, rfl⟩
    rw [(unhide H1).1, (unhide H1).2]
    go_wp2_with fail
    refine (zbegin_any z _).mono ?_
    rintro e w1 ⟨rfl, rfl⟩
    rw [(unhide H2).1, (unhide H2).2]
    go_wp2_with fail
    refine (numbers_any _).mono ?_
    rintro e w1 ⟨rfl, rfl⟩
    go_wp2_with fail
    refine (zgood_any z _).mono ?_
    rintro e w1 ⟨rfl, rfl⟩
    rw [unhide Hg]
    go_wp2_with fail
    go_ret
    exact ⟨rfl, Below.refl _ _⟩
  · have H1 := hide (unhide Hn1 hi)
    have H2 := hide (unhide Hb2 hj)
    have hj1 := zIn_iff.1 hj
    obtain ⟨B, hB⟩ : ∃ B, (q + 1) * 2147483648 = B := ⟨_, rfl⟩
    rw [hB] at H2
    have EB : Hid (zEpoch B = q + 1) := hide (by rw [zEpoch_yes (zGood_iff.2 (by omega))]; omega)
    have CB : Hid (zCount B = 0) := hide (by rw [zCount_yes (zGood_iff.2 (by omega))]; omega)
    have hBz : decide (B ≤ z) = false := decide_eq_false (by omega)
    have hqq : (q + 1 - q != 1) = false := by rw [bne_eq_false_iff_eq]; omega
    clear Hn1 Hn2 Hb1 Hb2 hi hj hj1 zqr hB
    go_enter Try.func3, Try.ntmps3
    go_wp2_with fail
    refine (znext_any z _).mono ?_
    rintro e w1 ⟨rfl, rfl⟩
    rw [(unhide H1).1, (unhide H1).2]
    go_wp2_with fail
    refine (zbegin_any z _).mono ?_
    rintro e w1 ⟨rfl, rfl⟩
    rw [(unhide H2).1, (unhide H2).2]
    go_wp2_with fail
    refine (numbers_any _).mono ?_
    rintro e w1 ⟨rfl, rfl⟩
    go_wp2_with fail
    refine (zepoch_any B _).mono ?_
    rintro e w1 ⟨rfl, rfl⟩
    rw [unhide EB]
    go_wp2_with fail
    refine (zepoch_any z _).mono ?_
    rintro e w1 ⟨rfl, rfl⟩
    rw [unhide Ez]
    go_wp2_with fail
    refine (zcount_any B _).mono ?_
    rintro e w1 ⟨rfl, rfl⟩
    rw [unhide CB]
    go_wp2_with fail
    refine (zgood_any z _).mono ?_
    rintro e w1 ⟨rfl, rfl⟩
    rw [unhide Hg]
    go_wp2_with fail
    go_ret
    exact ⟨rfl, Below.refl _ _⟩
  · have H1 := hide (unhide Hn2 hi)
    have H2 := hide (unhide Hb1 hj)
    have hi1 := zIn_iff.1 hi
    obtain ⟨N, hN⟩ : ∃ N, z + 1 = N := ⟨_, rfl⟩
    rw [hN] at H1
    have EN : Hid (zEpoch N = q) := hide (by rw [zEpoch_yes (zGood_iff.2 (by omega))]; omega)
    have CN : Hid (zCount N = r + 1) := hide (by rw [zCount_yes (zGood_iff.2 (by omega))]; omega)
    have hNz : decide (N ≤ z) = false := decide_eq_false (by omega)
    have hrr : (r + 1 - r != 1) = false := by rw [bne_eq_false_iff_eq]; omega
    clear Hn1 Hn2 Hb1 Hb2 hi hj hi1 zqr hN
    go_enter Try.func3, Try.ntmps3
    go_wp2_with fail
    refine (znext_any z _).mono ?_
    rintro e w1 ⟨rfl, rfl⟩
    rw [(unhide H1).1, (unhide H1).2]
    go_wp2_with fail
    refine (zbegin_any z _).mono ?_
    rintro e w1 ⟨rfl, rfl⟩
    rw [(unhide H2).1, (unhide H2).2]
    go_wp2_with fail
    refine (numbers_any _).mono ?_
    rintro e w1 ⟨rfl, rfl⟩
    go_wp2_with fail
    refine (zepoch_any N _).mono ?_
    rintro e w1 ⟨rfl, rfl⟩
    rw [unhide EN]
    go_wp2_with fail
    refine (zepoch_any z _).mono ?_
    rintro e w1 ⟨rfl, rfl⟩
    rw [unhide Ez]
    go_wp2_with fail
    refine (zcount_any N _).mono ?_
    rintro e w1 ⟨rfl, rfl⟩
    rw [unhide CN]
    go_wp2_with fail
    refine (zcount_any z _).mono ?_
    rintro e w1 ⟨rfl, rfl⟩
    rw [unhide Cz]
    go_wp2_with fail
    refine (zgood_any z _).mono ?_
    rintro e w1 ⟨rfl, rfl⟩
    rw [unhide Hg]
    go_wp2_with fail
    go_ret
    exact ⟨rfl, Below.refl _ _⟩
  · have H1 := hide (unhide Hn2 hi)
    have H2 := hide (unhide Hb2 hj)
    have hi1 := zIn_iff.1 hi
    obtain ⟨N, hN⟩ : ∃ N, z + 1 = N := ⟨_, rfl⟩
    rw [hN] at H1
    have EN : Hid (zEpoch N = q) := hide (by rw [zEpoch_yes (zGood_iff.2 (by omega))]; omega)
    have CN : Hid (zCount N = r + 1) := hide (by rw [zCount_yes (zGood_iff.2 (by omega))]; omega)
    have hNz : decide (N ≤ z) = false := decide_eq_false (by omega)
    have hrr : (r + 1 - r != 1) = false := by rw [bne_eq_false_iff_eq]; omega
    have hj1 := zIn_iff.1 hj
    obtain ⟨B, hB⟩ : ∃ B, (q + 1) * 2147483648 = B := ⟨_, rfl⟩
    rw [hB] at H2
    have EB : Hid (zEpoch B = q + 1) := hide (by rw [zEpoch_yes (zGood_iff.2 (by omega))]; omega)
    have CB : Hid (zCount B = 0) := hide (by rw [zCount_yes (zGood_iff.2 (by omega))]; omega)
    have hBz : decide (B ≤ z) = false := decide_eq_false (by omega)
    have hqq : (q + 1 - q != 1) = false := by rw [bne_eq_false_iff_eq]; omega
    have hBN : decide (B ≤ N) = false := decide_eq_false (by omega)
    clear Hn1 Hn2 Hb1 Hb2 hi hj hi1 hj1 zqr hN hB
    go_enter Try.func3, Try.ntmps3
    go_wp2_with fail
    refine (znext_any z _).mono ?_
    rintro e w1 ⟨rfl, rfl⟩
    rw [(unhide H1).1, (unhide H1).2]
    go_wp2_with fail
    refine (zbegin_any z _).mono ?_
    rintro e w1 ⟨rfl, rfl⟩
    rw [(unhide H2).1, (unhide H2).2]
    go_wp2_with fail
    refine (numbers_any _).mono ?_
    rintro e w1 ⟨rfl, rfl⟩
    go_wp2_with fail
    refine (zepoch_any N _).mono ?_
    rintro e w1 ⟨rfl, rfl⟩
    rw [unhide EN]
    go_wp2_with fail
    refine (zepoch_any z _).mono ?_
    rintro e w1 ⟨rfl, rfl⟩
    rw [unhide Ez]
    go_wp2_with fail
    refine (zcount_any N _).mono ?_
    rintro e w1 ⟨rfl, rfl⟩
    rw [unhide CN]
    go_wp2_with fail
    refine (zcount_any z _).mono ?_
    rintro e w1 ⟨rfl, rfl⟩
    rw [unhide Cz]
    go_wp2_with fail
    refine (zepoch_any B _).mono ?_
    rintro e w1 ⟨rfl, rfl⟩
    rw [unhide EB]
    go_wp2_with fail
    refine (zepoch_any z _).mono ?_
    rintro e w1 ⟨rfl, rfl⟩
    rw [unhide Ez]
    go_wp2_with fail
    refine (zcount_any B _).mono ?_
    rintro e w1 ⟨rfl, rfl⟩
    rw [unhide CB]
    go_wp2_with fail
    refine (zgood_any z _).mono ?_
    rintro e w1 ⟨rfl, rfl⟩
    rw [unhide Hg]
    go_wp2_with fail
    go_ret
    exact ⟨rfl, Below.refl _ _⟩

end Go.Proofs.Ytpdlefafgbdadab
