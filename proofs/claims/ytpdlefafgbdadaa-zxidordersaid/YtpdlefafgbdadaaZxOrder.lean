/-
  ZxidOrder: the law's walk, out of the contracts of Make, Epoch and Count.
-/
import Derived.Test.YtpdlefafgbdadaaZxNumbers
namespace Go.Proofs.Ytpdlefafgbdadaa
open Go.RowKit

theorem zMake_in (a b : Int) : (zIn a = true ∧ zIn b = true) ∨ (zMake a b = 0 ∧ zMakeE a b = 3) := by
  cases ha : zIn a
  · exact .inr (zMake_no (.inl ha))
  cases hb : zIn b
  · exact .inr (zMake_no (.inr hb))
  exact .inl ⟨rfl, rfl⟩

set_option maxHeartbeats 1000000 in
theorem zxidOrder_walk (a b c d : Int) (w : World) : Calls Try.prog 5 #[.int .i64 a, .int .i64 b, .int .i64 c, .int .i64 d] w fun e w' => e = .returned (.bool true) ∧ Below w.heap.size w w' := by
  rcases zMake_in a b with ⟨ha, hb⟩ | h1
  rotate_left
  · have H1 := hide h1
    clear h1
    obtain ⟨X, hX⟩ : ∃ X, zMake c d = X := ⟨_, rfl⟩
    obtain ⟨E, hE⟩ : ∃ E, zMakeE c d = E := ⟨_, rfl⟩
    have H2 : Hid (zMake c d = X ∧ zMakeE c d = E) := hide ⟨hX, hE⟩
    clear hX hE
    go_enter Try.func5, Try.ntmps5
    go_wp2_with fail
    refine (zmake_any a b _).mono ?_
    rintro e w1 ⟨rfl, rfl⟩
    rw [(unhide H1).1, (unhide H1).2]
    go_wp2_with fail
    refine (zmake_any c d _).mono ?_
    rintro e w1 ⟨rfl, rfl⟩
    rw [(unhide H2).1, (unhide H2).2]
    go_wp2_with fail
    refine (numbers_any _).mono ?_
    rintro e w1 ⟨rfl, rfl⟩
    go_wp2_with fail
    go_ret
    exact ⟨rfl, Below.refl _ _⟩
  have a0 := zIn_iff.1 ha
  have b0 := zIn_iff.1 hb
  have h1 := zMake_yes ha hb
  obtain ⟨x, hx⟩ : ∃ x, a * 2147483648 + b = x := ⟨_, rfl⟩
  rw [hx] at h1
  have H1 := hide h1
  clear h1 ha hb
  rcases zMake_in c d with ⟨hc, hd⟩ | h2
  rotate_left
  · have H2 := hide h2
    clear h2 a0 b0 hx
    go_enter Try.func5, Try.ntmps5
    go_wp2_with fail
    refine (zmake_any a b _).mono ?_
    rintro e w1 ⟨rfl, rfl⟩
    rw [(unhide H1).1, (unhide H1).2]
    go_wp2_with fail
    refine (zmake_any c d _).mono ?_
    rintro e w1 ⟨rfl, rfl⟩
    rw [(unhide H2).1, (unhide H2).2]
    go_wp2_with fail
    refine (numbers_any _).mono ?_
    rintro e w1 ⟨rfl, rfl⟩
    go_wp2_with fail
    go_ret
    exact ⟨rfl, Below.refl _ _⟩
  have c0 := zIn_iff.1 hc
  have d0 := zIn_iff.1 hd
  have h2 := zMake_yes hc hd
  obtain ⟨y, hy⟩ : ∃ y, c * 2147483648 + d = y := ⟨_, rfl⟩
  rw [hy] at h2
  have H2 := hide h2
  clear h2 hc hd
  have Ex : Hid (zEpoch x = a) := hide (by rw [zEpoch_yes (zGood_iff.2 (by omega))]; omega)
  have Cx : Hid (zCount x = b) := hide (by rw [zCount_yes (zGood_iff.2 (by omega))]; omega)
  have hk : (a < c) ∨ (c < a) ∨ (a = c ∧ b < d) ∨ (a = c ∧ d < b) ∨ (a = c ∧ b = d) := by omega
  rcases hk with hk | hk | hk | hk | hk
  · have k1 : decide (a < c) = true := decide_eq_true hk
    have k2 : (a == c) = false := by rw [beq_eq_false_iff_ne]; omega
    have k3 : decide (x < y) = true := decide_eq_true (by omega)
    have k4 : (x == y) = false := by rw [beq_eq_false_iff_ne]; omega
    clear hk hx hy a0 b0 c0 d0
    go_enter Try.func5, Try.ntmps5
    go_wp2_with fail
    refine (zmake_any a b _).mono ?_
    rintro e w1 ⟨rfl, rfl⟩
    rw [(unhide H1).1, (unhide H1).2]
    go_wp2_with fail
    refine (zmake_any c d _).mono ?_
    rintro e w1 ⟨rfl, rfl⟩
    rw [(unhide H2).1, (unhide H2).2]
    go_wp2_with fail
    refine (numbers_any _).mono ?_
    rintro e w1 ⟨rfl, rfl⟩
    go_wp2_with fail
    refine (zepoch_any x _).mono ?_
    rintro e w1 ⟨rfl, rfl⟩
    rw [unhide Ex]
    go_wp2_with fail
    refine (zcount_any x _).mono ?_
    rintro e w1 ⟨rfl, rfl⟩
    rw [unhide Cx]
    go_wp2_with fail
    go_ret
    exact ⟨rfl, Below.refl _ _⟩
  · have k1 : decide (a < c) = false := decide_eq_false (by omega)
    have k2 : (a == c) = false := by rw [beq_eq_false_iff_ne]; omega
    have k3 : decide (x < y) = false := decide_eq_false (by omega)
    have k4 : (x == y) = false := by rw [beq_eq_false_iff_ne]; omega
    clear hk hx hy a0 b0 c0 d0
    go_enter Try.func5, Try.ntmps5
    go_wp2_with fail
    refine (zmake_any a b _).mono ?_
    rintro e w1 ⟨rfl, rfl⟩
    rw [(unhide H1).1, (unhide H1).2]
    go_wp2_with fail
    refine (zmake_any c d _).mono ?_
    rintro e w1 ⟨rfl, rfl⟩
    rw [(unhide H2).1, (unhide H2).2]
    go_wp2_with fail
    refine (numbers_any _).mono ?_
    rintro e w1 ⟨rfl, rfl⟩
    go_wp2_with fail
    refine (zepoch_any x _).mono ?_
    rintro e w1 ⟨rfl, rfl⟩
    rw [unhide Ex]
    go_wp2_with fail
    refine (zcount_any x _).mono ?_
    rintro e w1 ⟨rfl, rfl⟩
    rw [unhide Cx]
    go_wp2_with fail
    go_ret
    exact ⟨rfl, Below.refl _ _⟩
  · have k1 : decide (a < c) = false := decide_eq_false (by omega)
    have k2 : (a == c) = true := by rw [beq_iff_eq]; omega
    have k5 : decide (b < d) = true := decide_eq_true hk.2
    have k6 : (b == d) = false := by rw [beq_eq_false_iff_ne]; omega
    have k3 : decide (x < y) = true := decide_eq_true (by omega)
    have k4 : (x == y) = false := by rw [beq_eq_false_iff_ne]; omega
    clear hk hx hy a0 b0 c0 d0
    go_enter Try.func5, Try.ntmps5
    go_wp2_with fail
    refine (zmake_any a b _).mono ?_
    rintro e w1 ⟨rfl, rfl⟩
    rw [(unhide H1).1, (unhide H1).2]
    go_wp2_with fail
    refine (zmake_any c d _).mono ?_
    rintro e w1 ⟨rfl, rfl⟩
    rw [(unhide H2).1, (unhide H2).2]
    go_wp2_with fail
    refine (numbers_any _).mono ?_
    rintro e w1 ⟨rfl, rfl⟩
    go_wp2_with fail
    refine (zepoch_any x _).mono ?_
    rintro e w1 ⟨rfl, rfl⟩
    rw [unhide Ex]
    go_wp2_with fail
    refine (zcount_any x _).mono ?_
    rintro e w1 ⟨rfl, rfl⟩
    rw [unhide Cx]
    go_wp2_with fail
    go_ret
    exact ⟨rfl, Below.refl _ _⟩
  · have k1 : decide (a < c) = false := decide_eq_false (by omega)
    have k2 : (a == c) = true := by rw [beq_iff_eq]; omega
    have k5 : decide (b < d) = false := decide_eq_false (by omega)
    have k6 : (b == d) = false := by rw [beq_eq_false_iff_ne]; omega
    have k3 : decide (x < y) = false := decide_eq_false (by omega)
    have k4 : (x == y) = false := by rw [beq_eq_false_iff_ne]; omega
    clear hk hx hy a0 b0 c0 d0
    go_enter Try.func5, Try.ntmps5
    go_wp2_with fail
    refine (zmake_any a b _).mono ?_
    rintro e w1 ⟨rfl, rfl⟩
    rw [(unhide H1).1, (unhide H1).2]
    go_wp2_with fail
    refine (zmake_any c d _).mono ?_
    rintro e w1 ⟨rfl, rfl⟩
    rw [(unhide H2).1, (unhide H2).2]
    go_wp2_with fail
    refine (numbers_any _).mono ?_
    rintro e w1 ⟨rfl, rfl⟩
    go_wp2_with fail
    refine (zepoch_any x _).mono ?_
    rintro e w1 ⟨rfl, rfl⟩
    rw [unhide Ex]
    go_wp2_with fail
    refine (zcount_any x _).mono ?_
    rintro e w1 ⟨rfl, rfl⟩
    rw [unhide Cx]
    go_wp2_with fail
    go_ret
    exact ⟨rfl, Below.refl _ _⟩
  · have k1 : decide (a < c) = false := decide_eq_false (by omega)
    have k2 : (a == c) = true := by rw [beq_iff_eq]; omega
    have k5 : decide (b < d) = false := decide_eq_false (by omega)
    have k6 : (b == d) = true := by rw [beq_iff_eq]; omega
    have k3 : decide (x < y) = false := decide_eq_false (by omega)
    have k4 : (x == y) = true := by rw [beq_iff_eq]; omega
    clear hk hx hy a0 b0 c0 d0
    go_enter Try.func5, Try.ntmps5
    go_wp2_with fail
    refine (zmake_any a b _).mono ?_
    rintro e w1 ⟨rfl, rfl⟩
    rw [(unhide H1).1, (unhide H1).2]
    go_wp2_with fail
    refine (zmake_any c d _).mono ?_
    rintro e w1 ⟨rfl, rfl⟩
    rw [(unhide H2).1, (unhide H2).2]
    go_wp2_with fail
    refine (numbers_any _).mono ?_
    rintro e w1 ⟨rfl, rfl⟩
    go_wp2_with fail
    refine (zepoch_any x _).mono ?_
    rintro e w1 ⟨rfl, rfl⟩
    rw [unhide Ex]
    go_wp2_with fail
    refine (zcount_any x _).mono ?_
    rintro e w1 ⟨rfl, rfl⟩
    rw [unhide Cx]
    go_wp2_with fail
    go_ret
    exact ⟨rfl, Below.refl _ _⟩

end Go.Proofs.Ytpdlefafgbdadaa
