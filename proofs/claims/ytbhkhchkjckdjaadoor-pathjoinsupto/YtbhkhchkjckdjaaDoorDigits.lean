/-
  Ten decimal digits: their length, their bytes, and that their order is the order of the numbers; no program is named here.
-/
import Derived.Test.YtbhkhchkjckdjaaDoorPlain
import Derived.Lib.ItoaMem
import Derived.Lib.Repeat
namespace Go.Proofs.YtbhkhchkjckdjaaDoor
open Go.RowKit

/-- n in ten decimal digits, noughts ahead -/
def ten (n : Nat) : List UInt8 := (List.range 10).map fun t => Lib.dg n (9 - t)
theorem ten_length (n : Nat) : (ten n).length = 10 := by simp [ten]

theorem nDigits_le_ten (n : Nat) (h : n ≤ 2147483647) : Lib.nDigits n ≤ 10 := by
  have aux : ∀ k u, u < 10 ^ (k + 1) → Lib.nDigits u ≤ k + 1 := by
    intro k
    induction k with
    | zero => intro u hu; rw [Lib.nDigits_small (by simpa using hu)]; omega
    | succ k ih =>
      intro u hu
      by_cases h : u < 10
      · rw [Lib.nDigits_small h]; omega
      · rw [Lib.nDigits_big h]
        have := ih (u / 10) (by rw [Nat.pow_succ] at hu; omega)
        omega
  exact aux 9 n (by omega)

theorem dg_zero (u p : Nat) (h : u < 10 ^ p) : Lib.dg u p = 48 := by
  unfold Lib.dg
  rw [Nat.div_eq_of_lt h]
  rfl

theorem ten_eq (n : Nat) (h : n ≤ 2147483647) : Lib.repeatL [48] (10 - (Lib.decDigits n).length) ++ Lib.decDigits n = ten n := by
  have hd := nDigits_le_ten n h
  have hp := Lib.nDigits_pos n
  have hr : ∀ c, Lib.repeatL [48] c = List.replicate c 48 := fun c => by
    have := Lib.repeatL_replicate 48 1 c
    simpa using this
  rw [Lib.decDigits_length, hr, Lib.decDigits_eq]
  apply List.ext_getElem
  · simp [ten]; omega
  · intro i h1 h2
    have hi : i < 10 := by simpa [ten] using h2
    by_cases hc : i < 10 - Lib.nDigits n
    · rw [List.getElem_append_left (by simpa using hc)]
      simp only [List.getElem_replicate, ten, List.getElem_map, List.getElem_range]
      exact (dg_zero n (9 - i) (Nat.lt_of_lt_of_le (Lib.lt_pow_nDigits n) (Nat.pow_le_pow_right (by decide) (by omega)))).symm
    · rw [List.getElem_append_right (by simp; omega)]
      simp only [List.length_replicate, ten, List.getElem_map, List.getElem_range]
      congr 1
      omega

/-- the number that a list of digits means -/
def val : List UInt8 → Nat
  | [] => 0
  | c :: l => (c.toNat - 48) * 10 ^ l.length + val l
def isDig (c : UInt8) : Prop := 48 ≤ c.toNat ∧ c.toNat ≤ 57
theorem val_lt : ∀ l : List UInt8, (∀ c ∈ l, isDig c) → val l < 10 ^ l.length
  | [], _ => by simp [val]
  | c :: l, h => by
    have hc := h c (by simp)
    have ih := val_lt l (fun x hx => h x (by simp [hx]))
    have h9 : c.toNat - 48 ≤ 9 := by unfold isDig at hc; omega
    have hm : (c.toNat - 48) * 10 ^ l.length ≤ 9 * 10 ^ l.length := Nat.mul_le_mul_right _ h9
    simp only [val, List.length_cons, Nat.pow_succ]
    omega
theorem less_val : ∀ a b : List UInt8, a.length = b.length → (∀ c ∈ a, isDig c) → (∀ c ∈ b, isDig c) → (Op.bytesLess a b = true ↔ val a < val b)
  | [], [], _, _, _ => by simp [Op.bytesLess, val]
  | x :: a, y :: b, hl, ha, hb => by
    have hl' : a.length = b.length := by simpa using hl
    have hx := ha x (by simp)
    have hy := hb y (by simp)
    have ih := less_val a b hl' (fun c hc => ha c (by simp [hc])) (fun c hc => hb c (by simp [hc]))
    have va := val_lt a (fun c hc => ha c (by simp [hc]))
    have vb := val_lt b (fun c hc => hb c (by simp [hc]))
    unfold isDig at hx hy
    simp only [Op.bytesLess, val, hl', Bool.or_eq_true, Bool.and_eq_true, decide_eq_true_eq, beq_iff_eq, ih]
    rw [hl'] at va
    obtain ⟨P, hP⟩ : ∃ P, 10 ^ b.length = P := ⟨_, rfl⟩
    rw [hP] at va vb ⊢
    have hlt : (x < y) ↔ x.toNat < y.toNat := UInt8.lt_iff_toNat_lt
    have heq : (x = y) ↔ x.toNat = y.toNat := UInt8.toNat_inj.symm
    rw [hlt, heq]
    rcases Nat.lt_trichotomy x.toNat y.toNat with h | h | h
    · have hm : (x.toNat - 48 + 1) * P ≤ (y.toNat - 48) * P := Nat.mul_le_mul_right _ (by omega)
      rw [Nat.add_mul] at hm
      constructor
      · intro _; omega
      · intro _; exact .inl h
    · rw [h]
      constructor
      · rintro (h' | ⟨_, h'⟩) <;> omega
      · intro h'; exact .inr ⟨rfl, by omega⟩
    · have hm : (y.toNat - 48 + 1) * P ≤ (x.toNat - 48) * P := Nat.mul_le_mul_right _ (by omega)
      rw [Nat.add_mul] at hm
      constructor
      · rintro (h' | ⟨h', _⟩) <;> omega
      · intro h'; omega

theorem dg_toNat (u p : Nat) : (Lib.dg u p).toNat = 48 + u / 10 ^ p % 10 := by
  unfold Lib.dg
  simp only [UInt8.toNat_ofNat']
  omega
theorem ten_dig (n : Nat) : ∀ c ∈ ten n, isDig c := by
  intro c hc
  simp only [ten, List.mem_map] at hc
  obtain ⟨t, _, rfl⟩ := hc
  unfold isDig
  rw [dg_toNat]
  omega
theorem ten_letters (n : Nat) : (ten n).all letterB = true := by
  rw [List.all_eq_true]
  intro c hc
  have h := ten_dig n c hc
  unfold isDig at h
  simp [letterB, h.1, h.2]

theorem val_range (n : Nat) : ∀ k, val ((List.range k).map fun t => Lib.dg n (k - 1 - t)) = n % 10 ^ k
  | 0 => by simp [val, Nat.mod_one]
  | k + 1 => by
    have ih := val_range n k
    rw [List.range_succ_eq_map, List.map_cons, List.map_map]
    have e : ((List.range k).map ((fun t => Lib.dg n (k + 1 - 1 - t)) ∘ Nat.succ)) = (List.range k).map fun t => Lib.dg n (k - 1 - t) :=
      List.map_congr_left fun t _ => by simp only [Function.comp]; congr 1; omega
    simp only [val]
    rw [e, ih, dg_toNat, List.length_map, List.length_range, show k + 1 - 1 - 0 = k from by omega, Nat.pow_succ, Nat.mod_mul]
    rw [show 48 + n / 10 ^ k % 10 - 48 = n / 10 ^ k % 10 from by omega, Nat.mul_comm]
    omega
theorem val_ten (n : Nat) (h : n ≤ 2147483647) : val (ten n) = n := by
  have := val_range n 10
  unfold ten
  rw [show (fun t => Lib.dg n (9 - t)) = (fun t => Lib.dg n (10 - 1 - t)) from rfl, this]
  exact Nat.mod_eq_of_lt (by omega)

theorem less_prefix (p a b : List UInt8) : Op.bytesLess (p ++ a) (p ++ b) = Op.bytesLess a b := by
  induction p with
  | nil => rfl
  | cons x p ih => simp [Op.bytesLess, ih]
/-- THE ORDER OF TWO STEPS OF A SEQUENCE IS THE ORDER OF THEIR NUMBERS -/
theorem less_serial (p : List UInt8) (n m : Nat) (hn : n ≤ 2147483647) (hm : m ≤ 2147483647) : Op.bytesLess (p ++ ten n) (p ++ ten m) = decide (n < m) := by
  rw [less_prefix, Bool.eq_iff_iff, less_val _ _ (by simp [ten_length]) (ten_dig n) (ten_dig m), val_ten n hn, val_ten m hm]
  simp
theorem same_serial (p : List UInt8) (n m : Nat) (hn : n ≤ 2147483647) (hm : m ≤ 2147483647) : (p ++ ten n = p ++ ten m) ↔ n = m := by
  constructor
  · intro h
    have := List.append_cancel_left h
    rw [← val_ten n hn, ← val_ten m hm, this]
  · rintro rfl; rfl

end Go.Proofs.YtbhkhchkjckdjaaDoor
