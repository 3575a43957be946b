/-
  Decimal digits and the text of a zxid, as plain functions on lists of bytes; no program is named here.
-/
import Derived.Test.YtpdlefafgbdadaaZx
import Derived.Lib.ItoaNum
import Derived.Lib.IndexLaws
namespace Go.Proofs.Ytpdlefafgbdadaa
open Go.RowKit

def isD (c : UInt8) : Bool := decide (48 ≤ c.toNat) && decide (c.toNat ≤ 57)
theorem isD_iff {c : UInt8} : isD c = true ↔ 48 ≤ c.toNat ∧ c.toNat ≤ 57 := by simp [isD]
/-- the number that digits say -/
def num (l : List UInt8) : Nat := l.foldl (fun n c => 10 * n + (c.toNat - 48)) 0
theorem num_snoc (l : List UInt8) (c : UInt8) : num (l ++ [c]) = 10 * num l + (c.toNat - 48) := by simp [num]
theorem num_nil : num [] = 0 := rfl
theorem snoc_cases (l : List UInt8) : l = [] ∨ ∃ a c, l = a ++ [c] := by
  cases h : l.reverse with
  | nil => exact .inl (by simpa using h)
  | cons c r => exact .inr ⟨r.reverse, c, by have := congrArg List.reverse h; simpa using this⟩
theorem num_lt (l : List UInt8) (h : l.all isD = true) : num l < 10 ^ l.length := by
  obtain ⟨n, hn⟩ : ∃ n, l.length = n := ⟨_, rfl⟩
  induction n generalizing l with
  | zero => rw [List.length_eq_zero_iff.1 hn]; decide
  | succ n ih =>
    rcases snoc_cases l with rfl | ⟨a, c, rfl⟩
    · simp at hn
    · simp only [List.all_append, Bool.and_eq_true, List.all_cons, List.all_nil, Bool.and_true] at h
      have h1 := ih a h.1 (by simpa using hn)
      have h2 := isD_iff.1 h.2
      rw [num_snoc, List.length_append, List.length_singleton, Nat.pow_succ]
      omega
/-- 1 to 10 digits, no needless nought ahead -/
def partB (l : List UInt8) : Bool := decide (1 ≤ l.length) && decide (l.length ≤ 10) && !(decide (1 < l.length) && l.head? == some 48) && l.all isD
def partN (l : List UInt8) : Int := if partB l then (num l : Int) else 0
theorem partN_yes {l : List UInt8} (h : partB l = true) : partN l = num l := by rw [partN, if_pos h]
theorem partN_no {l : List UInt8} (h : partB l = false) : partN l = 0 := by rw [partN, h]; rfl
theorem partB_iff {l : List UInt8} : partB l = true ↔ 1 ≤ l.length ∧ l.length ≤ 10 ∧ (1 < l.length → l.head? ≠ some 48) ∧ l.all isD = true := by
  simp only [partB, Bool.and_eq_true, decide_eq_true_eq, Bool.not_eq_true', Bool.and_eq_false_imp, beq_eq_false_iff_ne, ne_eq]
  constructor
  · rintro ⟨⟨⟨a, b⟩, c⟩, d⟩; exact ⟨a, b, c, d⟩
  · rintro ⟨a, b, c, d⟩; exact ⟨⟨⟨a, b⟩, c⟩, d⟩
theorem partB_no {l : List UInt8} (h : ¬ (1 ≤ l.length ∧ l.length ≤ 10 ∧ (1 < l.length → l.head? ≠ some 48) ∧ l.all isD = true)) : partB l = false := by
  cases hp : partB l with
  | false => rfl
  | true => exact absurd (partB_iff.1 hp) h

theorem decs {u : Nat} (h : u < 10) : Lib.decDigits u = [UInt8.ofNat (48 + u)] := by rw [Lib.decDigits, dif_pos h]
theorem decb {u : Nat} (h : ¬ u < 10) : Lib.decDigits u = Lib.decDigits (u / 10) ++ [UInt8.ofNat (48 + u % 10)] := by rw [Lib.decDigits, dif_neg h]
theorem dig_toNat {d : Nat} (h : d < 10) : (UInt8.ofNat (48 + d)).toNat = 48 + d := by rw [UInt8.toNat_ofNat']; omega
theorem dig_isD {d : Nat} (h : d < 10) : isD (UInt8.ofNat (48 + d)) = true := isD_iff.2 (by rw [dig_toNat h]; omega)
theorem dec_facts (u : Nat) : (Lib.decDigits u).all isD = true ∧ num (Lib.decDigits u) = u ∧ 1 ≤ (Lib.decDigits u).length ∧ (u ≠ 0 → (Lib.decDigits u).head? ≠ some 48) := by
  induction u using Nat.strongRecOn with
  | _ u ih =>
    by_cases h : u < 10
    · rw [decs h]
      refine ⟨by rw [List.all_cons, List.all_nil, dig_isD h]; rfl, ?_, by simp, ?_⟩
      · show 10 * 0 + ((UInt8.ofNat (48 + u)).toNat - 48) = u
        rw [dig_toNat h]; omega
      · intro h0 e
        have h1 := congrArg UInt8.toNat (Option.some.inj e)
        rw [dig_toNat h] at h1
        have h2 : (48 : UInt8).toNat = 48 := rfl
        omega
    · rw [decb h]
      obtain ⟨i1, i2, i3, i4⟩ := ih (u / 10) (by omega)
      refine ⟨by rw [List.all_append, i1, List.all_cons, dig_isD (Nat.mod_lt u (by decide : 0 < 10)), List.all_nil]; rfl, ?_, by simp, ?_⟩
      · rw [num_snoc, i2, dig_toNat (Nat.mod_lt u (by decide))]; omega
      · intro _
        have i5 := i4 (by omega)
        cases hd : Lib.decDigits (u / 10) with
        | nil => rw [hd] at i3; simp at i3
        | cons c r => rw [hd] at i5; simpa using i5
theorem dec_len (k : Nat) : ∀ u, u < 10 ^ (k + 1) → (Lib.decDigits u).length ≤ k + 1 := by
  induction k with
  | zero => intro u hu; rw [decs (by simpa using hu)]; simp
  | succ k ih =>
    intro u hu
    by_cases h : u < 10
    · rw [decs h]; simp
    · rw [decb h]
      have := ih (u / 10) (by rw [Nat.pow_succ] at hu; omega)
      simp; omega
theorem dec_one {u : Nat} (h : 1 < (Lib.decDigits u).length) : u ≠ 0 := by
  rintro rfl
  rw [decs (by decide)] at h
  simp at h
theorem part_dec {u : Nat} (h : u < 10000000000) : partB (Lib.decDigits u) = true := by
  obtain ⟨i1, i2, i3, i4⟩ := dec_facts u
  exact partB_iff.2 ⟨i3, dec_len 9 u h, fun hl => i4 (dec_one hl), i1⟩
theorem dec_num (l : List UInt8) (hl : 1 ≤ l.length) (h0 : 1 < l.length → l.head? ≠ some 48) (h : l.all isD = true) : Lib.decDigits (num l) = l ∧ (l.head? ≠ some 48 → num l ≠ 0) := by
  obtain ⟨n, hn⟩ : ∃ n, l.length = n := ⟨_, rfl⟩
  induction n generalizing l with
  | zero => omega
  | succ n ih =>
    rcases snoc_cases l with rfl | ⟨a, c, rfl⟩
    · simp at hn
    · simp only [List.all_append, Bool.and_eq_true, List.all_cons, List.all_nil, Bool.and_true] at h
      have h2 := isD_iff.1 h.2
      have hc : UInt8.ofNat (48 + (c.toNat - 48)) = c := by
        apply UInt8.toNat_inj.1
        rw [dig_toNat (by omega)]; omega
      rw [num_snoc]
      cases ha : a with
      | nil =>
        subst ha
        rw [num_nil, Nat.mul_zero, Nat.zero_add, decs (by omega), hc]
        refine ⟨rfl, fun hh e => hh ?_⟩
        have : c = 48 := UInt8.toNat_inj.1 (by show c.toNat = 48; omega)
        rw [this]; rfl
      | cons x r =>
        rw [← ha]
        have hhead : (a ++ [c]).head? = a.head? := by rw [ha]; rfl
        have hne : a.head? ≠ some 48 := by rw [← hhead]; exact h0 (by rw [ha]; simp)
        obtain ⟨j1, j2⟩ := ih a (by rw [ha]; simp) (fun _ => hne) h.1 (by simpa using hn)
        have j3 := j2 hne
        rw [decb (by omega), show (10 * num a + (c.toNat - 48)) / 10 = num a from by omega, show (10 * num a + (c.toNat - 48)) % 10 = c.toNat - 48 from by omega, hc, j1]
        exact ⟨rfl, fun _ => by omega⟩
theorem dec_part {l : List UInt8} (h : partB l = true) : Lib.decDigits (num l) = l := by
  obtain ⟨h1, _, h3, h4⟩ := partB_iff.1 h
  exact (dec_num l h1 h3 h4).1
theorem part_of_dec {l : List UInt8} (h : l.length ≤ 10) (h1 : Lib.decDigits (num l) = l) : partB l = true := by
  obtain ⟨i1, i2, i3, i4⟩ := dec_facts (num l)
  rw [h1] at i1 i3 i4
  exact partB_iff.2 ⟨i3, h, fun hl => i4 (dec_one (by rw [h1]; exact hl)), i1⟩

/-- what stands ahead of the first dot, and what behind it -/
def cutA (l : List UInt8) : List UInt8 := l.takeWhile (fun c => c != 46)
def cutZ (l : List UInt8) : List UInt8 := (l.dropWhile (fun c => c != 46)).drop 1
theorem cut_hit {a b : List UInt8} (h : ∀ c ∈ a, c ≠ 46) : cutA (a ++ 46 :: b) = a ∧ cutZ (a ++ 46 :: b) = b := by
  have hp : ∀ c ∈ a, (c != 46) = true := fun c hc => by simpa using h c hc
  constructor
  · rw [cutA, List.takeWhile_append_of_pos hp]; simp
  · rw [cutZ, List.dropWhile_append_of_pos hp]; simp
theorem cut_miss {l : List UInt8} (h : ∀ c ∈ l, c ≠ 46) : cutA l = l ∧ cutZ l = [] := by
  have hp : ∀ c ∈ l, (c != 46) = true := fun c hc => by simpa using h c hc
  constructor
  · have := List.takeWhile_append_of_pos (l₂ := []) hp
    rw [cutA]; simpa using this
  · have := List.dropWhile_append_of_pos (l₂ := []) hp
    rw [cutZ]; simp at this; rw [this]; rfl
theorem dot_cases (l : List UInt8) : (∀ c ∈ l, c ≠ 46) ∨ ∃ a b, l = a ++ 46 :: b ∧ ∀ c ∈ a, c ≠ 46 := by
  induction l with
  | nil => exact .inl (by simp)
  | cons x l ih =>
    by_cases hx : x = 46
    · subst hx; exact .inr ⟨[], l, rfl, by simp⟩
    · rcases ih with h | ⟨a, b, rfl, h⟩
      · exact .inl (by simpa [hx] using h)
      · exact .inr ⟨x :: a, b, rfl, by simpa [hx] using h⟩
theorem isD_dot {l : List UInt8} (h : l.all isD = true) : ∀ c ∈ l, c ≠ 46 := by
  intro c hc e
  subst e
  exact absurd (List.all_eq_true.1 h 46 hc) (by decide)

/-- what Read answers -/
def zRead (l : List UInt8) : Int := if partB (cutA l) && partB (cutZ l) then zMake (num (cutA l)) (num (cutZ l)) else 0
def zReadE (l : List UInt8) : Int := if partB (cutA l) && partB (cutZ l) then zMakeE (num (cutA l)) (num (cutZ l)) else 2
theorem zRead_no {l : List UInt8} (h : partB (cutA l) = false ∨ partB (cutZ l) = false) : zRead l = 0 ∧ zReadE l = 2 := by
  rcases h with h | h <;> simp [zRead, zReadE, h]
theorem zRead_yes {l : List UInt8} (h : partB (cutA l) = true) (h' : partB (cutZ l) = true) : zRead l = zMake (num (cutA l)) (num (cutZ l)) ∧ zReadE l = zMakeE (num (cutA l)) (num (cutZ l)) := by
  simp [zRead, zReadE, h, h']
/-- the text of a zxid -/
def zText (z : Int) : List UInt8 := if zGood z then Lib.decDigits (z / 2147483648).toNat ++ 46 :: Lib.decDigits (z % 2147483648).toNat else []
def zTextE (z : Int) : Int := if zGood z then 0 else 3
theorem zText_no {z : Int} (h : zGood z = false) : zText z = [] ∧ zTextE z = 3 := by simp [zText, zTextE, h]
theorem zText_yes {z : Int} (h : zGood z = true) : zText z = Lib.decDigits (z / 2147483648).toNat ++ 46 :: Lib.decDigits (z % 2147483648).toNat ∧ zTextE z = 0 := by simp [zText, zTextE, h]
theorem read_text {z : Int} (h : zGood z = true) : zRead (zText z) = z ∧ zReadE (zText z) = 0 := by
  have hz := zGood_iff.1 h
  obtain ⟨i1, i2, _, _⟩ := dec_facts (z / 2147483648).toNat
  obtain ⟨_, j2, _, _⟩ := dec_facts (z % 2147483648).toNat
  obtain ⟨c1, c2⟩ := cut_hit (b := Lib.decDigits (z % 2147483648).toNat) (isD_dot i1)
  rw [(zText_yes h).1]
  obtain ⟨r1, r2⟩ := zRead_yes (l := Lib.decDigits (z / 2147483648).toNat ++ 46 :: Lib.decDigits (z % 2147483648).toNat) (by rw [c1]; exact part_dec (by omega)) (by rw [c2]; exact part_dec (by omega))
  rw [r1, r2, c1, c2, i2, j2]
  obtain ⟨m1, m2⟩ := zMake_yes (e := ((z / 2147483648).toNat : Int)) (c := ((z % 2147483648).toNat : Int)) (zIn_iff.2 (by omega)) (zIn_iff.2 (by omega))
  rw [m1, m2, Int.toNat_of_nonneg (by omega), Int.toNat_of_nonneg (by omega)]
  exact ⟨by omega, rfl⟩
theorem read_zero {l : List UInt8} (h : zReadE l ≠ 0) : zRead l = 0 := by
  cases h1 : partB (cutA l)
  · exact (zRead_no (.inl h1)).1
  cases h2 : partB (cutZ l)
  · exact (zRead_no (.inr h2)).1
  obtain ⟨r1, r2⟩ := zRead_yes h1 h2
  rw [r2] at h
  rw [r1]
  cases hi : zIn (num (cutA l) : Int)
  · exact (zMake_no (.inl hi)).1
  cases hj : zIn (num (cutZ l) : Int)
  · exact (zMake_no (.inr hj)).1
  exact absurd (zMake_yes hi hj).2 h
theorem text_read {l : List UInt8} (h : zReadE l = 0) : zText (zRead l) = l ∧ zTextE (zRead l) = 0 := by
  cases h1 : partB (cutA l)
  · rw [(zRead_no (.inl h1)).2] at h; exact absurd h (by decide)
  cases h2 : partB (cutZ l)
  · rw [(zRead_no (.inr h2)).2] at h; exact absurd h (by decide)
  obtain ⟨r1, r2⟩ := zRead_yes h1 h2
  rw [r2] at h
  cases hi : zIn (num (cutA l) : Int)
  · rw [(zMake_no (.inl hi)).2] at h; exact absurd h (by decide)
  cases hj : zIn (num (cutZ l) : Int)
  · rw [(zMake_no (.inr hj)).2] at h; exact absurd h (by decide)
  rw [r1, (zMake_yes hi hj).1]
  have a0 := zIn_iff.1 hi
  have b0 := zIn_iff.1 hj
  obtain ⟨t1, t2⟩ := zText_yes (z := (num (cutA l) : Int) * 2147483648 + (num (cutZ l) : Int)) (zGood_iff.2 (by omega))
  rw [t1, t2, show (((num (cutA l) : Int) * 2147483648 + (num (cutZ l) : Int)) / 2147483648).toNat = num (cutA l) from by omega, show (((num (cutA l) : Int) * 2147483648 + (num (cutZ l) : Int)) % 2147483648).toNat = num (cutZ l) from by omega, dec_part h1, dec_part h2]
  refine ⟨?_, rfl⟩
  rcases dot_cases l with hd | ⟨a, b, rfl, hd⟩
  · rw [(cut_miss hd).2] at h2; exact absurd h2 (by decide)
  · rw [(cut_hit hd).1, (cut_hit hd).2]

end Go.Proofs.Ytpdlefafgbdadaa
