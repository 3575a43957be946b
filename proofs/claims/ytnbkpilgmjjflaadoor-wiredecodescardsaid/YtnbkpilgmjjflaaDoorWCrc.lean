/-
  The cyclic sum of 32 bits as plain arithmetic: one bit, a byte, a text; that one changed byte changes it; and the same by single bits. No program is named here.
-/
import Derived.WalkKit
import Derived.Laws.BitsLemmas
namespace Go.Proofs.YtnbkpilgmjjflaaDoor
open Go.RowKit

def crc1 (c : Nat) : Nat := (c / 2) ^^^ (3988292384 * (c % 2))
def crcN : Nat → Nat → Nat
  | 0, c => c
  | n + 1, c => crc1 (crcN n c)
def crcB (c : Nat) (b : UInt8) : Nat := crcN 8 (c ^^^ b.toNat)
def crcL (l : List UInt8) : Nat := l.foldl crcB 4294967295
def sumN (l : List UInt8) : Nat := 4294967295 ^^^ crcL l

theorem two32 : (2 : Nat) ^ 32 = 4294967296 := by decide
theorem xor_lt32 {a b : Nat} (ha : a < 4294967296) (hb : b < 4294967296) : a ^^^ b < 4294967296 := by
  have h := Nat.xor_lt_two_pow (n := 32) (x := a) (y := b) (by rw [two32]; exact ha) (by rw [two32]; exact hb)
  rwa [two32] at h
theorem crc1_lt {c : Nat} (h : c < 4294967296) : crc1 c < 4294967296 := by
  unfold crc1
  refine xor_lt32 (by omega) ?_
  rcases Nat.mod_two_eq_zero_or_one c with e | e <;> rw [e] <;> decide
theorem crcN_lt {c : Nat} (h : c < 4294967296) : ∀ n, crcN n c < 4294967296
  | 0 => h
  | n + 1 => crc1_lt (crcN_lt h n)
theorem byte_lt32 (b : UInt8) : b.toNat < 4294967296 := by have := b.toNat_lt; omega
theorem crcB_lt {c : Nat} (h : c < 4294967296) (b : UInt8) : crcB c b < 4294967296 := crcN_lt (xor_lt32 h (byte_lt32 b)) 8
theorem foldl_lt (l : List UInt8) : ∀ c, c < 4294967296 → l.foldl crcB c < 4294967296 := by
  induction l with
  | nil => intro c h; exact h
  | cons b l ih => intro c h; exact ih _ (crcB_lt h b)
theorem crcL_lt (l : List UInt8) : crcL l < 4294967296 := foldl_lt l _ (by decide)
theorem sumN_lt (l : List UInt8) : sumN l < 4294967296 := xor_lt32 (by decide) (crcL_lt l)
theorem crcL_snoc (l : List UInt8) (b : UInt8) : crcL (l ++ [b]) = crcB (crcL l) b := by simp [crcL]

theorem xor_cancel {a x y : Nat} (h : a ^^^ x = a ^^^ y) : x = y := by
  have h' : a ^^^ (a ^^^ x) = a ^^^ (a ^^^ y) := by rw [h]
  rwa [← Nat.xor_assoc, ← Nat.xor_assoc, Nat.xor_self, Nat.zero_xor, Nat.zero_xor] at h'
theorem crc1_even {c : Nat} (h : c % 2 = 0) : crc1 c = c / 2 := by rw [crc1, h]; simp
theorem crc1_odd {c : Nat} (h : c % 2 = 1) : crc1 c = 3988292384 ^^^ (c / 2) := by rw [crc1, h, Nat.mul_one, Nat.xor_comm]
theorem crc1_top {c : Nat} (hc : c < 4294967296) (h : c % 2 = 1) : crc1 c / 2147483648 = 1 := by
  rw [crc1_odd h]
  have e : ∀ x : Nat, x / 2147483648 = x >>> 31 := fun x => by rw [Nat.shiftRight_eq_div_pow]
  rw [e, Nat.shiftRight_xor_distrib, ← e, ← e, show c / 2 / 2147483648 = 0 from by omega]
  decide
theorem crc1_inj {c d : Nat} (hc : c < 4294967296) (hd : d < 4294967296) (h : crc1 c = crc1 d) : c = d := by
  rcases Nat.mod_two_eq_zero_or_one c with e | e <;> rcases Nat.mod_two_eq_zero_or_one d with f | f
  · rw [crc1_even e, crc1_even f] at h; omega
  · have := crc1_top hd f; rw [← h, crc1_even e] at this; omega
  · have := crc1_top hc e; rw [h, crc1_even f] at this; omega
  · rw [crc1_odd e, crc1_odd f] at h; have := xor_cancel h; omega
theorem crcN_inj {c d : Nat} (hc : c < 4294967296) (hd : d < 4294967296) : ∀ n, crcN n c = crcN n d → c = d
  | 0, h => h
  | n + 1, h => crcN_inj hc hd n (crc1_inj (crcN_lt hc n) (crcN_lt hd n) h)
theorem foldl_inj (l : List UInt8) : ∀ c d, c < 4294967296 → d < 4294967296 → l.foldl crcB c = l.foldl crcB d → c = d := by
  induction l with
  | nil => intro c d _ _ h; exact h
  | cons b l ih =>
    intro c d hc hd h
    have h1 := ih _ _ (crcB_lt hc b) (crcB_lt hd b) h
    have h2 := crcN_inj (xor_lt32 hc (byte_lt32 b)) (xor_lt32 hd (byte_lt32 b)) 8 h1
    rw [Nat.xor_comm c, Nat.xor_comm d] at h2
    exact xor_cancel h2
/-- one byte changed: another sum -/
theorem sum_turned (a r : List UInt8) (b b' : UInt8) (h : sumN (a ++ b :: r) = sumN (a ++ b' :: r)) : b = b' := by
  have h1 := xor_cancel h
  simp only [crcL, List.foldl_append, List.foldl_cons] at h1
  have hc := foldl_lt a _ (show (4294967295 : Nat) < 4294967296 by decide)
  have h2 := foldl_inj r _ _ (crcB_lt hc b) (crcB_lt hc b') h1
  have h3 := crcN_inj (xor_lt32 hc (byte_lt32 b)) (xor_lt32 hc (byte_lt32 b')) 8 h2
  exact UInt8.toNat_inj.1 (xor_cancel h3)

/- what the model's operations on 32 bits are, as plain ones -/
theorem wraps_u32 (n : Int) (h₀ : 0 ≤ n) (h₁ : n < 2 ^ 32) : IntKind.u32.wrap n = n := by rw [IntKind.wrap_u32]; omega
theorem bits_xor_nat (k : IntKind) (j : Nat) (hj : j ≤ k.bits) (hk : ∀ n : Int, 0 ≤ n → n < 2 ^ j → k.wrap n = n) (a b : Nat) (ha : a < 2 ^ j) (hb : b < 2 ^ j) : bits .xor k a b = ((a ^^^ b : Nat) : Int) := by
  have hp : 2 ^ j ≤ 2 ^ k.bits := Nat.pow_le_pow_right (by decide) hj
  have ha' : a % 2 ^ k.bits = a := Nat.mod_eq_of_lt (Nat.lt_of_lt_of_le ha hp)
  have hb' : b % 2 ^ k.bits = b := Nat.mod_eq_of_lt (Nat.lt_of_lt_of_le hb hp)
  simp only [bits, BitVec.ofInt_natCast, BitVec.toNat_xor, BitVec.toNat_ofNat, ha', hb']
  exact hk _ (Int.natCast_nonneg _) (by exact_mod_cast Nat.xor_lt_two_pow ha hb)
theorem xor_u32 {a b : Nat} (ha : a < 4294967296) (hb : b < 4294967296) : bits .xor .u32 a b = ((a ^^^ b : Nat) : Int) :=
  bits_xor_nat .u32 32 (by decide) wraps_u32 a b (by rw [two32]; exact ha) (by rw [two32]; exact hb)
theorem and1_u32 {a : Nat} (ha : a < 4294967296) : bits .and .u32 a 1 = ((a % 2 : Nat) : Int) := by
  have h := bits_mask .u32 32 (by decide) wraps_u32 1 (by decide) (a : Int) (by omega) (by omega)
  exact_mod_cast h
theorem wraps63 (n : Int) (h₀ : 0 ≤ n) (h₁ : n < 2 ^ 63) : IntKind.i64.wrap n = n := by rw [IntKind.wrap_i64]; omega
theorem xor_i64 {a b : Nat} (ha : a < 9223372036854775808) (hb : b < 9223372036854775808) : bits .xor .i64 a b = ((a ^^^ b : Nat) : Int) :=
  bits_xor_nat .i64 63 (by decide) wraps63 a b (by omega) (by omega)

/- by single bits -/
def bitN (r i : Nat) : Nat := r / 2 ^ i % 2
theorem bitN_le (r i : Nat) : bitN r i ≤ 1 := by unfold bitN; omega
theorem bitN_xor (a b i : Nat) : bitN (a ^^^ b) i = bitN a i ^^^ bitN b i := by
  unfold bitN
  rw [← Nat.shiftRight_eq_div_pow, ← Nat.shiftRight_eq_div_pow, ← Nat.shiftRight_eq_div_pow, Nat.shiftRight_xor_distrib]
  have := Nat.xor_mod_two_pow (a := a >>> i) (b := b >>> i) (n := 1)
  simpa using this
theorem bitN_half (r i : Nat) : bitN (r / 2) i = bitN r (i + 1) := by
  unfold bitN
  rw [Nat.div_div_eq_div_mul, Nat.pow_succ, Nat.mul_comm]
theorem bitN_mul (p o i : Nat) (ho : o ≤ 1) : bitN (p * o) i = o * bitN p i := by
  have : o = 0 ∨ o = 1 := by omega
  rcases this with rfl | rfl
  · simp [bitN]
  · simp
end Go.Proofs.YtnbkpilgmjjflaaDoor
