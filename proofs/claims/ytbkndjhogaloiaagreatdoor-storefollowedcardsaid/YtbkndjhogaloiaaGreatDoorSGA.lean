/-
  Plain functions on lists of bytes that the contracts of package path speak of, and what holds of them; no program is named here.
  The numbers of transactions as plain arithmetic, and the answers of package zxid's number functions; no program is named here.
  The pieces of a text between slashes, and what path.Good says of them; no program is named here.
  The cyclic sum of 32 bits as plain arithmetic: one bit, a byte, a text; that one changed byte changes it; and the same by single bits. No program is named here.
  A transaction and its record as plain lists of bytes: what is wrong with one, its bytes, what bytes tell; that these go together. No program is named here.
  A log as a plain list of transactions: its bytes, what bytes begin with, and where that ends. No program is named here.
  A transaction as a value.
  A disk as a plain list of files: when it is one, where a name stands on it, what the order of names is. No program is named here.
  How a disk lies in memory: a row of files, three texts each; a row of the call's own; what stays when other memory turns.
-/
import Derived.WalkKit
import Derived.Laws.BitsLemmas
import Derived.Lib.IndexLaws
import Derived.Lib.Strings
import Derived.Test.YtbkndjhogaloiaaGreatDoorProg
import Derived.Laws.Cover1
import Derived.Lib.Bytealg
import Derived.Laws.AppendOwn
import Derived.Deep.LoopGhost
namespace Go.Proofs.YtbkndjhogaloiaaGreatDoor
open Go.RowKit

theorem hide {p : Prop} (h : p) : Hid p := h
theorem unhide {p : Prop} (h : Hid p) : p := h

/-- a byte that may stand in a step: a to z, 0 to 9, minus or underscore -/
def letterB (c : UInt8) : Bool := (decide (97 ≤ c.toNat) && decide (c.toNat ≤ 122)) || (decide (48 ≤ c.toNat) && decide (c.toNat ≤ 57)) || c.toNat == 45 || c.toNat == 95
/-- a step: 1 to 40 such bytes -/
def namedB (l : List UInt8) : Bool := decide (1 ≤ l.length) && decide (l.length ≤ 40) && l.all letterB

theorem take_snoc (s : ByteArray) (k : Nat) (h : k < s.size) : s.data.toList.take (k + 1) = s.data.toList.take k ++ [s[k]] := by
  rw [List.take_succ_eq_append_getElem (by simpa using h)]; rfl
theorem all_take_succ (s : ByteArray) (k : Nat) (h : k < s.size) (p : UInt8 → Bool) (h1 : (s.data.toList.take k).all p = true) (h2 : p s[k] = true) : (s.data.toList.take (k + 1)).all p = true := by
  rw [take_snoc s k h, List.all_append, h1]; simpa using h2
theorem all_of_size (s : ByteArray) (k : Nat) (h : s.size ≤ k) (p : UInt8 → Bool) (h1 : (s.data.toList.take k).all p = true) : s.data.toList.all p = true := by
  rwa [List.take_of_length_le (by simpa using h)] at h1
theorem not_all_of (s : ByteArray) (k : Nat) (h : k < s.size) (p : UInt8 → Bool) (h2 : p s[k] = false) : s.data.toList.all p = false := by
  rw [List.all_eq_false]
  exact ⟨s[k], by have : s[k] ∈ s.data := Array.getElem_mem h; simpa using this, by simp [h2]⟩
theorem size_list (s : ByteArray) : s.data.toList.length = s.size := by simp

theorem namedB_short (s : ByteArray) (h : s.size < 1) : namedB s.data.toList = false := by
  simp only [namedB, size_list, show ¬ 1 ≤ s.size from by omega, decide_false, Bool.false_and]
theorem namedB_long (s : ByteArray) (h : 40 < s.size) : namedB s.data.toList = false := by
  simp only [namedB, size_list, show ¬ s.size ≤ 40 from by omega, decide_false, Bool.and_false, Bool.false_and]
theorem namedB_mid (s : ByteArray) (h : 1 ≤ s.size) (h' : s.size ≤ 40) : namedB s.data.toList = s.data.toList.all letterB := by
  simp only [namedB, size_list, h, h', decide_true, Bool.true_and]

end Go.Proofs.YtbkndjhogaloiaaGreatDoor

namespace Go.Proofs.YtbkndjhogaloiaaGreatDoor
open Go.RowKit

def zGood (z : Int) : Bool := decide (0 ≤ z) && decide (z < 4611686018427387904)
def zIn (n : Int) : Bool := decide (0 ≤ n) && decide (n < 2147483648)
def zEpoch (z : Int) : Int := if zGood z then z / 2147483648 else 0
def zCount (z : Int) : Int := if zGood z then z % 2147483648 else 0
def zMake (e c : Int) : Int := if zIn e && zIn c then e * 2147483648 + c else 0
def zMakeE (e c : Int) : Int := if zIn e && zIn c then 0 else 3
theorem zGood_iff {z : Int} : zGood z = true ↔ 0 ≤ z ∧ z < 4611686018427387904 := by simp [zGood]
theorem zIn_iff {z : Int} : zIn z = true ↔ 0 ≤ z ∧ z < 2147483648 := by simp [zIn]
theorem zIn_no {z : Int} (h : ¬ (0 ≤ z ∧ z < 2147483648)) : zIn z = false := by
  cases hg : zIn z with
  | false => rfl
  | true => exact absurd (zIn_iff.1 hg) h
theorem zEpoch_yes {z : Int} (h : zGood z = true) : zEpoch z = z / 2147483648 := by rw [zEpoch, if_pos h]
theorem zEpoch_no {z : Int} (h : zGood z = false) : zEpoch z = 0 := by rw [zEpoch, h]; rfl
theorem zCount_yes {z : Int} (h : zGood z = true) : zCount z = z % 2147483648 := by rw [zCount, if_pos h]
theorem zCount_no {z : Int} (h : zGood z = false) : zCount z = 0 := by rw [zCount, h]; rfl
theorem zMake_yes {e c : Int} (he : zIn e = true) (hc : zIn c = true) : zMake e c = e * 2147483648 + c ∧ zMakeE e c = 0 := by
  constructor <;> simp [zMake, zMakeE, he, hc]
theorem zMake_no {e c : Int} (h : zIn e = false ∨ zIn c = false) : zMake e c = 0 ∧ zMakeE e c = 3 := by
  rcases h with h | h <;> constructor <;> simp [zMake, zMakeE, h]
theorem wraps_i64 (n : Int) (h₀ : 0 ≤ n) (h₁ : n < 2 ^ 63) : IntKind.i64.wrap n = n := by rw [IntKind.wrap_i64]; omega
theorem or_join {e c : Int} (he : 0 ≤ e) (he1 : e < 2147483648) (hc : 0 ≤ c) (hc1 : c < 2147483648) : bits .or .i64 (e * 2147483648) c = e * 2147483648 + c :=
  bits_join .i64 63 (by decide) wraps_i64 31 (e * 2147483648) c (by omega) (by omega) (by omega) hc (by omega) (by omega)
theorem and_mask {z : Int} (h : 0 ≤ z) (h1 : z < 4611686018427387904) : bits .and .i64 z 2147483647 = z % 2147483648 :=
  bits_mask .i64 63 (by decide) wraps_i64 31 (by decide) z h (by omega)

theorem ret_int {a b : Int} (h : a = b) : Ending.returned (.int .i64 a) = .returned (.int .i64 b) := by rw [h]
theorem ret_int2 {a b i j : Int} (h : a = b) (h' : i = j) : Ending.returned (.tuple #[.int .i64 a, .int .i64 i]) = .returned (.tuple #[.int .i64 b, .int .i64 j]) := by rw [h, h']

end Go.Proofs.YtbkndjhogaloiaaGreatDoor

namespace Go.Proofs.YtbkndjhogaloiaaGreatDoor
open Go.RowKit

/-- the pieces of a text between slashes -/
def splitL : List UInt8 → List (List UInt8)
  | [] => [[]]
  | c :: l => if c = 47 then [] :: splitL l else match splitL l with
    | [] => [[c]]
    | p :: ps => (c :: p) :: ps

theorem splitL_ne (l : List UInt8) : splitL l ≠ [] := by
  cases l with
  | nil => simp [splitL]
  | cons c l =>
    simp only [splitL]
    split
    · simp
    · split <;> simp
theorem splitL_slash (l : List UInt8) : splitL (47 :: l) = [] :: splitL l := by simp [splitL]
theorem splitL_other {c : UInt8} (h : c ≠ 47) {l p : List UInt8} {ps : List (List UInt8)} (hl : splitL l = p :: ps) : splitL (c :: l) = (c :: p) :: ps := by
  simp [splitL, h, hl]

theorem splitL_none : ∀ l : List UInt8, Lib.indexByte l 47 = -1 → splitL l = [l]
  | [], _ => rfl
  | c :: l, h => by
    have h1 : (c == 47) = false := by
      cases hc : (c == 47) with
      | false => rfl
      | true => rw [Lib.indexByte, if_pos hc] at h; exact absurd h (by decide)
    have h2 : Lib.indexByte l 47 = -1 := by
      by_cases h3 : (Lib.indexByte l 47 == -1) = true
      · simpa using h3
      · rw [Lib.indexByte, if_neg (by simp [h1]), if_neg h3] at h
        have := Lib.indexByte_ge l 47
        omega
    exact splitL_other (by simpa using h1) (splitL_none l h2)
theorem splitL_some : ∀ (l : List UInt8) (i : Nat), Lib.indexByte l 47 = i → i < l.length ∧ splitL l = l.take i :: splitL (l.drop (i + 1))
  | [], i, h => by simp [Lib.indexByte] at h
  | c :: l, i, h => by
    by_cases hc : (c == 47) = true
    · rw [Lib.indexByte, if_pos hc] at h
      have hi : i = 0 := by omega
      subst hi
      have : c = 47 := by simpa using hc
      subst this
      exact ⟨by simp, by simp [splitL_slash]⟩
    · have hc' : c ≠ 47 := by simpa using hc
      by_cases h3 : (Lib.indexByte l 47 == -1) = true
      · rw [Lib.indexByte, if_neg hc, if_pos h3] at h; omega
      · rw [Lib.indexByte, if_neg hc, if_neg h3] at h
        have hge := Lib.indexByte_ge l 47
        have hne : Lib.indexByte l 47 ≠ -1 := by simpa using h3
        obtain ⟨j, rfl⟩ : ∃ j, i = j + 1 := ⟨i - 1, by omega⟩
        obtain ⟨h4, h5⟩ := splitL_some l j (by omega)
        exact ⟨by simp; omega, by rw [splitL_other hc' h5]; simp⟩
theorem indexByte_cases (l : List UInt8) : Lib.indexByte l 47 = -1 ∨ ∃ i : Nat, Lib.indexByte l 47 = i := by
  have := Lib.indexByte_ge l 47
  by_cases h : Lib.indexByte l 47 = -1
  · exact .inl h
  · exact .inr ⟨(Lib.indexByte l 47).toNat, by omega⟩

theorem splitL_length (l : List UInt8) : ∀ p ∈ splitL l, p.length ≤ l.length := by
  induction l with
  | nil => intro p hp; simp [splitL] at hp; simp [hp]
  | cons c l ih =>
    intro p hp
    by_cases hc : c = 47
    · subst hc
      rw [splitL_slash] at hp
      rcases List.mem_cons.1 hp with rfl | h
      · simp
      · have := ih p h; simp; omega
    · cases hl : splitL l with
      | nil => exact absurd hl (splitL_ne l)
      | cons q qs =>
        rw [splitL_other hc hl] at hp
        rcases List.mem_cons.1 hp with rfl | h
        · have := ih q (by rw [hl]; simp); simp; omega
        · have := ih p (by rw [hl]; simp [h]); simp; omega

/-- the steps of a text that begins with a slash: none of the root -/
def stepsL (l : List UInt8) : List (List UInt8) := if l = [47] then [] else splitL (Lib.trimPrefix l [47])
/-- a path: at most 200 bytes, a slash ahead, each step a name -/
def goodB (l : List UInt8) : Bool := decide (l.length ≤ 200) && Lib.hasPrefix l [47] && (stepsL l).all namedB

end Go.Proofs.YtbkndjhogaloiaaGreatDoor

namespace Go.Proofs.YtbkndjhogaloiaaGreatDoor
open Go.RowKit

def crc1 (c : Nat) : Nat := (c / 2) ^^^ (3988292384 * (c % 2))
def crcN : Nat → Nat → Nat
  | 0, c => c
  | n + 1, c => crc1 (crcN n c)
def crcB (c : Nat) (b : UInt8) : Nat := crcN 8 (c ^^^ b.toNat)
def crcL (l : List UInt8) : Nat := l.foldl crcB 4294967295
def sumN (l : List UInt8) : Nat := 4294967295 ^^^ crcL l

theorem two32 : (2 : Nat) ^ 32 = 4294967296 := by decide
theorem xor_lt32 {a b : Nat} (ha : a < 4294967296) (hb : b < 4294967296) : a ^^^ b < 4294967296 := by
  have h := Nat.xor_lt_two_pow (n := 32) (x := a) (y := b) (by rw [two32]; exact ha) (by rw [two32]; exact hb)
  rwa [two32] at h
theorem crc1_lt {c : Nat} (h : c < 4294967296) : crc1 c < 4294967296 := by
  unfold crc1
  refine xor_lt32 (by omega) ?_
  rcases Nat.mod_two_eq_zero_or_one c with e | e <;> rw [e] <;> decide
theorem crcN_lt {c : Nat} (h : c < 4294967296) : ∀ n, crcN n c < 4294967296
  | 0 => h
  | n + 1 => crc1_lt (crcN_lt h n)
theorem byte_lt32 (b : UInt8) : b.toNat < 4294967296 := by have := b.toNat_lt; omega
theorem crcB_lt {c : Nat} (h : c < 4294967296) (b : UInt8) : crcB c b < 4294967296 := crcN_lt (xor_lt32 h (byte_lt32 b)) 8
theorem foldl_lt (l : List UInt8) : ∀ c, c < 4294967296 → l.foldl crcB c < 4294967296 := by
  induction l with
  | nil => intro c h; exact h
  | cons b l ih => intro c h; exact ih _ (crcB_lt h b)
theorem crcL_lt (l : List UInt8) : crcL l < 4294967296 := foldl_lt l _ (by decide)
theorem sumN_lt (l : List UInt8) : sumN l < 4294967296 := xor_lt32 (by decide) (crcL_lt l)
theorem crcL_snoc (l : List UInt8) (b : UInt8) : crcL (l ++ [b]) = crcB (crcL l) b := by simp [crcL]

/- what the model's operations on 32 bits are, as plain ones -/
theorem wraps_u32 (n : Int) (h₀ : 0 ≤ n) (h₁ : n < 2 ^ 32) : IntKind.u32.wrap n = n := by rw [IntKind.wrap_u32]; omega
theorem bits_xor_nat (k : IntKind) (j : Nat) (hj : j ≤ k.bits) (hk : ∀ n : Int, 0 ≤ n → n < 2 ^ j → k.wrap n = n) (a b : Nat) (ha : a < 2 ^ j) (hb : b < 2 ^ j) : bits .xor k a b = ((a ^^^ b : Nat) : Int) := by
  have hp : 2 ^ j ≤ 2 ^ k.bits := Nat.pow_le_pow_right (by decide) hj
  have ha' : a % 2 ^ k.bits = a := Nat.mod_eq_of_lt (Nat.lt_of_lt_of_le ha hp)
  have hb' : b % 2 ^ k.bits = b := Nat.mod_eq_of_lt (Nat.lt_of_lt_of_le hb hp)
  simp only [bits, BitVec.ofInt_natCast, BitVec.toNat_xor, BitVec.toNat_ofNat, ha', hb']
  exact hk _ (Int.natCast_nonneg _) (by exact_mod_cast Nat.xor_lt_two_pow ha hb)
theorem xor_u32 {a b : Nat} (ha : a < 4294967296) (hb : b < 4294967296) : bits .xor .u32 a b = ((a ^^^ b : Nat) : Int) :=
  bits_xor_nat .u32 32 (by decide) wraps_u32 a b (by rw [two32]; exact ha) (by rw [two32]; exact hb)
theorem and1_u32 {a : Nat} (ha : a < 4294967296) : bits .and .u32 a 1 = ((a % 2 : Nat) : Int) := by
  have h := bits_mask .u32 32 (by decide) wraps_u32 1 (by decide) (a : Int) (by omega) (by omega)
  exact_mod_cast h
/- by single bits -/
end Go.Proofs.YtbkndjhogaloiaaGreatDoor

namespace Go.Proofs.YtbkndjhogaloiaaGreatDoor
open Go.RowKit

/- numbers as bytes, the highest first -/
def be : Nat → Nat → List UInt8
  | 0, _ => []
  | k + 1, n => be k (n / 256) ++ [UInt8.ofNat n]
def un (l : List UInt8) : Nat := l.foldl (fun a b => a * 256 + b.toNat) 0
theorem be_length : ∀ k n, (be k n).length = k
  | 0, _ => rfl
  | k + 1, n => by rw [be, List.length_append, be_length k]; rfl
theorem un_snoc (l : List UInt8) (b : UInt8) : un (l ++ [b]) = un l * 256 + b.toNat := by simp [un]
theorem un_be : ∀ k n, n < 256 ^ k → un (be k n) = n
  | 0, n, h => by have : n = 0 := by simpa using h
                  subst this; rfl
  | k + 1, n, h => by
    rw [be, un_snoc, un_be k (n / 256) (by rw [Nat.pow_succ] at h; omega)]
    have : (UInt8.ofNat n).toNat = n % 256 := by simp
    omega
theorem un_lt (l : List UInt8) : un l < 256 ^ l.length := by
  induction h : l.length generalizing l with
  | zero => obtain rfl := List.eq_nil_of_length_eq_zero h; decide
  | succ k ih =>
    rcases List.eq_nil_or_concat l with rfl | ⟨a, b, rfl⟩
    · simp at h
    · rw [List.concat_eq_append] at h ⊢
      have hk : a.length = k := by simpa using h
      have h1 := ih a hk
      have h2 := b.toNat_lt
      rw [un_snoc, Nat.pow_succ]
      omega
/- transactions -/
structure WTxn where
  z : Int
  o : Int
  s : Int
  p : List UInt8
  d : List UInt8
  v : Int
  w : Int
def t0 : WTxn := ⟨0, 0, 0, [], [], 0, 0⟩
def cntB (n least : Int) : Bool := decide (least ≤ n) && decide (n ≤ 2147483647)
theorem cntB_iff {n k : Int} : cntB n k = true ↔ k ≤ n ∧ n ≤ 2147483647 := by simp [cntB]
def opB (o : Int) : Bool := decide (1 ≤ o) && decide (o ≤ 5)
theorem opB_iff {o : Int} : opB o = true ↔ 1 ≤ o ∧ o ≤ 5 := by simp [opB]
def numB (t : WTxn) : Bool := zGood t.z && cntB t.s 1 && cntB t.v 0 && cntB t.w 0
theorem numB_iff {t : WTxn} : numB t = true ↔ zGood t.z = true ∧ cntB t.s 1 = true ∧ cntB t.v 0 = true ∧ cntB t.w 0 = true := by simp [numB, and_assoc]
def fmB (t : WTxn) : Bool :=
  if t.o = 3 then goodB t.p && !(t.p == [47]) && t.v == 0
  else if t.o = 4 then goodB t.p && !(t.p == [47]) && t.d == [] && t.v == 0 && t.w == 0
  else if t.o = 5 then goodB t.p && t.w == 0
  else t.p == [] && t.d == [] && t.v == 0 && t.w == 0
def gdE (t : WTxn) : Int :=
  if opB t.o then (if numB t then (if t.d.length ≤ 256 then (if fmB t then 0 else 2) else 1) else 3) else 4
theorem gdE_kind {t : WTxn} (h : opB t.o = false) : gdE t = 4 := by simp [gdE, h]
theorem gdE_range {t : WTxn} (h : opB t.o = true) (h1 : numB t = false) : gdE t = 3 := by simp [gdE, h, h1]
theorem gdE_long {t : WTxn} (h : opB t.o = true) (h1 : numB t = true) (h2 : 256 < t.d.length) : gdE t = 1 := by
  simp [gdE, h, h1, show ¬ t.d.length ≤ 256 from by omega]
theorem gdE_form {t : WTxn} (h : opB t.o = true) (h1 : numB t = true) (h2 : t.d.length ≤ 256) (h3 : fmB t = false) : gdE t = 2 := by simp [gdE, h, h1, h2, h3]
theorem gdE_ok {t : WTxn} (h : opB t.o = true) (h1 : numB t = true) (h2 : t.d.length ≤ 256) (h3 : fmB t = true) : gdE t = 0 := by simp [gdE, h, h1, h2, h3]
theorem gdE_zero {t : WTxn} (h : gdE t = 0) : opB t.o = true ∧ numB t = true ∧ t.d.length ≤ 256 ∧ fmB t = true := by
  unfold gdE at h
  split at h
  · split at h
    · split at h
      · split at h
        · exact ⟨‹_›, ‹_›, ‹_›, ‹_›⟩
        · exact absurd h (by decide)
      · exact absurd h (by decide)
    · exact absurd h (by decide)
  · exact absurd h (by decide)
theorem path_le {p : List UInt8} (h : goodB p = true) : p.length ≤ 200 := by
  unfold goodB at h
  simp only [Bool.and_eq_true, decide_eq_true_eq] at h
  exact h.1.1
theorem fmB_le {t : WTxn} (h : fmB t = true) : t.p.length ≤ 200 := by
  unfold fmB at h
  split at h
  · simp only [Bool.and_eq_true] at h; exact path_le h.1.1
  · split at h
    · simp only [Bool.and_eq_true] at h; exact path_le h.1.1.1.1
    · split at h
      · simp only [Bool.and_eq_true] at h; exact path_le h.1
      · simp only [Bool.and_eq_true, beq_iff_eq] at h; rw [h.1.1.1]; decide
/-- what the numbers and lengths of a good one are -/
theorem gd_bounds {t : WTxn} (h : gdE t = 0) : (0 ≤ t.z ∧ t.z < 4611686018427387904) ∧ (1 ≤ t.o ∧ t.o ≤ 5) ∧ (1 ≤ t.s ∧ t.s ≤ 2147483647) ∧ (0 ≤ t.v ∧ t.v ≤ 2147483647) ∧ (0 ≤ t.w ∧ t.w ≤ 2147483647) ∧ t.p.length ≤ 200 ∧ t.d.length ≤ 256 := by
  obtain ⟨h1, h2, h3, h4⟩ := gdE_zero h
  obtain ⟨a, b, c, d⟩ := numB_iff.1 h2
  exact ⟨zGood_iff.1 a, opB_iff.1 h1, cntB_iff.1 b, cntB_iff.1 c, cntB_iff.1 d, fmB_le h4, h3⟩

/- records -/
def bodyL (t : WTxn) : List UInt8 :=
  be 8 t.z.toNat ++ (be 1 t.o.toNat ++ (be 4 t.s.toNat ++ (be 4 t.v.toNat ++ (be 4 t.w.toNat ++ (be 1 t.p.length ++ (t.p ++ (be 2 t.d.length ++ t.d)))))))
def frontL (b : List UInt8) : List UInt8 := 84 :: (be 2 b.length ++ b)
def recL (t : WTxn) : List UInt8 := frontL (bodyL t) ++ be 4 (sumN (frontL (bodyL t)))
theorem bodyL_length (t : WTxn) : (bodyL t).length = 24 + t.p.length + t.d.length := by
  simp only [bodyL, List.length_append, be_length]; omega
theorem frontL_length (b : List UInt8) : (frontL b).length = b.length + 3 := by
  simp only [frontL, List.length_cons, List.length_append, be_length]; omega
theorem recL_length (t : WTxn) : (recL t).length = 31 + t.p.length + t.d.length := by
  simp only [recL, List.length_append, be_length, frontL_length, bodyL_length]; omega

/- what bytes tell -/
def plOf (b : List UInt8) : Nat := un ((b.drop 21).take 1)
def dlOf (b : List UInt8) : Nat := un ((b.drop (22 + plOf b)).take 2)
def tOf (b : List UInt8) : WTxn :=
  ⟨wrap64 (un (b.take 8)), un ((b.drop 8).take 1), un ((b.drop 9).take 4), (b.drop 22).take (plOf b), b.drop (24 + plOf b), un ((b.drop 13).take 4), un ((b.drop 17).take 4)⟩
/-- do the body's lengths fit it? -/
def fitB (b : List UInt8) : Bool := decide (24 + plOf b ≤ b.length) && decide (b.length = 24 + plOf b + dlOf b)
def unfE (b : List UInt8) : Int := if fitB b then gdE (tOf b) else 2
def unfT (b : List UInt8) : WTxn := if unfE b = 0 then tOf b else t0
def lenOf (s : List UInt8) : Nat := un ((s.drop 1).take 2)
/-- is there a T, a length, as many bytes and four more? -/
def wholeB (s : List UInt8) : Bool := s.take 1 == [84] && decide (lenOf s ≤ 1024) && decide (lenOf s + 7 ≤ s.length)
def sumB (s : List UInt8) : Bool := un ((s.drop (lenOf s + 3)).take 4) == sumN (s.take (lenOf s + 3))
def insideL (s : List UInt8) : List UInt8 := (s.drop 3).take (lenOf s)
def decE (s : List UInt8) : Int := if wholeB s then (if sumB s then unfE (insideL s) else 5) else 2
def decT (s : List UInt8) : WTxn := if decE s = 0 then tOf (insideL s) else t0
def decN (s : List UInt8) : Int := if decE s = 0 then (lenOf s + 7 : Nat) else 0

theorem dec_bad {s : List UInt8} (h : wholeB s = false) : decE s = 2 ∧ decT s = t0 ∧ decN s = 0 := by
  have e : decE s = 2 := by simp [decE, h]
  exact ⟨e, by simp [decT, e], by simp [decN, e]⟩
theorem dec_sum {s : List UInt8} (h : wholeB s = true) (h1 : sumB s = false) : decE s = 5 ∧ decT s = t0 ∧ decN s = 0 := by
  have e : decE s = 5 := by simp [decE, h, h1]
  exact ⟨e, by simp [decT, e], by simp [decN, e]⟩
theorem dec_form {s : List UInt8} (h : wholeB s = true) (h1 : sumB s = true) {e : Int} (h2 : unfE (insideL s) = e) (h3 : e ≠ 0) : decE s = e ∧ decT s = t0 ∧ decN s = 0 := by
  have e : decE s = e := by simp [decE, h, h1, h2]
  exact ⟨e, by rw [decT, e, if_neg h3], by rw [decN, e, if_neg h3]⟩
theorem dec_ok {s : List UInt8} (h : wholeB s = true) (h1 : sumB s = true) (h2 : unfE (insideL s) = 0) : decE s = 0 ∧ decT s = tOf (insideL s) ∧ decN s = (lenOf s + 7 : Nat) := by
  have e : decE s = 0 := by simp [decE, h, h1, h2]
  exact ⟨e, by rw [decT, e, if_pos rfl], by rw [decN, e, if_pos rfl]⟩
theorem unf_bad {b : List UInt8} (h : fitB b = false) : unfE b = 2 ∧ unfT b = t0 := by
  have e : unfE b = 2 := by simp [unfE, h]
  exact ⟨e, by simp [unfT, e]⟩
theorem unf_no {b : List UInt8} (h : fitB b = true) (h1 : gdE (tOf b) ≠ 0) : unfE b = gdE (tOf b) ∧ unfT b = t0 := by
  have e : unfE b = gdE (tOf b) := by simp [unfE, h]
  exact ⟨e, by rw [unfT, e, if_neg h1]⟩
theorem unf_ok {b : List UInt8} (h : fitB b = true) (h1 : gdE (tOf b) = 0) : unfE b = 0 ∧ unfT b = tOf b := by
  have e : unfE b = 0 := by simp [unfE, h, h1]
  exact ⟨e, by rw [unfT, e, if_pos rfl]⟩
theorem wholeB_iff {s : List UInt8} : wholeB s = true ↔ s.take 1 = [84] ∧ lenOf s ≤ 1024 ∧ lenOf s + 7 ≤ s.length := by
  simp [wholeB, and_assoc]
theorem wholeB_no {s : List UInt8} (h : ¬ (s.take 1 = [84] ∧ lenOf s ≤ 1024 ∧ lenOf s + 7 ≤ s.length)) : wholeB s = false := by
  cases hw : wholeB s with
  | false => rfl
  | true => exact absurd (wholeB_iff.1 hw) h
theorem fitB_iff {b : List UInt8} : fitB b = true ↔ 24 + plOf b ≤ b.length ∧ b.length = 24 + plOf b + dlOf b := by simp [fitB]
theorem sumB_iff {s : List UInt8} : sumB s = true ↔ un ((s.drop (lenOf s + 3)).take 4) = sumN (s.take (lenOf s + 3)) := by simp [sumB]

/- together: what a record tells -/
theorem cut_at {a b : List UInt8} {k : Nat} (h : a.length = k) : (a ++ b).take k = a ∧ (a ++ b).drop k = b := by
  subst h; simp
theorem drop_more {l a b : List UInt8} {j k : Nat} (h : l.drop j = a ++ b) (hk : a.length = k) : l.drop (j + k) = b := by
  rw [← List.drop_drop, h]; exact (cut_at hk).2
theorem take_more {l a b : List UInt8} {j k : Nat} (h : l.drop j = a ++ b) (hk : a.length = k) : (l.drop j).take k = a := by
  rw [h]; exact (cut_at hk).1
theorem w64_id {n : Int} (h : 0 ≤ n) (h1 : n < 9223372036854775808) : wrap64 n = n := by unfold wrap64; omega
theorem t_body {t : WTxn} (h : gdE t = 0) : fitB (bodyL t) = true ∧ tOf (bodyL t) = t := by
  obtain ⟨hz, ho, hs, hv, hw, hp, hd⟩ := gd_bounds h
  have e0 : (bodyL t).drop 0 = be 8 t.z.toNat ++ _ := rfl
  have e1 := drop_more e0 (be_length 8 _)
  have e2 := drop_more e1 (be_length 1 _)
  have e3 := drop_more e2 (be_length 4 _)
  have e4 := drop_more e3 (be_length 4 _)
  have e5 := drop_more e4 (be_length 4 _)
  have e6 := drop_more e5 (be_length 1 _)
  have e7 := drop_more e6 (rfl : t.p.length = t.p.length)
  have e8 := drop_more e7 (be_length 2 _)
  have g0 := take_more e0 (be_length 8 _)
  have g1 := take_more e1 (be_length 1 _)
  have g2 := take_more e2 (be_length 4 _)
  have g3 := take_more e3 (be_length 4 _)
  have g4 := take_more e4 (be_length 4 _)
  have g5 := take_more e5 (be_length 1 _)
  have g6 := take_more e6 (rfl : t.p.length = t.p.length)
  have g7 := take_more e7 (be_length 2 _)
  simp only [Nat.zero_add, Nat.reduceAdd, List.drop_zero] at e1 e2 e3 e4 e5 e6 e7 e8 g0 g1 g2 g3 g4 g5 g6 g7
  have hpl : plOf (bodyL t) = t.p.length := by rw [plOf, g5]; exact un_be 1 _ (by omega)
  have hdl : dlOf (bodyL t) = t.d.length := by rw [dlOf, hpl, g7]; exact un_be 2 _ (by omega)
  refine ⟨fitB_iff.2 ?_, ?_⟩
  · rw [hpl, hdl, bodyL_length]; omega
  · rw [tOf, hpl, g0, g1, g2, g3, g4, g6, show 24 + t.p.length = 22 + t.p.length + 2 from by omega, e8]
    rw [un_be 8 _ (by omega), un_be 1 _ (by omega), un_be 4 _ (by omega), un_be 4 _ (by omega), un_be 4 _ (by omega), w64_id (by omega) (by omega)]
    simp only [Int.toNat_of_nonneg hz.1, Int.toNat_of_nonneg hv.1, Int.toNat_of_nonneg hw.1, Int.toNat_of_nonneg (show 0 ≤ t.o by omega), Int.toNat_of_nonneg (show 0 ≤ t.s by omega)]
theorem unf_body {t : WTxn} (h : gdE t = 0) : unfE (bodyL t) = 0 := by
  obtain ⟨h1, h2⟩ := t_body h
  rw [unfE, h1, h2, h]; rfl

/-- bytes that begin as a record does: T, the length of b, b, four bytes m, whatever behind -/
theorem dec_parts {b m more : List UInt8} (hb : b.length ≤ 1024) (hm : m.length = 4) : 
    wholeB (frontL b ++ (m ++ more)) = true ∧ lenOf (frontL b ++ (m ++ more)) = b.length ∧ insideL (frontL b ++ (m ++ more)) = b ∧
    sumB (frontL b ++ (m ++ more)) = (un m == sumN (frontL b)) := by
  have e0 : (frontL b ++ (m ++ more)).drop 1 = be 2 b.length ++ (b ++ (m ++ more)) := by simp [frontL]
  have g0 := take_more e0 (be_length 2 _)
  have e1 := drop_more e0 (be_length 2 _)
  have g1 := take_more e1 (rfl : b.length = b.length)
  have hl : lenOf (frontL b ++ (m ++ more)) = b.length := by rw [lenOf, g0]; exact un_be 2 _ (by omega)
  have hf : (frontL b).length = b.length + 3 := frontL_length b
  refine ⟨wholeB_iff.2 ⟨by simp [frontL], by omega, ?_⟩, hl, ?_, ?_⟩
  · rw [hl, List.length_append, List.length_append, hf]; omega
  · rw [insideL, hl]; exact g1
  · rw [sumB, hl, (cut_at hf).1, (cut_at hf).2, (cut_at hm).1]
theorem rec_split (t : WTxn) (more : List UInt8) : recL t ++ more = frontL (bodyL t) ++ (be 4 (sumN (frontL (bodyL t))) ++ more) := by rw [recL, List.append_assoc]
theorem gd_body_le {t : WTxn} (h : gdE t = 0) : (bodyL t).length ≤ 1024 := by
  obtain ⟨_, _, _, _, _, hp, hd⟩ := gd_bounds h
  rw [bodyL_length]; omega
theorem dec_rec {t : WTxn} (h : gdE t = 0) (more : List UInt8) : decE (recL t ++ more) = 0 ∧ decT (recL t ++ more) = t ∧ decN (recL t ++ more) = (recL t).length := by
  rw [rec_split]
  obtain ⟨h1, h2, h3, h4⟩ := dec_parts (b := bodyL t) (m := be 4 (sumN (frontL (bodyL t)))) (more := more) (gd_body_le h) (be_length 4 _)
  have hs : un (be 4 (sumN (frontL (bodyL t)))) = sumN (frontL (bodyL t)) := un_be 4 _ (by have := sumN_lt (frontL (bodyL t)); omega)
  rw [hs, beq_self_eq_true] at h4
  obtain ⟨a, b, c⟩ := dec_ok h1 h4 (by rw [h3]; exact unf_body h)
  refine ⟨a, ?_, ?_⟩
  · rw [b, h3]; exact (t_body h).2
  · rw [c, h2, bodyL_length, recL_length]; omega

end Go.Proofs.YtbkndjhogaloiaaGreatDoor

namespace Go.Proofs.YtbkndjhogaloiaaGreatDoor
open Go.RowKit

def recsL : List WTxn → List UInt8
  | [] => []
  | t :: l => recL t ++ recsL l
theorem recsL_append : ∀ a b, recsL (a ++ b) = recsL a ++ recsL b
  | [], _ => rfl
  | t :: a, b => by rw [List.cons_append, recsL, recsL, recsL_append a b, List.append_assoc]
theorem recsL_snoc (a : List WTxn) (t : WTxn) : recsL (a ++ [t]) = recsL a ++ recL t := by rw [recsL_append, recsL, recsL, List.append_nil]
def lastZ (l : List WTxn) : Int := l.foldl (fun _ t => t.z) 0
theorem lastZ_snoc (l : List WTxn) (t : WTxn) : lastZ (l ++ [t]) = t.z := by simp [lastZ]
theorem lastZ_nil : lastZ [] = 0 := rfl
/-- may it stand behind these? -/
def follB (l : List WTxn) (t : WTxn) : Bool := decide (l.length = 0) || decide (lastZ l < t.z)
theorem follB_some {l : List WTxn} {t : WTxn} (h : l.length ≠ 0) : follB l t = decide (lastZ l < t.z) := by simp [follB, h]
theorem snoc_of {l : List WTxn} (h : l.length ≠ 0) : ∃ m x, l = m ++ [x] := by
  rcases List.eq_nil_or_concat l with rfl | ⟨m, x, rfl⟩
  · exact absurd rfl h
  · exact ⟨m, x, List.concat_eq_append⟩
structure Logs (ts : List WTxn) : Prop where
  good : ∀ t ∈ ts, gdE t = 0
  rise : ts.Pairwise fun a b => a.z < b.z
theorem Logs.nil : Logs [] := ⟨by simp, List.Pairwise.nil⟩
theorem Logs.le_last {ts : List WTxn} (h : Logs ts) {a : WTxn} (ha : a ∈ ts) : a.z ≤ lastZ ts := by
  rcases List.eq_nil_or_concat ts with rfl | ⟨m, x, e⟩
  · simp at ha
  · rw [List.concat_eq_append] at e
    subst e
    rw [lastZ_snoc]
    rcases List.mem_append.1 ha with h1 | h1
    · have := (List.pairwise_append.1 h.rise).2.2 a h1 x (by simp)
      omega
    · simp at h1; subst h1; omega
theorem Logs.snoc {ts : List WTxn} {t : WTxn} (h : Logs ts) (hg : gdE t = 0) (hf : follB ts t = true) : Logs (ts ++ [t]) := by
  refine ⟨fun x hx => ?_, ?_⟩
  · rcases List.mem_append.1 hx with h1 | h1
    · exact h.good x h1
    · simp at h1; subst h1; exact hg
  · rw [List.pairwise_append]
    refine ⟨h.rise, by simp, fun a ha b hb => ?_⟩
    simp at hb; subst hb
    have h0 : ts.length ≠ 0 := by rintro h0; rw [List.length_eq_zero_iff.1 h0] at ha; simp at ha
    rw [follB_some h0] at hf
    have := h.le_last ha
    have := of_decide_eq_true hf
    omega
theorem Logs.left {a b : List WTxn} (h : Logs (a ++ b)) : Logs a := ⟨fun t ht => h.good t (by simp [ht]), (List.pairwise_append.1 h.rise).1⟩
theorem Logs.at {a b : List WTxn} {t : WTxn} (h : Logs (a ++ t :: b)) : gdE t = 0 ∧ follB a t = true := by
  refine ⟨h.good t (by simp), ?_⟩
  by_cases h0 : a.length = 0
  · simp [follB, h0]
  · rw [follB_some h0]
    obtain ⟨m, x, rfl⟩ := snoc_of h0
    rw [lastZ_snoc]
    exact decide_eq_true ((List.pairwise_append.1 h.rise).2.2 x (by simp) t (by simp))
/-- bytes begin with these, and there it stops -/
structure Scan (s : List UInt8) (ts : List WTxn) (r : List UInt8) : Prop where
  eq : s = recsL ts ++ r
  log : Logs ts
  stop : decE r ≠ 0 ∨ follB ts (decT r) = false
theorem dec_nil : decE [] ≠ 0 := by rw [(dec_bad (s := []) (by decide)).1]; decide
theorem scan_recs {ts : List WTxn} (h : Logs ts) : Scan (recsL ts) ts [] := ⟨by simp, h, .inl dec_nil⟩
theorem Scan.len {s r : List UInt8} {ts : List WTxn} (h : Scan s ts r) : (recsL ts).length + r.length = s.length := by rw [h.eq, List.length_append]
theorem recsL_ge : ∀ ts : List WTxn, ts.length * 31 ≤ (recsL ts).length
  | [] => by simp [recsL]
  | t :: l => by
    have := recsL_ge l
    rw [recsL, List.length_append, recL_length, List.length_cons]
    omega
theorem recL_le {t : WTxn} (h : gdE t = 0) : (recL t).length ≤ 487 := by
  obtain ⟨_, _, _, _, _, hp, hd⟩ := gd_bounds h
  rw [recL_length]; omega
theorem recsL_le : ∀ ts : List WTxn, (∀ t ∈ ts, gdE t = 0) → (recsL ts).length ≤ ts.length * 487
  | [], _ => by simp [recsL]
  | t :: l, h => by
    have h1 := recsL_le l (fun x hx => h x (by simp [hx]))
    have h2 := recL_le (h t (by simp))
    rw [recsL, List.length_append, List.length_cons]
    omega
theorem take_more1 {ts : List WTxn} {k : Nat} {t : WTxn} (h : ts[k]? = some t) : ts.take (k + 1) = ts.take k ++ [t] := by
  obtain ⟨hk, rfl⟩ := List.getElem?_eq_some_iff.1 h
  exact List.take_succ_eq_append_getElem hk
end Go.Proofs.YtbkndjhogaloiaaGreatDoor

namespace Go.Proofs.YtbkndjhogaloiaaGreatDoor
open Go.RowKit
/-- a transaction as a value -/
def txnV (t : WTxn) : Value := .agg #[.int .i64 t.z, .int .i64 t.o, .int .i64 t.s, .string ⟨t.p.toArray⟩, .string ⟨t.d.toArray⟩, .int .i64 t.v, .int .i64 t.w]
end Go.Proofs.YtbkndjhogaloiaaGreatDoor

namespace Go.Proofs.YtbkndjhogaloiaaGreatDoor
open Go.RowKit

/- the order of texts -/
abbrev bl (a b : List UInt8) : Bool := Op.bytesLess a b
theorem bl_irrefl : ∀ a, bl a a = false
  | [] => rfl
  | x :: a => by
    have h : ¬ x < x := UInt8.lt_irrefl x
    have := bl_irrefl a
    simp only [bl] at this
    simp [bl, Op.bytesLess, h, this]
theorem bl_trans : ∀ a b c, bl a b = true → bl b c = true → bl a c = true
  | [], _, [], _, h => by cases ‹List UInt8› <;> simp [bl, Op.bytesLess] at h
  | [], _, _ :: _, _, _ => by simp [bl, Op.bytesLess]
  | _ :: _, [], _, h, _ => by simp [bl, Op.bytesLess] at h
  | _ :: _, _ :: _, [], _, h => by simp [bl, Op.bytesLess] at h
  | x :: a, y :: b, z :: c, h1, h2 => by
    have ih := bl_trans a b c
    simp only [bl, Op.bytesLess, Bool.or_eq_true, Bool.and_eq_true, decide_eq_true_eq, beq_iff_eq] at h1 h2 ih ⊢
    rcases h1 with h1 | ⟨h1, h1'⟩ <;> rcases h2 with h2 | ⟨h2, h2'⟩
    · exact .inl (UInt8.lt_trans h1 h2)
    · subst h2; exact .inl h1
    · subst h1; exact .inl h2
    · subst h1 h2; exact .inr ⟨rfl, ih h1' h2'⟩
theorem bl_total : ∀ a b, bl a b = false → bl b a = false → a = b
  | [], [], _, _ => rfl
  | [], _ :: _, h, _ => by simp [bl, Op.bytesLess] at h
  | _ :: _, [], _, h => by simp [bl, Op.bytesLess] at h
  | x :: a, y :: b, h1, h2 => by
    have ih := bl_total a b
    simp only [bl, Op.bytesLess, Bool.or_eq_false_iff, Bool.and_eq_false_iff, decide_eq_false_iff_not, beq_eq_false_iff_ne] at h1 h2 ih
    have e : x = y := UInt8.le_antisymm (UInt8.not_lt.1 h2.1) (UInt8.not_lt.1 h1.1)
    subst e
    rw [ih (by rcases h1.2 with h | h; · exact absurd rfl h
               · exact h) (by rcases h2.2 with h | h; · exact absurd rfl h
                              · exact h)]
theorem bl_asymm {a b : List UInt8} (h : bl a b = true) : bl b a = false := by
  cases h' : bl b a with
  | false => rfl
  | true => have := bl_trans a b a h h'; rw [bl_irrefl] at this; cases this
theorem bl_ne {a b : List UInt8} (h : bl a b = true) : a ≠ b := by rintro rfl; rw [bl_irrefl] at h; cases h

theorem cmp_bl : ∀ a b, decide (Lib.compareBytes a b < 0) = bl a b
  | [], [] => by simp [bl, Op.bytesLess, Lib.compareBytes]
  | [], _ :: _ => by simp [bl, Op.bytesLess, Lib.compareBytes]
  | _ :: _, [] => by simp [bl, Op.bytesLess, Lib.compareBytes]
  | x :: a, y :: b => by
    have ih := cmp_bl a b
    simp only [bl] at ih
    simp only [bl, Op.bytesLess, Lib.compareBytes]
    by_cases h1 : x < y
    · simp [h1]
    · by_cases h2 : y < x
      · have : x ≠ y := by rintro rfl; exact h1 h2
        simp [h1, h2, this]
      · have : x = y := UInt8.le_antisymm (UInt8.not_lt.1 h2) (UInt8.not_lt.1 h1)
        subst this
        simp [h1, ← ih]
theorem cmp_zero : ∀ a b, decide (Lib.compareBytes a b = 0) = decide (a = b)
  | [], [] => by simp [Lib.compareBytes]
  | [], _ :: _ => by simp [Lib.compareBytes]
  | _ :: _, [] => by simp [Lib.compareBytes]
  | x :: a, y :: b => by
    have ih := cmp_zero a b
    simp only [Lib.compareBytes]
    by_cases h1 : x < y
    · have : x ≠ y := by rintro rfl; exact UInt8.lt_irrefl x h1
      simp [h1, this]
    · by_cases h2 : y < x
      · have : x ≠ y := by rintro rfl; exact h1 h2
        simp [h1, h2, this]
      · have : x = y := UInt8.le_antisymm (UInt8.not_lt.1 h2) (UInt8.not_lt.1 h1)
        subst this
        simp [h1, ih]

/- files -/
structure DF where
  n : List UInt8
  s : List UInt8
  t : List UInt8
instance : Inhabited DF := ⟨⟨[], [], []⟩⟩

def fileOk (f : DF) : Bool := namedB f.n && decide (f.s.length + f.t.length ≤ 1048576)
def Asc (fs : List DF) : Prop := fs.Pairwise fun a b => bl a.n b.n = true
structure GoodD (fs : List DF) : Prop where
  few : fs.length ≤ 16
  ok : ∀ f ∈ fs, fileOk f = true
  asc : Asc fs
noncomputable def goodD (fs : List DF) : Bool := @decide (GoodD fs) (Classical.propDecidable _)
theorem goodD_true {fs : List DF} : goodD fs = true ↔ GoodD fs := by unfold goodD; exact @decide_eq_true_iff _ (Classical.propDecidable _)
theorem goodD_false {fs : List DF} : goodD fs = false ↔ ¬ GoodD fs := by unfold goodD; exact @decide_eq_false_iff_not _ (Classical.propDecidable _)

/- what is known of the first k files -/
def OkTo (fs : List DF) (k : Nat) : Prop := ∀ i, i < k → ∀ f, fs[i]? = some f → fileOk f = true ∧ ∀ g, 0 < i → fs[i - 1]? = some g → bl g.n f.n = true
theorem okTo_zero (fs : List DF) : OkTo fs 0 := fun _ h => absurd h (Nat.not_lt_zero _)
theorem okTo_succ {fs : List DF} {k : Nat} (h : OkTo fs k) {f : DF} (hf : fs[k]? = some f) (h1 : fileOk f = true) (h2 : ∀ g, 0 < k → fs[k - 1]? = some g → bl g.n f.n = true) : OkTo fs (k + 1) := by
  intro i hi f' hf'
  by_cases e : i = k
  · subst e
    rw [hf] at hf'
    cases hf'
    exact ⟨h1, h2⟩
  · exact h i (by omega) f' hf'
theorem asc_of_okTo {fs : List DF} (h : OkTo fs fs.length) : Asc fs := by
  have step : ∀ j i, (hij : i < j) → ∀ (hj : j < fs.length), bl (fs[i]'(Nat.lt_trans hij hj)).n fs[j].n = true := by
    intro j
    induction j with
    | zero => intro i hi; omega
    | succ j ih =>
      intro i hi hj
      have h1 := (h (j + 1) hj _ (List.getElem?_eq_getElem hj)).2 fs[j] (by omega) (by simp)
      by_cases e : i = j
      · subst e; exact h1
      · exact bl_trans _ _ _ (ih i (by omega) (by omega)) h1
  exact List.pairwise_iff_getElem.2 fun i j hi hj hij => step j i hij hj
theorem good_of_okTo {fs : List DF} (hl : fs.length ≤ 16) (h : OkTo fs fs.length) : goodD fs = true :=
  goodD_true.2 ⟨hl, fun f hf => by
    obtain ⟨i, hi, rfl⟩ := List.getElem_of_mem hf
    exact (h i hi _ (List.getElem?_eq_getElem hi)).1, asc_of_okTo h⟩
theorem bad_len {fs : List DF} (h : 16 < fs.length) : goodD fs = false := goodD_false.2 fun g => by have := g.few; omega
theorem bad_file {fs : List DF} {k : Nat} {f : DF} (hf : fs[k]? = some f) (h : fileOk f = false) : goodD fs = false :=
  goodD_false.2 fun g => by rw [g.ok f (List.mem_of_getElem? hf)] at h; cases h
theorem bad_order {fs : List DF} {k : Nat} {f g : DF} (hf : fs[k]? = some f) (hg : fs[k - 1]? = some g) (h0 : 0 < k) (h : bl g.n f.n = false) : goodD fs = false :=
  goodD_false.2 fun G => by
    obtain ⟨hk, rfl⟩ := List.getElem?_eq_some_iff.1 hf
    obtain ⟨hk', rfl⟩ := List.getElem?_eq_some_iff.1 hg
    rw [List.pairwise_iff_getElem.1 G.asc (k - 1) k hk' hk (by omega)] at h
    cases h

/- where a name stands -/
structure There (fs A : List DF) (f : DF) (B : List DF) (name : List UInt8) : Prop where
  eq : fs = A ++ f :: B
  nm : f.n = name
  lo : ∀ a ∈ A, bl a.n name = true
  hi : ∀ b ∈ B, bl name b.n = true
structure Gap (fs A B : List DF) (name : List UInt8) : Prop where
  eq : fs = A ++ B
  lo : ∀ a ∈ A, bl a.n name = true
  hi : ∀ b ∈ B, bl name b.n = true
theorem where_is (name : List UInt8) : ∀ fs : List DF, Asc fs → (∃ A f B, There fs A f B name) ∨ ∃ A B, Gap fs A B name
  | [], _ => .inr ⟨[], [], rfl, by simp, by simp⟩
  | x :: r, h => by
    obtain ⟨hx, hr⟩ := List.pairwise_cons.1 h
    cases h1 : bl x.n name with
    | true =>
      rcases where_is name r hr with ⟨A, f, B, T⟩ | ⟨A, B, G⟩
      · exact .inl ⟨x :: A, f, B, by rw [T.eq]; rfl, T.nm, by simp [h1]; exact T.lo, T.hi⟩
      · exact .inr ⟨x :: A, B, by rw [G.eq]; rfl, by simp [h1]; exact G.lo, G.hi⟩
    | false =>
      cases h2 : bl name x.n with
      | true => exact .inr ⟨[], x :: r, rfl, by simp, by simp [h2]; exact fun b hb => bl_trans _ _ _ h2 (hx b hb)⟩
      | false =>
        have e := bl_total _ _ h1 h2
        exact .inl ⟨[], x, r, rfl, e, by simp, fun b hb => by rw [← e]; exact hx b hb⟩

theorem There.ok {fs A B : List DF} {f : DF} {name : List UInt8} (T : There fs A f B name) (g : GoodD fs) : fileOk f = true := g.ok f (by rw [T.eq]; simp)
theorem fileOk_len {f : DF} (h : fileOk f = true) : f.s.length + f.t.length ≤ 1048576 := by simp [fileOk] at h; exact h.2
theorem fileOk_named {f : DF} (h : fileOk f = true) : namedB f.n = true := by simp [fileOk] at h; exact h.1

end Go.Proofs.YtbkndjhogaloiaaGreatDoor

namespace Go.Proofs.YtbkndjhogaloiaaGreatDoor
open Go.RowKit

def fcells (f : DF) : List Value := [.string ⟨f.n.toArray⟩, .string ⟨f.s.toArray⟩, .string ⟨f.t.toArray⟩]
/-- a file as a value -/
def fileV (f : DF) : Value := .agg #[.string ⟨f.n.toArray⟩, .string ⟨f.s.toArray⟩, .string ⟨f.t.toArray⟩]
def cellsF : List DF → List Value
  | [] => []
  | f :: r => fcells f ++ cellsF r
theorem cellsF_length : ∀ fs : List DF, (cellsF fs).length = fs.length * 3
  | [] => rfl
  | f :: r => by rw [cellsF, List.length_append, cellsF_length r]; simp [fcells]; omega
theorem cellsF_append : ∀ a b : List DF, cellsF (a ++ b) = cellsF a ++ cellsF b
  | [], _ => rfl
  | f :: r, b => by rw [List.cons_append, cellsF, cellsF, cellsF_append r b, List.append_assoc]
theorem cellsF_get : ∀ (fs : List DF) (i : Nat) (f : DF), fs[i]? = some f → ∀ c, c < 3 → (cellsF fs)[i * 3 + c]? = (fcells f)[c]?
  | [], i, f, h, _, _ => by simp at h
  | x :: r, 0, f, h, c, hc => by
    simp at h
    subst h
    rw [cellsF, List.getElem?_append_left (by simp [fcells]; omega)]
    simp
  | x :: r, i + 1, f, h, c, hc => by
    rw [cellsF, List.getElem?_append_right (by simp [fcells]; omega), ← cellsF_get r i f (by simpa using h) c hc]
    congr 1
    simp [fcells]; omega
theorem cellsF_one (fs : List DF) : ∀ u ∈ cellsF fs, u.oneCell' = true := by
  induction fs with
  | nil => simp [cellsF]
  | cons f r ih =>
    intro u hu
    rcases List.mem_append.1 hu with h | h
    · simp [fcells] at h
      rcases h with rfl | rfl | rfl <;> rfl
    · exact ih u h
theorem cellsF_set : ∀ (fs : List DF) (i : Nat) (f g : DF), fs[i]? = some f → ∀ c v, c < 3 → (fcells g) = (fcells f).set c v → (cellsF fs).set (i * 3 + c) v = cellsF (fs.set i g)
  | [], i, f, g, h, _, _, _, _ => by simp at h
  | x :: r, 0, f, g, h, c, v, hc, hg => by
    simp at h
    subst h
    rw [cellsF, List.set_cons_zero, cellsF, hg, List.set_append_left _ _ (by simp [fcells]; omega)]
    simp
  | x :: r, i + 1, f, g, h, c, v, hc, hg => by
    rw [cellsF, List.set_cons_succ, cellsF, List.set_append_right _ _ (by simp [fcells]; omega), ← cellsF_set r i f g (by simpa using h) c v hc hg]
    congr 2
    simp [fcells]; omega

def RowAt (w : World) (b off : Nat) (cs : List Value) : Prop := ∀ j v, cs[j]? = some v → w.cell? ⟨b, off + j, none⟩ = some v
theorem RowAt.c0 {w : World} {b off : Nat} {fs : List DF} (h : RowAt w b off (cellsF fs)) {i : Nat} {f : DF} (hi : fs[i]? = some f) : w.cell? ⟨b, off + i * 3, none⟩ = some (.string ⟨f.n.toArray⟩) :=
  h (i * 3) _ (by have := cellsF_get fs i f hi 0 (by omega); simpa [fcells] using this)
theorem RowAt.c1 {w : World} {b off : Nat} {fs : List DF} (h : RowAt w b off (cellsF fs)) {i : Nat} {f : DF} (hi : fs[i]? = some f) : w.cell? ⟨b, off + i * 3 + 1, none⟩ = some (.string ⟨f.s.toArray⟩) := by
  rw [Nat.add_assoc]; exact h (i * 3 + 1) _ (by have := cellsF_get fs i f hi 1 (by omega); simpa [fcells] using this)
theorem RowAt.c2 {w : World} {b off : Nat} {fs : List DF} (h : RowAt w b off (cellsF fs)) {i : Nat} {f : DF} (hi : fs[i]? = some f) : w.cell? ⟨b, off + i * 3 + 2, none⟩ = some (.string ⟨f.t.toArray⟩) := by
  rw [Nat.add_assoc]; exact h (i * 3 + 2) _ (by have := cellsF_get fs i f hi 2 (by omega); simpa [fcells] using this)
theorem RowAt.kept {w w' : World} {b off B : Nat} {cs : List Value} (h : RowAt w b off cs) (hb : Below B w w') (hB : b < B) : RowAt w' b off cs :=
  fun j v hj => by rw [hb.cell (p := ⟨b, off + j, none⟩) hB]; exact h j v hj

/-- the value of a disk's one field holds these files -/
def DiskV (w : World) (v : Value) (fs : List DF) : Prop :=
  (∃ a cap, v = .slice a 0 cap ∧ fs = [] ∧ cap ≤ maxLen) ∨
  ∃ b off cap, v = .slice (some ⟨b, off, none⟩) fs.length cap ∧ fs.length ≤ cap ∧ cap ≤ maxLen ∧ b < w.heap.size ∧ fs ≠ [] ∧ RowAt w b off (cellsF fs)
theorem DiskV.kept {w w' : World} {B : Nat} {v : Value} {fs : List DF} (h : DiskV w v fs) (hb : Below B w w') (hB : w.heap.size ≤ B) : DiskV w' v fs := by
  rcases h with h | ⟨b, off, cap, rfl, h1, h2, h3, h0, h4⟩
  · exact .inl h
  · exact .inr ⟨b, off, cap, rfl, h1, h2, Nat.lt_of_lt_of_le h3 hb.size, h0, h4.kept hb (Nat.lt_of_lt_of_le h3 hB)⟩
theorem DiskV.next {w w' : World} {v : Value} {fs : List DF} (h : DiskV w v fs) (hb : Below w.heap.size w w') : DiskV w' v fs := h.kept hb (Nat.le_refl _)
theorem DiskV.alloc {w : World} {v : Value} {fs : List DF} (h : DiskV w v fs) (o : Obj) : DiskV (w.alloc o) v fs := h.next ((Below.refl _ _).alloc (Nat.le_refl _) o)
theorem DiskV.drew {w : World} {v : Value} {fs : List DF} (h : DiskV w v fs) : DiskV w.drew v fs := h.next (Below.refl _ _).drew
theorem DiskV.nil (w : World) : DiskV w (.slice none 0 0) [] := .inl ⟨none, 0, rfl, rfl, by decide⟩

/-- block g is a row of the call's own with these files at its head -/
def Own (W : World) (g cap : Nat) (fs : List DF) : Prop := ∃ rest : List Value, W.heap[g]? = some (.cells (cellsF fs ++ rest).toArray 69 (0, 0)) ∧ fs.length * 3 + rest.length = cap * 3 ∧ cap ≤ maxLen
theorem Own.lt {W : World} {g cap : Nat} {fs : List DF} (h : Own W g cap fs) : g < W.heap.size := by
  obtain ⟨rest, h1, _⟩ := h
  exact (Array.getElem?_eq_some_iff.1 h1).1
theorem Own.le {W : World} {g cap : Nat} {fs : List DF} (h : Own W g cap fs) : fs.length ≤ cap := by obtain ⟨rest, _, h2, _⟩ := h; omega
theorem Own.capLe {W : World} {g cap : Nat} {fs : List DF} (h : Own W g cap fs) : cap ≤ maxLen := by obtain ⟨rest, _, _, h3⟩ := h; exact h3
theorem Own.row {W : World} {g cap : Nat} {fs : List DF} (h : Own W g cap fs) : RowAt W g 0 (cellsF fs) := by
  obtain ⟨rest, h1, _⟩ := h
  intro j v hj
  have hlt : j < (cellsF fs).length := (List.getElem?_eq_some_iff.1 hj).1
  simp [World.cell?, h1, List.getElem?_append_left hlt, hj]
theorem Own.frozen {W : World} {g cap : Nat} {fs : List DF} (h : Own W g cap fs) (j : Nat) : W.frozen? ⟨g, j, none⟩ = false := by
  obtain ⟨rest, h1, _⟩ := h
  simp [World.frozen?, h1]
theorem Own.c0 {W : World} {g cap : Nat} {fs : List DF} (h : Own W g cap fs) {i : Nat} {f : DF} (hi : fs[i]? = some f) : W.cell? ⟨g, i * 3, none⟩ = some (.string ⟨f.n.toArray⟩) := by simpa using h.row.c0 hi
theorem Own.c1 {W : World} {g cap : Nat} {fs : List DF} (h : Own W g cap fs) {i : Nat} {f : DF} (hi : fs[i]? = some f) : W.cell? ⟨g, i * 3 + 1, none⟩ = some (.string ⟨f.s.toArray⟩) := by simpa using h.row.c1 hi
theorem Own.c2 {W : World} {g cap : Nat} {fs : List DF} (h : Own W g cap fs) {i : Nat} {f : DF} (hi : fs[i]? = some f) : W.cell? ⟨g, i * 3 + 2, none⟩ = some (.string ⟨f.t.toArray⟩) := by simpa using h.row.c2 hi
theorem Own.kept {W V : World} {g B cap : Nat} {fs : List DF} (h : Own W g cap fs) (hb : Below B W V) (hg : g < B) : Own V g cap fs := by
  obtain ⟨rest, h1, h2⟩ := h
  exact ⟨rest, (hb.block _ hg).trans h1, h2⟩
theorem Own.next {W V : World} {g cap : Nat} {fs : List DF} (h : Own W g cap fs) (hb : Below W.heap.size W V) : Own V g cap fs := h.kept hb h.lt
theorem Own.alloc {W : World} {g cap : Nat} {fs : List DF} (h : Own W g cap fs) (o : Obj) : Own (W.alloc o) g cap fs := h.next ((Below.refl _ _).alloc (Nat.le_refl _) o)
theorem Own.drew {W : World} {g cap : Nat} {fs : List DF} (h : Own W g cap fs) : Own W.drew g cap fs := h
theorem Own.other {W : World} {g cap : Nat} {fs : List DF} (h : Own W g cap fs) {a : Addr} (ha : g ≠ a.block) (v : Value) : Own (W.setCell a v) g cap fs := by
  obtain ⟨rest, h1, h2⟩ := h
  exact ⟨rest, (Below.heap_setCell W a v g ha).trans h1, h2⟩
theorem block_set {w : World} {g j : Nat} {cur : Array Value} {t : TypeId} {fz : Nat × Nat} (v : Value) (h : w.heap[g]? = some (.cells cur t fz)) :
    (w.setCell ⟨g, j, none⟩ v).heap[g]? = some (.cells (cur.setIfInBounds j v) t fz) := by
  obtain ⟨hlt, hk⟩ := Array.getElem?_eq_some_iff.1 h
  show (w.heap.modify g _)[g]? = _
  rw [Array.getElem?_eq_getElem (by rw [Array.size_modify]; exact hlt), Array.getElem_modify_self, hk]
  rfl
theorem Own.set {W : World} {g cap : Nat} {fs : List DF} (h : Own W g cap fs) {i : Nat} {f f' : DF} (hi : fs[i]? = some f) {c : Nat} (hc : c < 3) {v : Value} (hf : fcells f' = (fcells f).set c v) : Own (W.setCell ⟨g, i * 3 + c, none⟩ v) g cap (fs.set i f') := by
  obtain ⟨rest, h1, h2, h3⟩ := h
  refine ⟨rest, ?_, by simpa using h2, h3⟩
  have hl : i < fs.length := (List.getElem?_eq_some_iff.1 hi).1
  rw [block_set v h1, ← cellsF_set fs i f f' hi c v hc hf]
  simp [List.set_append_left _ _ (show i * 3 + c < (cellsF fs).length by rw [cellsF_length]; omega)]
theorem Own.s0 {W : World} {g cap : Nat} {fs : List DF} (h : Own W g cap fs) {i : Nat} {f : DF} (hi : fs[i]? = some f) (x : List UInt8) : Own (W.setCell ⟨g, i * 3, none⟩ (.string ⟨x.toArray⟩)) g cap (fs.set i ⟨x, f.s, f.t⟩) := h.set hi (c := 0) (by omega) rfl
theorem Own.s1 {W : World} {g cap : Nat} {fs : List DF} (h : Own W g cap fs) {i : Nat} {f : DF} (hi : fs[i]? = some f) (x : List UInt8) : Own (W.setCell ⟨g, i * 3 + 1, none⟩ (.string ⟨x.toArray⟩)) g cap (fs.set i ⟨f.n, x, f.t⟩) := h.set hi (c := 1) (by omega) rfl
theorem Own.s2 {W : World} {g cap : Nat} {fs : List DF} (h : Own W g cap fs) {i : Nat} {f : DF} (hi : fs[i]? = some f) (x : List UInt8) : Own (W.setCell ⟨g, i * 3 + 2, none⟩ (.string ⟨x.toArray⟩)) g cap (fs.set i ⟨f.n, f.s, x⟩) := h.set hi (c := 2) (by omega) rfl

/-- a value that holds these files in a row of the call's own, at or behind block B -/
def OwnV (W : World) (B : Nat) (v : Value) (fs : List DF) : Prop := (v = .slice none 0 0 ∧ fs = []) ∨ ∃ g cap, v = .slice (some ⟨g, 0, none⟩) fs.length cap ∧ B ≤ g ∧ Own W g cap fs
theorem OwnV.disk {W : World} {B : Nat} {v : Value} {fs : List DF} (h : OwnV W B v fs) : DiskV W v fs := by
  rcases h with ⟨rfl, rfl⟩ | ⟨g, cap, rfl, _, h⟩
  · exact DiskV.nil W
  · by_cases h0 : fs = []
    · subst h0; exact .inl ⟨_, cap, rfl, rfl, h.capLe⟩
    · exact .inr ⟨g, 0, cap, rfl, h.le, h.capLe, h.lt, h0, h.row⟩
theorem OwnV.next {W V : World} {B : Nat} {v : Value} {fs : List DF} (h : OwnV W B v fs) (hb : Below W.heap.size W V) : OwnV V B v fs := by
  rcases h with h | ⟨g, cap, rfl, hB, h⟩
  · exact .inl h
  · exact .inr ⟨g, cap, rfl, hB, h.next hb⟩
theorem OwnV.of_row {W : World} {B : Nat} {v : Value} {fs : List DF} (h : W.ownsRow B 69 3 v fs.length (cellsF fs)) : OwnV W B v fs := by
  obtain ⟨_, ⟨rfl, h0⟩ | ⟨g, cap, cur, rfl, hB, hg, hn, hm, hs, ht⟩⟩ := h
  · exact .inl ⟨rfl, List.eq_nil_of_length_eq_zero h0⟩
  · refine .inr ⟨g, cap, rfl, hB, cur.toList.drop (fs.length * 3), ?_, ?_, hm⟩
    · rw [hg, ← ht, List.take_append_drop]
    · simp [hs]; omega
theorem OwnV.row {W : World} {B : Nat} {v : Value} {fs : List DF} (h : OwnV W B v fs) : W.ownsRow B 69 3 v fs.length (cellsF fs) := by
  refine ⟨cellsF_length fs, ?_⟩
  rcases h with ⟨rfl, rfl⟩ | ⟨g, cap, rfl, hB, h⟩
  · exact .inl ⟨rfl, rfl⟩
  · have hle := h.le
    obtain ⟨rest, h1, h2, h3⟩ := h
    refine .inr ⟨g, cap, _, rfl, hB, h1, hle, h3, by simp [cellsF_length, h2], ?_⟩
    simp [← cellsF_length fs]

end Go.Proofs.YtbkndjhogaloiaaGreatDoor
