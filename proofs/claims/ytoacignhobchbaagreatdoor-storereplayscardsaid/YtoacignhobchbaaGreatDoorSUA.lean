/-
  Plain functions on lists of bytes that the contracts of package path speak of, and what holds of them; no program is named here.
  A disk as a plain list of files: when it is one, where a name stands on it, what the order of names is. No program is named here.
  Events as plain data. No program is named here.
  The numbers of transactions as plain arithmetic, and the answers of package zxid's number functions; no program is named here.
  The pieces of a text between slashes, and what path.Good says of them; no program is named here.
  The cyclic sum of 32 bits as plain arithmetic: one bit, a byte, a text; that one changed byte changes it; and the same by single bits. No program is named here.
  A transaction and its record as plain lists of bytes: what is wrong with one, its bytes, what bytes tell; that these go together. No program is named here.
-/
import Derived.WalkKit
import Derived.Laws.Cover1
import Derived.Lib.Bytealg
import Derived.Laws.BitsLemmas
import Derived.Lib.IndexLaws
import Derived.Lib.Strings
namespace Go.Proofs.YtoacignhobchbaaGreatDoor
open Go.RowKit

theorem hide {p : Prop} (h : p) : Hid p := h
theorem unhide {p : Prop} (h : Hid p) : p := h

/-- a byte that may stand in a step: a to z, 0 to 9, minus or underscore -/
def letterB (c : UInt8) : Bool := (decide (97 ≤ c.toNat) && decide (c.toNat ≤ 122)) || (decide (48 ≤ c.toNat) && decide (c.toNat ≤ 57)) || c.toNat == 45 || c.toNat == 95
/-- a step: 1 to 40 such bytes -/
def namedB (l : List UInt8) : Bool := decide (1 ≤ l.length) && decide (l.length ≤ 40) && l.all letterB

theorem take_snoc (s : ByteArray) (k : Nat) (h : k < s.size) : s.data.toList.take (k + 1) = s.data.toList.take k ++ [s[k]] := by
  rw [List.take_succ_eq_append_getElem (by simpa using h)]; rfl
theorem all_take_succ (s : ByteArray) (k : Nat) (h : k < s.size) (p : UInt8 → Bool) (h1 : (s.data.toList.take k).all p = true) (h2 : p s[k] = true) : (s.data.toList.take (k + 1)).all p = true := by
  rw [take_snoc s k h, List.all_append, h1]; simpa using h2
theorem all_of_size (s : ByteArray) (k : Nat) (h : s.size ≤ k) (p : UInt8 → Bool) (h1 : (s.data.toList.take k).all p = true) : s.data.toList.all p = true := by
  rwa [List.take_of_length_le (by simpa using h)] at h1
theorem not_all_of (s : ByteArray) (k : Nat) (h : k < s.size) (p : UInt8 → Bool) (h2 : p s[k] = false) : s.data.toList.all p = false := by
  rw [List.all_eq_false]
  exact ⟨s[k], by have : s[k] ∈ s.data := Array.getElem_mem h; simpa using this, by simp [h2]⟩
theorem size_list (s : ByteArray) : s.data.toList.length = s.size := by simp

theorem namedB_short (s : ByteArray) (h : s.size < 1) : namedB s.data.toList = false := by
  simp only [namedB, size_list, show ¬ 1 ≤ s.size from by omega, decide_false, Bool.false_and]
theorem namedB_long (s : ByteArray) (h : 40 < s.size) : namedB s.data.toList = false := by
  simp only [namedB, size_list, show ¬ s.size ≤ 40 from by omega, decide_false, Bool.and_false, Bool.false_and]
theorem namedB_mid (s : ByteArray) (h : 1 ≤ s.size) (h' : s.size ≤ 40) : namedB s.data.toList = s.data.toList.all letterB := by
  simp only [namedB, size_list, h, h', decide_true, Bool.true_and]

end Go.Proofs.YtoacignhobchbaaGreatDoor

namespace Go.Proofs.YtoacignhobchbaaGreatDoor
open Go.RowKit

/- the order of texts -/
abbrev bl (a b : List UInt8) : Bool := Op.bytesLess a b
theorem bl_irrefl : ∀ a, bl a a = false
  | [] => rfl
  | x :: a => by
    have h : ¬ x < x := UInt8.lt_irrefl x
    have := bl_irrefl a
    simp only [bl] at this
    simp [bl, Op.bytesLess, h, this]
theorem bl_trans : ∀ a b c, bl a b = true → bl b c = true → bl a c = true
  | [], _, [], _, h => by cases ‹List UInt8› <;> simp [bl, Op.bytesLess] at h
  | [], _, _ :: _, _, _ => by simp [bl, Op.bytesLess]
  | _ :: _, [], _, h, _ => by simp [bl, Op.bytesLess] at h
  | _ :: _, _ :: _, [], _, h => by simp [bl, Op.bytesLess] at h
  | x :: a, y :: b, z :: c, h1, h2 => by
    have ih := bl_trans a b c
    simp only [bl, Op.bytesLess, Bool.or_eq_true, Bool.and_eq_true, decide_eq_true_eq, beq_iff_eq] at h1 h2 ih ⊢
    rcases h1 with h1 | ⟨h1, h1'⟩ <;> rcases h2 with h2 | ⟨h2, h2'⟩
    · exact .inl (UInt8.lt_trans h1 h2)
    · subst h2; exact .inl h1
    · subst h1; exact .inl h2
    · subst h1 h2; exact .inr ⟨rfl, ih h1' h2'⟩
theorem bl_total : ∀ a b, bl a b = false → bl b a = false → a = b
  | [], [], _, _ => rfl
  | [], _ :: _, h, _ => by simp [bl, Op.bytesLess] at h
  | _ :: _, [], _, h => by simp [bl, Op.bytesLess] at h
  | x :: a, y :: b, h1, h2 => by
    have ih := bl_total a b
    simp only [bl, Op.bytesLess, Bool.or_eq_false_iff, Bool.and_eq_false_iff, decide_eq_false_iff_not, beq_eq_false_iff_ne] at h1 h2 ih
    have e : x = y := UInt8.le_antisymm (UInt8.not_lt.1 h2.1) (UInt8.not_lt.1 h1.1)
    subst e
    rw [ih (by rcases h1.2 with h | h; · exact absurd rfl h
               · exact h) (by rcases h2.2 with h | h; · exact absurd rfl h
                              · exact h)]
theorem bl_asymm {a b : List UInt8} (h : bl a b = true) : bl b a = false := by
  cases h' : bl b a with
  | false => rfl
  | true => have := bl_trans a b a h h'; rw [bl_irrefl] at this; cases this
theorem bl_ne {a b : List UInt8} (h : bl a b = true) : a ≠ b := by rintro rfl; rw [bl_irrefl] at h; cases h

theorem cmp_bl : ∀ a b, decide (Lib.compareBytes a b < 0) = bl a b
  | [], [] => by simp [bl, Op.bytesLess, Lib.compareBytes]
  | [], _ :: _ => by simp [bl, Op.bytesLess, Lib.compareBytes]
  | _ :: _, [] => by simp [bl, Op.bytesLess, Lib.compareBytes]
  | x :: a, y :: b => by
    have ih := cmp_bl a b
    simp only [bl] at ih
    simp only [bl, Op.bytesLess, Lib.compareBytes]
    by_cases h1 : x < y
    · simp [h1]
    · by_cases h2 : y < x
      · have : x ≠ y := by rintro rfl; exact h1 h2
        simp [h1, h2, this]
      · have : x = y := UInt8.le_antisymm (UInt8.not_lt.1 h2) (UInt8.not_lt.1 h1)
        subst this
        simp [h1, ← ih]
theorem cmp_zero : ∀ a b, decide (Lib.compareBytes a b = 0) = decide (a = b)
  | [], [] => by simp [Lib.compareBytes]
  | [], _ :: _ => by simp [Lib.compareBytes]
  | _ :: _, [] => by simp [Lib.compareBytes]
  | x :: a, y :: b => by
    have ih := cmp_zero a b
    simp only [Lib.compareBytes]
    by_cases h1 : x < y
    · have : x ≠ y := by rintro rfl; exact UInt8.lt_irrefl x h1
      simp [h1, this]
    · by_cases h2 : y < x
      · have : x ≠ y := by rintro rfl; exact h1 h2
        simp [h1, h2, this]
      · have : x = y := UInt8.le_antisymm (UInt8.not_lt.1 h2) (UInt8.not_lt.1 h1)
        subst this
        simp [h1, ih]

/- files -/
structure DF where
  n : List UInt8
  s : List UInt8
  t : List UInt8
instance : Inhabited DF := ⟨⟨[], [], []⟩⟩

def fileOk (f : DF) : Bool := namedB f.n && decide (f.s.length + f.t.length ≤ 1048576)
def Asc (fs : List DF) : Prop := fs.Pairwise fun a b => bl a.n b.n = true
structure GoodD (fs : List DF) : Prop where
  few : fs.length ≤ 16
  ok : ∀ f ∈ fs, fileOk f = true
  asc : Asc fs
noncomputable def goodD (fs : List DF) : Bool := @decide (GoodD fs) (Classical.propDecidable _)
theorem goodD_true {fs : List DF} : goodD fs = true ↔ GoodD fs := by unfold goodD; exact @decide_eq_true_iff _ (Classical.propDecidable _)
theorem goodD_false {fs : List DF} : goodD fs = false ↔ ¬ GoodD fs := by unfold goodD; exact @decide_eq_false_iff_not _ (Classical.propDecidable _)

/- what is known of the first k files -/
def OkTo (fs : List DF) (k : Nat) : Prop := ∀ i, i < k → ∀ f, fs[i]? = some f → fileOk f = true ∧ ∀ g, 0 < i → fs[i - 1]? = some g → bl g.n f.n = true
theorem okTo_zero (fs : List DF) : OkTo fs 0 := fun _ h => absurd h (Nat.not_lt_zero _)
theorem okTo_succ {fs : List DF} {k : Nat} (h : OkTo fs k) {f : DF} (hf : fs[k]? = some f) (h1 : fileOk f = true) (h2 : ∀ g, 0 < k → fs[k - 1]? = some g → bl g.n f.n = true) : OkTo fs (k + 1) := by
  intro i hi f' hf'
  by_cases e : i = k
  · subst e
    rw [hf] at hf'
    cases hf'
    exact ⟨h1, h2⟩
  · exact h i (by omega) f' hf'
theorem asc_of_okTo {fs : List DF} (h : OkTo fs fs.length) : Asc fs := by
  have step : ∀ j i, (hij : i < j) → ∀ (hj : j < fs.length), bl (fs[i]'(Nat.lt_trans hij hj)).n fs[j].n = true := by
    intro j
    induction j with
    | zero => intro i hi; omega
    | succ j ih =>
      intro i hi hj
      have h1 := (h (j + 1) hj _ (List.getElem?_eq_getElem hj)).2 fs[j] (by omega) (by simp)
      by_cases e : i = j
      · subst e; exact h1
      · exact bl_trans _ _ _ (ih i (by omega) (by omega)) h1
  exact List.pairwise_iff_getElem.2 fun i j hi hj hij => step j i hij hj
theorem good_of_okTo {fs : List DF} (hl : fs.length ≤ 16) (h : OkTo fs fs.length) : goodD fs = true :=
  goodD_true.2 ⟨hl, fun f hf => by
    obtain ⟨i, hi, rfl⟩ := List.getElem_of_mem hf
    exact (h i hi _ (List.getElem?_eq_getElem hi)).1, asc_of_okTo h⟩
theorem bad_len {fs : List DF} (h : 16 < fs.length) : goodD fs = false := goodD_false.2 fun g => by have := g.few; omega
theorem bad_file {fs : List DF} {k : Nat} {f : DF} (hf : fs[k]? = some f) (h : fileOk f = false) : goodD fs = false :=
  goodD_false.2 fun g => by rw [g.ok f (List.mem_of_getElem? hf)] at h; cases h
theorem bad_order {fs : List DF} {k : Nat} {f g : DF} (hf : fs[k]? = some f) (hg : fs[k - 1]? = some g) (h0 : 0 < k) (h : bl g.n f.n = false) : goodD fs = false :=
  goodD_false.2 fun G => by
    obtain ⟨hk, rfl⟩ := List.getElem?_eq_some_iff.1 hf
    obtain ⟨hk', rfl⟩ := List.getElem?_eq_some_iff.1 hg
    rw [List.pairwise_iff_getElem.1 G.asc (k - 1) k hk' hk (by omega)] at h
    cases h

/- where a name stands -/
structure There (fs A : List DF) (f : DF) (B : List DF) (name : List UInt8) : Prop where
  eq : fs = A ++ f :: B
  nm : f.n = name
  lo : ∀ a ∈ A, bl a.n name = true
  hi : ∀ b ∈ B, bl name b.n = true
structure Gap (fs A B : List DF) (name : List UInt8) : Prop where
  eq : fs = A ++ B
  lo : ∀ a ∈ A, bl a.n name = true
  hi : ∀ b ∈ B, bl name b.n = true
theorem where_is (name : List UInt8) : ∀ fs : List DF, Asc fs → (∃ A f B, There fs A f B name) ∨ ∃ A B, Gap fs A B name
  | [], _ => .inr ⟨[], [], rfl, by simp, by simp⟩
  | x :: r, h => by
    obtain ⟨hx, hr⟩ := List.pairwise_cons.1 h
    cases h1 : bl x.n name with
    | true =>
      rcases where_is name r hr with ⟨A, f, B, T⟩ | ⟨A, B, G⟩
      · exact .inl ⟨x :: A, f, B, by rw [T.eq]; rfl, T.nm, by simp [h1]; exact T.lo, T.hi⟩
      · exact .inr ⟨x :: A, B, by rw [G.eq]; rfl, by simp [h1]; exact G.lo, G.hi⟩
    | false =>
      cases h2 : bl name x.n with
      | true => exact .inr ⟨[], x :: r, rfl, by simp, by simp [h2]; exact fun b hb => bl_trans _ _ _ h2 (hx b hb)⟩
      | false =>
        have e := bl_total _ _ h1 h2
        exact .inl ⟨[], x, r, rfl, e, by simp, fun b hb => by rw [← e]; exact hx b hb⟩

theorem There.ok {fs A B : List DF} {f : DF} {name : List UInt8} (T : There fs A f B name) (g : GoodD fs) : fileOk f = true := g.ok f (by rw [T.eq]; simp)
theorem fileOk_len {f : DF} (h : fileOk f = true) : f.s.length + f.t.length ≤ 1048576 := by simp [fileOk] at h; exact h.2
theorem fileOk_named {f : DF} (h : fileOk f = true) : namedB f.n = true := by simp [fileOk] at h; exact h.1

end Go.Proofs.YtoacignhobchbaaGreatDoor

namespace Go.Proofs.YtoacignhobchbaaGreatDoor

structure Ev where
  k : Int
  p : List UInt8

end Go.Proofs.YtoacignhobchbaaGreatDoor

namespace Go.Proofs.YtoacignhobchbaaGreatDoor
open Go.RowKit

def zGood (z : Int) : Bool := decide (0 ≤ z) && decide (z < 4611686018427387904)
def zIn (n : Int) : Bool := decide (0 ≤ n) && decide (n < 2147483648)
def zEpoch (z : Int) : Int := if zGood z then z / 2147483648 else 0
def zMake (e c : Int) : Int := if zIn e && zIn c then e * 2147483648 + c else 0
def zMakeE (e c : Int) : Int := if zIn e && zIn c then 0 else 3
theorem zGood_iff {z : Int} : zGood z = true ↔ 0 ≤ z ∧ z < 4611686018427387904 := by simp [zGood]
theorem zIn_iff {z : Int} : zIn z = true ↔ 0 ≤ z ∧ z < 2147483648 := by simp [zIn]
theorem zIn_no {z : Int} (h : ¬ (0 ≤ z ∧ z < 2147483648)) : zIn z = false := by
  cases hg : zIn z with
  | false => rfl
  | true => exact absurd (zIn_iff.1 hg) h
theorem zEpoch_yes {z : Int} (h : zGood z = true) : zEpoch z = z / 2147483648 := by rw [zEpoch, if_pos h]
theorem zEpoch_no {z : Int} (h : zGood z = false) : zEpoch z = 0 := by rw [zEpoch, h]; rfl
theorem zMake_yes {e c : Int} (he : zIn e = true) (hc : zIn c = true) : zMake e c = e * 2147483648 + c ∧ zMakeE e c = 0 := by
  constructor <;> simp [zMake, zMakeE, he, hc]
theorem zMake_no {e c : Int} (h : zIn e = false ∨ zIn c = false) : zMake e c = 0 ∧ zMakeE e c = 3 := by
  rcases h with h | h <;> constructor <;> simp [zMake, zMakeE, h]
theorem wraps_i64 (n : Int) (h₀ : 0 ≤ n) (h₁ : n < 2 ^ 63) : IntKind.i64.wrap n = n := by rw [IntKind.wrap_i64]; omega
theorem or_join {e c : Int} (he : 0 ≤ e) (he1 : e < 2147483648) (hc : 0 ≤ c) (hc1 : c < 2147483648) : bits .or .i64 (e * 2147483648) c = e * 2147483648 + c :=
  bits_join .i64 63 (by decide) wraps_i64 31 (e * 2147483648) c (by omega) (by omega) (by omega) hc (by omega) (by omega)
theorem ret_int {a b : Int} (h : a = b) : Ending.returned (.int .i64 a) = .returned (.int .i64 b) := by rw [h]
theorem ret_int2 {a b i j : Int} (h : a = b) (h' : i = j) : Ending.returned (.tuple #[.int .i64 a, .int .i64 i]) = .returned (.tuple #[.int .i64 b, .int .i64 j]) := by rw [h, h']

end Go.Proofs.YtoacignhobchbaaGreatDoor

namespace Go.Proofs.YtoacignhobchbaaGreatDoor
open Go.RowKit

/-- the pieces of a text between slashes -/
def splitL : List UInt8 → List (List UInt8)
  | [] => [[]]
  | c :: l => if c = 47 then [] :: splitL l else match splitL l with
    | [] => [[c]]
    | p :: ps => (c :: p) :: ps

theorem splitL_ne (l : List UInt8) : splitL l ≠ [] := by
  cases l with
  | nil => simp [splitL]
  | cons c l =>
    simp only [splitL]
    split
    · simp
    · split <;> simp
theorem splitL_slash (l : List UInt8) : splitL (47 :: l) = [] :: splitL l := by simp [splitL]
theorem splitL_other {c : UInt8} (h : c ≠ 47) {l p : List UInt8} {ps : List (List UInt8)} (hl : splitL l = p :: ps) : splitL (c :: l) = (c :: p) :: ps := by
  simp [splitL, h, hl]

theorem splitL_none : ∀ l : List UInt8, Lib.indexByte l 47 = -1 → splitL l = [l]
  | [], _ => rfl
  | c :: l, h => by
    have h1 : (c == 47) = false := by
      cases hc : (c == 47) with
      | false => rfl
      | true => rw [Lib.indexByte, if_pos hc] at h; exact absurd h (by decide)
    have h2 : Lib.indexByte l 47 = -1 := by
      by_cases h3 : (Lib.indexByte l 47 == -1) = true
      · simpa using h3
      · rw [Lib.indexByte, if_neg (by simp [h1]), if_neg h3] at h
        have := Lib.indexByte_ge l 47
        omega
    exact splitL_other (by simpa using h1) (splitL_none l h2)
theorem splitL_some : ∀ (l : List UInt8) (i : Nat), Lib.indexByte l 47 = i → i < l.length ∧ splitL l = l.take i :: splitL (l.drop (i + 1))
  | [], i, h => by simp [Lib.indexByte] at h
  | c :: l, i, h => by
    by_cases hc : (c == 47) = true
    · rw [Lib.indexByte, if_pos hc] at h
      have hi : i = 0 := by omega
      subst hi
      have : c = 47 := by simpa using hc
      subst this
      exact ⟨by simp, by simp [splitL_slash]⟩
    · have hc' : c ≠ 47 := by simpa using hc
      by_cases h3 : (Lib.indexByte l 47 == -1) = true
      · rw [Lib.indexByte, if_neg hc, if_pos h3] at h; omega
      · rw [Lib.indexByte, if_neg hc, if_neg h3] at h
        have hge := Lib.indexByte_ge l 47
        have hne : Lib.indexByte l 47 ≠ -1 := by simpa using h3
        obtain ⟨j, rfl⟩ : ∃ j, i = j + 1 := ⟨i - 1, by omega⟩
        obtain ⟨h4, h5⟩ := splitL_some l j (by omega)
        exact ⟨by simp; omega, by rw [splitL_other hc' h5]; simp⟩
theorem indexByte_cases (l : List UInt8) : Lib.indexByte l 47 = -1 ∨ ∃ i : Nat, Lib.indexByte l 47 = i := by
  have := Lib.indexByte_ge l 47
  by_cases h : Lib.indexByte l 47 = -1
  · exact .inl h
  · exact .inr ⟨(Lib.indexByte l 47).toNat, by omega⟩

theorem splitL_length (l : List UInt8) : ∀ p ∈ splitL l, p.length ≤ l.length := by
  induction l with
  | nil => intro p hp; simp [splitL] at hp; simp [hp]
  | cons c l ih =>
    intro p hp
    by_cases hc : c = 47
    · subst hc
      rw [splitL_slash] at hp
      rcases List.mem_cons.1 hp with rfl | h
      · simp
      · have := ih p h; simp; omega
    · cases hl : splitL l with
      | nil => exact absurd hl (splitL_ne l)
      | cons q qs =>
        rw [splitL_other hc hl] at hp
        rcases List.mem_cons.1 hp with rfl | h
        · have := ih q (by rw [hl]; simp); simp; omega
        · have := ih p (by rw [hl]; simp [h]); simp; omega

/-- the steps of a text that begins with a slash: none of the root -/
def stepsL (l : List UInt8) : List (List UInt8) := if l = [47] then [] else splitL (Lib.trimPrefix l [47])
/-- a path: at most 200 bytes, a slash ahead, each step a name -/
def goodB (l : List UInt8) : Bool := decide (l.length ≤ 200) && Lib.hasPrefix l [47] && (stepsL l).all namedB

end Go.Proofs.YtoacignhobchbaaGreatDoor

namespace Go.Proofs.YtoacignhobchbaaGreatDoor
open Go.RowKit

def crc1 (c : Nat) : Nat := (c / 2) ^^^ (3988292384 * (c % 2))
def crcN : Nat → Nat → Nat
  | 0, c => c
  | n + 1, c => crc1 (crcN n c)
def crcB (c : Nat) (b : UInt8) : Nat := crcN 8 (c ^^^ b.toNat)
def crcL (l : List UInt8) : Nat := l.foldl crcB 4294967295
def sumN (l : List UInt8) : Nat := 4294967295 ^^^ crcL l

theorem two32 : (2 : Nat) ^ 32 = 4294967296 := by decide
theorem xor_lt32 {a b : Nat} (ha : a < 4294967296) (hb : b < 4294967296) : a ^^^ b < 4294967296 := by
  have h := Nat.xor_lt_two_pow (n := 32) (x := a) (y := b) (by rw [two32]; exact ha) (by rw [two32]; exact hb)
  rwa [two32] at h
theorem crc1_lt {c : Nat} (h : c < 4294967296) : crc1 c < 4294967296 := by
  unfold crc1
  refine xor_lt32 (by omega) ?_
  rcases Nat.mod_two_eq_zero_or_one c with e | e <;> rw [e] <;> decide
theorem crcN_lt {c : Nat} (h : c < 4294967296) : ∀ n, crcN n c < 4294967296
  | 0 => h
  | n + 1 => crc1_lt (crcN_lt h n)
theorem byte_lt32 (b : UInt8) : b.toNat < 4294967296 := by have := b.toNat_lt; omega
theorem crcB_lt {c : Nat} (h : c < 4294967296) (b : UInt8) : crcB c b < 4294967296 := crcN_lt (xor_lt32 h (byte_lt32 b)) 8
theorem foldl_lt (l : List UInt8) : ∀ c, c < 4294967296 → l.foldl crcB c < 4294967296 := by
  induction l with
  | nil => intro c h; exact h
  | cons b l ih => intro c h; exact ih _ (crcB_lt h b)
theorem crcL_lt (l : List UInt8) : crcL l < 4294967296 := foldl_lt l _ (by decide)
theorem sumN_lt (l : List UInt8) : sumN l < 4294967296 := xor_lt32 (by decide) (crcL_lt l)
theorem crcL_snoc (l : List UInt8) (b : UInt8) : crcL (l ++ [b]) = crcB (crcL l) b := by simp [crcL]

/- what the model's operations on 32 bits are, as plain ones -/
theorem wraps_u32 (n : Int) (h₀ : 0 ≤ n) (h₁ : n < 2 ^ 32) : IntKind.u32.wrap n = n := by rw [IntKind.wrap_u32]; omega
theorem bits_xor_nat (k : IntKind) (j : Nat) (hj : j ≤ k.bits) (hk : ∀ n : Int, 0 ≤ n → n < 2 ^ j → k.wrap n = n) (a b : Nat) (ha : a < 2 ^ j) (hb : b < 2 ^ j) : bits .xor k a b = ((a ^^^ b : Nat) : Int) := by
  have hp : 2 ^ j ≤ 2 ^ k.bits := Nat.pow_le_pow_right (by decide) hj
  have ha' : a % 2 ^ k.bits = a := Nat.mod_eq_of_lt (Nat.lt_of_lt_of_le ha hp)
  have hb' : b % 2 ^ k.bits = b := Nat.mod_eq_of_lt (Nat.lt_of_lt_of_le hb hp)
  simp only [bits, BitVec.ofInt_natCast, BitVec.toNat_xor, BitVec.toNat_ofNat, ha', hb']
  exact hk _ (Int.natCast_nonneg _) (by exact_mod_cast Nat.xor_lt_two_pow ha hb)
theorem xor_u32 {a b : Nat} (ha : a < 4294967296) (hb : b < 4294967296) : bits .xor .u32 a b = ((a ^^^ b : Nat) : Int) :=
  bits_xor_nat .u32 32 (by decide) wraps_u32 a b (by rw [two32]; exact ha) (by rw [two32]; exact hb)
theorem and1_u32 {a : Nat} (ha : a < 4294967296) : bits .and .u32 a 1 = ((a % 2 : Nat) : Int) := by
  have h := bits_mask .u32 32 (by decide) wraps_u32 1 (by decide) (a : Int) (by omega) (by omega)
  exact_mod_cast h
/- by single bits -/
end Go.Proofs.YtoacignhobchbaaGreatDoor

namespace Go.Proofs.YtoacignhobchbaaGreatDoor
open Go.RowKit

/- numbers as bytes, the highest first -/
def be : Nat → Nat → List UInt8
  | 0, _ => []
  | k + 1, n => be k (n / 256) ++ [UInt8.ofNat n]
def un (l : List UInt8) : Nat := l.foldl (fun a b => a * 256 + b.toNat) 0
theorem be_length : ∀ k n, (be k n).length = k
  | 0, _ => rfl
  | k + 1, n => by rw [be, List.length_append, be_length k]; rfl
/- transactions -/
structure WTxn where
  z : Int
  o : Int
  s : Int
  p : List UInt8
  d : List UInt8
  v : Int
  w : Int
def t0 : WTxn := ⟨0, 0, 0, [], [], 0, 0⟩
def cntB (n least : Int) : Bool := decide (least ≤ n) && decide (n ≤ 2147483647)
theorem cntB_iff {n k : Int} : cntB n k = true ↔ k ≤ n ∧ n ≤ 2147483647 := by simp [cntB]
def opB (o : Int) : Bool := decide (1 ≤ o) && decide (o ≤ 5)
theorem opB_iff {o : Int} : opB o = true ↔ 1 ≤ o ∧ o ≤ 5 := by simp [opB]
def numB (t : WTxn) : Bool := zGood t.z && cntB t.s 1 && cntB t.v 0 && cntB t.w 0
theorem numB_iff {t : WTxn} : numB t = true ↔ zGood t.z = true ∧ cntB t.s 1 = true ∧ cntB t.v 0 = true ∧ cntB t.w 0 = true := by simp [numB, and_assoc]
def fmB (t : WTxn) : Bool :=
  if t.o = 3 then goodB t.p && !(t.p == [47]) && t.v == 0
  else if t.o = 4 then goodB t.p && !(t.p == [47]) && t.d == [] && t.v == 0 && t.w == 0
  else if t.o = 5 then goodB t.p && t.w == 0
  else t.p == [] && t.d == [] && t.v == 0 && t.w == 0
def gdE (t : WTxn) : Int :=
  if opB t.o then (if numB t then (if t.d.length ≤ 256 then (if fmB t then 0 else 2) else 1) else 3) else 4
theorem gdE_kind {t : WTxn} (h : opB t.o = false) : gdE t = 4 := by simp [gdE, h]
theorem gdE_range {t : WTxn} (h : opB t.o = true) (h1 : numB t = false) : gdE t = 3 := by simp [gdE, h, h1]
theorem gdE_long {t : WTxn} (h : opB t.o = true) (h1 : numB t = true) (h2 : 256 < t.d.length) : gdE t = 1 := by
  simp [gdE, h, h1, show ¬ t.d.length ≤ 256 from by omega]
theorem gdE_form {t : WTxn} (h : opB t.o = true) (h1 : numB t = true) (h2 : t.d.length ≤ 256) (h3 : fmB t = false) : gdE t = 2 := by simp [gdE, h, h1, h2, h3]
theorem gdE_ok {t : WTxn} (h : opB t.o = true) (h1 : numB t = true) (h2 : t.d.length ≤ 256) (h3 : fmB t = true) : gdE t = 0 := by simp [gdE, h, h1, h2, h3]
theorem gdE_zero {t : WTxn} (h : gdE t = 0) : opB t.o = true ∧ numB t = true ∧ t.d.length ≤ 256 ∧ fmB t = true := by
  unfold gdE at h
  split at h
  · split at h
    · split at h
      · split at h
        · exact ⟨‹_›, ‹_›, ‹_›, ‹_›⟩
        · exact absurd h (by decide)
      · exact absurd h (by decide)
    · exact absurd h (by decide)
  · exact absurd h (by decide)
theorem path_le {p : List UInt8} (h : goodB p = true) : p.length ≤ 200 := by
  unfold goodB at h
  simp only [Bool.and_eq_true, decide_eq_true_eq] at h
  exact h.1.1
theorem fmB_le {t : WTxn} (h : fmB t = true) : t.p.length ≤ 200 := by
  unfold fmB at h
  split at h
  · simp only [Bool.and_eq_true] at h; exact path_le h.1.1
  · split at h
    · simp only [Bool.and_eq_true] at h; exact path_le h.1.1.1.1
    · split at h
      · simp only [Bool.and_eq_true] at h; exact path_le h.1
      · simp only [Bool.and_eq_true, beq_iff_eq] at h; rw [h.1.1.1]; decide
/-- what the numbers and lengths of a good one are -/
theorem gd_bounds {t : WTxn} (h : gdE t = 0) : (0 ≤ t.z ∧ t.z < 4611686018427387904) ∧ (1 ≤ t.o ∧ t.o ≤ 5) ∧ (1 ≤ t.s ∧ t.s ≤ 2147483647) ∧ (0 ≤ t.v ∧ t.v ≤ 2147483647) ∧ (0 ≤ t.w ∧ t.w ≤ 2147483647) ∧ t.p.length ≤ 200 ∧ t.d.length ≤ 256 := by
  obtain ⟨h1, h2, h3, h4⟩ := gdE_zero h
  obtain ⟨a, b, c, d⟩ := numB_iff.1 h2
  exact ⟨zGood_iff.1 a, opB_iff.1 h1, cntB_iff.1 b, cntB_iff.1 c, cntB_iff.1 d, fmB_le h4, h3⟩

/- records -/
def bodyL (t : WTxn) : List UInt8 :=
  be 8 t.z.toNat ++ (be 1 t.o.toNat ++ (be 4 t.s.toNat ++ (be 4 t.v.toNat ++ (be 4 t.w.toNat ++ (be 1 t.p.length ++ (t.p ++ (be 2 t.d.length ++ t.d)))))))
def frontL (b : List UInt8) : List UInt8 := 84 :: (be 2 b.length ++ b)
def recL (t : WTxn) : List UInt8 := frontL (bodyL t) ++ be 4 (sumN (frontL (bodyL t)))
theorem bodyL_length (t : WTxn) : (bodyL t).length = 24 + t.p.length + t.d.length := by
  simp only [bodyL, List.length_append, be_length]; omega
theorem frontL_length (b : List UInt8) : (frontL b).length = b.length + 3 := by
  simp only [frontL, List.length_cons, List.length_append, be_length]; omega
theorem recL_length (t : WTxn) : (recL t).length = 31 + t.p.length + t.d.length := by
  simp only [recL, List.length_append, be_length, frontL_length, bodyL_length]; omega

/- what bytes tell -/
def plOf (b : List UInt8) : Nat := un ((b.drop 21).take 1)
def dlOf (b : List UInt8) : Nat := un ((b.drop (22 + plOf b)).take 2)
def tOf (b : List UInt8) : WTxn :=
  ⟨wrap64 (un (b.take 8)), un ((b.drop 8).take 1), un ((b.drop 9).take 4), (b.drop 22).take (plOf b), b.drop (24 + plOf b), un ((b.drop 13).take 4), un ((b.drop 17).take 4)⟩
/-- do the body's lengths fit it? -/
def fitB (b : List UInt8) : Bool := decide (24 + plOf b ≤ b.length) && decide (b.length = 24 + plOf b + dlOf b)
def unfE (b : List UInt8) : Int := if fitB b then gdE (tOf b) else 2
def lenOf (s : List UInt8) : Nat := un ((s.drop 1).take 2)
/-- is there a T, a length, as many bytes and four more? -/
def wholeB (s : List UInt8) : Bool := s.take 1 == [84] && decide (lenOf s ≤ 1024) && decide (lenOf s + 7 ≤ s.length)
def sumB (s : List UInt8) : Bool := un ((s.drop (lenOf s + 3)).take 4) == sumN (s.take (lenOf s + 3))
def insideL (s : List UInt8) : List UInt8 := (s.drop 3).take (lenOf s)
def decE (s : List UInt8) : Int := if wholeB s then (if sumB s then unfE (insideL s) else 5) else 2
def decT (s : List UInt8) : WTxn := if decE s = 0 then tOf (insideL s) else t0
/- together: what a record tells -/
theorem gd_body_le {t : WTxn} (h : gdE t = 0) : (bodyL t).length ≤ 1024 := by
  obtain ⟨_, _, _, _, _, hp, hd⟩ := gd_bounds h
  rw [bodyL_length]; omega
end Go.Proofs.YtoacignhobchbaaGreatDoor
