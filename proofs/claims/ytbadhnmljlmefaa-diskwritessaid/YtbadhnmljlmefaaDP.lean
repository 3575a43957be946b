/-
  A disk as a plain list of files: when it is one, where a name stands on it, what the order of names is. No program is named here.
-/
import Derived.Test.YtbadhnmljlmefaaPlain
import Derived.Laws.Cover1
import Derived.Lib.Bytealg
namespace Go.Proofs.Ytbadhnmljlmefaa
open Go.RowKit

/- the order of texts -/
abbrev bl (a b : List UInt8) : Bool := Op.bytesLess a b
theorem bl_irrefl : ∀ a, bl a a = false
  | [] => rfl
  | x :: a => by
    have h : ¬ x < x := UInt8.lt_irrefl x
    have := bl_irrefl a
    simp only [bl] at this
    simp [bl, Op.bytesLess, h, this]
theorem bl_trans : ∀ a b c, bl a b = true → bl b c = true → bl a c = true
  | [], _, [], _, h => by cases ‹List UInt8› <;> simp [bl, Op.bytesLess] at h
  | [], _, _ :: _, _, _ => by simp [bl, Op.bytesLess]
  | _ :: _, [], _, h, _ => by simp [bl, Op.bytesLess] at h
  | _ :: _, _ :: _, [], _, h => by simp [bl, Op.bytesLess] at h
  | x :: a, y :: b, z :: c, h1, h2 => by
    have ih := bl_trans a b c
    simp only [bl, Op.bytesLess, Bool.or_eq_true, Bool.and_eq_true, decide_eq_true_eq, beq_iff_eq] at h1 h2 ih ⊢
    rcases h1 with h1 | ⟨h1, h1'⟩ <;> rcases h2 with h2 | ⟨h2, h2'⟩
    · exact .inl (UInt8.lt_trans h1 h2)
    · subst h2; exact .inl h1
    · subst h1; exact .inl h2
    · subst h1 h2; exact .inr ⟨rfl, ih h1' h2'⟩
theorem bl_total : ∀ a b, bl a b = false → bl b a = false → a = b
  | [], [], _, _ => rfl
  | [], _ :: _, h, _ => by simp [bl, Op.bytesLess] at h
  | _ :: _, [], _, h => by simp [bl, Op.bytesLess] at h
  | x :: a, y :: b, h1, h2 => by
    have ih := bl_total a b
    simp only [bl, Op.bytesLess, Bool.or_eq_false_iff, Bool.and_eq_false_iff, decide_eq_false_iff_not, beq_eq_false_iff_ne] at h1 h2 ih
    have e : x = y := UInt8.le_antisymm (UInt8.not_lt.1 h2.1) (UInt8.not_lt.1 h1.1)
    subst e
    rw [ih (by rcases h1.2 with h | h; · exact absurd rfl h
               · exact h) (by rcases h2.2 with h | h; · exact absurd rfl h
                              · exact h)]
theorem bl_asymm {a b : List UInt8} (h : bl a b = true) : bl b a = false := by
  cases h' : bl b a with
  | false => rfl
  | true => have := bl_trans a b a h h'; rw [bl_irrefl] at this; cases this
theorem bl_ne {a b : List UInt8} (h : bl a b = true) : a ≠ b := by rintro rfl; rw [bl_irrefl] at h; cases h

theorem cmp_bl : ∀ a b, decide (Lib.compareBytes a b < 0) = bl a b
  | [], [] => by simp [bl, Op.bytesLess, Lib.compareBytes]
  | [], _ :: _ => by simp [bl, Op.bytesLess, Lib.compareBytes]
  | _ :: _, [] => by simp [bl, Op.bytesLess, Lib.compareBytes]
  | x :: a, y :: b => by
    have ih := cmp_bl a b
    simp only [bl] at ih
    simp only [bl, Op.bytesLess, Lib.compareBytes]
    by_cases h1 : x < y
    · simp [h1]
    · by_cases h2 : y < x
      · have : x ≠ y := by rintro rfl; exact h1 h2
        simp [h1, h2, this]
      · have : x = y := UInt8.le_antisymm (UInt8.not_lt.1 h2) (UInt8.not_lt.1 h1)
        subst this
        simp [h1, ← ih]
theorem cmp_zero : ∀ a b, decide (Lib.compareBytes a b = 0) = decide (a = b)
  | [], [] => by simp [Lib.compareBytes]
  | [], _ :: _ => by simp [Lib.compareBytes]
  | _ :: _, [] => by simp [Lib.compareBytes]
  | x :: a, y :: b => by
    have ih := cmp_zero a b
    simp only [Lib.compareBytes]
    by_cases h1 : x < y
    · have : x ≠ y := by rintro rfl; exact UInt8.lt_irrefl x h1
      simp [h1, this]
    · by_cases h2 : y < x
      · have : x ≠ y := by rintro rfl; exact h1 h2
        simp [h1, h2, this]
      · have : x = y := UInt8.le_antisymm (UInt8.not_lt.1 h2) (UInt8.not_lt.1 h1)
        subst this
        simp [h1, ih]

/- files -/
structure DF where
  n : List UInt8
  s : List UInt8
  t : List UInt8
instance : Inhabited DF := ⟨⟨[], [], []⟩⟩

def fileOk (f : DF) : Bool := namedB f.n && decide (f.s.length + f.t.length ≤ 1048576)
def Asc (fs : List DF) : Prop := fs.Pairwise fun a b => bl a.n b.n = true
structure GoodD (fs : List DF) : Prop where
  few : fs.length ≤ 16
  ok : ∀ f ∈ fs, fileOk f = true
  asc : Asc fs
noncomputable def goodD (fs : List DF) : Bool := @decide (GoodD fs) (Classical.propDecidable _)
theorem goodD_true {fs : List DF} : goodD fs = true ↔ GoodD fs := by unfold goodD; exact @decide_eq_true_iff _ (Classical.propDecidable _)
theorem goodD_false {fs : List DF} : goodD fs = false ↔ ¬ GoodD fs := by unfold goodD; exact @decide_eq_false_iff_not _ (Classical.propDecidable _)

/- what is known of the first k files -/
def OkTo (fs : List DF) (k : Nat) : Prop := ∀ i, i < k → ∀ f, fs[i]? = some f → fileOk f = true ∧ ∀ g, 0 < i → fs[i - 1]? = some g → bl g.n f.n = true
theorem okTo_zero (fs : List DF) : OkTo fs 0 := fun _ h => absurd h (Nat.not_lt_zero _)
theorem okTo_succ {fs : List DF} {k : Nat} (h : OkTo fs k) {f : DF} (hf : fs[k]? = some f) (h1 : fileOk f = true) (h2 : ∀ g, 0 < k → fs[k - 1]? = some g → bl g.n f.n = true) : OkTo fs (k + 1) := by
  intro i hi f' hf'
  by_cases e : i = k
  · subst e
    rw [hf] at hf'
    cases hf'
    exact ⟨h1, h2⟩
  · exact h i (by omega) f' hf'
theorem asc_of_okTo {fs : List DF} (h : OkTo fs fs.length) : Asc fs := by
  have step : ∀ j i, (hij : i < j) → ∀ (hj : j < fs.length), bl (fs[i]'(Nat.lt_trans hij hj)).n fs[j].n = true := by
    intro j
    induction j with
    | zero => intro i hi; omega
    | succ j ih =>
      intro i hi hj
      have h1 := (h (j + 1) hj _ (List.getElem?_eq_getElem hj)).2 fs[j] (by omega) (by simp)
      by_cases e : i = j
      · subst e; exact h1
      · exact bl_trans _ _ _ (ih i (by omega) (by omega)) h1
  exact List.pairwise_iff_getElem.2 fun i j hi hj hij => step j i hij hj
theorem good_of_okTo {fs : List DF} (hl : fs.length ≤ 16) (h : OkTo fs fs.length) : goodD fs = true :=
  goodD_true.2 ⟨hl, fun f hf => by
    obtain ⟨i, hi, rfl⟩ := List.getElem_of_mem hf
    exact (h i hi _ (List.getElem?_eq_getElem hi)).1, asc_of_okTo h⟩
theorem bad_len {fs : List DF} (h : 16 < fs.length) : goodD fs = false := goodD_false.2 fun g => by have := g.few; omega
theorem bad_file {fs : List DF} {k : Nat} {f : DF} (hf : fs[k]? = some f) (h : fileOk f = false) : goodD fs = false :=
  goodD_false.2 fun g => by rw [g.ok f (List.mem_of_getElem? hf)] at h; cases h
theorem bad_order {fs : List DF} {k : Nat} {f g : DF} (hf : fs[k]? = some f) (hg : fs[k - 1]? = some g) (h0 : 0 < k) (h : bl g.n f.n = false) : goodD fs = false :=
  goodD_false.2 fun G => by
    obtain ⟨hk, rfl⟩ := List.getElem?_eq_some_iff.1 hf
    obtain ⟨hk', rfl⟩ := List.getElem?_eq_some_iff.1 hg
    rw [List.pairwise_iff_getElem.1 G.asc (k - 1) k hk' hk (by omega)] at h
    cases h

/- where a name stands -/
structure There (fs A : List DF) (f : DF) (B : List DF) (name : List UInt8) : Prop where
  eq : fs = A ++ f :: B
  nm : f.n = name
  lo : ∀ a ∈ A, bl a.n name = true
  hi : ∀ b ∈ B, bl name b.n = true
structure Gap (fs A B : List DF) (name : List UInt8) : Prop where
  eq : fs = A ++ B
  lo : ∀ a ∈ A, bl a.n name = true
  hi : ∀ b ∈ B, bl name b.n = true
theorem where_is (name : List UInt8) : ∀ fs : List DF, Asc fs → (∃ A f B, There fs A f B name) ∨ ∃ A B, Gap fs A B name
  | [], _ => .inr ⟨[], [], rfl, by simp, by simp⟩
  | x :: r, h => by
    obtain ⟨hx, hr⟩ := List.pairwise_cons.1 h
    cases h1 : bl x.n name with
    | true =>
      rcases where_is name r hr with ⟨A, f, B, T⟩ | ⟨A, B, G⟩
      · exact .inl ⟨x :: A, f, B, by rw [T.eq]; rfl, T.nm, by simp [h1]; exact T.lo, T.hi⟩
      · exact .inr ⟨x :: A, B, by rw [G.eq]; rfl, by simp [h1]; exact G.lo, G.hi⟩
    | false =>
      cases h2 : bl name x.n with
      | true => exact .inr ⟨[], x :: r, rfl, by simp, by simp [h2]; exact fun b hb => bl_trans _ _ _ h2 (hx b hb)⟩
      | false =>
        have e := bl_total _ _ h1 h2
        exact .inl ⟨[], x, r, rfl, e, by simp, fun b hb => by rw [← e]; exact hx b hb⟩

def fileAt (f : DF) : List UInt8 := f.s ++ f.t
theorem There.ok {fs A B : List DF} {f : DF} {name : List UInt8} (T : There fs A f B name) (g : GoodD fs) : fileOk f = true := g.ok f (by rw [T.eq]; simp)
theorem fileOk_len {f : DF} (h : fileOk f = true) : f.s.length + f.t.length ≤ 1048576 := by simp [fileOk] at h; exact h.2
theorem fileOk_named {f : DF} (h : fileOk f = true) : namedB f.n = true := by simp [fileOk] at h; exact h.1

end Go.Proofs.Ytbadhnmljlmefaa
