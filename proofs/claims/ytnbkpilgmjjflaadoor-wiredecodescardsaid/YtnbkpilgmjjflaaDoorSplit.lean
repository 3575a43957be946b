/-
  The pieces of a text between slashes, and what path.Good says of them; no program is named here.
-/
import Derived.Test.YtnbkpilgmjjflaaDoorPlain
import Derived.Lib.IndexLaws
import Derived.Lib.Strings
namespace Go.Proofs.YtnbkpilgmjjflaaDoor
open Go.RowKit

/-- the pieces of a text between slashes -/
def splitL : List UInt8 → List (List UInt8)
  | [] => [[]]
  | c :: l => if c = 47 then [] :: splitL l else match splitL l with
    | [] => [[c]]
    | p :: ps => (c :: p) :: ps

theorem splitL_ne (l : List UInt8) : splitL l ≠ [] := by
  cases l with
  | nil => simp [splitL]
  | cons c l =>
    simp only [splitL]
    split
    · simp
    · split <;> simp
theorem splitL_slash (l : List UInt8) : splitL (47 :: l) = [] :: splitL l := by simp [splitL]
theorem splitL_other {c : UInt8} (h : c ≠ 47) {l p : List UInt8} {ps : List (List UInt8)} (hl : splitL l = p :: ps) : splitL (c :: l) = (c :: p) :: ps := by
  simp [splitL, h, hl]

theorem splitL_none : ∀ l : List UInt8, Lib.indexByte l 47 = -1 → splitL l = [l]
  | [], _ => rfl
  | c :: l, h => by
    have h1 : (c == 47) = false := by
      cases hc : (c == 47) with
      | false => rfl
      | true => rw [Lib.indexByte, if_pos hc] at h; exact absurd h (by decide)
    have h2 : Lib.indexByte l 47 = -1 := by
      by_cases h3 : (Lib.indexByte l 47 == -1) = true
      · simpa using h3
      · rw [Lib.indexByte, if_neg (by simp [h1]), if_neg h3] at h
        have := Lib.indexByte_ge l 47
        omega
    exact splitL_other (by simpa using h1) (splitL_none l h2)
theorem splitL_some : ∀ (l : List UInt8) (i : Nat), Lib.indexByte l 47 = i → i < l.length ∧ splitL l = l.take i :: splitL (l.drop (i + 1))
  | [], i, h => by simp [Lib.indexByte] at h
  | c :: l, i, h => by
    by_cases hc : (c == 47) = true
    · rw [Lib.indexByte, if_pos hc] at h
      have hi : i = 0 := by omega
      subst hi
      have : c = 47 := by simpa using hc
      subst this
      exact ⟨by simp, by simp [splitL_slash]⟩
    · have hc' : c ≠ 47 := by simpa using hc
      by_cases h3 : (Lib.indexByte l 47 == -1) = true
      · rw [Lib.indexByte, if_neg hc, if_pos h3] at h; omega
      · rw [Lib.indexByte, if_neg hc, if_neg h3] at h
        have hge := Lib.indexByte_ge l 47
        have hne : Lib.indexByte l 47 ≠ -1 := by simpa using h3
        obtain ⟨j, rfl⟩ : ∃ j, i = j + 1 := ⟨i - 1, by omega⟩
        obtain ⟨h4, h5⟩ := splitL_some l j (by omega)
        exact ⟨by simp; omega, by rw [splitL_other hc' h5]; simp⟩
theorem indexByte_cases (l : List UInt8) : Lib.indexByte l 47 = -1 ∨ ∃ i : Nat, Lib.indexByte l 47 = i := by
  have := Lib.indexByte_ge l 47
  by_cases h : Lib.indexByte l 47 = -1
  · exact .inl h
  · exact .inr ⟨(Lib.indexByte l 47).toNat, by omega⟩

theorem splitL_length (l : List UInt8) : ∀ p ∈ splitL l, p.length ≤ l.length := by
  induction l with
  | nil => intro p hp; simp [splitL] at hp; simp [hp]
  | cons c l ih =>
    intro p hp
    by_cases hc : c = 47
    · subst hc
      rw [splitL_slash] at hp
      rcases List.mem_cons.1 hp with rfl | h
      · simp
      · have := ih p h; simp; omega
    · cases hl : splitL l with
      | nil => exact absurd hl (splitL_ne l)
      | cons q qs =>
        rw [splitL_other hc hl] at hp
        rcases List.mem_cons.1 hp with rfl | h
        · have := ih q (by rw [hl]; simp); simp; omega
        · have := ih p (by rw [hl]; simp [h]); simp; omega

/-- the steps of a text that begins with a slash: none of the root -/
def stepsL (l : List UInt8) : List (List UInt8) := if l = [47] then [] else splitL (Lib.trimPrefix l [47])
/-- a path: at most 200 bytes, a slash ahead, each step a name -/
def goodB (l : List UInt8) : Bool := decide (l.length ≤ 200) && Lib.hasPrefix l [47] && (stepsL l).all namedB

end Go.Proofs.YtnbkpilgmjjflaaDoor
