/-
  Plain functions on lists of bytes that the contracts of package path speak of, and what holds of them; no program is named here.
-/
import Derived.WalkKit
namespace Go.Proofs.Ytbadhnmljlmefaa
open Go.RowKit

theorem hide {p : Prop} (h : p) : Hid p := h
theorem unhide {p : Prop} (h : Hid p) : p := h

/-- a byte that may stand in a step: a to z, 0 to 9, minus or underscore -/
def letterB (c : UInt8) : Bool := (decide (97 ≤ c.toNat) && decide (c.toNat ≤ 122)) || (decide (48 ≤ c.toNat) && decide (c.toNat ≤ 57)) || c.toNat == 45 || c.toNat == 95
/-- a step: 1 to 40 such bytes -/
def namedB (l : List UInt8) : Bool := decide (1 ≤ l.length) && decide (l.length ≤ 40) && l.all letterB

theorem take_snoc (s : ByteArray) (k : Nat) (h : k < s.size) : s.data.toList.take (k + 1) = s.data.toList.take k ++ [s[k]] := by
  rw [List.take_succ_eq_append_getElem (by simpa using h)]; rfl
theorem all_take_succ (s : ByteArray) (k : Nat) (h : k < s.size) (p : UInt8 → Bool) (h1 : (s.data.toList.take k).all p = true) (h2 : p s[k] = true) : (s.data.toList.take (k + 1)).all p = true := by
  rw [take_snoc s k h, List.all_append, h1]; simpa using h2
theorem all_of_size (s : ByteArray) (k : Nat) (h : s.size ≤ k) (p : UInt8 → Bool) (h1 : (s.data.toList.take k).all p = true) : s.data.toList.all p = true := by
  rwa [List.take_of_length_le (by simpa using h)] at h1
theorem not_all_of (s : ByteArray) (k : Nat) (h : k < s.size) (p : UInt8 → Bool) (h2 : p s[k] = false) : s.data.toList.all p = false := by
  rw [List.all_eq_false]
  exact ⟨s[k], by have : s[k] ∈ s.data := Array.getElem_mem h; simpa using this, by simp [h2]⟩
theorem size_list (s : ByteArray) : s.data.toList.length = s.size := by simp

theorem namedB_short (s : ByteArray) (h : s.size < 1) : namedB s.data.toList = false := by
  simp only [namedB, size_list, show ¬ 1 ≤ s.size from by omega, decide_false, Bool.false_and]
theorem namedB_long (s : ByteArray) (h : 40 < s.size) : namedB s.data.toList = false := by
  simp only [namedB, size_list, show ¬ s.size ≤ 40 from by omega, decide_false, Bool.and_false, Bool.false_and]
theorem namedB_mid (s : ByteArray) (h : 1 ≤ s.size) (h' : s.size ≤ 40) : namedB s.data.toList = s.data.toList.all letterB := by
  simp only [namedB, size_list, h, h', decide_true, Bool.true_and]

end Go.Proofs.Ytbadhnmljlmefaa
