/-
  What is known of paths beside the walks: pieces, bounds, clones; shared by the texts of several packages.
-/
import Derived.Test.YtnbkpilgmjjflaaDoorGood
import Derived.Lib.QuietBelow
namespace Go.Proofs.YtnbkpilgmjjflaaDoor
open Go.RowKit Go.Shelf

theorem ret_str {a b : ByteArray} (h : a = b) : Ending.returned (.string a) = .returned (.string b) := by rw [h]
theorem cat_one (l m : List UInt8) : (ByteArray.mk l.toArray) ++ (ByteArray.mk m.toArray) = ⟨(l ++ m).toArray⟩ := by
  have h : ((ByteArray.mk l.toArray) ++ (ByteArray.mk m.toArray)).data.toList = l ++ m := by simp [ByteArray.data_append]
  exact congrArg (fun l : List UInt8 => ByteArray.mk l.toArray) h
theorem goodB_le {l : List UInt8} (h : goodB l = true) : l.length ≤ 200 := by
  simp only [goodB, Bool.and_eq_true, decide_eq_true_eq] at h
  exact h.1.1
theorem namedB_le {l : List UInt8} (h : namedB l = true) : 1 ≤ l.length ∧ l.length ≤ 40 := by
  simp only [namedB, Bool.and_eq_true, decide_eq_true_eq] at h
  exact ⟨h.1.1, h.1.2⟩

theorem ret_strE {a b : ByteArray} {i j : Int} (h : a = b) (h' : i = j) : Ending.returned (.tuple #[.string a, .int .i64 i]) = .returned (.tuple #[.string b, .int .i64 j]) := by rw [h, h']
theorem size_le_maxLen {m : List UInt8} (h : m.length ≤ 140737488355328) : (ByteArray.mk m.toArray).size ≤ maxLen := by
  unfold maxLen
  rw [Lib.size_eq]
  show m.length ≤ _
  omega

theorem below_next {a b c : World} (h : Below a.heap.size a b) (k : Below b.heap.size b c) : Below a.heap.size a c := h.trans (k.mono h.size)

theorem splitL_tail : ∀ (a b : List UInt8), 47 ∉ b → splitL (a ++ 47 :: b) = splitL a ++ [b]
  | [], b, hb => by
    have h : ∀ l : List UInt8, 47 ∉ l → splitL l = [l] := by
      intro l
      induction l with
      | nil => intro _; rfl
      | cons c l ih => intro h; exact splitL_other (by rintro rfl; simp at h) (ih (by simp at h; exact h.2))
    simp [splitL_slash, h b hb, splitL]
  | c :: a, b, hb => by
    have ih := splitL_tail a b hb
    by_cases hc : c = 47
    · subst hc
      rw [List.cons_append, splitL_slash, splitL_slash, ih]; rfl
    · cases hl : splitL a with
      | nil => exact absurd hl (splitL_ne a)
      | cons p ps =>
        rw [hl] at ih
        rw [List.cons_append, splitL_other hc ih, splitL_other hc hl]; rfl
theorem splitL_no : ∀ l : List UInt8, 47 ∉ l → splitL l = [l]
  | [], _ => rfl
  | c :: l, h => splitL_other (by rintro rfl; simp at h) (splitL_no l (by simp at h; exact h.2))
theorem last_slash : ∀ l : List UInt8, 47 ∈ l → ∃ a b, l = a ++ 47 :: b ∧ 47 ∉ b
  | [], h => by simp at h
  | c :: l, h => by
    by_cases hl : 47 ∈ l
    · obtain ⟨a, b, e, hb⟩ := last_slash l hl
      exact ⟨c :: a, b, by rw [e]; rfl, hb⟩
    · have hc : c = 47 := by
        rcases List.mem_cons.1 h with e | e
        · exact e.symm
        · exact absurd e hl
      exact ⟨[], l, by rw [hc]; rfl, hl⟩
theorem goodB_cons (r : List UInt8) (hr : r ≠ []) : goodB (47 :: r) = (decide (r.length + 1 ≤ 200) && (splitL r).all namedB) := by
  have h1 : Lib.hasPrefix (47 :: r) [47] = true := by simp [Lib.hasPrefix, List.isPrefixOf]
  have h2 : stepsL (47 :: r) = splitL r := by
    rw [stepsL, if_neg (by simp [hr]), Lib.trimPrefix, if_pos h1]; rfl
  simp only [goodB, h1, h2, Bool.and_true, List.length_cons]
theorem goodB_root : goodB [47] = true := by decide +kernel
theorem not_named_nil : namedB [] = false := by decide +kernel
theorem named_no_slash {b : List UInt8} (h : namedB b = true) : 47 ∉ b := by
  intro hm
  simp only [namedB, Bool.and_eq_true, List.all_eq_true] at h
  have := h.2 47 hm
  revert this; decide

set_option maxHeartbeats 400000 in
theorem clone_any (s : ByteArray) (w : World) (hs : s.size ≤ 281474976710656) :
    Calls Tryd.prog 35 #[.string s] w fun e w' => e = .returned (.string s) ∧ Below w.heap.size w w' := by
  go_enter Tryd.func35, Tryd.ntmps35
  go_wp2_with fail
  refine (Tryd.stringslite_Clone s _ hs).mono ?_
  rintro e w1 ⟨rfl, hb1⟩
  go_wp2_with fail
  go_ret
  exact ⟨rfl, hb1⟩

end Go.Proofs.YtnbkpilgmjjflaaDoor
