/-
  What path.Split answers, for every text: the last slash, and the walk.
-/
import Derived.Test.YtbhkhchkjckdjaaDoorLies
import Derived.Lib.LastIndexByte
import Derived.Lib.QuietBelow
namespace Go.Proofs.YtbhkhchkjckdjaaDoor
open Go.RowKit Go.Shelf

theorem splitL_tail : ∀ (a b : List UInt8), 47 ∉ b → splitL (a ++ 47 :: b) = splitL a ++ [b]
  | [], b, hb => by
    have h : ∀ l : List UInt8, 47 ∉ l → splitL l = [l] := by
      intro l
      induction l with
      | nil => intro _; rfl
      | cons c l ih => intro h; exact splitL_other (by rintro rfl; simp at h) (ih (by simp at h; exact h.2))
    simp [splitL_slash, h b hb, splitL]
  | c :: a, b, hb => by
    have ih := splitL_tail a b hb
    by_cases hc : c = 47
    · subst hc
      rw [List.cons_append, splitL_slash, splitL_slash, ih]; rfl
    · cases hl : splitL a with
      | nil => exact absurd hl (splitL_ne a)
      | cons p ps =>
        rw [hl] at ih
        rw [List.cons_append, splitL_other hc ih, splitL_other hc hl]; rfl
theorem splitL_no : ∀ l : List UInt8, 47 ∉ l → splitL l = [l]
  | [], _ => rfl
  | c :: l, h => splitL_other (by rintro rfl; simp at h) (splitL_no l (by simp at h; exact h.2))
theorem last_slash : ∀ l : List UInt8, 47 ∈ l → ∃ a b, l = a ++ 47 :: b ∧ 47 ∉ b
  | [], h => by simp at h
  | c :: l, h => by
    by_cases hl : 47 ∈ l
    · obtain ⟨a, b, e, hb⟩ := last_slash l hl
      exact ⟨c :: a, b, by rw [e]; rfl, hb⟩
    · have hc : c = 47 := by
        rcases List.mem_cons.1 h with e | e
        · exact e.symm
        · exact absurd e hl
      exact ⟨[], l, by rw [hc]; rfl, hl⟩
theorem lastIndex_eq (a b : List UInt8) (hb : 47 ∉ b) : Lib.lastIndexByte ⟨(a ++ 47 :: b).toArray⟩ 47 = a.length := by
  have hat : ∀ j, j < (a ++ 47 :: b).length → ((ByteArray.mk (a ++ 47 :: b).toArray).data[j]!) = (a ++ 47 :: b)[j]! := fun j hj => by simp
  rcases Lib.lastIndexByte_spec ⟨(a ++ 47 :: b).toArray⟩ 47 with ⟨_, h⟩ | ⟨i, hi, e, hc, hn⟩
  · exact absurd (by simp) (h a.length (by show a.length < (a ++ 47 :: b).toArray.size; simp))
  · rw [e]
    have hi' : i < (a ++ 47 :: b).length := by
      have : i < (a ++ 47 :: b).toArray.size := hi
      simpa using this
    have h1 : a.length ≤ i := by
      apply Nat.le_of_not_lt
      intro hlt
      exact hn a.length hlt (by show a.length < (a ++ 47 :: b).toArray.size; simp) (by simp)
    by_cases h2 : i = a.length
    · rw [h2]
    · exfalso
      apply hb
      have hlt : i - a.length - 1 < b.length := by simp at hi'; omega
      have hb' : (a ++ 47 :: b)[i]! = b[i - a.length - 1]! := by
        rw [List.getElem!_eq_getElem?_getD, List.getElem!_eq_getElem?_getD, List.getElem?_append_right h1]
        obtain ⟨k, hk⟩ : ∃ k, i - a.length = k + 1 := ⟨i - a.length - 1, by omega⟩
        rw [hk]; simp
      rw [hat i hi', hb'] at hc
      have hm : b[i - a.length - 1]! ∈ b := by
        rw [List.getElem!_eq_getElem?_getD, List.getElem?_eq_getElem hlt]; simp
      have : b[i - a.length - 1]! = 47 := by
        apply UInt8.toNat_inj.1
        show _ = 47
        omega
      rwa [this] at hm

theorem goodB_cons (r : List UInt8) (hr : r ≠ []) : goodB (47 :: r) = (decide (r.length + 1 ≤ 200) && (splitL r).all namedB) := by
  have h1 : Lib.hasPrefix (47 :: r) [47] = true := by simp [Lib.hasPrefix, List.isPrefixOf]
  have h2 : stepsL (47 :: r) = splitL r := by
    rw [stepsL, if_neg (by simp [hr]), Lib.trimPrefix, if_pos h1]; rfl
  simp only [goodB, h1, h2, Bool.and_true, List.length_cons]
theorem goodB_root : goodB [47] = true := by decide +kernel
theorem not_named_nil : namedB [] = false := by decide +kernel
theorem named_no_slash {b : List UInt8} (h : namedB b = true) : 47 ∉ b := by
  intro hm
  simp only [namedB, Bool.and_eq_true, List.all_eq_true] at h
  have := h.2 47 hm
  revert this; decide

set_option maxHeartbeats 400000 in
theorem clone_any (s : ByteArray) (w : World) (hs : s.size ≤ 281474976710656) :
    Calls Tryd.prog 29 #[.string s] w fun e w' => e = .returned (.string s) ∧ Below w.heap.size w w' := by
  go_enter Tryd.func29, Tryd.ntmps29
  go_wp2_with fail
  refine (Tryd.stringslite_Clone s _ hs).mono ?_
  rintro e w1 ⟨rfl, hb1⟩
  go_wp2_with fail
  go_ret
  exact ⟨rfl, hb1⟩

theorem cut_first (a b : List UInt8) : (ByteArray.mk (a ++ 47 :: b).toArray).extract 0 a.length = ⟨a.toArray⟩ := by
  rw [cut_front]; simp
theorem cut_last (a b : List UInt8) : (ByteArray.mk (a ++ 47 :: b).toArray).extract (a.length + 1) (a.length + b.length + 1) = ⟨b.toArray⟩ := by
  have := cut_back (a ++ 47 :: b) (a.length + 1)
  rw [show (a ++ 47 :: b).length = a.length + b.length + 1 from by simp; omega] at this
  rw [this]
  have e : (a ++ 47 :: b).drop (a.length + 1) = b := by rw [← List.drop_drop]; simp
  rw [e]

/-- a path's parent, out of what stands ahead of its last slash -/
def dirL (a : List UInt8) : List UInt8 := if a = [] then [47] else a
theorem dirL_nil : dirL [] = [47] := by rw [dirL, if_pos rfl]
theorem dirL_other {a : List UInt8} (h : a ≠ []) : dirL a = a := by rw [dirL, if_neg h]
theorem ret_three {a b c d : ByteArray} {i j : Int} (h : a = b) (h1 : c = d) (h' : i = j) : Ending.returned (.tuple #[.string a, .string c, .int .i64 i]) = .returned (.tuple #[.string b, .string d, .int .i64 j]) := by rw [h, h1, h']

set_option maxHeartbeats 1000000 in
theorem split_main (a b : List UInt8) (w : World) (hb : 47 ∉ b) (hg : goodB (a ++ 47 :: b) = true) (hne : a ++ 47 :: b ≠ [47]) :
    Calls Tryd.prog 13 #[.string ⟨(a ++ 47 :: b).toArray⟩] w fun e w' =>
      e = .returned (.tuple #[.string ⟨(dirL a).toArray⟩, .string ⟨b.toArray⟩, .int .i64 0]) ∧ Below w.heap.size w w' := by
  have hl : a.length + b.length + 1 ≤ 200 := by have := goodB_le hg; simp at this; omega
  have hne1 : (a ++ 47 :: b == [47]) = false := by simpa using hne
  have Hg := hide hg
  have Hi := hide (lastIndex_eq a b hb)
  clear hg hne hb
  have hz : (ByteArray.mk (a ++ 47 :: b).toArray).size = a.length + b.length + 1 := by rw [Lib.size_eq]; show (a ++ 47 :: b).length = _; simp; omega
  have Hc1 := hide (cut_first a b)
  have Hc2 := hide (cut_last a b)
  generalize a ++ 47 :: b = l at *
  go_enter Tryd.func13, Tryd.ntmps13
  go_wp2_with fail
  refine (good_any _ _).mono ?_
  rintro e w1 ⟨rfl, hb1⟩
  rw [show (ByteArray.mk l.toArray).data.toList = l from rfl, unhide Hg]
  go_wp2_with fail
  refine (Tryd.strings_LastIndexByte _ _ (by omega) _).mono ?_
  rintro e w2 ⟨rfl, rfl⟩
  rw [unhide Hi]
  go_wp2_with fail
  have cA : ∀ d os, Calls Tryd.prog 29 #[.string ((ByteArray.mk l.toArray).extract 0 a.length)] (Sort.grow (redrawn w2 d) os) fun e w'' => e = .returned (.string ⟨a.toArray⟩) ∧ ∃ p : Regrown, w'' = Sort.grow (redrawn w2 p.d) p.os :=
    fun d os => Calls.regrown_of (by rw [unhide Hc1]; exact clone_any _ _ (by rw [Lib.size_eq]; show a.length ≤ _; omega))
  have cB : ∀ d os, Calls Tryd.prog 29 #[.string ((ByteArray.mk l.toArray).extract (a.length + 1) (a.length + b.length + 1))] (Sort.grow (redrawn w2 d) os) fun e w'' => e = .returned (.string ⟨b.toArray⟩) ∧ ∃ p : Regrown, w'' = Sort.grow (redrawn w2 p.d) p.os :=
    fun d os => Calls.regrown_of (by rw [unhide Hc2]; exact clone_any _ _ (by rw [Lib.size_eq]; show b.length ≤ _; omega))
  have n1 : (a.length : Int) ≤ a.length + b.length + 1 := by omega
  have n2 : (a.length : Int) ≤ a.length + b.length := by omega
  have n3 : IntKind.i64.wrap ((a.length : Int) + 1) = (a.length : Int) + 1 := by rw [IntKind.wrap_i64]; omega
  have n4 : (0 : Int) ≤ (a.length : Int) + 1 := by omega
  refine wp_region_quiet_below (by kernel_rfl) (by kernel_rfl) ?_
  repeat (quiet_step (first | exact cA _ _ | exact cB _ _))
  refine wpQuiet_nil ?_
  intro _ hw'
  obtain ⟨⟨dq, osq⟩, hw''⟩ := hw'
  subst hw''
  clear cA cB
  have hb2 : Below w.heap.size w (Sort.grow (redrawn w2 dq) osq) := below_next hb1 (below_regrown w2 dq osq)
  cases he : a.isEmpty
  · go_wp2
    go_ret3
    exact ⟨ret_three (by rw [dirL_other (by rintro rfl; simp at he)]) rfl rfl, hb2⟩
  · obtain rfl : a = [] := by simpa using he
    go_wp2
    go_ret3
    exact ⟨ret_three (by rw [dirL_nil]) rfl rfl, hb2⟩

set_option maxHeartbeats 400000 in
theorem split_bad (l : List UInt8) (w : World) (hg : goodB l = false) :
    Calls Tryd.prog 13 #[.string ⟨l.toArray⟩] w fun e w' => e = .returned (.tuple #[.string ⟨#[]⟩, .string ⟨#[]⟩, .int .i64 2]) ∧ Below w.heap.size w w' := by
  have Hg := hide hg
  clear hg
  go_enter Tryd.func13, Tryd.ntmps13
  go_wp2_with fail
  refine (good_any _ _).mono ?_
  rintro e w1 ⟨rfl, hb1⟩
  rw [show (ByteArray.mk l.toArray).data.toList = l from rfl, unhide Hg]
  go_wp2_with fail
  go_ret3
  exact ⟨rfl, hb1⟩

set_option maxHeartbeats 400000 in
theorem split_root (w : World) :
    Calls Tryd.prog 13 #[.string ⟨#[47]⟩] w fun e w' => e = .returned (.tuple #[.string ⟨#[]⟩, .string ⟨#[]⟩, .int .i64 7]) ∧ Below w.heap.size w w' := by
  go_enter Tryd.func13, Tryd.ntmps13
  go_wp2_with fail
  refine (good_any _ _).mono ?_
  rintro e w1 ⟨rfl, hb1⟩
  rw [show (ByteArray.mk #[47]).data.toList = [47] from rfl, goodB_root]
  go_wp2_with fail
  go_ret3
  exact ⟨rfl, hb1⟩

end Go.Proofs.YtbhkhchkjckdjaaDoor
