/-
  What aviaryref.Depth and aviaryref.Under answer, for all texts up to a bound: the walks.
-/
import Derived.Test.YtbhkhchkjckdjaaDoorRefSplit
namespace Go.Proofs.YtbhkhchkjckdjaaDoor
open Go.RowKit

theorem stepsL_root : stepsL [47] = [] := by rw [stepsL, if_pos rfl]
theorem ret_two {a b i j : Int} (h : a = b) (h' : i = j) : Ending.returned (.tuple #[.int .i64 a, .int .i64 i]) = .returned (.tuple #[.int .i64 b, .int .i64 j]) := by rw [h, h']

set_option maxHeartbeats 400000 in
theorem refDepth_bad (l : List UInt8) (w : World) (hl : l.length ≤ 1048576) (hg : goodB l = false) :
    Calls Tryd.prog 16 #[.string ⟨l.toArray⟩] w fun e w' => e = .returned (.tuple #[.int .i64 0, .int .i64 2]) ∧ Below w.heap.size w w' := by
  have Hg := hide hg
  clear hg
  go_enter Tryd.func16, Tryd.ntmps16
  go_wp2_with fail
  refine (refGood_any l _ hl).mono ?_
  rintro e w1 ⟨rfl, hb1⟩
  rw [unhide Hg]
  go_wp2_with fail
  go_ret2
  exact ⟨rfl, hb1⟩

set_option maxHeartbeats 1000000 in
theorem refDepth_good (l : List UInt8) (w : World) (hg : goodB l = true) :
    Calls Tryd.prog 16 #[.string ⟨l.toArray⟩] w fun e w' => e = .returned (.tuple #[.int .i64 (stepsL l).length, .int .i64 0]) ∧ Below w.heap.size w w' := by
  have hl := goodB_le hg
  have hcnt := stepsL_count l
  have Hg := hide hg
  clear hg
  go_enter Tryd.func16, Tryd.ntmps16
  go_wp2_with fail
  refine (refGood_any l _ (by omega)).mono ?_
  rintro e w1 ⟨rfl, hb1⟩
  rw [unhide Hg]
  go_wp2_with fail
  go_loopw [0, 4] (fun s t wr => ∃ (c : List UInt8) (k : Nat), goodB c = true ∧ s = .string ⟨c.toArray⟩ ∧ t = .int .i64 k ∧ k + (stepsL c).length = (stepsL l).length ∧ Below w.heap.size w wr) (fun _ t _ => (stepsL l).length - (intOf t).toNat)
  case atStart => exact ⟨l, 0, unhide Hg, rfl, rfl, by omega, hb1⟩
  case round =>
    clear hb1
    obtain ⟨c, k, hgc, rfl, rfl, hk, hBr⟩ := hrel
    by_cases hroot : c = [47]
    · subst hroot
      have Hk : Hid ((k : Int) = (stepsL l).length) := hide (by rw [stepsL_root] at hk; simp at hk; omega)
      clear hgc hk
      go_wp2_with fail
      go_ret2
      exact ⟨ret_two (unhide Hk) rfl, hBr⟩
    · have hr1 : (c == [47]) = false := by simpa using hroot
      obtain ⟨a, b, rfl, hb, hnb, hgd, hj, hst⟩ := good_parts hgc hroot
      have Hb := hide hb
      have Hgc := hide hgc
      have Hne := hide hroot
      have Hgd := hide hgd
      have hk2 : k + 1 + (stepsL (dirL a)).length = (stepsL l).length := by rw [hst] at hk; simp at hk; omega
      have Hk := hide hk2
      have hkb : k + 1 ≤ 201 := by omega
      clear hb hgc hroot hgd hnb hj hst hk hk2
      go_wp2_with fail
      refine (refSplit_main a b _ (unhide Hb) (unhide Hgc) (unhide Hne)).mono ?_
      rintro e w2 ⟨rfl, hb2⟩
      have hB2 : Below w.heap.size w w2 := hBr.trans (hb2.mono hBr.size)
      clear hb2
      go_wp2_with fail
      refine ⟨⟨dirL a, k + 1, unhide Hgd, rfl, by go_num, unhide Hk, hB2⟩, ?_⟩
      have := unhide Hk
      simp [intOf]; omega

theorem openL_ge (l : List UInt8) : l.length ≤ (openL l).length := by
  unfold openL
  split
  · rename_i h; rw [h]; exact Nat.le_refl _
  · simp
theorem openL_ends (l : List UInt8) : ∃ t, openL l = t ++ [47] := by
  unfold openL
  split
  · exact ⟨[], rfl⟩
  · exact ⟨l, rfl⟩
theorem good_ne_nil {l : List UInt8} (h : goodB l = true) : l ≠ [] := by
  rintro rfl; rw [goodB_nil] at h; exact absurd h (by decide)
theorem openL_inj {p q : List UInt8} (hp : p ≠ []) (hq : q ≠ []) (h : openL p = openL q) : p = q := by
  by_cases h1 : p = [47]
  · by_cases h2 : q = [47]
    · rw [h1, h2]
    · rw [h1, openL_root, openL_other h2] at h
      have := congrArg List.length h
      simp at this
      exact absurd this hq
  · by_cases h2 : q = [47]
    · rw [h2, openL_root, openL_other h1] at h
      have := congrArg List.length h
      simp at this
      exact absurd this hp
    · rw [openL_other h1, openL_other h2] at h
      exact List.append_cancel_right h
/-- a prefix that ends with a slash lies ahead of what has none -/
theorem prefix_slash {t o b : List UInt8} (hb : 47 ∉ b) (h : t ++ [47] <+: o ++ b) : t ++ [47] <+: o := by
  by_cases hl : (t ++ [47]).length ≤ o.length
  · exact List.prefix_of_prefix_length_le h (List.prefix_append _ _) hl
  · exfalso
    have h1 : o <+: t ++ [47] := List.prefix_of_prefix_length_le (List.prefix_append o b) h (by omega)
    obtain ⟨s, hs⟩ := h1
    have hsn : s ≠ [] := by
      rintro rfl
      rw [List.append_nil] at hs
      rw [hs] at hl
      exact hl (Nat.le_refl _)
    have hm : 47 ∈ s := by
      have h3 := congrArg List.getLast? hs
      rw [List.getLast?_append, List.getLast?_append] at h3
      cases hg : s.getLast? with
      | none => exact absurd (List.getLast?_eq_none_iff.1 hg) hsn
      | some x =>
        rw [hg] at h3
        simp at h3
        rw [h3] at hg
        exact List.mem_of_getLast? hg
    rw [← hs] at h
    have h4 : s <+: b := (List.prefix_append_right_inj o).1 h
    exact hb (h4.subset hm)
/-- a path is under another one if its parent is that one, or under it -/
theorem under_parent {p b top : List UInt8} (hp : goodB p = true) (hnb : namedB b = true) (hg : goodB (openL p ++ b) = true) (ht : goodB top = true) :
    underB (openL p ++ b) top = (p == top || underB p top) := by
  have hb1 := (namedB_le hnb).1
  have hge := openL_ge p
  have hup : underB (openL p ++ b) p = true := underB_mk hg hp (by
    intro e
    have := congrArg List.length e
    simp at this
    omega) (List.prefix_append _ _)
  rw [Bool.eq_iff_iff, Bool.or_eq_true, beq_iff_eq]
  constructor
  · intro h
    obtain ⟨_, _, _, hpre⟩ := underB_parts h
    obtain ⟨t, et⟩ := openL_ends top
    have h1 : openL top <+: openL p := by rw [et] at hpre ⊢; exact prefix_slash (named_no_slash hnb) hpre
    by_cases hr : p = [47]
    · left
      subst hr
      rw [openL_root] at h1
      refine (openL_inj (good_ne_nil ht) (by simp) ?_).symm
      rw [openL_root]
      have h2 := openL_pos top
      exact h1.eq_of_length (by have := h1.length_le; simp at this ⊢; omega)
    · rw [openL_other hr, List.prefix_concat_iff] at h1
      rcases h1 with h1 | h1
      · left
        exact (openL_inj (good_ne_nil ht) (good_ne_nil hp) (by rw [h1, openL_other hr])).symm
      · right
        refine underB_mk hp ht ?_ h1
        rintro rfl
        rw [openL_other hr] at h1
        have := h1.length_le
        simp at this
        omega
  · rintro (rfl | h)
    · exact hup
    · exact underB_trans hup h
theorem under_root {top : List UInt8} (ht : goodB top = true) : underB [47] top = false := by
  cases h : underB [47] top
  · rfl
  · have h1 := underB_lt h
    have h2 := good_ne_nil ht
    cases top with
    | nil => exact absurd rfl h2
    | cons c t => simp at h1

def lenV : Value → Nat
  | .string s => s.size
  | _ => 0

set_option maxHeartbeats 1000000 in
theorem refUnder_any (l top : List UInt8) (w : World) (hl : l.length ≤ 1048576) (htl : top.length ≤ 1048576) :
    Calls Tryd.prog 22 #[.string ⟨l.toArray⟩, .string ⟨top.toArray⟩] w fun e w' => e = .returned (.bool (underB l top)) ∧ Below w.heap.size w w' := by
  cases hg : goodB l
  · have Hu : Hid (underB l top = false) := hide (by unfold underB; rw [hg]; simp only [Bool.false_and])
    have Hg := hide hg
    clear hg
    go_enter Tryd.func22, Tryd.ntmps22
    go_wp2_with fail
    refine (refGood_any l _ hl).mono ?_
    rintro e w1 ⟨rfl, hb1⟩
    rw [unhide Hg]
    go_wp2_with fail
    go_ret
    exact ⟨ret_bool (unhide Hu).symm, hb1⟩
  cases ht : goodB top
  · have Hu : Hid (underB l top = false) := hide (by unfold underB; rw [ht]; simp only [Bool.and_false, Bool.false_and])
    have Hg := hide hg
    have Ht := hide ht
    clear hg ht
    go_enter Tryd.func22, Tryd.ntmps22
    go_wp2_with fail
    refine (refGood_any l _ hl).mono ?_
    rintro e w1 ⟨rfl, hb1⟩
    rw [unhide Hg]
    go_wp2_with fail
    refine (refGood_any top _ htl).mono ?_
    rintro e w2 ⟨rfl, hb2⟩
    replace hb2 := below_next hb1 hb2
    clear hb1
    rw [unhide Ht]
    go_wp2_with fail
    go_ret
    exact ⟨ret_bool (unhide Hu).symm, hb2⟩
  have Hg := hide hg
  have Ht := hide ht
  clear hg ht
  go_enter Tryd.func22, Tryd.ntmps22
  go_wp2_with fail
  refine (refGood_any l _ hl).mono ?_
  rintro e w1 ⟨rfl, hb1⟩
  rw [unhide Hg]
  go_wp2_with fail
  refine (refGood_any top _ htl).mono ?_
  rintro e w2 ⟨rfl, hb2⟩
  replace hb2 := below_next hb1 hb2
  clear hb1
  rw [unhide Ht]
  go_wp2_with fail
  go_loopw [0] (fun s wr => ∃ c : List UInt8, goodB c = true ∧ s = .string ⟨c.toArray⟩ ∧ underB l top = underB c top ∧ Below w.heap.size w wr) (fun s _ => lenV s)
  case atStart => exact ⟨l, unhide Hg, rfl, rfl, hb2⟩
  case round =>
    clear hb2
    obtain ⟨c, hgc, rfl, hu, hBr⟩ := hrel
    have Hu := hide hu
    clear hu
    by_cases hroot : c = [47]
    · subst hroot
      clear hgc
      go_wp2_with fail
      go_ret
      exact ⟨ret_bool (by rw [unhide Hu, under_root (unhide Ht)]), hBr⟩
    · have hr1 : (c == [47]) = false := by simpa using hroot
      obtain ⟨a, b, e, hb, hnb, hgd, hj, _⟩ := good_parts hgc hroot
      have hup := under_parent hgd hnb (by rw [hj]; exact hgc) (unhide Ht)
      rw [hj] at hup
      have hlen : (dirL a).length < c.length := by
        have h1 := openL_ge (dirL a)
        have h2 := (namedB_le hnb).1
        have h3 := congrArg List.length hj
        simp at h3
        omega
      have Hup := hide hup
      have Hb := hide hb
      have Hgc := hide hgc
      have Hne := hide hroot
      have Hgd := hide hgd
      have E := hide e
      clear hb hgc hroot hgd hnb hj e hup
      have hsplit : ∀ W, Calls Tryd.prog 14 #[.string ⟨c.toArray⟩] W fun e w' => e = .returned (.tuple #[.string ⟨(dirL a).toArray⟩, .string ⟨b.toArray⟩, .int .i64 0]) ∧ Below W.heap.size W w' := by
        intro W
        have h := refSplit_main a b W (unhide Hb) (by rw [← unhide E]; exact unhide Hgc) (by rw [← unhide E]; exact unhide Hne)
        rw [← unhide E] at h
        exact h
      have Hsplit := hide hsplit
      clear hsplit
      go_wp2_with fail
      refine (unhide Hsplit _).mono ?_
      rintro e w3 ⟨rfl, hb3⟩
      have hB3 : Below w.heap.size w w3 := hBr.trans (hb3.mono hBr.size)
      clear hb3 hBr Hsplit
      generalize dirL a = d at *
      cases hdt : (d == top)
      · go_wp2_with fail
        refine ⟨⟨d, unhide Hgd, rfl, by rw [unhide Hu, unhide Hup, hdt, Bool.false_or], hB3⟩, ?_⟩
        show (ByteArray.mk d.toArray).size < (ByteArray.mk c.toArray).size
        rw [Lib.size_eq, Lib.size_eq]
        exact hlen
      · go_wp2_with fail
        go_ret
        exact ⟨ret_bool (by rw [unhide Hu, unhide Hup, hdt, Bool.true_or]), hB3⟩

end Go.Proofs.YtbhkhchkjckdjaaDoor
