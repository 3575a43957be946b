/-
  What aviaryref.GoodPath answers, for every text up to a bound: the walk.
-/
import Derived.Test.YtnbkpilgmjjflaaDoorRefSteps
import Derived.Test.YtnbkpilgmjjflaaDoorGood
namespace Go.Proofs.YtnbkpilgmjjflaaDoor
open Go.RowKit

/-- a slice of strings that was made: where it lies and what its cells hold -/
theorem row_form {W : World} {base n : Nat} {v : Value} {ps : List (List UInt8)} (h : W.ownsRow base 9 1 v n (ps.map strV)) (hn : 1 ≤ n) :
    ∃ g cap, v = .slice (some ⟨g, 0, none⟩) n cap ∧ n ≤ cap ∧ cap ≤ maxLen ∧ g < W.heap.size ∧ base ≤ g ∧ ∀ j (hj : j < ps.length), W.cell? ⟨g, j, none⟩ = some (.string ⟨ps[j].toArray⟩) := by
  obtain ⟨hl, ⟨_, h0⟩ | ⟨g, cap, cur, rfl, hb, hg, h1, h2, h3, h4⟩⟩ := h
  · omega
  · refine ⟨g, cap, rfl, h1, h2, (Array.getElem?_eq_some_iff.1 hg).1, hb, fun j hj => ?_⟩
    simp only [World.cell?, hg]
    have h5 := congrArg (fun x : List Value => x[j]?) h4
    simp only [List.getElem?_take, List.getElem?_map, List.getElem?_eq_getElem hj, Option.map_some] at h5
    rw [if_pos (by simp at hl; omega)] at h5
    rw [← Array.getElem?_toList, h5]; rfl

theorem goodB_nil : goodB [] = false := by decide +kernel
theorem goodB_other {c : UInt8} {r : List UInt8} (h : c ≠ 47) : goodB (c :: r) = false := by
  apply goodB_front
  simp [Lib.hasPrefix, List.isPrefixOf]
  exact fun e => h e.symm
theorem splitL_first {c : UInt8} {r : List UInt8} (h : c ≠ 47) : ∃ p ps, splitL (c :: r) = (c :: p) :: ps := by
  cases hl : splitL r with
  | nil => exact absurd hl (splitL_ne r)
  | cons p ps => exact ⟨p, ps, splitL_other h hl⟩

set_option maxHeartbeats 1000000 in
theorem refGood_root (w : World) :
    Calls Tryd.prog 26 #[.string ⟨#[47]⟩] w fun e w' => e = .returned (.bool true) ∧ Below w.heap.size w w' := by
  go_enter Tryd.func26, Tryd.ntmps26
  go_wp2_with fail
  go_ret
  exact ⟨rfl, Below.refl _ _⟩

set_option maxHeartbeats 1000000 in
theorem refGood_long (l : List UInt8) (w : World) (hl : l.length ≤ 1048576) (h200 : 200 < l.length) :
    Calls Tryd.prog 26 #[.string ⟨l.toArray⟩] w fun e w' => e = .returned (.bool false) ∧ Below w.heap.size w w' := by
  have hz : (ByteArray.mk l.toArray).size = l.length := Lib.size_eq ⟨l.toArray⟩
  have hr1 : (l == [47]) = false := by
    rw [beq_eq_false_iff_ne]; rintro rfl; simp at h200
  go_enter Tryd.func26, Tryd.ntmps26
  go_wp2_with fail
  refine (refSteps_any l _ hl).mono ?_
  rintro e w1 ⟨v, rfl, hown, hb1⟩
  obtain ⟨g, cap, rfl, _, _, _, _, _⟩ := row_form hown (splitL_count' l).1
  clear hown
  go_wp2_with fail
  go_ret
  exact ⟨rfl, hb1⟩

set_option maxHeartbeats 1000000 in
theorem refGood_first (c : UInt8) (r : List UInt8) (w : World) (hl : (c :: r).length ≤ 200) (hc : c ≠ 47) :
    Calls Tryd.prog 26 #[.string ⟨(c :: r).toArray⟩] w fun e w' => e = .returned (.bool false) ∧ Below w.heap.size w w' := by
  obtain ⟨p, ps, hsp⟩ := splitL_first (r := r) hc
  have hz : (ByteArray.mk (c :: r).toArray).size = (c :: r).length := Lib.size_eq ⟨(c :: r).toArray⟩
  have hr1 : (c :: r == [47]) = false := by
    rw [beq_eq_false_iff_ne]; intro h; simp at h; exact hc h.1
  have Hc1 := hide (splitL_count' (c :: r))
  generalize c :: r = l at *
  go_enter Tryd.func26, Tryd.ntmps26
  go_wp2_with fail
  refine (refSteps_any l _ (by omega)).mono ?_
  rintro e w1 ⟨v, rfl, hown, hb1⟩
  obtain ⟨g, cap, rfl, hcap, hcm, hg, hgb, hcell⟩ := row_form hown (unhide Hc1).1
  have h0 := hcell 0 (by rw [hsp]; simp)
  simp only [hsp, List.getElem_cons_zero] at h0
  have hn := (unhide Hc1).1
  clear hown hcell hsp Hc1
  generalize (splitL l).length = n at *
  obtain ⟨q, rfl⟩ : ∃ q, n = q + 1 := ⟨n - 1, by omega⟩
  have hq1 : (0 : Int) < (q : Int) + 1 := by omega
  go_wp2_with fail
  go_ret
  exact ⟨rfl, hb1⟩

set_option maxHeartbeats 1000000 in
theorem refGood_none (w : World) :
    Calls Tryd.prog 26 #[.string ⟨#[]⟩] w fun e w' => e = .returned (.bool false) ∧ Below w.heap.size w w' := by
  go_enter Tryd.func26, Tryd.ntmps26
  go_wp2_with fail
  refine (refSteps_any [] _ (by simp)).mono ?_
  rintro e w1 ⟨v, rfl, hown, hb1⟩
  obtain ⟨g, cap, rfl, hcap, hcm, hg, hgb, hcell⟩ := row_form hown (by simp [splitL])
  have h0 := hcell 0 (by simp [splitL])
  simp only [splitL, List.getElem_cons_zero] at h0
  simp only [splitL, List.length_singleton] at *
  clear hown hcell
  go_wp2_with fail
  go_ret
  exact ⟨rfl, hb1⟩

set_option maxRecDepth 100000 in
set_option maxHeartbeats 1000000 in
theorem refGood_main (r : List UInt8) (w : World) (hl : r.length + 1 ≤ 200) (hr : r ≠ []) :
    Calls Tryd.prog 26 #[.string ⟨(47 :: r).toArray⟩] w fun e w' => e = .returned (.bool ((splitL r).all namedB)) ∧ Below w.heap.size w w' := by
  have hz : (ByteArray.mk (47 :: r).toArray).size = r.length + 1 := Lib.size_eq ⟨(47 :: r).toArray⟩
  have hr1 : ((47 :: r) == [47]) = false := by
    rw [beq_eq_false_iff_ne]; intro h; simp at h; exact hr h
  have hcnt := splitL_count' r
  have hlen := splitL_length r
  have hsteps := refSteps_any (47 :: r) w (by simp; omega)
  rw [splitL_slash] at hsteps
  generalize 47 :: r = l at *
  generalize splitL r = ps at *
  go_enter Tryd.func26, Tryd.ntmps26
  go_wp2_with fail
  refine hsteps.mono ?_
  clear hsteps
  rintro e w1 ⟨v, rfl, hown, hb1⟩
  obtain ⟨g, cap, rfl, hcap, hcm, hg, hgb, hcell⟩ := row_form hown (by simp)
  have h0 := hcell 0 (by simp)
  simp only [List.getElem_cons_zero] at h0
  have Hcell : Hid (∀ j (hj : j < ps.length), w1.cell? ⟨g, 1 + j, none⟩ = some (.string ⟨ps[j].toArray⟩)) := hide (fun j hj => by
    have h := hcell (1 + j) (by simp; omega)
    rw [h]
    simp [Nat.add_comm 1 j])
  clear hown hcell
  simp only [List.length_cons] at hcap ⊢
  have hm1 : (0 : Int) < (ps.length : Int) + 1 := by omega
  have hm2 : ¬ (ps.length : Int) + 1 < 2 := by omega
  unfold maxLen at hcm
  have Hlen := hide hlen
  clear hlen
  go_wp2_with fail
  clear h0 hm1 hm2 hcap hcm hz hr1
  go_loopw [27] (fun i wr => ∃ j : Nat, j ≤ ps.length ∧ i = .int .i64 j ∧ (ps.take j).all namedB = true ∧ Below w1.heap.size w1 wr) (fun i _ => ps.length - (intOf i).toNat)
  case atStart => exact ⟨0, Nat.zero_le _, rfl, by simp, Below.refl _ _⟩
  case round =>
    obtain ⟨j, hj, rfl, hall, hBr⟩ := hrel
    have Hall := hide hall
    clear hall
    by_cases hjl : j < ps.length
    · have hc : wr.cell? ⟨g, 1 + j, none⟩ = some (.string ⟨ps[j].toArray⟩) := (hBr.cell (p := ⟨g, 1 + j, none⟩) hg).trans (unhide Hcell j hjl)
      have hpl : ps[j].length ≤ 200 := by have := unhide Hlen ps[j] (List.getElem_mem hjl); omega
      have Htk := hide (List.take_succ_eq_append_getElem hjl)
      have Hmem := hide (List.getElem_mem hjl)
      generalize ps[j] = x at hc hpl Htk Hmem
      go_wp2_with fail
      refine (refNamed_any x _ (by omega)).mono ?_
      rintro e w2 ⟨rfl, hb2⟩
      have hBn : Below w1.heap.size w1 w2 := hBr.trans (hb2.mono hBr.size)
      clear hb2 hBr hc
      cases hx : namedB x
      · have Hx := hide hx
        clear hx
        go_wp2_with fail
        go_ret
        refine ⟨ret_bool ?_, hb1.trans (hBn.mono hb1.size)⟩
        symm
        rw [List.all_eq_false]
        exact ⟨x, unhide Hmem, by simp [unhide Hx]⟩
      · have Hx := hide hx
        clear hx
        go_wp2_with fail
        exact ⟨⟨j + 1, by omega, by go_num, by rw [unhide Htk, List.all_append, unhide Hall]; simp [unhide Hx], hBn⟩, by simp [intOf]; omega⟩
    · have hje : j = ps.length := by omega
      subst hje
      rw [List.take_length] at Hall
      go_wp2_with fail
      go_ret
      exact ⟨ret_bool (unhide Hall).symm, hb1.trans (hBr.mono hb1.size)⟩

/-- WHAT aviaryref.GoodPath ANSWERS -/
theorem refGood_any (l : List UInt8) (w : World) (hl : l.length ≤ 1048576) :
    Calls Tryd.prog 26 #[.string ⟨l.toArray⟩] w fun e w' => e = .returned (.bool (goodB l)) ∧ Below w.heap.size w w' := by
  by_cases h200 : 200 < l.length
  · rw [goodB_long h200]; exact refGood_long l w hl h200
  · cases l with
    | nil => rw [goodB_nil]; exact refGood_none w
    | cons c r =>
      by_cases hc : c = 47
      · subst hc
        by_cases hr : r = []
        · subst hr; rw [goodB_root]; exact refGood_root w
        · simp at h200
          rw [goodB_cons r hr, decide_eq_true (by omega), Bool.true_and]
          exact refGood_main r w (by omega) hr
      · rw [goodB_other hc]; exact refGood_first c r w (by omega) hc

end Go.Proofs.YtnbkpilgmjjflaaDoor
