/-
  What aviaryref.GoodPath answers, for every text up to a bound: the walk.
  What path.Depth answers, for every text: the walk.
  What aviaryref.Split, Depth, Under and Join answer, for all texts up to a bound: the walks.
  aviaryref's GetNode and KidsOf: the walks.
  aviaryref.Line: the walks.
  What Join makes of a node and of one that stands in line below it. No program is named here.
-/
import Derived.Test.YtkgaoedlnejigaaDoorRLE
import Derived.Test.YtkgaoedlnejigaaDoorRLB
import Derived.Test.YtkgaoedlnejigaaDoorRLC
import Derived.ChangeAlike
namespace Go.Proofs.YtkgaoedlnejigaaDoor
open Go.RowKit

/-- a slice of strings that was made: where it lies and what its cells hold -/
theorem row_form {W : World} {base n : Nat} {v : Value} {ps : List (List UInt8)} (h : W.ownsRow base 9 1 v n (ps.map strV)) (hn : 1 ≤ n) :
    ∃ g cap, v = .slice (some ⟨g, 0, none⟩) n cap ∧ n ≤ cap ∧ cap ≤ maxLen ∧ g < W.heap.size ∧ base ≤ g ∧ ∀ j (hj : j < ps.length), W.cell? ⟨g, j, none⟩ = some (.string ⟨ps[j].toArray⟩) := by
  obtain ⟨hl, ⟨_, h0⟩ | ⟨g, cap, cur, rfl, hb, hg, h1, h2, h3, h4⟩⟩ := h
  · omega
  · refine ⟨g, cap, rfl, h1, h2, (Array.getElem?_eq_some_iff.1 hg).1, hb, fun j hj => ?_⟩
    simp only [World.cell?, hg]
    have h5 := congrArg (fun x : List Value => x[j]?) h4
    simp only [List.getElem?_take, List.getElem?_map, List.getElem?_eq_getElem hj, Option.map_some] at h5
    rw [if_pos (by simp at hl; omega)] at h5
    rw [← Array.getElem?_toList, h5]; rfl

theorem goodB_nil : goodB [] = false := by decide +kernel
theorem goodB_other {c : UInt8} {r : List UInt8} (h : c ≠ 47) : goodB (c :: r) = false := by
  apply goodB_front
  simp [Lib.hasPrefix, List.isPrefixOf]
  exact fun e => h e.symm
theorem splitL_first {c : UInt8} {r : List UInt8} (h : c ≠ 47) : ∃ p ps, splitL (c :: r) = (c :: p) :: ps := by
  cases hl : splitL r with
  | nil => exact absurd hl (splitL_ne r)
  | cons p ps => exact ⟨p, ps, splitL_other h hl⟩

set_option maxRecDepth 10000 in
set_option maxHeartbeats 1000000 in
theorem refGood_root (w : World) :
    Calls Tryd.prog 17 #[.string ⟨#[47]⟩] w fun e w' => e = .returned (.bool true) ∧ Below w.heap.size w w' := by
  go_enter Tryd.func17, Tryd.ntmps17
  go_wp2_with fail
  go_ret
  exact ⟨rfl, Below.refl _ _⟩

set_option maxRecDepth 10000 in
set_option maxHeartbeats 1000000 in
theorem refGood_long (l : List UInt8) (w : World) (hl : l.length ≤ 1048576) (h200 : 200 < l.length) :
    Calls Tryd.prog 17 #[.string ⟨l.toArray⟩] w fun e w' => e = .returned (.bool false) ∧ Below w.heap.size w w' := by
  have hz : (ByteArray.mk l.toArray).size = l.length := Lib.size_eq ⟨l.toArray⟩
  have hr1 : (l == [47]) = false := by
    rw [beq_eq_false_iff_ne]; rintro rfl; simp at h200
  go_enter Tryd.func17, Tryd.ntmps17
  go_wp2_with fail
  refine (refSteps_any l _ hl).mono ?_
  rintro e w1 ⟨v, rfl, hown, hb1⟩
  obtain ⟨g, cap, rfl, _, _, _, _, _⟩ := row_form hown (splitL_count' l).1
  clear hown
  go_wp2_with fail
  go_ret
  exact ⟨rfl, hb1⟩

set_option maxRecDepth 10000 in
set_option maxHeartbeats 1000000 in
theorem refGood_first (c : UInt8) (r : List UInt8) (w : World) (hl : (c :: r).length ≤ 200) (hc : c ≠ 47) :
    Calls Tryd.prog 17 #[.string ⟨(c :: r).toArray⟩] w fun e w' => e = .returned (.bool false) ∧ Below w.heap.size w w' := by
  obtain ⟨p, ps, hsp⟩ := splitL_first (r := r) hc
  have hz : (ByteArray.mk (c :: r).toArray).size = (c :: r).length := Lib.size_eq ⟨(c :: r).toArray⟩
  have hr1 : (c :: r == [47]) = false := by
    rw [beq_eq_false_iff_ne]; intro h; simp at h; exact hc h.1
  have Hc1 := hide (splitL_count' (c :: r))
  generalize c :: r = l at *
  go_enter Tryd.func17, Tryd.ntmps17
  go_wp2_with fail
  refine (refSteps_any l _ (by omega)).mono ?_
  rintro e w1 ⟨v, rfl, hown, hb1⟩
  obtain ⟨g, cap, rfl, hcap, hcm, hg, hgb, hcell⟩ := row_form hown (unhide Hc1).1
  have h0 := hcell 0 (by rw [hsp]; simp)
  simp only [hsp, List.getElem_cons_zero] at h0
  have hn := (unhide Hc1).1
  clear hown hcell hsp Hc1
  generalize (splitL l).length = n at *
  obtain ⟨q, rfl⟩ : ∃ q, n = q + 1 := ⟨n - 1, by omega⟩
  have hq1 : (0 : Int) < (q : Int) + 1 := by omega
  go_wp2_with fail
  go_ret
  exact ⟨rfl, hb1⟩

set_option maxRecDepth 10000 in
set_option maxHeartbeats 1000000 in
theorem refGood_none (w : World) :
    Calls Tryd.prog 17 #[.string ⟨#[]⟩] w fun e w' => e = .returned (.bool false) ∧ Below w.heap.size w w' := by
  go_enter Tryd.func17, Tryd.ntmps17
  go_wp2_with fail
  refine (refSteps_any [] _ (by simp)).mono ?_
  rintro e w1 ⟨v, rfl, hown, hb1⟩
  obtain ⟨g, cap, rfl, hcap, hcm, hg, hgb, hcell⟩ := row_form hown (by simp [splitL])
  have h0 := hcell 0 (by simp [splitL])
  simp only [splitL, List.getElem_cons_zero] at h0
  simp only [splitL, List.length_singleton] at *
  clear hown hcell
  go_wp2_with fail
  go_ret
  exact ⟨rfl, hb1⟩

set_option maxRecDepth 100000 in
set_option maxHeartbeats 1000000 in
theorem refGood_main (r : List UInt8) (w : World) (hl : r.length + 1 ≤ 200) (hr : r ≠ []) :
    Calls Tryd.prog 17 #[.string ⟨(47 :: r).toArray⟩] w fun e w' => e = .returned (.bool ((splitL r).all namedB)) ∧ Below w.heap.size w w' := by
  have hz : (ByteArray.mk (47 :: r).toArray).size = r.length + 1 := Lib.size_eq ⟨(47 :: r).toArray⟩
  have hr1 : ((47 :: r) == [47]) = false := by
    rw [beq_eq_false_iff_ne]; intro h; simp at h; exact hr h
  have hcnt := splitL_count' r
  have hlen := splitL_length r
  have hsteps := refSteps_any (47 :: r) w (by simp; omega)
  rw [splitL_slash] at hsteps
  generalize 47 :: r = l at *
  generalize splitL r = ps at *
  go_enter Tryd.func17, Tryd.ntmps17
  go_wp2_with fail
  refine hsteps.mono ?_
  clear hsteps
  rintro e w1 ⟨v, rfl, hown, hb1⟩
  obtain ⟨g, cap, rfl, hcap, hcm, hg, hgb, hcell⟩ := row_form hown (by simp)
  have h0 := hcell 0 (by simp)
  simp only [List.getElem_cons_zero] at h0
  have Hcell : Hid (∀ j (hj : j < ps.length), w1.cell? ⟨g, 1 + j, none⟩ = some (.string ⟨ps[j].toArray⟩)) := hide (fun j hj => by
    have h := hcell (1 + j) (by simp; omega)
    rw [h]
    simp [Nat.add_comm 1 j])
  clear hown hcell
  simp only [List.length_cons] at hcap ⊢
  have hm1 : (0 : Int) < (ps.length : Int) + 1 := by omega
  have hm2 : ¬ (ps.length : Int) + 1 < 2 := by omega
  unfold maxLen at hcm
  have Hlen := hide hlen
  clear hlen
  go_wp2_with fail
  clear h0 hm1 hm2 hcap hcm hz hr1
  go_loopw [27] (fun i wr => ∃ j : Nat, j ≤ ps.length ∧ i = .int .i64 j ∧ (ps.take j).all namedB = true ∧ Below w1.heap.size w1 wr) (fun i _ => ps.length - (intOf i).toNat)
  case atStart => exact ⟨0, Nat.zero_le _, rfl, by simp, Below.refl _ _⟩
  case round =>
    obtain ⟨j, hj, rfl, hall, hBr⟩ := hrel
    have Hall := hide hall
    clear hall
    by_cases hjl : j < ps.length
    · have hc : wr.cell? ⟨g, 1 + j, none⟩ = some (.string ⟨ps[j].toArray⟩) := (hBr.cell (p := ⟨g, 1 + j, none⟩) hg).trans (unhide Hcell j hjl)
      have hpl : ps[j].length ≤ 200 := by have := unhide Hlen ps[j] (List.getElem_mem hjl); omega
      have Htk := hide (List.take_succ_eq_append_getElem hjl)
      have Hmem := hide (List.getElem_mem hjl)
      generalize ps[j] = x at hc hpl Htk Hmem
      go_wp2_with fail
      refine (refNamed_any x _ (by omega)).mono ?_
      rintro e w2 ⟨rfl, hb2⟩
      have hBn : Below w1.heap.size w1 w2 := hBr.trans (hb2.mono hBr.size)
      clear hb2 hBr hc
      cases hx : namedB x
      · have Hx := hide hx
        clear hx
        go_wp2_with fail
        go_ret
        refine ⟨ret_bool ?_, hb1.trans (hBn.mono hb1.size)⟩
        symm
        rw [List.all_eq_false]
        exact ⟨x, unhide Hmem, by simp [unhide Hx]⟩
      · have Hx := hide hx
        clear hx
        go_wp2_with fail
        exact ⟨⟨j + 1, by omega, by go_num, by rw [unhide Htk, List.all_append, unhide Hall]; simp [unhide Hx], hBn⟩, by simp [intOf]; omega⟩
    · have hje : j = ps.length := by omega
      subst hje
      rw [List.take_length] at Hall
      go_wp2_with fail
      go_ret
      exact ⟨ret_bool (unhide Hall).symm, hb1.trans (hBr.mono hb1.size)⟩

/-- WHAT aviaryref.GoodPath ANSWERS -/
theorem refGood_any (l : List UInt8) (w : World) (hl : l.length ≤ 1048576) :
    Calls Tryd.prog 17 #[.string ⟨l.toArray⟩] w fun e w' => e = .returned (.bool (goodB l)) ∧ Below w.heap.size w w' := by
  by_cases h200 : 200 < l.length
  · rw [goodB_long h200]; exact refGood_long l w hl h200
  · cases l with
    | nil => rw [goodB_nil]; exact refGood_none w
    | cons c r =>
      by_cases hc : c = 47
      · subst hc
        by_cases hr : r = []
        · subst hr; rw [goodB_root]; exact refGood_root w
        · simp at h200
          rw [goodB_cons r hr, decide_eq_true (by omega), Bool.true_and]
          exact refGood_main r w (by omega) hr
      · rw [goodB_other hc]; exact refGood_first c r w (by omega) hc

end Go.Proofs.YtkgaoedlnejigaaDoor

namespace Go.Proofs.YtkgaoedlnejigaaDoor
open Go.RowKit Go.Shelf
/-- What a path is made of: what stands ahead of its last slash, and its last step. -/
theorem pgood_parts {l : List UInt8} (hg : goodB l = true) (hne : l ≠ [47]) :
    ∃ a b, l = a ++ 47 :: b ∧ 47 ∉ b ∧ namedB b = true ∧ goodB (dirL a) = true ∧ openL (dirL a) ++ b = l ∧ stepsL l = stepsL (dirL a) ++ [b] := by
  obtain ⟨r, rfl⟩ : ∃ r, l = 47 :: r := by
    obtain ⟨t, ht⟩ := goodB_slash hg
    exact ⟨t, ht.symm⟩
  have hr : r ≠ [] := by rintro rfl; exact hne rfl
  rw [goodB_cons r hr, Bool.and_eq_true, decide_eq_true_eq] at hg
  obtain ⟨hlen, hall⟩ := hg
  have hst : stepsL (47 :: r) = splitL r := by
    rw [stepsL, if_neg hne, Lib.trimPrefix, if_pos (by simp [Lib.hasPrefix, List.isPrefixOf])]; rfl
  obtain ⟨a, b, e, hb⟩ := last_slash (47 :: r) (by simp)
  refine ⟨a, b, e, hb, ?_⟩
  cases a with
  | nil =>
    simp only [List.nil_append, List.cons.injEq, true_and] at e
    subst e
    rw [splitL_no r hb] at hall hst
    refine ⟨by simpa using hall, by rw [dirL_nil]; exact goodB_root, by rw [dirL_nil, openL_root]; rfl, ?_⟩
    rw [hst, dirL_nil, stepsL, if_pos rfl]; rfl
  | cons c a =>
    simp only [List.cons_append, List.cons.injEq] at e
    obtain ⟨rfl, rfl⟩ := e
    rw [splitL_tail a b hb] at hall hst
    rw [List.all_append, Bool.and_eq_true] at hall
    have ha : a ≠ [] := by
      rintro rfl
      have h := hall.1
      rw [show splitL [] = [[]] from rfl] at h
      simp [not_named_nil] at h
    have hd : dirL (47 :: a) = 47 :: a := dirL_other (by simp)
    have hd1 : (47 :: a : List UInt8) ≠ [47] := by simp [ha]
    refine ⟨by simpa using hall.2, ?_, ?_, ?_⟩
    · rw [hd, goodB_cons a ha, hall.1, Bool.and_true, decide_eq_true_eq]
      simp at hlen; omega
    · rw [hd, openL_other hd1]; simp
    · rw [hst, hd, stepsL, if_neg hd1, Lib.trimPrefix, if_pos (by simp [Lib.hasPrefix, List.isPrefixOf])]; rfl

end Go.Proofs.YtkgaoedlnejigaaDoor

namespace Go.Proofs.YtkgaoedlnejigaaDoor
open Go.RowKit

def flat (ps : List (List UInt8)) : List UInt8 := ps.flatMap (fun p => 47 :: p)
theorem flat_split : ∀ l : List UInt8, flat (splitL l) = 47 :: l
  | [] => rfl
  | c :: l => by
    have ih := flat_split l
    by_cases hc : c = 47
    · subst hc; rw [splitL_slash]; simp only [flat, List.flatMap_cons] at ih ⊢; rw [ih]; rfl
    · cases hl : splitL l with
      | nil => exact absurd hl (splitL_ne l)
      | cons p ps =>
        rw [splitL_other hc hl]
        rw [hl] at ih
        simp only [flat, List.flatMap_cons, List.cons_append, List.cons.injEq, true_and] at ih ⊢
        exact ih
theorem flat_snoc (ps : List (List UInt8)) (x : List UInt8) : flat (ps ++ [x]) = flat ps ++ ([47] ++ x) := by simp [flat]
theorem flat_take_le (qs : List (List UInt8)) (j : Nat) : (flat (qs.take j)).length ≤ (flat qs).length := by
  have h : flat qs = flat (qs.take j) ++ flat (qs.drop j) := by
    unfold flat
    rw [← List.flatMap_append, List.take_append_drop]
  rw [h]; simp
/-- the pieces of a path: nothing ahead of its first slash, what its parent is made of, its last step -/
theorem path_pieces {a b : List UInt8} (hb : 47 ∉ b) (hg : goodB (a ++ 47 :: b) = true) : ∃ qs, splitL (a ++ 47 :: b) = [] :: (qs ++ [b]) ∧ flat qs = a := by
  rw [splitL_tail a b hb]
  cases a with
  | nil => exact ⟨[], rfl, rfl⟩
  | cons c a =>
    obtain ⟨t, ht⟩ := goodB_slash hg
    simp only [List.cons_append, List.nil_append, List.cons.injEq] at ht
    obtain ⟨rfl, _⟩ := ht
    rw [splitL_slash]
    exact ⟨splitL a, rfl, flat_split a⟩

theorem val_cat (f x : List UInt8) : Value.string ((ByteArray.mk f.toArray) ++ ((ByteArray.mk #[47]) ++ (ByteArray.mk x.toArray))) = .string ⟨(f ++ ([47] ++ x)).toArray⟩ := by
  rw [show (ByteArray.mk #[47]) ++ (ByteArray.mk x.toArray) = ⟨([47] ++ x).toArray⟩ from cat_one [47] x, cat_one]

set_option maxRecDepth 10000 in
set_option maxHeartbeats 400000 in
theorem refSplit_bad (l : List UInt8) (w : World) (hl : l.length ≤ 1048576) (hg : goodB l = false) :
    Calls Tryd.prog 18 #[.string ⟨l.toArray⟩] w fun e w' => e = .returned (.tuple #[.string ⟨#[]⟩, .string ⟨#[]⟩, .int .i64 2]) ∧ Below w.heap.size w w' := by
  have Hg := hide hg
  clear hg
  go_enter Tryd.func18, Tryd.ntmps18
  go_wp2_with fail
  refine (refGood_any l _ hl).mono ?_
  rintro e w1 ⟨rfl, hb1⟩
  rw [unhide Hg]
  go_wp2_with fail
  go_ret3
  exact ⟨rfl, hb1⟩

set_option maxRecDepth 10000 in
set_option maxHeartbeats 400000 in
theorem refSplit_root (w : World) :
    Calls Tryd.prog 18 #[.string ⟨#[47]⟩] w fun e w' => e = .returned (.tuple #[.string ⟨#[]⟩, .string ⟨#[]⟩, .int .i64 7]) ∧ Below w.heap.size w w' := by
  go_enter Tryd.func18, Tryd.ntmps18
  go_wp2_with fail
  refine (refGood_any [47] _ (by decide)).mono ?_
  rintro e w1 ⟨rfl, hb1⟩
  rw [goodB_root]
  go_wp2_with fail
  go_ret3
  exact ⟨rfl, hb1⟩

set_option maxRecDepth 100000 in
set_option maxHeartbeats 1000000 in
theorem refSplit_main (a b : List UInt8) (w : World) (hb : 47 ∉ b) (hg : goodB (a ++ 47 :: b) = true) (hne : a ++ 47 :: b ≠ [47]) :
    Calls Tryd.prog 18 #[.string ⟨(a ++ 47 :: b).toArray⟩] w fun e w' =>
      e = .returned (.tuple #[.string ⟨(dirL a).toArray⟩, .string ⟨b.toArray⟩, .int .i64 0]) ∧ Below w.heap.size w w' := by
  obtain ⟨qs, hsp, hfl⟩ := path_pieces hb hg
  have hl : (a ++ 47 :: b).length ≤ 200 := goodB_le hg
  have hal : (flat qs).length ≤ 200 := by rw [hfl]; simp at hl; omega
  have hne1 : (a ++ 47 :: b == [47]) = false := by simpa using hne
  have hst : ∀ W : World, Calls Tryd.prog 33 #[.string ⟨(a ++ 47 :: b).toArray⟩] W fun e w' =>
      ∃ v, e = .returned v ∧ w'.ownsRow W.heap.size 9 1 v (qs.length + 1 + 1) (([] :: (qs ++ [b])).map strV) ∧ Below W.heap.size W w' := by
    intro W
    have h := refSteps_any (a ++ 47 :: b) W (by omega)
    rw [hsp, show ([] :: (qs ++ [b])).length = qs.length + 1 + 1 from by simp] at h
    exact h
  have Hst := hide hst
  have Hg := hide hg
  have Hfl := hide hfl
  have hql : qs.length ≤ 200 := by
    have h := splitL_count' (a ++ 47 :: b)
    rw [hsp] at h
    simp at h hl
    omega
  clear hst hg hne hb hsp hfl
  generalize a ++ 47 :: b = l at *
  go_enter Tryd.func18, Tryd.ntmps18
  go_wp2_with fail
  refine (refGood_any l _ (by omega)).mono ?_
  rintro e w1 ⟨rfl, hb1⟩
  rw [unhide Hg]
  go_wp2_with fail
  refine (unhide Hst _).mono ?_
  clear Hst
  rintro e w2 ⟨v, rfl, hown, hb2⟩
  replace hb2 := below_next hb1 hb2
  clear hb1
  obtain ⟨g, cap, rfl, hcap, hcm, hgl, hgb, hcell⟩ := row_form hown (by omega)
  have Hcell : Hid (∀ j (hj : j < qs.length), w2.cell? ⟨g, 1 + j, none⟩ = some (.string ⟨qs[j].toArray⟩)) := hide (fun j hj => by
    rw [hcell (1 + j) (by simp; omega)]
    simp [Nat.add_comm 1 j, List.getElem_append_left hj])
  have hlast : w2.cell? ⟨g, qs.length + 1, none⟩ = some (.string ⟨b.toArray⟩) := by
    rw [hcell (qs.length + 1) (by simp)]; simp
  clear hown hcell
  unfold maxLen at hcm
  have hq0 : (0 : Int) ≤ (qs.length : Int) := by omega
  have hq1 : (qs.length : Int) ≤ 200 := by omega
  have hq2 : (qs.length : Int) + 1 < (qs.length : Int) + 1 + 1 := by omega
  go_wp2_with fail
  go_loop [7, 24] (fun t i => ∃ j : Nat, j ≤ qs.length ∧ i = .int .i64 j ∧ t = .string ⟨(flat (qs.take j)).toArray⟩) (fun _ i => qs.length - (intOf i).toNat)
  case atStart => exact ⟨0, Nat.zero_le _, rfl, rfl⟩
  case round =>
    obtain ⟨j, hj, rfl, rfl⟩ := hrel
    have hft := flat_take_le qs j
    by_cases hjl : j < qs.length
    · have hc := unhide Hcell j hjl
      have Htk : Hid (flat (qs.take (j + 1)) = flat (qs.take j) ++ ([47] ++ qs[j])) := hide (by rw [List.take_succ_eq_append_getElem hjl, flat_snoc])
      have hxl : qs[j].length ≤ 200 := by
        have h := flat_take_le qs (j + 1)
        rw [unhide Htk] at h
        simp at h
        omega
      generalize qs[j] = x at hc Htk hxl
      generalize flat (qs.take j) = f at hft Htk ⊢
      have hz1 : (ByteArray.mk x.toArray).size = x.length := Lib.size_eq ⟨x.toArray⟩
      have hz2 : (ByteArray.mk f.toArray).size = f.length := Lib.size_eq ⟨f.toArray⟩
      go_wp2
      go_round
      case rel => exact ⟨j + 1, by omega, by go_num, by rw [unhide Htk]; exact val_cat f x⟩
      case measure => simp [intOf]; omega
    · have hje : j = qs.length := by omega
      subst hje
      rw [List.take_length, unhide Hfl]
      cases he : a.isEmpty
      · have Hd : Hid (dirL a = a) := hide (dirL_other (by rintro rfl; simp at he))
        go_wp2
        go_region
        all_goals go_wp2
        all_goals go_ret3
        all_goals exact ⟨ret_three (by rw [unhide Hd]) rfl rfl, by repeat (first | exact hb2 | apply Below.drew)⟩
      · obtain rfl : a = [] := by simpa using he
        go_wp2
        go_region
        all_goals go_wp2
        all_goals go_ret3
        all_goals exact ⟨ret_three (by rw [dirL_nil]) rfl rfl, by repeat (first | exact hb2 | apply Below.drew)⟩

end Go.Proofs.YtkgaoedlnejigaaDoor

namespace Go.Proofs.YtkgaoedlnejigaaDoor
open Go.RowKit

/-- aviaryref.Split, at every text that is not too long -/
theorem rsplit_any (p : List UInt8) (w : World) (hl : p.length ≤ 1048576) :
    Calls Tryd.prog 18 #[.string ⟨p.toArray⟩] w fun e w' =>
      e = .returned (.tuple #[.string ⟨(dirOf p).toArray⟩, .string ⟨(stepOf p).toArray⟩, .int .i64 (splE p)]) ∧ Below w.heap.size w w' := by
  cases hg : goodB p with
  | false =>
    rw [dirOf_bad hg, stepOf_bad hg, splE_bad hg]
    exact refSplit_bad p w hl hg
  | true =>
    by_cases hr : p = [47]
    · subst hr
      rw [dirOf_root, stepOf_root, splE_root]
      exact refSplit_root w
    · obtain ⟨a, b, rfl, hb⟩ := good_cut hg
      rw [dirOf_cut hg hr hb, stepOf_cut hg hr hb, splE_ok hg hr]
      exact refSplit_main a b w hb hg hr

set_option maxRecDepth 20000 in
set_option maxHeartbeats 2000000 in
theorem rget_at (z : Int) (vn vs : Value) (ns : List Nd) (p : List UInt8) (j : Nat) (n : Nd) (w : World) (hn : SeqV w vn ns) (hl : ns.length ≤ 140737488355328) (T : At ns p j n) :
    Calls Tryd.prog 31 #[.agg #[.int .i64 z, vn, vs], .string ⟨p.toArray⟩] w fun e w' => e = .returned (.tuple #[nodeV n, .int .i64 0]) ∧ Below w.heap.size w w' := by
  have CF := hide (fun W (hW : Below w.heap.size w W) => rnode_at z vn vs ns p j n W (hn.next hW) hl T)
  have hlt : j < ns.length := (List.getElem?_eq_some_iff.1 T.at').1
  have HAT := hide T.at'
  obtain ⟨b, off, cap, rfl, hb, hr, _, _⟩ := seq_row hn (by intro h0; rw [h0] at hlt; simp at hlt)
  have HR := hide (fun W (hW : Below w.heap.size w W) => hr.kept hW hb)
  have B0 := hide (GB.new w z (.slice (some ⟨b, off, none⟩) ns.length cap) vs)
  clear hn T hr
  go_enter Tryd.func31, Tryd.ntmps31
  go_wp2_with fail
  refine (unhide CF _ (unhide B0).b).mono ?_
  rintro e w1 ⟨rfl, hb1⟩
  have b1 := (unhide B0).next hb1
  have e1 := b1.c1
  have q := unhide HR w1 b1.b
  have d0 := q.n0 (unhide HAT)
  have d1 := q.n1 (unhide HAT)
  have d2 := q.n2 (unhide HAT)
  have d3 := q.n3 (unhide HAT)
  have d4 := q.n4 (unhide HAT)
  have d5 := q.n5 (unhide HAT)
  have d6 := q.n6 (unhide HAT)
  have d7 := q.n7 (unhide HAT)
  have d8 := q.n8 (unhide HAT)
  have o1 := b1.one
  have c0 := o1.cellN 0 _ rfl
  have c1 := o1.cellN 1 _ rfl
  have c2 := o1.cellN 2 _ rfl
  have c3 := o1.cellN 3 _ rfl
  have c4 := o1.cellN 4 _ rfl
  have c5 := o1.cellN 5 _ rfl
  have c6 := o1.cellN 6 _ rfl
  have c7 := o1.cellN 7 _ rfl
  have c8 := o1.cellN 8 _ rfl
  have f0 := o1.frozenN 0
  have f1 := o1.frozenN 1
  have f2 := o1.frozenN 2
  have f3 := o1.frozenN 3
  have f4 := o1.frozenN 4
  have f5 := o1.frozenN 5
  have f6 := o1.frozenN 6
  have f7 := o1.frozenN 7
  have f8 := o1.frozenN 8
  have HBB := hide b1.b
  have hneb : b ≠ w.heap.size + 1 := by omega
  clear q CF b1 hb1 o1
  go_wp2_with fail
  have BB := unhide HBB
  exact bodyPost_ret (v := .tuple #[nodeV n, .int .i64 0]) (by simp [results, Tryd.results31, go_sem, nodeV, c0, c1, c2, c3, c4, c5, c6, c7, c8]) rfl
    ⟨rfl, ((((((((BB.setCell (by simp) _).setCell (by simp) _).setCell (by simp) _).setCell (by simp) _).setCell (by simp) _).setCell (by simp) _).setCell (by simp) _).setCell (by simp) _).setCell (by simp) _⟩

set_option maxRecDepth 20000 in
set_option maxHeartbeats 400000 in
theorem rkids_no (z : Int) (vn vs : Value) (ns : List Nd) (p : List UInt8) (w : World) (hn : SeqV w vn ns) (hl : ns.length ≤ 140737488355328) (G : ∀ n ∈ ns, n.p ≠ p) :
    Calls Tryd.prog 26 #[.agg #[.int .i64 z, vn, vs], .string ⟨p.toArray⟩] w fun e w' => e = .returned (.tuple #[.slice none 0 0, .int .i64 7]) ∧ Below w.heap.size w w' := by
  have CF := hide (fun W (hW : Below w.heap.size w W) => rnode_no z vn vs ns p W (hn.next hW) hl G)
  obtain ⟨na, nc, rfl⟩ := seq_slice hn
  clear hn G
  go_enter Tryd.func26, Tryd.ntmps26
  go_wp2_with fail
  refine (unhide CF _ (allocB _ _)).mono ?_
  rintro e w1 ⟨rfl, hb1⟩
  have HB := hide (nbox_then hb1)
  clear hb1 CF
  go_wp2_with fail
  go_ret2
  exact ⟨rfl, unhide HB⟩

set_option maxRecDepth 20000 in
set_option maxHeartbeats 4000000 in
theorem rkids_at (z : Int) (vn vs : Value) (ns : List Nd) (p : List UInt8) (j : Nat) (n : Nd) (w : World) (hn : SeqV w vn ns) (hl : ns.length ≤ 400) (T : At ns p j n) (hlong : ∀ n ∈ ns, n.p.length ≤ 1048576) (hpn : p ≠ []) :
    Calls Tryd.prog 26 #[.agg #[.int .i64 z, vn, vs], .string ⟨p.toArray⟩] w fun e w' => ∃ v', e = .returned (.tuple #[v', .int .i64 0]) ∧ OwnS w' w.heap.size v' (kidsP ns p) ∧ Below w.heap.size w w' := by
  have CF := hide (fun W (hW : Below w.heap.size w W) => rnode_at z vn vs ns p j n W (hn.next hW) (by omega) T)
  have CS := hide (fun q W (hq : q.length ≤ 1048576) => rsplit_any q W hq)
  have HLG := hide hlong
  obtain ⟨i0, hi0, hz0, hz1, hz2⟩ := sinfo
  obtain ⟨b, off, cap, rfl, hb, hr, _, _⟩ := seq_row hn (by intro h0; have := T.at'; rw [h0] at this; simp at this)
  have HR := hide (fun W (hW : Below w.heap.size w W) => hr.kept hW hb)
  clear hn T hr hlong
  go_enter Tryd.func26, Tryd.ntmps26
  go_wp2_with fail
  refine (unhide CF _ (allocB _ _)).mono ?_
  rintro e w1 ⟨rfl, hb1⟩
  have c1 : w1.cell? ⟨w.heap.size, 1, none⟩ = some (.slice (some ⟨b, off, none⟩) ns.length cap) := by rw [hb1.cell (p := ⟨w.heap.size, 1, none⟩) (by simp)]; simp
  have HB := hide (nbox_then hb1)
  have hsz1 := (unhide HB).size
  clear hb1 CF
  go_wp2_with fail
  go_loopg [6, 19] ns.length (fun kx s8 s26 wr => ∃ k : Nat, s26 = .int .i64 k ∧ k ≤ ns.length ∧ ns.length - k ≤ kx ∧ Hid (OwnS wr w.heap.size s8 (kidsP (ns.take k) p)) ∧ Hid (Below w.heap.size w wr))
  case atStart => exact ⟨0, rfl, Nat.zero_le _, Nat.le_refl _, hide (.inl ⟨rfl, rfl⟩), HB⟩
  case round =>
    obtain ⟨k, rfl, hk, hg, hO, hB⟩ := hrel
    by_cases hlt : k < ns.length
    · obtain ⟨x, hx⟩ : ∃ x, ns[k]? = some x := ⟨_, List.getElem?_eq_getElem hlt⟩
      have q := unhide HR wr (unhide hB)
      have d0 := q.n0 hx
      have d1 := q.n1 hx
      have d2 := q.n2 hx
      have d3 := q.n3 hx
      have d4 := q.n4 hx
      have d5 := q.n5 hx
      have d6 := q.n6 hx
      have d7 := q.n7 hx
      have d8 := q.n8 hx
      have hbw : b < wr.heap.size := Nat.lt_of_lt_of_le hb (unhide hB).size
      have HT := hide (kidsP_take hx p)
      have hln : (kidsP (ns.take k) p).length ≤ 400 := by
        rw [kidsP_len]
        have h1 : kidsN (ns.take k) p ≤ (ns.take k).length := List.countP_le_length
        rw [List.length_take] at h1
        omega
      obtain ⟨va, vc, rfl, _⟩ := (unhide hO).slice
      obtain ⟨P, hP⟩ : ∃ P, kidsP (ns.take k) p = P := ⟨_, rfl⟩
      rw [hP] at hO hln HT
      rw [hP]
      have hxl := unhide HLG x (List.mem_of_getElem? hx)
      clear q hx hP
      go_wp2_with fail
      refine (unhide CS x.p _ hxl).mono ?_
      rintro e w2 ⟨rfl, hb2⟩
      have hB2 := hide (nnext (unhide hB) (nbox_then hb2))
      have hO2 := hide ((unhide hO).next (nbox_then hb2))
      clear hb2 d0 d1 d2 d3 d4 d5 d6 d7 d8
      by_cases hs : dirOf x.p = p
      · have HS := hide hs
        have hE0 : splE x.p = 0 := by
          cases hg' : goodB x.p with
          | false => exact absurd (hs.symm.trans (dirOf_bad hg')) hpn
          | true =>
            by_cases hr' : x.p = [47]
            · exact absurd (hs.symm.trans (by rw [hr', dirOf_root])) hpn
            · exact splE_ok hg' hr'
        rw [hE0]
        clear hE0
        obtain ⟨D, hD⟩ : ∃ D, dirOf x.p = D := ⟨_, rfl⟩
        rw [hD] at HT HS hs
        rw [hD]
        subst hs
        clear hD HS
        go_wp2_with (at_builtin; refine wpList_append_own _ rfl _ _ 28 rfl w.heap.size 9 i0 _ 1 16 Tryd.underlying28 hi0 hz0 hz1 hz2 rfl (by decide) _ P.length (cellsL P) rfl (((unhide hO2).next (allocB _ _)).row) ⟨w2.heap.size, 0, none⟩ 1 1 [.string ⟨(stepOf x.p).toArray⟩] rfl (by rfl) ?qc2 (by intro u hu; simp at hu; subst hu; rfl) ?qc4 ?qc5 ?qc6 ?_)
        case qc2 =>
          intro j u hj
          exact one_news (one_newS w2 (stepOf x.p)) j u hj
        case qc4 => simp only [maxLen]; omega
        case qc5 => omega
        case qc6 => have := (unhide hB2).size; simp; omega
        intro v' w3 hown hgrow _
        have O1 : OwnS w3 w.heap.size v' (P ++ [stepOf x.p]) := OwnS.of_row (by rw [List.length_append, cellsL_snoc]; exact hown)
        have B1 : Below w.heap.size w w3 := (nnext (unhide hB2) (allocB _ _)).grown hgrow (nnext (unhide hB2) (allocB _ _)).size (fun j hj => by
          rcases unhide hO2 with ⟨e, _⟩ | ⟨q, c, e, hq, _⟩
          · rw [e] at hj; cases hj
          · rw [e] at hj; cases hj; exact hq)
        have HO1 := hide O1
        have HB1 := hide B1
        obtain ⟨wa, wc, rfl, _⟩ := O1.slice
        clear O1 B1 hown hgrow
        go_wp2_with fail
        go_roundg (ns.length - (k + 1))
        case measure => omega
        case rel => exact ⟨k + 1, rfl, by omega, Nat.le_refl _, (by rw [unhide HT, if_pos (by trivial)]; exact HO1), HB1⟩
      · have hsb : (dirOf x.p == p) = false := by simpa using hs
        have HS := hide hs
        clear hs
        by_cases hE0 : splE x.p = 0
        · have hEb : (splE x.p == 0) = true := by simpa using hE0
          rw [hE0]
          clear hE0 hEb
          go_wp2_with fail
          go_roundg (ns.length - (k + 1))
          case measure => omega
          case rel => exact ⟨k + 1, rfl, by omega, Nat.le_refl _, (by rw [unhide HT, if_neg (unhide HS), List.append_nil]; exact hO2), hB2⟩
        · have hEb : (splE x.p == 0) = false := by simpa using hE0
          clear hE0
          go_wp2_with fail
          go_roundg (ns.length - (k + 1))
          case measure => omega
          case rel => exact ⟨k + 1, rfl, by omega, Nat.le_refl _, (by rw [unhide HT, if_neg (unhide HS), List.append_nil]; exact hO2), hB2⟩
    · obtain rfl : k = ns.length := by omega
      have O1 := unhide hO
      rw [List.take_length] at O1
      have HO1 := hide O1
      obtain ⟨wa, wc, rfl, _⟩ := O1.slice
      clear O1
      go_wp2_with fail
      go_ret2
      exact ⟨_, rfl, unhide HO1, unhide hB⟩

end Go.Proofs.YtkgaoedlnejigaaDoor

namespace Go.Proofs.YtkgaoedlnejigaaDoor
open Go.RowKit

set_option maxRecDepth 20000 in
set_option maxHeartbeats 1000000 in
theorem rline_gap (z : Int) (vn vs : Value) (ns : List Nd) (d m : List UInt8) (w : World) (hn : SeqV w vn ns) (hl : ns.length ≤ 140737488355328) (G : ∀ n ∈ ns, n.p ≠ d) (hE : linE ns d m = 7) (hL : linL ns d m = []) :
    Calls Tryd.prog 9 #[.agg #[.int .i64 z, vn, vs], .string ⟨d.toArray⟩, .string ⟨m.toArray⟩] w fun e w' => ∃ v', e = .returned (.tuple #[v', .int .i64 (linE ns d m)]) ∧ OwnS w' w.heap.size v' (linL ns d m) ∧ Below w.heap.size w w' := by
  rw [hE, hL]
  have CK := hide (fun W (hW : Below w.heap.size w W) => rkids_no z vn vs ns d W (hn.next hW) hl G)
  obtain ⟨na, nc, rfl⟩ := seq_slice hn
  clear hn G hE hL
  go_enter Tryd.func9, Tryd.ntmps9
  go_wp2_with fail
  refine (unhide CK _ (allocB _ _)).mono ?_
  rintro e w1 ⟨rfl, hb1⟩
  have HB := hide (nbox_then hb1)
  clear CK hb1
  go_wp2_with fail
  go_ret2
  exact ⟨_, rfl, .inl ⟨rfl, rfl⟩, unhide HB⟩

set_option maxRecDepth 20000 in
set_option maxHeartbeats 1000000 in
theorem rline_form (z : Int) (vn vs : Value) (ns : List Nd) (d m : List UInt8) (j : Nat) (n : Nd) (w : World) (hn : SeqV w vn ns) (hl : ns.length ≤ 400) (T : At ns d j n) (hlong : ∀ n ∈ ns, n.p.length ≤ 1048576) (hd : d ≠ []) (hml : m.length ≤ 140737488355328) (hm : m ≠ []) (hb : namedB m = false) (hE : linE ns d m = 2) (hL : linL ns d m = []) :
    Calls Tryd.prog 9 #[.agg #[.int .i64 z, vn, vs], .string ⟨d.toArray⟩, .string ⟨m.toArray⟩] w fun e w' => ∃ v', e = .returned (.tuple #[v', .int .i64 (linE ns d m)]) ∧ OwnS w' w.heap.size v' (linL ns d m) ∧ Below w.heap.size w w' := by
  rw [hE, hL]
  have CK := hide (fun W (hW : Below w.heap.size w W) => rkids_at z vn vs ns d j n W (hn.next hW) hl T hlong hd)
  obtain ⟨na, nc, rfl⟩ := seq_slice hn
  have CN := hide (fun W => refNamed_any m W hml)
  rw [hb] at CN
  have hmb : (m == []) = false := by simpa using hm
  clear hn T hE hL hb hm hlong
  go_enter Tryd.func9, Tryd.ntmps9
  go_wp2_with fail
  refine (unhide CK _ (allocB _ _)).mono ?_
  rintro e w1 ⟨vk, rfl, hk1, hb1⟩
  have HB := hide (nbox_then hb1)
  obtain ⟨ka, kc, rfl, _⟩ := hk1.slice
  clear CK hb1 hk1
  go_wp2_with fail
  refine (unhide CN _).mono ?_
  rintro e w2 ⟨rfl, hb2⟩
  have HB2 := hide (nnext (unhide HB) hb2)
  clear hb2
  go_wp2_with fail
  go_ret2
  exact ⟨_, rfl, .inl ⟨rfl, rfl⟩, unhide HB2⟩

theorem nmb_len {m x : List UInt8} (h : x.length ≠ m.length + 10) : nmbB m x = false := by
  rw [nmbB, decide_eq_false h, Bool.and_false, Bool.false_and]
theorem nmb_pre {m x : List UInt8} (h : x.take m.length ≠ m) : nmbB m x = false := by
  have : Lib.hasPrefix x m = false := by
    cases hp : Lib.hasPrefix x m with
    | false => rfl
    | true =>
      have e := hasPrefix_drop hp
      exact absurd (by rw [e, List.take_append_of_le_length (Nat.le_refl _), List.take_length]) h
  rw [nmbB, this, Bool.false_and, Bool.false_and]
theorem nmb_dig {m x : List UInt8} (hl : x.length = m.length + 10) (h : x.take m.length = m) : nmbB m x = (x.drop m.length).all digB := by
  have hp : Lib.hasPrefix x m = true := by
    unfold Lib.hasPrefix
    rw [List.isPrefixOf_iff_prefix]
    exact ⟨x.drop m.length, by conv => rhs; rw [← List.take_append_drop m.length x, h]⟩
  rw [nmbB, hp, decide_eq_true hl, Bool.true_and, Bool.true_and]

set_option maxRecDepth 20000 in
set_option maxHeartbeats 4000000 in
theorem rline_named (z : Int) (vn vs : Value) (ns : List Nd) (d m : List UInt8) (j : Nat) (n : Nd) (w : World) (hn : SeqV w vn ns) (hl : ns.length ≤ 400) (T : At ns d j n) (hlong : ∀ n ∈ ns, n.p.length ≤ 1048576) (hd : d ≠ []) (hb : namedB m = true) (hE : linE ns d m = 0) (hL : linL ns d m = (kidsP ns d).filter (nmbB m)) :
    Calls Tryd.prog 9 #[.agg #[.int .i64 z, vn, vs], .string ⟨d.toArray⟩, .string ⟨m.toArray⟩] w fun e w' => ∃ v', e = .returned (.tuple #[v', .int .i64 (linE ns d m)]) ∧ OwnS w' w.heap.size v' (linL ns d m) ∧ Below w.heap.size w w' := by
  rw [hE, hL]
  have CK := hide (fun W (hW : Below w.heap.size w W) => rkids_at z vn vs ns d j n W (hn.next hW) hl T hlong hd)
  have hkl : (kidsP ns d).length ≤ 400 := by rw [kidsP_len]; exact Nat.le_trans List.countP_le_length hl
  have hm40 : m.length ≤ 40 := by simp only [namedB, Bool.and_eq_true, decide_eq_true_eq] at hb; exact hb.1.2
  have CN := hide (fun W => refNamed_any m W (by omega))
  rw [hb] at CN
  have hmb : (m == []) = false := by
    cases m with
    | nil => exact absurd hb (by decide)
    | cons a r => rfl
  clear hb
  have hzm : (ByteArray.mk m.toArray).size = m.length := Lib.size_eq ⟨m.toArray⟩
  obtain ⟨na, nc, rfl⟩ := seq_slice hn
  obtain ⟨K, hK⟩ : ∃ K, kidsP ns d = K := ⟨_, rfl⟩
  rw [hK] at CK hkl ⊢
  obtain ⟨i0, hi0, hz0, hz1, hz2⟩ := sinfo
  clear hn T hE hL hlong hK
  go_enter Tryd.func9, Tryd.ntmps9
  go_wp2_with fail
  refine (unhide CK _ (allocB _ _)).mono ?_
  rintro e w1 ⟨vk, rfl, hk1, hb1⟩
  have HB := hide (nbox_then hb1)
  have HR := hide (srow hk1.seq)
  obtain ⟨ka, kc, rfl, _⟩ := hk1.slice
  clear CK hb1 hk1
  go_wp2_with fail
  refine (unhide CN _).mono ?_
  rintro e w2 ⟨rfl, hb2⟩
  have HB2 := hide (nnext (unhide HB) hb2)
  have HR2 := hide (fun W (hW : Below w2.heap.size w2 W) => unhide HR W (nnext hb2 hW))
  clear hb2 HB HR CN
  go_wp2_with fail
  go_loopg [10, 34] K.length (fun kx s10 s34 wr => ∃ k : Nat, s34 = .int .i64 k ∧ k ≤ K.length ∧ K.length - k ≤ kx ∧ Hid (OwnS wr w2.heap.size s10 ((K.take k).filter (nmbB m))) ∧ Hid (Below w2.heap.size w2 wr))
  case atStart => exact ⟨0, rfl, Nat.zero_le _, Nat.le_refl _, hide (.inl ⟨rfl, rfl⟩), hide (Below.refl _ _)⟩
  case round =>
    obtain ⟨k, rfl, hk, hg, hO, hB⟩ := hrel
    by_cases hlt : k < K.length
    · obtain ⟨x, hx⟩ : ∃ x, K[k]? = some x := ⟨_, List.getElem?_eq_getElem hlt⟩
      obtain ⟨b, off, cap, he, hb, q⟩ := unhide HR2 wr (unhide hB) k x hx
      simp only [Value.slice.injEq] at he
      obtain ⟨rfl, _, rfl⟩ := he
      have d0 := q.s0 hx
      have hkk : (k : Int) < (K.length : Int) := by omega
      have hzx : (ByteArray.mk x.toArray).size = x.length := Lib.size_eq ⟨x.toArray⟩
      have HT : Hid ((K.take (k + 1)).filter (nmbB m) = (K.take k).filter (nmbB m) ++ (if nmbB m x = true then [x] else [])) := hide (by
        rw [snoc_take hx, List.filter_append]
        cases hnx : nmbB m x <;> simp [hnx])
      have hln : ((K.take k).filter (nmbB m)).length ≤ 400 := by
        refine Nat.le_trans (List.length_filter_le _ _) ?_
        rw [List.length_take]; omega
      obtain ⟨va, vc, rfl, _⟩ := (unhide hO).slice
      obtain ⟨P, hP⟩ : ∃ P, (K.take k).filter (nmbB m) = P := ⟨_, rfl⟩
      rw [hP] at hO hln HT
      rw [hP]
      clear q hx hP
      by_cases hxl : x.length = m.length + 10
      · have hxi : ((x.length : Int) == (m.length : Int) + 10) = true := by simp; omega
        have hmx : (m.length : Int) ≤ (x.length : Int) := by omega
        by_cases hpr : x.take m.length = m
        · rw [nmb_dig hxl hpr] at HT
          have hex : (ByteArray.mk x.toArray).extract 0 m.length = ⟨m.toArray⟩ := by rw [cut_front, hpr]
          have HXL := hide hxl
          clear hpr
          go_wp2_with fail
          go_loopg [14, 15] x.length (fun kx s14 s15 wi => ∃ (i : Nat) (o : Bool), s14 = .bool o ∧ s15 = .int .i64 i ∧ m.length ≤ i ∧ i ≤ x.length ∧ x.length - i ≤ kx ∧ Hid (((x.drop m.length).take (i - m.length)).all digB = o) ∧ Hid (wi = wr))
          case atStart => exact ⟨m.length, true, rfl, rfl, Nat.le_refl _, by omega, by omega, hide (by simp), hide rfl⟩
          case round =>
            obtain ⟨i, o, rfl, rfl, hmi, hix, hgi, hDo, hwr⟩ := hrel
            have ewr := unhide hwr
            subst ewr
            clear hwr
            cases o with
            | false =>
              have hD : (x.drop m.length).all digB = false := by
                rw [← List.take_append_drop (i - m.length) (x.drop m.length), List.all_append, unhide hDo, Bool.false_and]
              rw [hD, if_neg (by decide), List.append_nil] at HT
              clear hD
              go_wp2_with fail
              go_roundg (K.length - (k + 1))
              case measure => omega
              case rel => exact ⟨k + 1, rfl, by omega, Nat.le_refl _, (by rw [unhide HT]; exact hO), hB⟩
            | true =>
              by_cases hil : i < x.length
              · have hii : (i : Int) < (x.length : Int) := by omega
                have hxs : i < (ByteArray.mk x.toArray).size := hil
                have HN : Hid (((x.drop m.length).take (i + 1 - m.length)).all digB = digB x[i]) := hide (by
                  have hlt2 : i - m.length < (x.drop m.length).length := by rw [List.length_drop]; omega
                  rw [show i + 1 - m.length = (i - m.length) + 1 by omega, List.take_succ_eq_append_getElem hlt2, List.all_append, unhide hDo, Bool.true_and]
                  simp only [List.all_cons, List.all_nil, Bool.and_true, List.getElem_drop]
                  congr 2
                  omega)
                have hgx : (ByteArray.mk x.toArray)[i] = x[i] := rfl
                obtain ⟨c, hc⟩ : ∃ c, x[i] = c := ⟨_, rfl⟩
                rw [hc] at HN hgx
                have hcn := c.toNat_lt
                unfold digB at HN
                rcases (show c.toNat < 48 ∨ (48 ≤ c.toNat ∧ c.toNat ≤ 57) ∨ 57 < c.toNat by omega) with h1 | ⟨h1, h2⟩ | h1
                · have h1i : ¬ (48 : Int) ≤ (c.toNat : Int) := by omega
                  rw [decide_eq_false (show ¬ 48 ≤ c.toNat by omega), Bool.false_and] at HN
                  clear hc
                  go_wp2_with fail
                  go_roundg (x.length - (i + 1))
                  case measure => omega
                  case rel => exact ⟨i + 1, false, rfl, rfl, by omega, by omega, Nat.le_refl _, HN, hide rfl⟩
                · have h1i : (48 : Int) ≤ (c.toNat : Int) := by omega
                  have h2i : (c.toNat : Int) ≤ 57 := by omega
                  rw [decide_eq_true h1, decide_eq_true h2, Bool.true_and] at HN
                  clear hc
                  go_wp2_with fail
                  go_roundg (x.length - (i + 1))
                  case measure => omega
                  case rel => exact ⟨i + 1, true, rfl, rfl, by omega, by omega, Nat.le_refl _, HN, hide rfl⟩
                · have h1i : (48 : Int) ≤ (c.toNat : Int) := by omega
                  have h2i : ¬ (c.toNat : Int) ≤ 57 := by omega
                  rw [decide_eq_false (show ¬ c.toNat ≤ 57 by omega), Bool.and_false] at HN
                  clear hc
                  go_wp2_with fail
                  go_roundg (x.length - (i + 1))
                  case measure => omega
                  case rel => exact ⟨i + 1, false, rfl, rfl, by omega, by omega, Nat.le_refl _, HN, hide rfl⟩
              · obtain rfl : i = x.length := by omega
                have hD : (x.drop m.length).all digB = true := by
                  have := unhide hDo
                  rwa [List.take_of_length_le (by rw [List.length_drop]; exact Nat.le_refl _)] at this
                rw [hD, if_pos rfl] at HT
                have hii : ¬ (x.length : Int) < (x.length : Int) := by omega
                have HBG : Hid (∀ w3, (wr.alloc (.cells #[.string ⟨x.toArray⟩] 9)).grownBy w3 ((Value.slice va P.length vc).ownBlock) → Below w2.heap.size w2 w3) := hide (fun w3 hg => (nnext (unhide hB) (allocB _ _)).grown hg (nnext (unhide hB) (allocB _ _)).size (fun jj hj => by
                  rcases unhide hO with ⟨e, _⟩ | ⟨q, c, e, hq, _⟩
                  · rw [e] at hj; cases hj
                  · rw [e] at hj; cases hj; exact hq))
                clear hD
                go_wp2_with (at_builtin; refine wpList_append_own _ rfl _ _ 28 rfl w2.heap.size 9 i0 _ 1 16 Tryd.underlying28 hi0 hz0 hz1 hz2 rfl (by decide) _ P.length (cellsL P) rfl (((unhide hO).next (allocB _ _)).row) ⟨wr.heap.size, 0, none⟩ 1 1 [.string ⟨x.toArray⟩] rfl (by rfl) ?qc2 (by intro u hu; simp at hu; subst hu; rfl) ?qc4 ?qc5 ?qc6 ?_)
                case qc4 => simp only [maxLen]; omega
                case qc5 => omega
                case qc6 => have := (unhide hB).size; simp; omega
                intro v' w3 hown hgrow _
                have O1 : OwnS w3 w2.heap.size v' (P ++ [x]) := OwnS.of_row (by rw [List.length_append, cellsL_snoc]; exact hown)
                have B1 : Below w2.heap.size w2 w3 := unhide HBG w3 hgrow
                have HO1 := hide O1
                have HB1 := hide B1
                obtain ⟨wa, wc, rfl, _⟩ := O1.slice
                clear O1 B1 hown hgrow
                go_wp2_with fail
                go_roundg (K.length - (k + 1))
                case measure => omega
                case rel => exact ⟨k + 1, rfl, by omega, Nat.le_refl _, (by rw [unhide HT]; exact HO1), HB1⟩
        · have hex : (ByteArray.mk x.toArray).extract 0 m.length = ⟨(x.take m.length).toArray⟩ := cut_front x m.length
          have hexb : (x.take m.length == m) = false := by simpa using hpr
          rw [nmb_pre hpr, if_neg (by decide), List.append_nil] at HT
          have HXL := hide hxl
          clear hpr hxl
          go_wp2_with fail
          go_loopg [14, 15] 0 (fun _ s14 s15 wi => s14 = .bool false ∧ s15 = .int .i64 m.length ∧ Hid (wi = wr))
          case atStart => exact ⟨rfl, rfl, hide rfl⟩
          case round =>
            obtain ⟨rfl, rfl, hwr⟩ := hrel
            have ewr := unhide hwr
            subst ewr
            clear hwr
            go_wp2_with fail
            go_roundg (K.length - (k + 1))
            case measure => omega
            case rel => exact ⟨k + 1, rfl, by omega, Nat.le_refl _, (by rw [unhide HT]; exact hO), hB⟩
      · have hxi : ((x.length : Int) == (m.length : Int) + 10) = false := beq_eq_false_iff_ne.2 (by omega)
        rw [nmb_len hxl, if_neg (by decide), List.append_nil] at HT
        clear hxl
        go_wp2_with fail
        go_loopg [14, 15] 0 (fun _ s14 s15 wi => s14 = .bool false ∧ s15 = .int .i64 m.length ∧ Hid (wi = wr))
        case atStart => exact ⟨rfl, rfl, hide rfl⟩
        case round =>
          obtain ⟨rfl, rfl, hwr⟩ := hrel
          have ewr := unhide hwr
          subst ewr
          clear hwr
          go_wp2_with fail
          go_roundg (K.length - (k + 1))
          case measure => omega
          case rel => exact ⟨k + 1, rfl, by omega, Nat.le_refl _, (by rw [unhide HT]; exact hO), hB⟩
    · obtain rfl : k = K.length := by omega
      have O1 := unhide hO
      rw [List.take_length] at O1
      have HO1 := hide O1
      obtain ⟨wa, wc, rfl, _⟩ := O1.slice
      clear O1
      go_wp2_with fail
      go_ret2
      exact ⟨_, rfl, (unhide HO1).lower (unhide HB2).size, nnext (unhide HB2) (unhide hB)⟩

set_option maxRecDepth 20000 in
set_option maxHeartbeats 4000000 in
theorem rline_nil (z : Int) (vn vs : Value) (ns : List Nd) (d m : List UInt8) (j : Nat) (n : Nd) (w : World) (hn : SeqV w vn ns) (hl : ns.length ≤ 400) (T : At ns d j n) (hlong : ∀ n ∈ ns, n.p.length ≤ 1048576) (hd : d ≠ []) (hmn : m = []) (hE : linE ns d m = 0) (hL : linL ns d m = (kidsP ns d).filter (nmbB m)) :
    Calls Tryd.prog 9 #[.agg #[.int .i64 z, vn, vs], .string ⟨d.toArray⟩, .string ⟨m.toArray⟩] w fun e w' => ∃ v', e = .returned (.tuple #[v', .int .i64 (linE ns d m)]) ∧ OwnS w' w.heap.size v' (linL ns d m) ∧ Below w.heap.size w w' := by
  rw [hE, hL]
  have CK := hide (fun W (hW : Below w.heap.size w W) => rkids_at z vn vs ns d j n W (hn.next hW) hl T hlong hd)
  have hkl : (kidsP ns d).length ≤ 400 := by rw [kidsP_len]; exact Nat.le_trans List.countP_le_length hl
  have hm40 : m.length ≤ 40 := by rw [hmn]; simp
  have hmb : (m == []) = true := by rw [hmn]; rfl
  clear hmn
  have hzm : (ByteArray.mk m.toArray).size = m.length := Lib.size_eq ⟨m.toArray⟩
  obtain ⟨na, nc, rfl⟩ := seq_slice hn
  obtain ⟨K, hK⟩ : ∃ K, kidsP ns d = K := ⟨_, rfl⟩
  rw [hK] at CK hkl ⊢
  obtain ⟨i0, hi0, hz0, hz1, hz2⟩ := sinfo
  clear hn T hE hL hlong hK
  go_enter Tryd.func9, Tryd.ntmps9
  go_wp2_with fail
  refine (unhide CK _ (allocB _ _)).mono ?_
  rintro e w1 ⟨vk, rfl, hk1, hb1⟩
  have HB := hide (nbox_then hb1)
  have HR := hide (srow hk1.seq)
  obtain ⟨ka, kc, rfl, _⟩ := hk1.slice
  clear CK hb1 hk1
  have HB2 := hide (unhide HB)
  have HR2 := hide (unhide HR)
  obtain ⟨w2, hw2⟩ : ∃ w2, w1 = w2 := ⟨_, rfl⟩
  subst hw2
  clear HB HR
  go_wp2_with fail
  go_loopg [10, 34] K.length (fun kx s10 s34 wr => ∃ k : Nat, s34 = .int .i64 k ∧ k ≤ K.length ∧ K.length - k ≤ kx ∧ Hid (OwnS wr w1.heap.size s10 ((K.take k).filter (nmbB m))) ∧ Hid (Below w1.heap.size w1 wr))
  case atStart => exact ⟨0, rfl, Nat.zero_le _, Nat.le_refl _, hide (.inl ⟨rfl, rfl⟩), hide (Below.refl _ _)⟩
  case round =>
    obtain ⟨k, rfl, hk, hg, hO, hB⟩ := hrel
    by_cases hlt : k < K.length
    · obtain ⟨x, hx⟩ : ∃ x, K[k]? = some x := ⟨_, List.getElem?_eq_getElem hlt⟩
      obtain ⟨b, off, cap, he, hb, q⟩ := unhide HR2 wr (unhide hB) k x hx
      simp only [Value.slice.injEq] at he
      obtain ⟨rfl, _, rfl⟩ := he
      have d0 := q.s0 hx
      have hkk : (k : Int) < (K.length : Int) := by omega
      have hzx : (ByteArray.mk x.toArray).size = x.length := Lib.size_eq ⟨x.toArray⟩
      have HT : Hid ((K.take (k + 1)).filter (nmbB m) = (K.take k).filter (nmbB m) ++ (if nmbB m x = true then [x] else [])) := hide (by
        rw [snoc_take hx, List.filter_append]
        cases hnx : nmbB m x <;> simp [hnx])
      have hln : ((K.take k).filter (nmbB m)).length ≤ 400 := by
        refine Nat.le_trans (List.length_filter_le _ _) ?_
        rw [List.length_take]; omega
      obtain ⟨va, vc, rfl, _⟩ := (unhide hO).slice
      obtain ⟨P, hP⟩ : ∃ P, (K.take k).filter (nmbB m) = P := ⟨_, rfl⟩
      rw [hP] at hO hln HT
      rw [hP]
      clear q hx hP
      by_cases hxl : x.length = m.length + 10
      · have hxi : ((x.length : Int) == (m.length : Int) + 10) = true := by simp; omega
        have hmx : (m.length : Int) ≤ (x.length : Int) := by omega
        by_cases hpr : x.take m.length = m
        · rw [nmb_dig hxl hpr] at HT
          have hex : (ByteArray.mk x.toArray).extract 0 m.length = ⟨m.toArray⟩ := by rw [cut_front, hpr]
          have HXL := hide hxl
          clear hpr
          go_wp2_with fail
          go_loopg [14, 15] x.length (fun kx s14 s15 wi => ∃ (i : Nat) (o : Bool), s14 = .bool o ∧ s15 = .int .i64 i ∧ m.length ≤ i ∧ i ≤ x.length ∧ x.length - i ≤ kx ∧ Hid (((x.drop m.length).take (i - m.length)).all digB = o) ∧ Hid (wi = wr))
          case atStart => exact ⟨m.length, true, rfl, rfl, Nat.le_refl _, by omega, by omega, hide (by simp), hide rfl⟩
          case round =>
            obtain ⟨i, o, rfl, rfl, hmi, hix, hgi, hDo, hwr⟩ := hrel
            have ewr := unhide hwr
            subst ewr
            clear hwr
            cases o with
            | false =>
              have hD : (x.drop m.length).all digB = false := by
                rw [← List.take_append_drop (i - m.length) (x.drop m.length), List.all_append, unhide hDo, Bool.false_and]
              rw [hD, if_neg (by decide), List.append_nil] at HT
              clear hD
              go_wp2_with fail
              go_roundg (K.length - (k + 1))
              case measure => omega
              case rel => exact ⟨k + 1, rfl, by omega, Nat.le_refl _, (by rw [unhide HT]; exact hO), hB⟩
            | true =>
              by_cases hil : i < x.length
              · have hii : (i : Int) < (x.length : Int) := by omega
                have hxs : i < (ByteArray.mk x.toArray).size := hil
                have HN : Hid (((x.drop m.length).take (i + 1 - m.length)).all digB = digB x[i]) := hide (by
                  have hlt2 : i - m.length < (x.drop m.length).length := by rw [List.length_drop]; omega
                  rw [show i + 1 - m.length = (i - m.length) + 1 by omega, List.take_succ_eq_append_getElem hlt2, List.all_append, unhide hDo, Bool.true_and]
                  simp only [List.all_cons, List.all_nil, Bool.and_true, List.getElem_drop]
                  congr 2
                  omega)
                have hgx : (ByteArray.mk x.toArray)[i] = x[i] := rfl
                obtain ⟨c, hc⟩ : ∃ c, x[i] = c := ⟨_, rfl⟩
                rw [hc] at HN hgx
                have hcn := c.toNat_lt
                unfold digB at HN
                rcases (show c.toNat < 48 ∨ (48 ≤ c.toNat ∧ c.toNat ≤ 57) ∨ 57 < c.toNat by omega) with h1 | ⟨h1, h2⟩ | h1
                · have h1i : ¬ (48 : Int) ≤ (c.toNat : Int) := by omega
                  rw [decide_eq_false (show ¬ 48 ≤ c.toNat by omega), Bool.false_and] at HN
                  clear hc
                  go_wp2_with fail
                  go_roundg (x.length - (i + 1))
                  case measure => omega
                  case rel => exact ⟨i + 1, false, rfl, rfl, by omega, by omega, Nat.le_refl _, HN, hide rfl⟩
                · have h1i : (48 : Int) ≤ (c.toNat : Int) := by omega
                  have h2i : (c.toNat : Int) ≤ 57 := by omega
                  rw [decide_eq_true h1, decide_eq_true h2, Bool.true_and] at HN
                  clear hc
                  go_wp2_with fail
                  go_roundg (x.length - (i + 1))
                  case measure => omega
                  case rel => exact ⟨i + 1, true, rfl, rfl, by omega, by omega, Nat.le_refl _, HN, hide rfl⟩
                · have h1i : (48 : Int) ≤ (c.toNat : Int) := by omega
                  have h2i : ¬ (c.toNat : Int) ≤ 57 := by omega
                  rw [decide_eq_false (show ¬ c.toNat ≤ 57 by omega), Bool.and_false] at HN
                  clear hc
                  go_wp2_with fail
                  go_roundg (x.length - (i + 1))
                  case measure => omega
                  case rel => exact ⟨i + 1, false, rfl, rfl, by omega, by omega, Nat.le_refl _, HN, hide rfl⟩
              · obtain rfl : i = x.length := by omega
                have hD : (x.drop m.length).all digB = true := by
                  have := unhide hDo
                  rwa [List.take_of_length_le (by rw [List.length_drop]; exact Nat.le_refl _)] at this
                rw [hD, if_pos rfl] at HT
                have hii : ¬ (x.length : Int) < (x.length : Int) := by omega
                have HBG : Hid (∀ w3, (wr.alloc (.cells #[.string ⟨x.toArray⟩] 9)).grownBy w3 ((Value.slice va P.length vc).ownBlock) → Below w1.heap.size w1 w3) := hide (fun w3 hg => (nnext (unhide hB) (allocB _ _)).grown hg (nnext (unhide hB) (allocB _ _)).size (fun jj hj => by
                  rcases unhide hO with ⟨e, _⟩ | ⟨q, c, e, hq, _⟩
                  · rw [e] at hj; cases hj
                  · rw [e] at hj; cases hj; exact hq))
                clear hD
                go_wp2_with (at_builtin; refine wpList_append_own _ rfl _ _ 28 rfl w1.heap.size 9 i0 _ 1 16 Tryd.underlying28 hi0 hz0 hz1 hz2 rfl (by decide) _ P.length (cellsL P) rfl (((unhide hO).next (allocB _ _)).row) ⟨wr.heap.size, 0, none⟩ 1 1 [.string ⟨x.toArray⟩] rfl (by rfl) ?qc2 (by intro u hu; simp at hu; subst hu; rfl) ?qc4 ?qc5 ?qc6 ?_)
                case qc4 => simp only [maxLen]; omega
                case qc5 => omega
                case qc6 => have := (unhide hB).size; simp; omega
                intro v' w3 hown hgrow _
                have O1 : OwnS w3 w1.heap.size v' (P ++ [x]) := OwnS.of_row (by rw [List.length_append, cellsL_snoc]; exact hown)
                have B1 : Below w1.heap.size w1 w3 := unhide HBG w3 hgrow
                have HO1 := hide O1
                have HB1 := hide B1
                obtain ⟨wa, wc, rfl, _⟩ := O1.slice
                clear O1 B1 hown hgrow
                go_wp2_with fail
                go_roundg (K.length - (k + 1))
                case measure => omega
                case rel => exact ⟨k + 1, rfl, by omega, Nat.le_refl _, (by rw [unhide HT]; exact HO1), HB1⟩
        · have hex : (ByteArray.mk x.toArray).extract 0 m.length = ⟨(x.take m.length).toArray⟩ := cut_front x m.length
          have hexb : (x.take m.length == m) = false := by simpa using hpr
          rw [nmb_pre hpr, if_neg (by decide), List.append_nil] at HT
          have HXL := hide hxl
          clear hpr hxl
          go_wp2_with fail
          go_loopg [14, 15] 0 (fun _ s14 s15 wi => s14 = .bool false ∧ s15 = .int .i64 m.length ∧ Hid (wi = wr))
          case atStart => exact ⟨rfl, rfl, hide rfl⟩
          case round =>
            obtain ⟨rfl, rfl, hwr⟩ := hrel
            have ewr := unhide hwr
            subst ewr
            clear hwr
            go_wp2_with fail
            go_roundg (K.length - (k + 1))
            case measure => omega
            case rel => exact ⟨k + 1, rfl, by omega, Nat.le_refl _, (by rw [unhide HT]; exact hO), hB⟩
      · have hxi : ((x.length : Int) == (m.length : Int) + 10) = false := beq_eq_false_iff_ne.2 (by omega)
        rw [nmb_len hxl, if_neg (by decide), List.append_nil] at HT
        clear hxl
        go_wp2_with fail
        go_loopg [14, 15] 0 (fun _ s14 s15 wi => s14 = .bool false ∧ s15 = .int .i64 m.length ∧ Hid (wi = wr))
        case atStart => exact ⟨rfl, rfl, hide rfl⟩
        case round =>
          obtain ⟨rfl, rfl, hwr⟩ := hrel
          have ewr := unhide hwr
          subst ewr
          clear hwr
          go_wp2_with fail
          go_roundg (K.length - (k + 1))
          case measure => omega
          case rel => exact ⟨k + 1, rfl, by omega, Nat.le_refl _, (by rw [unhide HT]; exact hO), hB⟩
    · obtain rfl : k = K.length := by omega
      have O1 := unhide hO
      rw [List.take_length] at O1
      have HO1 := hide O1
      obtain ⟨wa, wc, rfl, _⟩ := O1.slice
      clear O1
      go_wp2_with fail
      go_ret2
      exact ⟨_, rfl, (unhide HO1).lower (unhide HB2).size, nnext (unhide HB2) (unhide hB)⟩

theorem rline_any (z : Int) (vn vs : Value) (ns : List Nd) (d m : List UInt8) (w : World) (hn : SeqV w vn ns) (ha : NAsc ns) (hl : ns.length ≤ 400) (hlong : ∀ n ∈ ns, n.p.length ≤ 1048576) (hp : ∀ n ∈ ns, goodB n.p = true) (hml : m.length ≤ 140737488355328) :
    Calls Tryd.prog 9 #[.agg #[.int .i64 z, vn, vs], .string ⟨d.toArray⟩, .string ⟨m.toArray⟩] w fun e w' => ∃ v', e = .returned (.tuple #[v', .int .i64 (linE ns d m)]) ∧ OwnS w' w.heap.size v' (linL ns d m) ∧ Below w.heap.size w w' := by
  rcases nwhere d ns ha with ⟨A, n, B, T⟩ | ⟨A, B, G⟩
  · have hd : d ≠ [] := by
      intro h0
      have := hp n (by rw [T.eq]; simp)
      rw [T.nm, h0] at this
      exact absurd this (by decide)
    by_cases hm : m = []
    · exact rline_nil z vn vs ns d m A.length n w hn hl (at_there T) hlong hd hm (lin_ok T.look (.inl hm)).1 (lin_ok T.look (.inl hm)).2
    · cases hb : namedB m
      · exact rline_form z vn vs ns d m A.length n w hn hl (at_there T) hlong hd hml hm hb (lin_form T.look hm hb).1 (lin_form T.look hm hb).2
      · exact rline_named z vn vs ns d m A.length n w hn hl (at_there T) hlong hd hb (lin_ok T.look (.inr hb)).1 (lin_ok T.look (.inr hb)).2
  · exact rline_gap z vn vs ns d m w hn (by omega) G.no (lin_none m G.look).1 (lin_none m G.look).2
end Go.Proofs.YtkgaoedlnejigaaDoor

namespace Go.Proofs.YtkgaoedlnejigaaDoor
open Go.RowKit

theorem bel_open (d m : List UInt8) : belL d m = openL d ++ m := by
  by_cases h : d = [47]
  · subst h
    rw [belL_root, openL_root]; rfl
  · rw [belL_other h, openL_other h]; simp
theorem step_named {p : List UInt8} (hp : goodB p = true) (hr : p ≠ [47]) : namedB (stepOf p) = true := by
  obtain ⟨a, b, rfl, hb⟩ := good_cut hp
  rw [stepOf_cut hp hr hb]
  obtain ⟨a', b', e, hb', h1, _⟩ := pgood_parts hp hr
  have e1 := lastCut_some b hb a
  rw [e, lastCut_some b' hb' a'] at e1
  simp only [Option.some.injEq, Prod.mk.injEq] at e1
  obtain ⟨rfl, rfl⟩ := e1
  exact h1
theorem lin_join {z : Int} {ns : List Nd} {ss : List Int} (g : GoodN z ns ss) {d m x : List UInt8} (hx : x ∈ linL ns d m) : joinS d x = belL d x ∧ joinE d x = 0 := by
  obtain ⟨_, _, _, hgd, n, hm, hp, _, hdir, hst⟩ := lin_node g hx
  have hgp := (g.ok n hm).path
  have hne : n.p ≠ [47] := by
    intro h0
    rw [h0, dirOf_root] at hdir
    rw [← hdir] at hgd
    exact absurd hgd (by decide)
  have hnx : namedB x = true := by rw [← hst]; exact step_named hgp hne
  have hb : (goodB d && namedB x) = true := by rw [hgd, hnx]; rfl
  have hl : (openL d ++ x).length ≤ 200 := by rw [← bel_open, ← hp]; exact goodB_le hgp
  rw [bel_open]
  exact join_fits hb hl
end Go.Proofs.YtkgaoedlnejigaaDoor
