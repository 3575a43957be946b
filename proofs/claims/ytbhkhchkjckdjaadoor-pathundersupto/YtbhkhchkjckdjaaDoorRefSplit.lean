/-
  What aviaryref.Split, Depth, Under and Join answer, for all texts up to a bound: the walks.
-/
import Derived.Test.YtbhkhchkjckdjaaDoorRefGood
import Derived.Test.YtbhkhchkjckdjaaDoorDepth
import Derived.ChangeAlike
namespace Go.Proofs.YtbhkhchkjckdjaaDoor
open Go.RowKit

def flat (ps : List (List UInt8)) : List UInt8 := ps.flatMap (fun p => 47 :: p)
theorem flat_split : ∀ l : List UInt8, flat (splitL l) = 47 :: l
  | [] => rfl
  | c :: l => by
    have ih := flat_split l
    by_cases hc : c = 47
    · subst hc; rw [splitL_slash]; simp only [flat, List.flatMap_cons] at ih ⊢; rw [ih]; rfl
    · cases hl : splitL l with
      | nil => exact absurd hl (splitL_ne l)
      | cons p ps =>
        rw [splitL_other hc hl]
        rw [hl] at ih
        simp only [flat, List.flatMap_cons, List.cons_append, List.cons.injEq, true_and] at ih ⊢
        exact ih
theorem flat_snoc (ps : List (List UInt8)) (x : List UInt8) : flat (ps ++ [x]) = flat ps ++ ([47] ++ x) := by simp [flat]
theorem flat_take_le (qs : List (List UInt8)) (j : Nat) : (flat (qs.take j)).length ≤ (flat qs).length := by
  have h : flat qs = flat (qs.take j) ++ flat (qs.drop j) := by
    unfold flat
    rw [← List.flatMap_append, List.take_append_drop]
  rw [h]; simp
/-- the pieces of a path: nothing ahead of its first slash, what its parent is made of, its last step -/
theorem path_pieces {a b : List UInt8} (hb : 47 ∉ b) (hg : goodB (a ++ 47 :: b) = true) : ∃ qs, splitL (a ++ 47 :: b) = [] :: (qs ++ [b]) ∧ flat qs = a := by
  rw [splitL_tail a b hb]
  cases a with
  | nil => exact ⟨[], rfl, rfl⟩
  | cons c a =>
    obtain ⟨t, ht⟩ := goodB_slash hg
    simp only [List.cons_append, List.nil_append, List.cons.injEq] at ht
    obtain ⟨rfl, _⟩ := ht
    rw [splitL_slash]
    exact ⟨splitL a, rfl, flat_split a⟩

theorem val_cat (f x : List UInt8) : Value.string ((ByteArray.mk f.toArray) ++ ((ByteArray.mk #[47]) ++ (ByteArray.mk x.toArray))) = .string ⟨(f ++ ([47] ++ x)).toArray⟩ := by
  rw [show (ByteArray.mk #[47]) ++ (ByteArray.mk x.toArray) = ⟨([47] ++ x).toArray⟩ from cat_one [47] x, cat_one]

set_option maxHeartbeats 400000 in
theorem refSplit_bad (l : List UInt8) (w : World) (hl : l.length ≤ 1048576) (hg : goodB l = false) :
    Calls Tryd.prog 14 #[.string ⟨l.toArray⟩] w fun e w' => e = .returned (.tuple #[.string ⟨#[]⟩, .string ⟨#[]⟩, .int .i64 2]) ∧ Below w.heap.size w w' := by
  have Hg := hide hg
  clear hg
  go_enter Tryd.func14, Tryd.ntmps14
  go_wp2_with fail
  refine (refGood_any l _ hl).mono ?_
  rintro e w1 ⟨rfl, hb1⟩
  rw [unhide Hg]
  go_wp2_with fail
  go_ret3
  exact ⟨rfl, hb1⟩

set_option maxHeartbeats 400000 in
theorem refSplit_root (w : World) :
    Calls Tryd.prog 14 #[.string ⟨#[47]⟩] w fun e w' => e = .returned (.tuple #[.string ⟨#[]⟩, .string ⟨#[]⟩, .int .i64 7]) ∧ Below w.heap.size w w' := by
  go_enter Tryd.func14, Tryd.ntmps14
  go_wp2_with fail
  refine (refGood_any [47] _ (by decide)).mono ?_
  rintro e w1 ⟨rfl, hb1⟩
  rw [goodB_root]
  go_wp2_with fail
  go_ret3
  exact ⟨rfl, hb1⟩

set_option maxRecDepth 100000 in
set_option maxHeartbeats 1000000 in
theorem refSplit_main (a b : List UInt8) (w : World) (hb : 47 ∉ b) (hg : goodB (a ++ 47 :: b) = true) (hne : a ++ 47 :: b ≠ [47]) :
    Calls Tryd.prog 14 #[.string ⟨(a ++ 47 :: b).toArray⟩] w fun e w' =>
      e = .returned (.tuple #[.string ⟨(dirL a).toArray⟩, .string ⟨b.toArray⟩, .int .i64 0]) ∧ Below w.heap.size w w' := by
  obtain ⟨qs, hsp, hfl⟩ := path_pieces hb hg
  have hl : (a ++ 47 :: b).length ≤ 200 := goodB_le hg
  have hal : (flat qs).length ≤ 200 := by rw [hfl]; simp at hl; omega
  have hne1 : (a ++ 47 :: b == [47]) = false := by simpa using hne
  have hst : ∀ W : World, Calls Tryd.prog 27 #[.string ⟨(a ++ 47 :: b).toArray⟩] W fun e w' =>
      ∃ v, e = .returned v ∧ w'.ownsRow W.heap.size 9 1 v (qs.length + 1 + 1) (([] :: (qs ++ [b])).map strV) ∧ Below W.heap.size W w' := by
    intro W
    have h := refSteps_any (a ++ 47 :: b) W (by omega)
    rw [hsp, show ([] :: (qs ++ [b])).length = qs.length + 1 + 1 from by simp] at h
    exact h
  have Hst := hide hst
  have Hg := hide hg
  have Hfl := hide hfl
  have hql : qs.length ≤ 200 := by
    have h := splitL_count' (a ++ 47 :: b)
    rw [hsp] at h
    simp at h hl
    omega
  clear hst hg hne hb hsp hfl
  generalize a ++ 47 :: b = l at *
  go_enter Tryd.func14, Tryd.ntmps14
  go_wp2_with fail
  refine (refGood_any l _ (by omega)).mono ?_
  rintro e w1 ⟨rfl, hb1⟩
  rw [unhide Hg]
  go_wp2_with fail
  refine (unhide Hst _).mono ?_
  clear Hst
  rintro e w2 ⟨v, rfl, hown, hb2⟩
  replace hb2 := below_next hb1 hb2
  clear hb1
  obtain ⟨g, cap, rfl, hcap, hcm, hgl, hgb, hcell⟩ := row_form hown (by omega)
  have Hcell : Hid (∀ j (hj : j < qs.length), w2.cell? ⟨g, 1 + j, none⟩ = some (.string ⟨qs[j].toArray⟩)) := hide (fun j hj => by
    rw [hcell (1 + j) (by simp; omega)]
    simp [Nat.add_comm 1 j, List.getElem_append_left hj])
  have hlast : w2.cell? ⟨g, qs.length + 1, none⟩ = some (.string ⟨b.toArray⟩) := by
    rw [hcell (qs.length + 1) (by simp)]; simp
  clear hown hcell
  unfold maxLen at hcm
  have hq0 : (0 : Int) ≤ (qs.length : Int) := by omega
  have hq1 : (qs.length : Int) ≤ 200 := by omega
  have hq2 : (qs.length : Int) + 1 < (qs.length : Int) + 1 + 1 := by omega
  go_wp2_with fail
  go_loop [7, 24] (fun t i => ∃ j : Nat, j ≤ qs.length ∧ i = .int .i64 j ∧ t = .string ⟨(flat (qs.take j)).toArray⟩) (fun _ i => qs.length - (intOf i).toNat)
  case atStart => exact ⟨0, Nat.zero_le _, rfl, rfl⟩
  case round =>
    obtain ⟨j, hj, rfl, rfl⟩ := hrel
    have hft := flat_take_le qs j
    by_cases hjl : j < qs.length
    · have hc := unhide Hcell j hjl
      have Htk : Hid (flat (qs.take (j + 1)) = flat (qs.take j) ++ ([47] ++ qs[j])) := hide (by rw [List.take_succ_eq_append_getElem hjl, flat_snoc])
      have hxl : qs[j].length ≤ 200 := by
        have h := flat_take_le qs (j + 1)
        rw [unhide Htk] at h
        simp at h
        omega
      generalize qs[j] = x at hc Htk hxl
      generalize flat (qs.take j) = f at hft Htk ⊢
      have hz1 : (ByteArray.mk x.toArray).size = x.length := Lib.size_eq ⟨x.toArray⟩
      have hz2 : (ByteArray.mk f.toArray).size = f.length := Lib.size_eq ⟨f.toArray⟩
      go_wp2
      go_round
      case rel => exact ⟨j + 1, by omega, by go_num, by rw [unhide Htk]; exact val_cat f x⟩
      case measure => simp [intOf]; omega
    · have hje : j = qs.length := by omega
      subst hje
      rw [List.take_length, unhide Hfl]
      cases he : a.isEmpty
      · have Hd : Hid (dirL a = a) := hide (dirL_other (by rintro rfl; simp at he))
        go_wp2
        go_region
        all_goals go_wp2
        all_goals go_ret3
        all_goals exact ⟨ret_three (by rw [unhide Hd]) rfl rfl, by repeat (first | exact hb2 | apply Below.drew)⟩
      · obtain rfl : a = [] := by simpa using he
        go_wp2
        go_region
        all_goals go_wp2
        all_goals go_ret3
        all_goals exact ⟨ret_three (by rw [dirL_nil]) rfl rfl, by repeat (first | exact hb2 | apply Below.drew)⟩

end Go.Proofs.YtbhkhchkjckdjaaDoor
