/-
  What path.Depth answers, for every text: the walk.
-/
import Derived.Test.YtbhkhchkjckdjaaDoorApart
namespace Go.Proofs.YtbhkhchkjckdjaaDoor
open Go.RowKit Go.Shelf
attribute [local go_sem] Oper.semAt_some

theorem ret_ints {a b i j : Int} (h : a = b) (h' : i = j) : Ending.returned (.tuple #[.int .i64 a, .int .i64 i]) = .returned (.tuple #[.int .i64 b, .int .i64 j]) := by rw [h, h']
theorem splitL_count (l : List UInt8) : (splitL l).length ≤ l.length + 1 := by
  induction l with
  | nil => simp [splitL]
  | cons c l ih =>
    by_cases hc : c = 47
    · subst hc; rw [splitL_slash]; simp; omega
    · cases hl : splitL l with
      | nil => exact absurd hl (splitL_ne l)
      | cons p ps => rw [splitL_other hc hl]; rw [hl] at ih; simp at ih ⊢; omega
theorem stepsL_count (l : List UInt8) : (stepsL l).length ≤ l.length + 1 := by
  unfold stepsL
  split
  · simp
  · have h1 := splitL_count (Lib.trimPrefix l [47])
    have h2 := Lib.trimPrefix_le l [47]
    omega

set_option maxHeartbeats 400000 in
theorem depth_bad (l : List UInt8) (w : World) (hg : goodB l = false) :
    Calls Tryd.prog 15 #[.string ⟨l.toArray⟩] w fun e w' => e = .returned (.tuple #[.int .i64 0, .int .i64 2]) ∧ Below w.heap.size w w' := by
  have Hg := hide hg
  clear hg
  go_enter Tryd.func15, Tryd.ntmps15
  go_wp2_with fail
  refine (good_any _ _).mono ?_
  rintro e w1 ⟨rfl, hb1⟩
  rw [show (ByteArray.mk l.toArray).data.toList = l from rfl, unhide Hg]
  go_wp2_with fail
  go_ret2
  exact ⟨rfl, hb1⟩

set_option maxRecDepth 100000 in
set_option maxHeartbeats 1000000 in
theorem depth_good (l : List UInt8) (w : World) (hg : goodB l = true) :
    Calls Tryd.prog 15 #[.string ⟨l.toArray⟩] w fun e w' => e = .returned (.tuple #[.int .i64 (stepsL l).length, .int .i64 0]) ∧ Below w.heap.size w w' := by
  refine (callsIn_wide (n := 6)).1 ?_
  refine callsIn_of_wp_marks Tryd.func15 rfl trivial ?_ rfl
  simp only [Tryd.ntmps15, List.size_toArray, List.length_cons, List.length_nil, Nat.reduceAdd, Nat.reduceSub, Array.replicate_succ, Array.replicate_zero, List.push_toArray, List.append_toArray, List.nil_append, List.cons_append]
  have h0 := goodB_le hg
  have hcnt := stepsL_count l
  have Hg := hide hg
  clear hg
  gi_wp2_with fail
  refine ⟨trivial, (callsIn_wide.2 (good_any _ _)).mono ?_⟩
  rintro e w1 ⟨rfl, hb1⟩
  rw [show (ByteArray.mk l.toArray).data.toList = l from rfl, unhide Hg]
  gi_wp2_with fail
  refine ⟨trivial, (callsIn_wide.2 (steps_makes _ _)).mono ?_⟩
  rintro e w' ⟨rfl, rfl⟩
  gi_wp2_with fail
  generalize hW0 : (w1.alloc (.cells #[.int .i64 0] 3)).alloc (.cells #[.string ⟨l.toArray⟩] 9) = W0
  obtain ⟨hsz, k0, k1, kb⟩ := two_boxes _ _ _ _ _ W0 hW0
  clear hW0
  refine wpIn_rangeFunc_X (α := List UInt8) (encs := fun x => #[.string ⟨x.toArray⟩]) rfl (by omega) (gf := 35) (lb := #[.pointer (some ⟨w1.heap.size + 1, 0, none⟩)]) rfl trivial (enters_of Tryd.func35 (by kernel_rfl) rfl)
    (St := Below (W0.heap.size + 1 + 1)) (Kp := Above (W0.heap.size + 1 + 1)) (xs := stepsL l)
    (fun o1 o2 => by
      have h := steps_gives 5 (w1.heap.size + 1) l ((W0.alloc o1).alloc o2) (by omega) (by omega) ((k1.alloc o1).alloc o2)
      rw [World.size_alloc, World.size_alloc] at h
      exact h)
    (fun A B k hs hk _ => hs.block k (by omega))
    (fun A B C h k => h.trans k) (fun A o => Above.putObj A o (by omega)) (fun _ => rfl)
    (fun pre A => Below w1.heap.size w1 A ∧ Boxed A w1.heap.size 3 (.int .i64 pre.length))
    (fun _ _ _ => False)
    (fun pre A B hs hg => ⟨hs.1.trans (hg.mono (by omega)), Boxed.of_heap hs.2 (hg.block _ (by omega))⟩)
    (fun c pre A B hs hg => hs)
    (fun pre A o hs => ⟨hs.1.trans (below_putObj A o (by omega)), boxed_putObj o hs.2 (by omega)⟩)
    (fun c pre A o hs => hs)
    (fun o1 o2 => ⟨(kb.alloc (by omega) o1).alloc (by simp; omega) o2, (k0.alloc o1).alloc o2⟩)
    (fun x => { tmps := #[.string ⟨l.toArray⟩, undef, .int .i64 0, .int .i64 0, .pointer (some ⟨w1.heap.size, 0, none⟩), .string ⟨l.toArray⟩, .bool true, .bool false, .string ⟨l.toArray⟩, .func (.func 35) #[] #[.pointer (some ⟨w1.heap.size + 1, 0, none⟩)], .string ⟨x.toArray⟩, undef, undef, undef], defers := [] })
    ?assign ?body ?done ?stop
  case assign =>
    intro x A K hK
    gi_wp2
    simpa using hK
  case body =>
    rintro pre x A ⟨hB, hbx⟩ hpre hlt
    have cx := hbx.cell
    have fx := hbx.frozen
    have hpl : pre.length + 1 ≤ 201 := by
      have := hpre.length_le
      simp at this
      omega
    gi_wp2
    refine ⟨Below.heap_setCell _ _ _ _ (by show W0.heap.size ≠ w1.heap.size; omega), Below.heap_setCell _ _ _ _ (by show W0.heap.size + 1 ≠ w1.heap.size; omega), Above.setCell _ _ (by show w1.heap.size < _; omega), hB.setCell (p := ⟨w1.heap.size, 0, none⟩) (Nat.le_refl _) _, ?_⟩
    have h := hbx.set (.int .i64 ((pre.length : Int) + 1))
    rw [show ((pre ++ [x]).length : Int) = (pre.length : Int) + 1 from by simp]
    exact h
  case done =>
    rintro A ⟨hB, hbx⟩ hK
    have cx := hbx.cell
    gi_wp2
    refine ⟨by simp, .inl ⟨_, _, rfl, run_takeDeferred hK, ?_⟩⟩
    refine ⟨.tuple #[.int .i64 (stepsL l).length, .int .i64 0], ?_, rfl, below_next hb1 (hB.trans (below_putObj _ _ (by omega)))⟩
    simp [results, Tryd.f15, go_sem]
  case stop =>
    rintro c pre A hpre h hK
    exact h.elim

/-- What a path is made of: what stands ahead of its last slash, and its last step. -/
theorem good_parts {l : List UInt8} (hg : goodB l = true) (hne : l ≠ [47]) :
    ∃ a b, l = a ++ 47 :: b ∧ 47 ∉ b ∧ namedB b = true ∧ goodB (dirL a) = true ∧ openL (dirL a) ++ b = l ∧ stepsL l = stepsL (dirL a) ++ [b] := by
  obtain ⟨r, rfl⟩ : ∃ r, l = 47 :: r := by
    obtain ⟨t, ht⟩ := goodB_slash hg
    exact ⟨t, ht.symm⟩
  have hr : r ≠ [] := by rintro rfl; exact hne rfl
  rw [goodB_cons r hr, Bool.and_eq_true, decide_eq_true_eq] at hg
  obtain ⟨hlen, hall⟩ := hg
  have hst : stepsL (47 :: r) = splitL r := by
    rw [stepsL, if_neg hne, Lib.trimPrefix, if_pos (by simp [Lib.hasPrefix, List.isPrefixOf])]; rfl
  obtain ⟨a, b, e, hb⟩ := last_slash (47 :: r) (by simp)
  refine ⟨a, b, e, hb, ?_⟩
  cases a with
  | nil =>
    simp only [List.nil_append, List.cons.injEq, true_and] at e
    subst e
    rw [splitL_no r hb] at hall hst
    refine ⟨by simpa using hall, by rw [dirL_nil]; exact goodB_root, by rw [dirL_nil, openL_root]; rfl, ?_⟩
    rw [hst, dirL_nil, stepsL, if_pos rfl]; rfl
  | cons c a =>
    simp only [List.cons_append, List.cons.injEq] at e
    obtain ⟨rfl, rfl⟩ := e
    rw [splitL_tail a b hb] at hall hst
    rw [List.all_append, Bool.and_eq_true] at hall
    have ha : a ≠ [] := by
      rintro rfl
      have h := hall.1
      rw [show splitL [] = [[]] from rfl] at h
      simp [not_named_nil] at h
    have hd : dirL (47 :: a) = 47 :: a := dirL_other (by simp)
    have hd1 : (47 :: a : List UInt8) ≠ [47] := by simp [ha]
    refine ⟨by simpa using hall.2, ?_, ?_, ?_⟩
    · rw [hd, goodB_cons a ha, hall.1, Bool.and_true, decide_eq_true_eq]
      simp at hlen; omega
    · rw [hd, openL_other hd1]; simp
    · rw [hst, hd, stepsL, if_neg hd1, Lib.trimPrefix, if_pos (by simp [Lib.hasPrefix, List.isPrefixOf])]; rfl

/-- What comes of a path and a step more. -/
theorem join_parts {d m : List UInt8} (hd : goodB d = true) (hm : namedB m = true) (hl : (openL d ++ m).length ≤ 200) :
    ∃ a, openL d ++ m = a ++ 47 :: m ∧ 47 ∉ m ∧ dirL a = d ∧ goodB (openL d ++ m) = true ∧ openL d ++ m ≠ [47] ∧ stepsL (openL d ++ m) = stepsL d ++ [m] := by
  have hno := named_no_slash hm
  have hm1 := (namedB_le hm).1
  have hmn : m ≠ [] := by rintro rfl; simp at hm1
  obtain ⟨r, rfl⟩ : ∃ r, d = 47 :: r := by
    obtain ⟨t, ht⟩ := goodB_slash hd
    exact ⟨t, ht.symm⟩
  by_cases hr : r = []
  · subst hr
    rw [openL_root] at hl ⊢
    have hne : ([47] ++ m : List UInt8) ≠ [47] := by simp [hmn]
    have hst : stepsL ([47] ++ m) = [m] := by
      rw [stepsL, if_neg hne, Lib.trimPrefix, if_pos (by simp [Lib.hasPrefix, List.isPrefixOf])]
      exact splitL_no m hno
    refine ⟨[], rfl, hno, dirL_nil, ?_, hne, ?_⟩
    · show goodB (47 :: m) = true
      rw [goodB_cons m hmn, splitL_no m hno]
      simp at hl
      simp [hm]; omega
    · rw [hst, stepsL, if_pos rfl]; rfl
  · have hd1 : (47 :: r : List UInt8) ≠ [47] := by simp [hr]
    rw [openL_other hd1] at hl ⊢
    have e : (47 :: r) ++ [47] ++ m = 47 :: (r ++ 47 :: m) := by simp
    have hst : stepsL (47 :: (r ++ 47 :: m)) = splitL r ++ [m] := by
      rw [stepsL, if_neg (by simp), Lib.trimPrefix, if_pos (by simp [Lib.hasPrefix, List.isPrefixOf])]
      exact splitL_tail r m hno
    have hd2 := hd
    rw [goodB_cons r hr, Bool.and_eq_true, decide_eq_true_eq] at hd2
    refine ⟨47 :: r, by simp, hno, dirL_other (by simp), ?_, by simp, ?_⟩
    · rw [e, goodB_cons _ (by simp), splitL_tail r m hno, List.all_append, hd2.2]
      simp at hl
      simp [hm]; omega
    · rw [e, hst, stepsL, if_neg hd1, Lib.trimPrefix, if_pos (by simp [Lib.hasPrefix, List.isPrefixOf])]; rfl

end Go.Proofs.YtbhkhchkjckdjaaDoor
