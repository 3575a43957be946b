/-
  What path.Good answers, for every text: the walk.
-/
import Derived.Test.YtnbkpilgmjjflaaDoorSteps
namespace Go.Proofs.YtnbkpilgmjjflaaDoor
open Go.RowKit Go.Shelf
attribute [local go_sem] Oper.semAt_some

set_option maxHeartbeats 400000 in
theorem steps_makes (s : ByteArray) (w : World) :
    Calls Tryd.prog 37 #[.string s] w fun e w' =>
      e = .returned (.func (.func 41) #[] #[.pointer (some ⟨w.heap.size, 0, none⟩)]) ∧ w' = w.alloc (.cells #[.string s] 9) := by
  go_enter Tryd.func37, Tryd.ntmps37
  go_wp2
  go_ret
  exact ⟨rfl, rfl⟩

theorem two_boxes (W : World) (v0 v1 : Value) (t0 t1 : TypeId) (W0 : World) (h : (W.alloc (.cells #[v0] t0)).alloc (.cells #[v1] t1) = W0) :
    W0.heap.size = W.heap.size + 2 ∧ Boxed W0 W.heap.size t0 v0 ∧ Boxed W0 (W.heap.size + 1) t1 v1 ∧ Below W.heap.size W W0 := by
  subst h
  refine ⟨by simp, (Boxed.new W t0 v0).alloc _, ?_, ?_⟩
  · have := Boxed.new (W.alloc (.cells #[v0] t0)) t1 v1
    rw [World.size_alloc] at this
    exact this
  · exact ((Below.refl _ W).alloc (Nat.le_refl _) _).alloc (by simp) _

theorem goodB_long {l : List UInt8} (h : 200 < l.length) : goodB l = false := by
  simp only [goodB, show ¬ l.length ≤ 200 from by omega, decide_false, Bool.false_and]
theorem goodB_front {l : List UInt8} (h : Lib.hasPrefix l [47] = false) : goodB l = false := by
  simp only [goodB, h, Bool.and_false, Bool.false_and]
theorem goodB_mid {l : List UInt8} (h0 : l.length ≤ 200) (h : Lib.hasPrefix l [47] = true) : goodB l = (stepsL l).all namedB := by
  simp only [goodB, h0, h, decide_true, Bool.true_and]
theorem stepsL_length (l : List UInt8) : ∀ p ∈ stepsL l, p.length ≤ l.length := by
  intro p hp
  unfold stepsL at hp
  split at hp
  · simp at hp
  · have h1 := splitL_length _ p hp
    have h2 := Lib.trimPrefix_le l [47]
    omega
theorem all_false_of_prefix {pre xs : List (List UInt8)} (h : pre <+: xs) (h1 : pre.all namedB = false) : xs.all namedB = false := by
  obtain ⟨t, rfl⟩ := h
  rw [List.all_append, h1, Bool.false_and]

theorem ba_list (s : ByteArray) : ∃ l : List UInt8, s = ⟨l.toArray⟩ := ⟨s.data.toList, rfl⟩

set_option maxRecDepth 100000 in
set_option maxHeartbeats 1000000 in
theorem good_main (l : List UInt8) (w : World) (h0 : l.length ≤ 200) (hp : Lib.hasPrefix l [47] = true) :
    Calls Tryd.prog 32 #[.string ⟨l.toArray⟩] w fun e w' => e = .returned (.bool ((stepsL l).all namedB)) ∧ Below w.heap.size w w' := by
  refine (callsIn_wide (n := 6)).1 ?_
  refine callsIn_of_wp_marks Tryd.func32 rfl trivial ?_ rfl
  simp only [Tryd.ntmps32, List.size_toArray, List.length_cons, List.length_nil, Nat.reduceAdd, Nat.reduceSub, Array.replicate_succ, Array.replicate_zero, List.push_toArray, List.append_toArray, List.nil_append, List.cons_append]
  have hz : (ByteArray.mk l.toArray).size = l.length := Lib.size_eq ⟨l.toArray⟩
  have Hp := hide hp
  clear hp
  gi_wp2_with fail
  refine ⟨trivial, (callsIn_wide.2 (Tryd.strings_HasPrefix _ _ _)).mono ?_⟩
  rintro e w' ⟨rfl, rfl⟩
  rw [show (ByteArray.mk l.toArray).data.toList = l from rfl, show (ByteArray.mk #[47]).data.toList = [47] from rfl, unhide Hp]
  gi_wp2_with fail
  refine ⟨trivial, (callsIn_wide.2 (steps_makes _ _)).mono ?_⟩
  rintro e w' ⟨rfl, rfl⟩
  gi_wp2_with fail
  generalize hW0 : (w.alloc (.cells #[.bool false] 4)).alloc (.cells #[.string ⟨l.toArray⟩] 9) = W0
  obtain ⟨hsz, k0, k1, kb⟩ := two_boxes _ _ _ _ _ W0 hW0
  clear hW0
  refine wpIn_rangeFunc_X (α := List UInt8) (encs := fun x => #[.string ⟨x.toArray⟩]) rfl (by omega) (gf := 41) (lb := #[.pointer (some ⟨w.heap.size + 1, 0, none⟩)]) rfl trivial (enters_of Tryd.func41 (by kernel_rfl) rfl)
    (St := Below (W0.heap.size + 1 + 1)) (Kp := Above (W0.heap.size + 1 + 1)) (xs := stepsL l)
    (fun o1 o2 => by
      have h := steps_gives 5 (w.heap.size + 1) l ((W0.alloc o1).alloc o2) (by omega) (by omega) ((k1.alloc o1).alloc o2)
      rw [World.size_alloc, World.size_alloc] at h
      exact h)
    (fun A B k hs hk _ => hs.block k (by omega))
    (fun A B C h k => h.trans k) (fun A o => Above.putObj A o (by omega)) (fun _ => rfl)
    (fun pre A => Below w.heap.size w A ∧ Boxed A w.heap.size 4 (.bool false) ∧ pre.all namedB = true)
    (fun c pre A => c = .ret ∧ Below w.heap.size w A ∧ Boxed A w.heap.size 4 (.bool false) ∧ pre.all namedB = false)
    (fun pre A B hs hg => ⟨hs.1.trans (hg.mono (by omega)), Boxed.of_heap hs.2.1 (hg.block _ (by omega)), hs.2.2⟩)
    (fun c pre A B hs hg => ⟨hs.1, hs.2.1.trans (hg.mono (by omega)), Boxed.of_heap hs.2.2.1 (hg.block _ (by omega)), hs.2.2.2⟩)
    (fun pre A o hs => ⟨hs.1.trans (below_putObj A o (by omega)), boxed_putObj o hs.2.1 (by omega), hs.2.2⟩)
    (fun c pre A o hs => ⟨hs.1, hs.2.1.trans (below_putObj A o (by omega)), boxed_putObj o hs.2.2.1 (by omega), hs.2.2.2⟩)
    (fun o1 o2 => ⟨(kb.alloc (by omega) o1).alloc (by simp; omega) o2, (k0.alloc o1).alloc o2, rfl⟩)
    (fun x => { tmps := #[.string ⟨l.toArray⟩, undef, .pointer (some ⟨w.heap.size, 0, none⟩), .string ⟨x.toArray⟩, .string ⟨l.toArray⟩, .int .i64 l.length, .bool (decide (200 < (l.length : Int))), .bool (decide (200 < (l.length : Int))), .string ⟨l.toArray⟩, .bool true, .bool false,
      .bool (decide (200 < (l.length : Int))), .string ⟨l.toArray⟩, .func (.func 41) #[] #[.pointer (some ⟨w.heap.size + 1, 0, none⟩)], .string ⟨x.toArray⟩, undef, undef, undef], defers := [] })
    ?assign ?body ?done ?stop
  case assign =>
    intro x A K hK
    gi_wp2
    exact hK
  case body =>
    rintro pre x A ⟨hB, hbx, hall⟩ hpre hlt
    have cx := hbx.cell
    have fx := hbx.frozen
    have hxl : x.length ≤ 200 := by
      have := stepsL_length l x (hpre.subset (by simp))
      omega
    have hxs : (ByteArray.mk x.toArray).size ≤ maxLen := by
      unfold maxLen
      rw [Lib.size_eq]
      show x.length ≤ _
      omega
    have Hall := hide hall
    clear hall
    gi_wp2_with fail
    refine ⟨trivial, (CallsIn.inRound _ (callsIn_wide.2 (named_any _ _ hxs))).mono ?_⟩
    rintro e w' ⟨rfl, rfl⟩
    rw [show (ByteArray.mk x.toArray).data.toList = x from rfl]
    cases hx : namedB x
    · gi_wp2
      refine ⟨Below.heap_setCell _ _ _ _ (by show W0.heap.size ≠ w.heap.size; omega), Below.heap_setCell _ _ _ _ (by show W0.heap.size + 1 ≠ w.heap.size; omega), Above.setCell _ _ (by show w.heap.size < _; omega), rfl, hB.setCell (p := ⟨w.heap.size, 0, none⟩) (Nat.le_refl _) _, hbx.set _, ?_⟩
      rw [List.all_append, unhide Hall]; simp [hx]
    · gi_wp2
      refine ⟨rfl, rfl, Above.refl _ _, hB, hbx, ?_⟩
      rw [List.all_append, unhide Hall]; simp [hx]
  case done =>
    rintro A ⟨hB, hbx, hall⟩ hK
    have cx := hbx.cell
    have fx := hbx.frozen
    have Hall := hide hall
    clear hall
    gi_wp2
    have hK' : (A.setCell ⟨w.heap.size, 0, none⟩ (.bool true)).heap[W0.heap.size]? = some (.deferred (some [])) := (Below.heap_setCell _ _ _ _ (by show W0.heap.size ≠ w.heap.size; omega)).trans hK
    have hc := (boxed_putObj (l := W0.heap.size) (.deferred none) (hbx.set (.bool true)) (by omega)).cell
    refine ⟨by simp, .inl ⟨_, _, rfl, run_takeDeferred hK', ?_⟩⟩
    refine ⟨.bool true, ?_, by rw [unhide Hall], (hB.setCell (p := ⟨w.heap.size, 0, none⟩) (Nat.le_refl _) _).trans (below_putObj _ _ (by omega))⟩
    simp [results, Tryd.f32, go_sem, hc]
  case stop =>
    rintro c pre A hpre ⟨rfl, hB, hbx, hall⟩ hK
    have Hall := hide (all_false_of_prefix hpre hall)
    clear hall
    gi_wp2
    have hc := (boxed_putObj (l := W0.heap.size) (.deferred none) hbx (by omega)).cell
    refine ⟨by simp, .inl ⟨_, _, rfl, run_takeDeferred hK, ?_⟩⟩
    refine ⟨.bool false, ?_, by rw [unhide Hall], hB.trans (below_putObj _ _ (by omega))⟩
    simp [results, Tryd.f32, go_sem, hc]

set_option maxHeartbeats 400000 in
theorem good_long (l : List UInt8) (w : World) (h0 : 200 < l.length) :
    Calls Tryd.prog 32 #[.string ⟨l.toArray⟩] w fun e w' => e = .returned (.bool false) ∧ Below w.heap.size w w' := by
  have hz : (ByteArray.mk l.toArray).size = l.length := Lib.size_eq ⟨l.toArray⟩
  go_enter Tryd.func32, Tryd.ntmps32
  go_wp2_with fail
  exact bodyPost_ret (v := .bool false) (by simp [results, Tryd.f32, go_sem]) rfl ⟨rfl, (Below.refl _ _).alloc (Nat.le_refl _) _⟩

set_option maxHeartbeats 400000 in
theorem good_front (l : List UInt8) (w : World) (h0 : l.length ≤ 200) (hp : Lib.hasPrefix l [47] = false) :
    Calls Tryd.prog 32 #[.string ⟨l.toArray⟩] w fun e w' => e = .returned (.bool false) ∧ Below w.heap.size w w' := by
  have hz : (ByteArray.mk l.toArray).size = l.length := Lib.size_eq ⟨l.toArray⟩
  have Hp := hide hp
  clear hp
  go_enter Tryd.func32, Tryd.ntmps32
  go_wp2_with fail
  refine (Tryd.strings_HasPrefix _ _ _).mono ?_
  rintro e w' ⟨rfl, rfl⟩
  rw [show (ByteArray.mk l.toArray).data.toList = l from rfl, show (ByteArray.mk #[47]).data.toList = [47] from rfl, unhide Hp]
  go_wp2_with fail
  exact bodyPost_ret (v := .bool false) (by simp [results, Tryd.f32, go_sem]) rfl ⟨rfl, (Below.refl _ _).alloc (Nat.le_refl _) _⟩

/-- WHAT path.Good ANSWERS -/
theorem good_any (s : ByteArray) (w : World) : Calls Tryd.prog 32 #[.string s] w fun e w' => e = .returned (.bool (goodB s.data.toList)) ∧ Below w.heap.size w w' := by
  obtain ⟨l, rfl⟩ := ba_list s
  show Calls _ _ _ _ fun e w' => e = .returned (.bool (goodB l)) ∧ _
  by_cases h0 : 200 < l.length
  · rw [goodB_long h0]; exact good_long l w h0
  · cases hp : Lib.hasPrefix l [47]
    · rw [goodB_front hp]; exact good_front l w (by omega) hp
    · rw [goodB_mid (by omega) hp]; exact good_main l w (by omega) hp

end Go.Proofs.YtnbkpilgmjjflaaDoor
