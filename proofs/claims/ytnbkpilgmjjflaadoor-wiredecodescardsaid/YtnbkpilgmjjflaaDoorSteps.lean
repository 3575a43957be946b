/-
  What path.steps' iterator gives: the steps of a text, in order, to every loop body.
-/
import Derived.Test.YtnbkpilgmjjflaaDoorIter
namespace Go.Proofs.YtnbkpilgmjjflaaDoor
open Go.RowKit Go.Shelf
attribute [local go_sem] Oper.semAt_some

theorem below_putObj {n1 l : Nat} (W : World) (o : Obj) (h : n1 ≤ l) : Below n1 W (W.putObj l o) :=
  ⟨rfl, rfl, rfl, by simp, fun k hk => World.putObj_heap_other (by omega)⟩
theorem boxed_putObj {W : World} {B l : Nat} {t : TypeId} {v : Value} (o : Obj) (h : Boxed W B t v) (hne : B ≠ l) : Boxed (W.putObj l o) B t v := (World.putObj_heap_other hne).trans h

set_option maxHeartbeats 400000 in
theorem splitSeq_makes (s sep : ByteArray) (w : World) :
    Calls Tryd.prog 42 #[.string s, .string sep] w fun e w' =>
      e = .returned (.func (.func 47) #[] #[.pointer (some ⟨w.heap.size + 1, 0, none⟩), .pointer (some ⟨w.heap.size, 0, none⟩), .pointer (some ⟨w.heap.size + 1 + 1, 0, none⟩)]) ∧
      w' = ((w.alloc (.cells #[.string s] 9)).alloc (.cells #[.string sep] 9)).alloc (.cells #[.int .i64 0] 3) := by
  go_enter Tryd.func42, Tryd.ntmps42
  go_wp2
  go_ret
  exact ⟨rfl, rfl⟩

theorem round_wide {n m l0 : Nat} {P : Program} {l : Nat} {f : FuncId} {tmps : Array Value} {assign body : Code} {w : World} {R : Ending → World → Prop} (h : RoundIn Fence.wide n P l f tmps assign body w R) : RoundIn (Fence.wide.inRound l0) m P l f tmps assign body w R :=
  ⟨h.1, fun c cs _ => h.2 c cs (room_wide _)⟩

theorem four_boxes (W : World) (v0 v1 v2 v3 : Value) (t0 t1 t2 t3 : TypeId) (W0 : World) (h : (((W.alloc (.cells #[v0] t0)).alloc (.cells #[v1] t1)).alloc (.cells #[v2] t2)).alloc (.cells #[v3] t3) = W0) :
    W0.heap.size = W.heap.size + 4 ∧ Boxed W0 W.heap.size t0 v0 ∧ Boxed W0 (W.heap.size + 1) t1 v1 ∧ Boxed W0 (W.heap.size + 2) t2 v2 ∧ Boxed W0 (W.heap.size + 3) t3 v3 ∧ Below W.heap.size W W0 := by
  subst h
  refine ⟨by simp, (((Boxed.new W t0 v0).alloc _).alloc _).alloc _, ?_, ?_, ?_, ?_⟩
  · have := Boxed.new (W.alloc (.cells #[v0] t0)) t1 v1
    rw [World.size_alloc] at this
    exact (this.alloc _).alloc _
  · have := Boxed.new ((W.alloc (.cells #[v0] t0)).alloc (.cells #[v1] t1)) t2 v2
    rw [World.size_alloc, World.size_alloc] at this
    exact this.alloc _
  · have := Boxed.new (((W.alloc (.cells #[v0] t0)).alloc (.cells #[v1] t1)).alloc (.cells #[v2] t2)) t3 v3
    rw [World.size_alloc, World.size_alloc, World.size_alloc] at this
    exact this
  · exact ((((Below.refl _ W).alloc (Nat.le_refl _) _).alloc (by simp) _).alloc (by simp; omega) _).alloc (by simp; omega) _

set_option maxRecDepth 100000 in
set_option maxHeartbeats 1000000 in
theorem steps_gives (n Bp : Nat) (s : List UInt8) (W : World) (hn : 1 ≤ n) (hlen : s.length ≤ 1000000) (bp : Boxed W Bp 9 (.string ⟨s.toArray⟩)) :
    SeqX Fence.wide n Tryd.prog 41 #[.pointer (some ⟨Bp, 0, none⟩)] (fun x : List UInt8 => #[.string ⟨x.toArray⟩])
      (Below W.heap.size) (Above W.heap.size) (stepsL s) W := by
  intro l J Jx hJ hJx hY h0
  refine callsIn_of_wp_marks Tryd.func41 rfl trivial ?_ rfl
  simp only [Tryd.ntmps41, List.size_toArray, List.length_cons, List.length_nil, Nat.reduceAdd, Nat.reduceSub, Array.replicate_succ, Array.replicate_zero, List.push_toArray, List.append_toArray, List.nil_append, List.cons_append]
  have cp := bp.cell
  have cp' := (bp.alloc (.cells #[.func (.yield l) #[] #[]] 31)).cell
  have HY := hide hY
  have HJ := hide hJ
  have HJx := hide hJx
  clear hY hJ hJx
  by_cases hroot : s = [47]
  · subst hroot
    gi_wp2
    refine ⟨_, results_none rfl _ _ _, ⟨_, rfl⟩, .inl ?_⟩
    exact unhide HJ _ _ _ h0 ((Below.refl _ W).alloc (Nat.le_refl _) _)
  · have hr1 : (s == [47]) = false := by simpa using hroot
    have Hst : Hid (stepsL s = splitL (Lib.trimPrefix s [47])) := by rw [stepsL, if_neg hroot]; exact rfl
    clear hroot
    gi_wp2_with fail
    refine ⟨trivial, (callsIn_wide.2 (Tryd.strings_TrimPrefix _ _ _)).mono ?_⟩
    rintro e w' ⟨rfl, rfl⟩
    rw [show (ByteArray.mk s.toArray).data.toList = s from rfl, show (ByteArray.mk #[47]).data.toList = [47] from rfl]
    generalize hR : Lib.trimPrefix s [47] = R
    have hRl : R.length ≤ 1000000 := by
      have := Lib.trimPrefix_le s [47]
      rw [← hR]; omega
    have Hst' : Hid (stepsL s = splitL R) := by rw [← hR]; exact Hst
    clear hR Hst hr1 cp cp'
    gi_wp2_with fail
    refine ⟨trivial, (callsIn_wide.2 (splitSeq_makes _ _ _)).mono ?_⟩
    rintro e w' ⟨rfl, rfl⟩
    gi_wp2_with fail
    generalize hW0 : (((W.alloc (.cells #[.func (.yield l) #[] #[]] 31)).alloc (.cells #[.string ⟨R.toArray⟩] 9)).alloc (.cells #[.string ⟨#[47]⟩] 9)).alloc (.cells #[.int .i64 0] 3) = W0
    obtain ⟨hsz, k0, k1, k2, k3, kb⟩ := four_boxes _ _ _ _ _ _ _ _ _ W0 hW0
    clear hW0
    refine wpIn_rangeFunc_X (α := List UInt8) rfl hn (gf := 47) (lb := #[.pointer (some ⟨W.heap.size + 2, 0, none⟩), .pointer (some ⟨W.heap.size + 1, 0, none⟩), .pointer (some ⟨W.heap.size + 3, 0, none⟩)]) rfl trivial (enters_of Tryd.func47 (by kernel_rfl) rfl)
      (fun o1 o2 => splitSeq_gives (n - 1) (W.heap.size + 2) (W.heap.size + 1) (W.heap.size + 3) R _ (by omega) (by omega) hRl ((k2.alloc o1).alloc o2) ((k1.alloc o1).alloc o2) ((k3.alloc o1).alloc o2))
      (fun A B k hs hk hl => by obtain ⟨v, rfl⟩ := hs; exact Below.heap_setCell A _ _ k (by show k ≠ W.heap.size + 1; omega))
      (fun A B C h k i hi => (k i hi).trans (h i hi)) (fun A o k hk => World.putObj_heap_other (by omega)) (fun _ => rfl)
      (fun pre A => J pre A ∧ Boxed A W.heap.size 31 (.func (.yield l) #[] #[]))
      (fun c pre A => c = .ret ∧ Jx pre A)
      (fun pre A B hs hg => by
        obtain ⟨v, rfl⟩ := hg
        exact ⟨unhide HJ _ _ _ hs.1 ((Below.refl _ A).setCell (p := ⟨W.heap.size + 1, 0, none⟩) (by simp) v), Boxed.of_heap hs.2 (Below.heap_setCell A _ _ _ (by show W.heap.size ≠ W.heap.size + 1; omega))⟩)
      (fun c pre A B hs hg => by
        obtain ⟨v, rfl⟩ := hg
        exact ⟨hs.1, unhide HJx _ _ _ hs.2 ((Below.refl _ A).setCell (p := ⟨W.heap.size + 1, 0, none⟩) (by simp) v)⟩)
      (fun pre A o hs => ⟨unhide HJ _ _ _ hs.1 (below_putObj A o (by omega)), boxed_putObj o hs.2 (by omega)⟩)
      (fun c pre A o hs => ⟨hs.1, unhide HJx _ _ _ hs.2 (below_putObj A o (by omega))⟩)
      (fun o1 o2 => ⟨unhide HJ _ _ _ h0 ((kb.alloc (by omega) o1).alloc (by simp; omega) o2), (k0.alloc o1).alloc o2⟩)
      (fun x => { tmps := #[.func (.yield l) #[] #[], .pointer (some ⟨Bp, 0, none⟩), .pointer (some ⟨W.heap.size, 0, none⟩), .string ⟨x.toArray⟩, .string ⟨s.toArray⟩, .bool false, .string ⟨s.toArray⟩, .string ⟨R.toArray⟩,
        .func (.func 47) #[] #[.pointer (some ⟨W.heap.size + 2, 0, none⟩), .pointer (some ⟨W.heap.size + 1, 0, none⟩), .pointer (some ⟨W.heap.size + 3, 0, none⟩)], .string ⟨x.toArray⟩, undef, undef, undef, undef], defers := [] })
      ?assign ?body ?done ?stop
    case assign =>
      intro x A K hK
      gi_wp2
      exact hK
    case body =>
      rintro pre x A ⟨hJA, hbx⟩ hpre hlt
      have cx := hbx.cell
      obtain ⟨fn, tmps, assign, body, hy, hR⟩ := unhide HY pre x A hJA (by rw [unhide Hst']; exact hpre)
      gi_wp2
      refine ⟨wide_depth _, (round_wide hR).mono ?_⟩
      rintro e W3 (⟨rfl, hJ3, hk3⟩ | ⟨rfl, hJx3, hk3⟩)
      · gi_wp2
        exact ⟨hk3.block _ (by omega) (by omega), hk3.block _ (by omega) (by omega), fun k hk => hk3.block k (by omega) (by omega), hJ3, Boxed.of_heap hbx (hk3.block _ (Nat.le_refl _) (by omega))⟩
      · gi_wp2
        exact ⟨hk3.block _ (by omega) (by omega), hk3.block _ (by omega) (by omega), fun k hk => hk3.block k (by omega) (by omega), rfl, hJx3⟩
    case done =>
      rintro A ⟨hJA, hbx⟩ hK
      gi_wp2
      refine ⟨by simp, .inl ⟨_, _, rfl, run_takeDeferred hK, ?_⟩⟩
      refine ⟨_, results_none rfl _ _ _, ⟨_, rfl⟩, .inl ?_⟩
      rw [unhide Hst']
      exact unhide HJ _ _ _ hJA (below_putObj A _ (by omega))
    case stop =>
      rintro c pre A hpre ⟨rfl, hJA⟩ hK
      gi_wp2
      refine ⟨by simp, .inl ⟨_, _, rfl, run_takeDeferred hK, ?_⟩⟩
      refine ⟨_, results_none rfl _ _ _, ⟨_, rfl⟩, .inr ⟨pre, by rw [unhide Hst']; exact hpre, ?_⟩⟩
      exact unhide HJx _ _ _ hJA (below_putObj A _ (by omega))

end Go.Proofs.YtnbkpilgmjjflaaDoor
