/-
  What path.letter and path.Named answer, for every byte and every text: the walks.
  What strings.SplitSeq's iterator gives at one byte, a slash, and what path.steps' iterator gives: for every loop body.
  What path.steps' iterator gives: the steps of a text, in order, to every loop body.
  What path.Good answers, for every text: the walk.
  What is known of paths beside the walks: pieces, bounds, clones; shared by the texts of several packages.
-/
import Derived.Test.YtcplpbelficbeaaGreatDoorRows
import Derived.Test.YtcplpbelficbeaaGreatDoorRQA
import Derived.WalkKit
import Derived.WalkSpells
import Derived.WalkLawsBesides
import Derived.Test.YtcplpbelficbeaaGreatDoorShelf
import Derived.Shelf.RegionOpen
import Derived.TacticsInMore
import Derived.LoopNIn
import Derived.LoopIn
import Derived.Lib.QuietBelow
namespace Go.Proofs.YtcplpbelficbeaaGreatDoor
open Go.RowKit

theorem ret_bool {a b : Bool} (h : a = b) : Ending.returned (.bool a) = .returned (.bool b) := by rw [h]

set_option maxRecDepth 10000 in
set_option maxHeartbeats 400000 in
theorem letter_any (c : UInt8) (w : World) :
    Calls Tryz.prog 45 #[.int .u8 c.toNat] w fun e w' => e = .returned (.bool (letterB c)) ∧ w' = w := by
  have hc := c.toNat_lt
  go_enter Tryz.func45, Tryz.ntmps45
  go_wp2
  all_goals go_ret
  all_goals exact ⟨ret_bool (by rw [Bool.eq_iff_iff]; simp [letterB]; try omega), rfl⟩

set_option maxRecDepth 10000 in
set_option maxHeartbeats 400000 in
theorem named_any (s : ByteArray) (w : World) (hs : s.size ≤ maxLen) :
    Calls Tryz.prog 22 #[.string s] w fun e w' => e = .returned (.bool (namedB s.data.toList)) ∧ w' = w := by
  unfold maxLen at hs
  by_cases h1 : s.size < 1
  · go_enter Tryz.func22, Tryz.ntmps22
    go_wp2
    go_ret
    exact ⟨ret_bool (namedB_short s h1).symm, rfl⟩
  by_cases h2 : 40 < s.size
  · go_enter Tryz.func22, Tryz.ntmps22
    go_wp2
    go_ret
    exact ⟨ret_bool (namedB_long s h2).symm, rfl⟩
  go_enter Tryz.func22, Tryz.ntmps22
  go_wp2
  go_loop [14] (fun i => ∃ k : Nat, k ≤ s.size ∧ i = .int .i64 k ∧ (s.data.toList.take k).all letterB = true) (fun i => s.size - (intOf i).toNat)
  case atStart => exact ⟨0, Nat.zero_le _, rfl, by simp⟩
  case round =>
    obtain ⟨k, hk, rfl, hall⟩ := hrel
    have Hall := hide hall
    clear hall
    by_cases hlt : k < s.size
    · by_cases hl : letterB s[k] = true
      · go_wp2_with (go_at_call 45; refine (letter_any _ _).mono ?_; rintro e w' ⟨rfl, rfl⟩)
        go_round
        case rel => exact ⟨k + 1, by omega, by go_num, all_take_succ s k hlt letterB (unhide Hall) hl⟩
        case measure => simp [intOf]; omega
      · have hl' : letterB s[k] = false := by simpa using hl
        clear hl
        go_wp2_with (go_at_call 45; refine (letter_any _ _).mono ?_; rintro e w' ⟨rfl, rfl⟩)
        go_ret
        exact ⟨ret_bool ((namedB_mid s (by omega) (by omega)).trans (not_all_of s k hlt letterB hl')).symm, rfl⟩
    · go_wp2
      go_ret
      exact ⟨ret_bool ((namedB_mid s (by omega) (by omega)).trans (all_of_size s k (by omega) letterB (unhide Hall))).symm, rfl⟩

end Go.Proofs.YtcplpbelficbeaaGreatDoor

namespace Go.Proofs.YtcplpbelficbeaaGreatDoor
open Go.RowKit Go.Shelf
attribute [local go_sem] Oper.semAt_some

/-- the length of the text in a box -/
def lenAt (w : World) (b : Nat) : Nat := match w.cell? ⟨b, 0, none⟩ with
  | some (.string s) => s.size
  | _ => 0
theorem lenAt_of {w : World} {b : Nat} {t : TypeId} {s : ByteArray} (h : Boxed w b t (.string s)) : lenAt w b = s.size := by
  simp [lenAt, h.cell]

theorem Boxed.of_heap {W W' : World} {B : Nat} {t : TypeId} {v : Value} (h : Boxed W B t v) (e : W'.heap[B]? = W.heap[B]?) : Boxed W' B t v := e.trans h

theorem cut_front (r : List UInt8) (i : Nat) : (ByteArray.mk r.toArray).extract 0 i = ⟨(r.take i).toArray⟩ := by
  have := Lib.extract_data ⟨r.toArray⟩ 0 i
  rw [List.drop_zero, Nat.sub_zero] at this
  exact congrArg (fun l : List UInt8 => ByteArray.mk l.toArray) this
theorem cut_back (r : List UInt8) (i : Nat) : (ByteArray.mk r.toArray).extract i r.length = ⟨(r.drop i).toArray⟩ := by
  have := Lib.extract_data ⟨r.toArray⟩ i r.length
  rw [List.take_of_length_le (by simp)] at this
  exact congrArg (fun l : List UInt8 => ByteArray.mk l.toArray) this
theorem wide_depth (n : Nat) : Fence.wide.depth.isSome = true → 1 ≤ n := fun h => by cases h

set_option maxRecDepth 100000 in
set_option maxHeartbeats 1000000 in
theorem splitSeq_gives (n Bsep Bs Bv : Nat) (s : List UInt8) (W : World) (h1 : Bs ≠ Bsep) (h2 : Bs ≠ Bv) (hlen : s.length ≤ 1000000)
    (b1 : Boxed W Bsep 9 (.string ⟨#[47]⟩)) (b2 : Boxed W Bs 9 (.string ⟨s.toArray⟩)) (b3 : Boxed W Bv 3 (.int .i64 0)) :
    SeqX Fence.wide n Tryz.prog 104 #[.pointer (some ⟨Bsep, 0, none⟩), .pointer (some ⟨Bs, 0, none⟩), .pointer (some ⟨Bv, 0, none⟩)] (fun x : List UInt8 => #[.string ⟨x.toArray⟩])
      (fun A B => ∃ v, B = A.setCell ⟨Bs, 0, none⟩ v) (fun A B => ∀ k, k = Bsep ∨ k = Bs ∨ k = Bv → B.heap[k]? = A.heap[k]?) (splitL s) W := by
  intro l J Jx hJ hJx hY h0
  refine callsIn_of_wp Tryz.func104 rfl trivial ?_ rfl
  simp only [Tryz.ntmps104, List.size_toArray, List.length_cons, List.length_nil, Nat.reduceAdd, Nat.reduceSub, Array.replicate_succ, Array.replicate_zero, List.push_toArray, List.append_toArray, List.nil_append, List.cons_append]
  have c1 := b1.cell
  have HY := hide hY
  have HJ := hide hJ
  have HJx := hide hJx
  clear hY hJ hJx
  gi_wp2
  clear c1
  gi_loopw [7] (fun _ wr => ∃ (pre : List (List UInt8)) (r : List UInt8), splitL s = pre ++ splitL r ∧ r.length ≤ 1000000 ∧ Boxed wr Bsep 9 (.string ⟨#[47]⟩) ∧ Boxed wr Bs 9 (.string ⟨r.toArray⟩) ∧ Boxed wr Bv 3 (.int .i64 0) ∧ J pre wr)
    (fun _ wr => lenAt wr Bs)
  case atStart => exact ⟨[], s, rfl, hlen, b1, b2, b3, h0⟩
  case round =>
    clear b1 b2 b3 h0 hlen
    obtain ⟨pre, r, hpre, hlen, b1, b2, b3, hJs⟩ := hrel
    have Hpre := hide hpre
    clear hpre
    have c1 := b1.cell
    have c2 := b2.cell
    have c3 := b3.cell
    have f2 := b2.frozen
    have hz : (ByteArray.mk r.toArray).size = r.length := Lib.size_eq ⟨r.toArray⟩
    rcases indexByte_cases r with hi | ⟨i, hi⟩
    · have Hs := hide (splitL_none r hi)
      have Hi := hide hi
      clear hi
      obtain ⟨fn, tmps, assign, body, hy, hR⟩ := unhide HY pre r wr hJs (by rw [unhide Hpre, unhide Hs]; exact List.prefix_refl _)
      gi_wp2_with fail
      refine ⟨trivial, wide_depth _, (callsIn_wide.2 (Tryz.strings_Index_one _ _ _)).mono ?_⟩
      rintro e w' ⟨rfl, rfl⟩
      rw [show (ByteArray.mk r.toArray).data.toList = r from rfl, unhide Hi]
      gi_wp2
      refine ⟨wide_depth _, hR.mono ?_⟩
      rintro e W3 (⟨rfl, hJ3, _⟩ | ⟨rfl, hJx3, _⟩)
      · gi_wp2
        go_end0
        exact ⟨⟨_, rfl⟩, .inl (by rw [unhide Hpre, unhide Hs]; exact hJ3)⟩
      · gi_wp2
        go_end0
        exact ⟨⟨_, rfl⟩, .inr ⟨_, by rw [unhide Hpre, unhide Hs]; exact List.prefix_refl _, hJx3⟩⟩
    · obtain ⟨hil, hsp⟩ := splitL_some r i hi
      have Hs := hide hsp
      have Hi := hide hi
      clear hi hsp
      obtain ⟨fn, tmps, assign, body, hy, hR⟩ := unhide HY pre (r.take i) wr hJs (by rw [unhide Hpre, unhide Hs]; simp)
      gi_wp2_with fail
      refine ⟨trivial, wide_depth _, (callsIn_wide.2 (Tryz.strings_Index_one _ _ _)).mono ?_⟩
      rintro e w' ⟨rfl, rfl⟩
      rw [show (ByteArray.mk r.toArray).data.toList = r from rfl, unhide Hi]
      rw [← cut_front r i] at hy
      gi_wp2
      refine ⟨wide_depth _, hR.mono ?_⟩
      rintro e W3 (⟨rfl, hJ3, hk3⟩ | ⟨rfl, hJx3, hk3⟩)
      · have d1 := Boxed.of_heap b1 (hk3 Bsep (.inl rfl))
        have d2 := Boxed.of_heap b2 (hk3 Bs (.inr (.inl rfl)))
        have d3 := Boxed.of_heap b3 (hk3 Bv (.inr (.inr rfl)))
        have Hl := hide (lenAt_of b2)
        clear c1 c2 c3 f2 b1 b2 b3 hk3 hy hR
        have c1 := d1.cell
        have c2 := d2.cell
        have f2 := d2.frozen
        gi_wp2
        rw [cut_back]
        refine ⟨⟨pre ++ [r.take i], r.drop (i + 1), by rw [unhide Hpre, unhide Hs]; simp, by simp; omega, Boxed.of_heap d1 (Below.heap_setCell W3 _ _ Bsep (Ne.symm h1)), d2.set _,
          Boxed.of_heap d3 (Below.heap_setCell W3 _ _ Bv (Ne.symm h2)), unhide HJ _ _ _ hJ3 ⟨_, rfl⟩⟩, ?_⟩
        rw [lenAt_of (d2.set _), unhide Hl]
        show (r.drop (i + 1)).toArray.size < r.toArray.size
        simp; omega
      · gi_wp2
        refine bodyPost_ret (results_none rfl _ _ _) rfl ?_
        exact ⟨⟨_, rfl⟩, .inr ⟨pre ++ [r.take i], by rw [unhide Hpre, unhide Hs]; simp, hJx3⟩⟩

end Go.Proofs.YtcplpbelficbeaaGreatDoor

namespace Go.Proofs.YtcplpbelficbeaaGreatDoor
open Go.RowKit Go.Shelf
attribute [local go_sem] Oper.semAt_some

theorem below_putObj {n1 l : Nat} (W : World) (o : Obj) (h : n1 ≤ l) : Below n1 W (W.putObj l o) :=
  ⟨rfl, rfl, rfl, by simp, fun k hk => World.putObj_heap_other (by omega)⟩
theorem boxed_putObj {W : World} {B l : Nat} {t : TypeId} {v : Value} (o : Obj) (h : Boxed W B t v) (hne : B ≠ l) : Boxed (W.putObj l o) B t v := (World.putObj_heap_other hne).trans h

set_option maxRecDepth 10000 in
set_option maxHeartbeats 400000 in
theorem splitSeq_makes (s sep : ByteArray) (w : World) :
    Calls Tryz.prog 85 #[.string s, .string sep] w fun e w' =>
      e = .returned (.func (.func 104) #[] #[.pointer (some ⟨w.heap.size + 1, 0, none⟩), .pointer (some ⟨w.heap.size, 0, none⟩), .pointer (some ⟨w.heap.size + 1 + 1, 0, none⟩)]) ∧
      w' = ((w.alloc (.cells #[.string s] 9)).alloc (.cells #[.string sep] 9)).alloc (.cells #[.int .i64 0] 3) := by
  go_enter Tryz.func85, Tryz.ntmps85
  go_wp2
  go_ret
  exact ⟨rfl, rfl⟩

theorem round_wide {n m l0 : Nat} {P : Program} {l : Nat} {f : FuncId} {tmps : Array Value} {assign body : Code} {w : World} {R : Ending → World → Prop} (h : RoundIn Fence.wide n P l f tmps assign body w R) : RoundIn (Fence.wide.inRound l0) m P l f tmps assign body w R :=
  ⟨h.1, fun c cs _ => h.2 c cs (room_wide _)⟩

theorem four_boxes (W : World) (v0 v1 v2 v3 : Value) (t0 t1 t2 t3 : TypeId) (W0 : World) (h : (((W.alloc (.cells #[v0] t0)).alloc (.cells #[v1] t1)).alloc (.cells #[v2] t2)).alloc (.cells #[v3] t3) = W0) :
    W0.heap.size = W.heap.size + 4 ∧ Boxed W0 W.heap.size t0 v0 ∧ Boxed W0 (W.heap.size + 1) t1 v1 ∧ Boxed W0 (W.heap.size + 2) t2 v2 ∧ Boxed W0 (W.heap.size + 3) t3 v3 ∧ Below W.heap.size W W0 := by
  subst h
  refine ⟨by simp, (((Boxed.new W t0 v0).alloc _).alloc _).alloc _, ?_, ?_, ?_, ?_⟩
  · have := Boxed.new (W.alloc (.cells #[v0] t0)) t1 v1
    rw [World.size_alloc] at this
    exact (this.alloc _).alloc _
  · have := Boxed.new ((W.alloc (.cells #[v0] t0)).alloc (.cells #[v1] t1)) t2 v2
    rw [World.size_alloc, World.size_alloc] at this
    exact this.alloc _
  · have := Boxed.new (((W.alloc (.cells #[v0] t0)).alloc (.cells #[v1] t1)).alloc (.cells #[v2] t2)) t3 v3
    rw [World.size_alloc, World.size_alloc, World.size_alloc] at this
    exact this
  · exact ((((Below.refl _ W).alloc (Nat.le_refl _) _).alloc (by simp) _).alloc (by simp; omega) _).alloc (by simp; omega) _

set_option maxRecDepth 100000 in
set_option maxHeartbeats 1000000 in
theorem steps_gives (n Bp : Nat) (s : List UInt8) (W : World) (hn : 1 ≤ n) (hlen : s.length ≤ 1000000) (bp : Boxed W Bp 9 (.string ⟨s.toArray⟩)) :
    SeqX Fence.wide n Tryz.prog 84 #[.pointer (some ⟨Bp, 0, none⟩)] (fun x : List UInt8 => #[.string ⟨x.toArray⟩])
      (Below W.heap.size) (Above W.heap.size) (stepsL s) W := by
  intro l J Jx hJ hJx hY h0
  refine callsIn_of_wp_marks Tryz.func84 rfl trivial ?_ rfl
  simp only [Tryz.ntmps84, List.size_toArray, List.length_cons, List.length_nil, Nat.reduceAdd, Nat.reduceSub, Array.replicate_succ, Array.replicate_zero, List.push_toArray, List.append_toArray, List.nil_append, List.cons_append]
  have cp := bp.cell
  have cp' := (bp.alloc (.cells #[.func (.yield l) #[] #[]] 65)).cell
  have HY := hide hY
  have HJ := hide hJ
  have HJx := hide hJx
  clear hY hJ hJx
  by_cases hroot : s = [47]
  · subst hroot
    gi_wp2
    refine ⟨_, results_none rfl _ _ _, ⟨_, rfl⟩, .inl ?_⟩
    exact unhide HJ _ _ _ h0 ((Below.refl _ W).alloc (Nat.le_refl _) _)
  · have hr1 : (s == [47]) = false := by simpa using hroot
    have Hst : Hid (stepsL s = splitL (Lib.trimPrefix s [47])) := by rw [stepsL, if_neg hroot]; exact rfl
    clear hroot
    gi_wp2_with fail
    refine ⟨trivial, (callsIn_wide.2 (Tryz.strings_TrimPrefix _ _ _)).mono ?_⟩
    rintro e w' ⟨rfl, rfl⟩
    rw [show (ByteArray.mk s.toArray).data.toList = s from rfl, show (ByteArray.mk #[47]).data.toList = [47] from rfl]
    generalize hR : Lib.trimPrefix s [47] = R
    have hRl : R.length ≤ 1000000 := by
      have := Lib.trimPrefix_le s [47]
      rw [← hR]; omega
    have Hst' : Hid (stepsL s = splitL R) := by rw [← hR]; exact Hst
    clear hR Hst hr1 cp cp'
    gi_wp2_with fail
    refine ⟨trivial, (callsIn_wide.2 (splitSeq_makes _ _ _)).mono ?_⟩
    rintro e w' ⟨rfl, rfl⟩
    gi_wp2_with fail
    generalize hW0 : (((W.alloc (.cells #[.func (.yield l) #[] #[]] 65)).alloc (.cells #[.string ⟨R.toArray⟩] 9)).alloc (.cells #[.string ⟨#[47]⟩] 9)).alloc (.cells #[.int .i64 0] 3) = W0
    obtain ⟨hsz, k0, k1, k2, k3, kb⟩ := four_boxes _ _ _ _ _ _ _ _ _ W0 hW0
    clear hW0
    refine wpIn_rangeFunc_X (α := List UInt8) rfl hn (gf := 104) (lb := #[.pointer (some ⟨W.heap.size + 2, 0, none⟩), .pointer (some ⟨W.heap.size + 1, 0, none⟩), .pointer (some ⟨W.heap.size + 3, 0, none⟩)]) rfl trivial (enters_of Tryz.func104 (by kernel_rfl) rfl)
      (fun o1 o2 => splitSeq_gives (n - 1) (W.heap.size + 2) (W.heap.size + 1) (W.heap.size + 3) R _ (by omega) (by omega) hRl ((k2.alloc o1).alloc o2) ((k1.alloc o1).alloc o2) ((k3.alloc o1).alloc o2))
      (fun A B k hs hk hl => by obtain ⟨v, rfl⟩ := hs; exact Below.heap_setCell A _ _ k (by show k ≠ W.heap.size + 1; omega))
      (fun A B C h k i hi => (k i hi).trans (h i hi)) (fun A o k hk => World.putObj_heap_other (by omega)) (fun _ => rfl)
      (fun pre A => J pre A ∧ Boxed A W.heap.size 65 (.func (.yield l) #[] #[]))
      (fun c pre A => c = .ret ∧ Jx pre A)
      (fun pre A B hs hg => by
        obtain ⟨v, rfl⟩ := hg
        exact ⟨unhide HJ _ _ _ hs.1 ((Below.refl _ A).setCell (p := ⟨W.heap.size + 1, 0, none⟩) (by simp) v), Boxed.of_heap hs.2 (Below.heap_setCell A _ _ _ (by show W.heap.size ≠ W.heap.size + 1; omega))⟩)
      (fun c pre A B hs hg => by
        obtain ⟨v, rfl⟩ := hg
        exact ⟨hs.1, unhide HJx _ _ _ hs.2 ((Below.refl _ A).setCell (p := ⟨W.heap.size + 1, 0, none⟩) (by simp) v)⟩)
      (fun pre A o hs => ⟨unhide HJ _ _ _ hs.1 (below_putObj A o (by omega)), boxed_putObj o hs.2 (by omega)⟩)
      (fun c pre A o hs => ⟨hs.1, unhide HJx _ _ _ hs.2 (below_putObj A o (by omega))⟩)
      (fun o1 o2 => ⟨unhide HJ _ _ _ h0 ((kb.alloc (by omega) o1).alloc (by simp; omega) o2), (k0.alloc o1).alloc o2⟩)
      (fun x => { tmps := #[.func (.yield l) #[] #[], .pointer (some ⟨Bp, 0, none⟩), .pointer (some ⟨W.heap.size, 0, none⟩), .string ⟨x.toArray⟩, .string ⟨s.toArray⟩, .bool false, .string ⟨s.toArray⟩, .string ⟨R.toArray⟩,
        .func (.func 104) #[] #[.pointer (some ⟨W.heap.size + 2, 0, none⟩), .pointer (some ⟨W.heap.size + 1, 0, none⟩), .pointer (some ⟨W.heap.size + 3, 0, none⟩)], .string ⟨x.toArray⟩, undef, undef, undef, undef], defers := [] })
      ?assign ?body ?done ?stop
    case assign =>
      intro x A K hK
      gi_wp2
      exact hK
    case body =>
      rintro pre x A ⟨hJA, hbx⟩ hpre hlt
      have cx := hbx.cell
      obtain ⟨fn, tmps, assign, body, hy, hR⟩ := unhide HY pre x A hJA (by rw [unhide Hst']; exact hpre)
      gi_wp2
      refine ⟨wide_depth _, (round_wide hR).mono ?_⟩
      rintro e W3 (⟨rfl, hJ3, hk3⟩ | ⟨rfl, hJx3, hk3⟩)
      · gi_wp2
        exact ⟨hk3.block _ (by omega) (by omega), hk3.block _ (by omega) (by omega), fun k hk => hk3.block k (by omega) (by omega), hJ3, Boxed.of_heap hbx (hk3.block _ (Nat.le_refl _) (by omega))⟩
      · gi_wp2
        exact ⟨hk3.block _ (by omega) (by omega), hk3.block _ (by omega) (by omega), fun k hk => hk3.block k (by omega) (by omega), rfl, hJx3⟩
    case done =>
      rintro A ⟨hJA, hbx⟩ hK
      gi_wp2
      refine ⟨by simp, .inl ⟨_, _, rfl, run_takeDeferred hK, ?_⟩⟩
      refine ⟨_, results_none rfl _ _ _, ⟨_, rfl⟩, .inl ?_⟩
      rw [unhide Hst']
      exact unhide HJ _ _ _ hJA (below_putObj A _ (by omega))
    case stop =>
      rintro c pre A hpre ⟨rfl, hJA⟩ hK
      gi_wp2
      refine ⟨by simp, .inl ⟨_, _, rfl, run_takeDeferred hK, ?_⟩⟩
      refine ⟨_, results_none rfl _ _ _, ⟨_, rfl⟩, .inr ⟨pre, by rw [unhide Hst']; exact hpre, ?_⟩⟩
      exact unhide HJx _ _ _ hJA (below_putObj A _ (by omega))

end Go.Proofs.YtcplpbelficbeaaGreatDoor

namespace Go.Proofs.YtcplpbelficbeaaGreatDoor
open Go.RowKit Go.Shelf
set_option maxRecDepth 10000 in
attribute [local go_sem] Oper.semAt_some

set_option maxHeartbeats 400000 in
theorem steps_makes (s : ByteArray) (w : World) :
    Calls Tryz.prog 70 #[.string s] w fun e w' =>
      e = .returned (.func (.func 84) #[] #[.pointer (some ⟨w.heap.size, 0, none⟩)]) ∧ w' = w.alloc (.cells #[.string s] 9) := by
  go_enter Tryz.func70, Tryz.ntmps70
  go_wp2
  go_ret
  exact ⟨rfl, rfl⟩

theorem two_boxes (W : World) (v0 v1 : Value) (t0 t1 : TypeId) (W0 : World) (h : (W.alloc (.cells #[v0] t0)).alloc (.cells #[v1] t1) = W0) :
    W0.heap.size = W.heap.size + 2 ∧ Boxed W0 W.heap.size t0 v0 ∧ Boxed W0 (W.heap.size + 1) t1 v1 ∧ Below W.heap.size W W0 := by
  subst h
  refine ⟨by simp, (Boxed.new W t0 v0).alloc _, ?_, ?_⟩
  · have := Boxed.new (W.alloc (.cells #[v0] t0)) t1 v1
    rw [World.size_alloc] at this
    exact this
  · exact ((Below.refl _ W).alloc (Nat.le_refl _) _).alloc (by simp) _

theorem goodB_long {l : List UInt8} (h : 200 < l.length) : goodB l = false := by
  simp only [goodB, show ¬ l.length ≤ 200 from by omega, decide_false, Bool.false_and]
theorem goodB_front {l : List UInt8} (h : Lib.hasPrefix l [47] = false) : goodB l = false := by
  simp only [goodB, h, Bool.and_false, Bool.false_and]
theorem goodB_mid {l : List UInt8} (h0 : l.length ≤ 200) (h : Lib.hasPrefix l [47] = true) : goodB l = (stepsL l).all namedB := by
  simp only [goodB, h0, h, decide_true, Bool.true_and]
theorem stepsL_length (l : List UInt8) : ∀ p ∈ stepsL l, p.length ≤ l.length := by
  intro p hp
  unfold stepsL at hp
  split at hp
  · simp at hp
  · have h1 := splitL_length _ p hp
    have h2 := Lib.trimPrefix_le l [47]
    omega
theorem all_false_of_prefix {pre xs : List (List UInt8)} (h : pre <+: xs) (h1 : pre.all namedB = false) : xs.all namedB = false := by
  obtain ⟨t, rfl⟩ := h
  rw [List.all_append, h1, Bool.false_and]

theorem ba_list (s : ByteArray) : ∃ l : List UInt8, s = ⟨l.toArray⟩ := ⟨s.data.toList, rfl⟩

set_option maxRecDepth 100000 in
set_option maxHeartbeats 1000000 in
theorem good_main (l : List UInt8) (w : World) (h0 : l.length ≤ 200) (hp : Lib.hasPrefix l [47] = true) :
    Calls Tryz.prog 50 #[.string ⟨l.toArray⟩] w fun e w' => e = .returned (.bool ((stepsL l).all namedB)) ∧ Below w.heap.size w w' := by
  refine (callsIn_wide (n := 6)).1 ?_
  refine callsIn_of_wp_marks Tryz.func50 rfl trivial ?_ rfl
  simp only [Tryz.ntmps50, List.size_toArray, List.length_cons, List.length_nil, Nat.reduceAdd, Nat.reduceSub, Array.replicate_succ, Array.replicate_zero, List.push_toArray, List.append_toArray, List.nil_append, List.cons_append]
  have hz : (ByteArray.mk l.toArray).size = l.length := Lib.size_eq ⟨l.toArray⟩
  have Hp := hide hp
  clear hp
  gi_wp2_with fail
  refine ⟨trivial, (callsIn_wide.2 (Tryz.strings_HasPrefix _ _ _)).mono ?_⟩
  rintro e w' ⟨rfl, rfl⟩
  rw [show (ByteArray.mk l.toArray).data.toList = l from rfl, show (ByteArray.mk #[47]).data.toList = [47] from rfl, unhide Hp]
  gi_wp2_with fail
  refine ⟨trivial, (callsIn_wide.2 (steps_makes _ _)).mono ?_⟩
  rintro e w' ⟨rfl, rfl⟩
  gi_wp2_with fail
  generalize hW0 : (w.alloc (.cells #[.bool false] 4)).alloc (.cells #[.string ⟨l.toArray⟩] 9) = W0
  obtain ⟨hsz, k0, k1, kb⟩ := two_boxes _ _ _ _ _ W0 hW0
  clear hW0
  refine wpIn_rangeFunc_X (α := List UInt8) (encs := fun x => #[.string ⟨x.toArray⟩]) rfl (by omega) (gf := 84) (lb := #[.pointer (some ⟨w.heap.size + 1, 0, none⟩)]) rfl trivial (enters_of Tryz.func84 (by kernel_rfl) rfl)
    (St := Below (W0.heap.size + 1 + 1)) (Kp := Above (W0.heap.size + 1 + 1)) (xs := stepsL l)
    (fun o1 o2 => by
      have h := steps_gives 5 (w.heap.size + 1) l ((W0.alloc o1).alloc o2) (by omega) (by omega) ((k1.alloc o1).alloc o2)
      rw [World.size_alloc, World.size_alloc] at h
      exact h)
    (fun A B k hs hk _ => hs.block k (by omega))
    (fun A B C h k => h.trans k) (fun A o => Above.putObj A o (by omega)) (fun _ => rfl)
    (fun pre A => Below w.heap.size w A ∧ Boxed A w.heap.size 4 (.bool false) ∧ pre.all namedB = true)
    (fun c pre A => c = .ret ∧ Below w.heap.size w A ∧ Boxed A w.heap.size 4 (.bool false) ∧ pre.all namedB = false)
    (fun pre A B hs hg => ⟨hs.1.trans (hg.mono (by omega)), Boxed.of_heap hs.2.1 (hg.block _ (by omega)), hs.2.2⟩)
    (fun c pre A B hs hg => ⟨hs.1, hs.2.1.trans (hg.mono (by omega)), Boxed.of_heap hs.2.2.1 (hg.block _ (by omega)), hs.2.2.2⟩)
    (fun pre A o hs => ⟨hs.1.trans (below_putObj A o (by omega)), boxed_putObj o hs.2.1 (by omega), hs.2.2⟩)
    (fun c pre A o hs => ⟨hs.1, hs.2.1.trans (below_putObj A o (by omega)), boxed_putObj o hs.2.2.1 (by omega), hs.2.2.2⟩)
    (fun o1 o2 => ⟨(kb.alloc (by omega) o1).alloc (by simp; omega) o2, (k0.alloc o1).alloc o2, rfl⟩)
    (fun x => { tmps := #[.string ⟨l.toArray⟩, undef, .pointer (some ⟨w.heap.size, 0, none⟩), .string ⟨x.toArray⟩, .string ⟨l.toArray⟩, .int .i64 l.length, .bool (decide (200 < (l.length : Int))), .bool (decide (200 < (l.length : Int))), .string ⟨l.toArray⟩, .bool true, .bool false,
      .bool (decide (200 < (l.length : Int))), .string ⟨l.toArray⟩, .func (.func 84) #[] #[.pointer (some ⟨w.heap.size + 1, 0, none⟩)], .string ⟨x.toArray⟩, undef, undef, undef], defers := [] })
    ?assign ?body ?done ?stop
  case assign =>
    intro x A K hK
    gi_wp2
    exact hK
  case body =>
    rintro pre x A ⟨hB, hbx, hall⟩ hpre hlt
    have cx := hbx.cell
    have fx := hbx.frozen
    have hxl : x.length ≤ 200 := by
      have := stepsL_length l x (hpre.subset (by simp))
      omega
    have hxs : (ByteArray.mk x.toArray).size ≤ maxLen := by
      unfold maxLen
      rw [Lib.size_eq]
      show x.length ≤ _
      omega
    have Hall := hide hall
    clear hall
    gi_wp2_with fail
    refine ⟨trivial, (CallsIn.inRound _ (callsIn_wide.2 (named_any _ _ hxs))).mono ?_⟩
    rintro e w' ⟨rfl, rfl⟩
    rw [show (ByteArray.mk x.toArray).data.toList = x from rfl]
    cases hx : namedB x
    · gi_wp2
      refine ⟨Below.heap_setCell _ _ _ _ (by show W0.heap.size ≠ w.heap.size; omega), Below.heap_setCell _ _ _ _ (by show W0.heap.size + 1 ≠ w.heap.size; omega), Above.setCell _ _ (by show w.heap.size < _; omega), rfl, hB.setCell (p := ⟨w.heap.size, 0, none⟩) (Nat.le_refl _) _, hbx.set _, ?_⟩
      rw [List.all_append, unhide Hall]; simp [hx]
    · gi_wp2
      refine ⟨rfl, rfl, Above.refl _ _, hB, hbx, ?_⟩
      rw [List.all_append, unhide Hall]; simp [hx]
  case done =>
    rintro A ⟨hB, hbx, hall⟩ hK
    have cx := hbx.cell
    have fx := hbx.frozen
    have Hall := hide hall
    clear hall
    gi_wp2
    have hK' : (A.setCell ⟨w.heap.size, 0, none⟩ (.bool true)).heap[W0.heap.size]? = some (.deferred (some [])) := (Below.heap_setCell _ _ _ _ (by show W0.heap.size ≠ w.heap.size; omega)).trans hK
    have hc := (boxed_putObj (l := W0.heap.size) (.deferred none) (hbx.set (.bool true)) (by omega)).cell
    refine ⟨by simp, .inl ⟨_, _, rfl, run_takeDeferred hK', ?_⟩⟩
    refine ⟨.bool true, ?_, by rw [unhide Hall], (hB.setCell (p := ⟨w.heap.size, 0, none⟩) (Nat.le_refl _) _).trans (below_putObj _ _ (by omega))⟩
    simp [results, Tryz.f50, go_sem, hc]
  case stop =>
    rintro c pre A hpre ⟨rfl, hB, hbx, hall⟩ hK
    have Hall := hide (all_false_of_prefix hpre hall)
    clear hall
    gi_wp2
    have hc := (boxed_putObj (l := W0.heap.size) (.deferred none) hbx (by omega)).cell
    refine ⟨by simp, .inl ⟨_, _, rfl, run_takeDeferred hK, ?_⟩⟩
    refine ⟨.bool false, ?_, by rw [unhide Hall], hB.trans (below_putObj _ _ (by omega))⟩
    simp [results, Tryz.f50, go_sem, hc]

set_option maxRecDepth 10000 in
set_option maxHeartbeats 400000 in
theorem good_long (l : List UInt8) (w : World) (h0 : 200 < l.length) :
    Calls Tryz.prog 50 #[.string ⟨l.toArray⟩] w fun e w' => e = .returned (.bool false) ∧ Below w.heap.size w w' := by
  have hz : (ByteArray.mk l.toArray).size = l.length := Lib.size_eq ⟨l.toArray⟩
  go_enter Tryz.func50, Tryz.ntmps50
  go_wp2_with fail
  exact bodyPost_ret (v := .bool false) (by simp [results, Tryz.f50, go_sem]) rfl ⟨rfl, (Below.refl _ _).alloc (Nat.le_refl _) _⟩

set_option maxRecDepth 10000 in
set_option maxHeartbeats 400000 in
theorem good_front (l : List UInt8) (w : World) (h0 : l.length ≤ 200) (hp : Lib.hasPrefix l [47] = false) :
    Calls Tryz.prog 50 #[.string ⟨l.toArray⟩] w fun e w' => e = .returned (.bool false) ∧ Below w.heap.size w w' := by
  have hz : (ByteArray.mk l.toArray).size = l.length := Lib.size_eq ⟨l.toArray⟩
  have Hp := hide hp
  clear hp
  go_enter Tryz.func50, Tryz.ntmps50
  go_wp2_with fail
  refine (Tryz.strings_HasPrefix _ _ _).mono ?_
  rintro e w' ⟨rfl, rfl⟩
  rw [show (ByteArray.mk l.toArray).data.toList = l from rfl, show (ByteArray.mk #[47]).data.toList = [47] from rfl, unhide Hp]
  go_wp2_with fail
  exact bodyPost_ret (v := .bool false) (by simp [results, Tryz.f50, go_sem]) rfl ⟨rfl, (Below.refl _ _).alloc (Nat.le_refl _) _⟩

/-- WHAT path.Good ANSWERS -/
theorem good_any (s : ByteArray) (w : World) : Calls Tryz.prog 50 #[.string s] w fun e w' => e = .returned (.bool (goodB s.data.toList)) ∧ Below w.heap.size w w' := by
  obtain ⟨l, rfl⟩ := ba_list s
  show Calls _ _ _ _ fun e w' => e = .returned (.bool (goodB l)) ∧ _
  by_cases h0 : 200 < l.length
  · rw [goodB_long h0]; exact good_long l w h0
  · cases hp : Lib.hasPrefix l [47]
    · rw [goodB_front hp]; exact good_front l w (by omega) hp
    · rw [goodB_mid (by omega) hp]; exact good_main l w (by omega) hp

end Go.Proofs.YtcplpbelficbeaaGreatDoor

namespace Go.Proofs.YtcplpbelficbeaaGreatDoor
open Go.RowKit Go.Shelf

theorem ret_str {a b : ByteArray} (h : a = b) : Ending.returned (.string a) = .returned (.string b) := by rw [h]
theorem cat_one (l m : List UInt8) : (ByteArray.mk l.toArray) ++ (ByteArray.mk m.toArray) = ⟨(l ++ m).toArray⟩ := by
  have h : ((ByteArray.mk l.toArray) ++ (ByteArray.mk m.toArray)).data.toList = l ++ m := by simp [ByteArray.data_append]
  exact congrArg (fun l : List UInt8 => ByteArray.mk l.toArray) h
theorem goodB_le {l : List UInt8} (h : goodB l = true) : l.length ≤ 200 := by
  simp only [goodB, Bool.and_eq_true, decide_eq_true_eq] at h
  exact h.1.1
theorem namedB_le {l : List UInt8} (h : namedB l = true) : 1 ≤ l.length ∧ l.length ≤ 40 := by
  simp only [namedB, Bool.and_eq_true, decide_eq_true_eq] at h
  exact ⟨h.1.1, h.1.2⟩

theorem ret_strE {a b : ByteArray} {i j : Int} (h : a = b) (h' : i = j) : Ending.returned (.tuple #[.string a, .int .i64 i]) = .returned (.tuple #[.string b, .int .i64 j]) := by rw [h, h']
theorem size_le_maxLen {m : List UInt8} (h : m.length ≤ 140737488355328) : (ByteArray.mk m.toArray).size ≤ maxLen := by
  unfold maxLen
  rw [Lib.size_eq]
  show m.length ≤ _
  omega

theorem below_next {a b c : World} (h : Below a.heap.size a b) (k : Below b.heap.size b c) : Below a.heap.size a c := h.trans (k.mono h.size)

theorem splitL_no : ∀ l : List UInt8, 47 ∉ l → splitL l = [l]
  | [], _ => rfl
  | c :: l, h => splitL_other (by rintro rfl; simp at h) (splitL_no l (by simp at h; exact h.2))
theorem last_slash : ∀ l : List UInt8, 47 ∈ l → ∃ a b, l = a ++ 47 :: b ∧ 47 ∉ b
  | [], h => by simp at h
  | c :: l, h => by
    by_cases hl : 47 ∈ l
    · obtain ⟨a, b, e, hb⟩ := last_slash l hl
      exact ⟨c :: a, b, by rw [e]; rfl, hb⟩
    · have hc : c = 47 := by
        rcases List.mem_cons.1 h with e | e
        · exact e.symm
        · exact absurd e hl
      exact ⟨[], l, by rw [hc]; rfl, hl⟩
theorem goodB_cons (r : List UInt8) (hr : r ≠ []) : goodB (47 :: r) = (decide (r.length + 1 ≤ 200) && (splitL r).all namedB) := by
  have h1 : Lib.hasPrefix (47 :: r) [47] = true := by simp [Lib.hasPrefix, List.isPrefixOf]
  have h2 : stepsL (47 :: r) = splitL r := by
    rw [stepsL, if_neg (by simp [hr]), Lib.trimPrefix, if_pos h1]; rfl
  simp only [goodB, h1, h2, Bool.and_true, List.length_cons]
theorem goodB_root : goodB [47] = true := by decide +kernel
theorem not_named_nil : namedB [] = false := by decide +kernel
set_option maxRecDepth 10000 in
set_option maxHeartbeats 400000 in
theorem clone_any (s : ByteArray) (w : World) (hs : s.size ≤ 281474976710656) :
    Calls Tryz.prog 51 #[.string s] w fun e w' => e = .returned (.string s) ∧ Below w.heap.size w w' := by
  go_enter Tryz.func51, Tryz.ntmps51
  go_wp2_with fail
  refine (Tryz.stringslite_Clone s _ hs).mono ?_
  rintro e w1 ⟨rfl, hb1⟩
  go_wp2_with fail
  go_ret
  exact ⟨rfl, hb1⟩

end Go.Proofs.YtcplpbelficbeaaGreatDoor
