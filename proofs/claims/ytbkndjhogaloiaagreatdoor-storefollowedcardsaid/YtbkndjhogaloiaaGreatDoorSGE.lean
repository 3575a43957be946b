/-
  What path.letter and path.Named answer, for every byte and every text: the walks.
  What strings.SplitSeq's iterator gives at one byte, a slash, and what path.steps' iterator gives: for every loop body.
  What path.steps' iterator gives: the steps of a text, in order, to every loop body.
  What path.Good answers, for every text: the walk.
  What is known of paths beside the walks: pieces, bounds, clones; shared by the texts of several packages.
  A tree as plain lists: nodes by path, sessions, what a good one is, where a path stands. No program is named here.
  Watches and notes as plain lists: which events set a watch off, who is told, what is left. No program is named here.
  Decimal digits and the text of a zxid, as plain functions on lists of bytes; no program is named here.
  A server as plain data: whether it is up, its disk, its peer, its tree, its watches. The epoch that a disk remembers. No program is named here.
  How lists of nodes, numbers, events and texts lie in memory: rows of cells, so many each; a row of the call's own; what stays when other memory turns.
  How lists of watches and notes lie in memory.
  What disk.size and disk.find answer, with slices.BinarySearchFunc's own text: the walks.
-/
import Derived.Test.YtbkndjhogaloiaaGreatDoorRows
import Derived.Test.YtbkndjhogaloiaaGreatDoorSGA
import Derived.WalkKit
import Derived.WalkSpells
import Derived.WalkLawsBesides
import Derived.Test.YtbkndjhogaloiaaGreatDoorSGD
import Derived.Test.YtbkndjhogaloiaaGreatDoorShelf
import Derived.Shelf.RegionOpen
import Derived.TacticsInMore
import Derived.LoopNIn
import Derived.LoopIn
import Derived.Lib.QuietBelow
import Derived.Lib.ItoaNum
import Derived.Lib.IndexLaws
import Derived.Test.YtbkndjhogaloiaaGreatDoorSGB
namespace Go.Proofs.YtbkndjhogaloiaaGreatDoor
open Go.RowKit

theorem ret_bool {a b : Bool} (h : a = b) : Ending.returned (.bool a) = .returned (.bool b) := by rw [h]

set_option maxRecDepth 10000 in
set_option maxHeartbeats 400000 in
theorem letter_any (c : UInt8) (w : World) :
    Calls Tryz.prog 76 #[.int .u8 c.toNat] w fun e w' => e = .returned (.bool (letterB c)) ∧ w' = w := by
  have hc := c.toNat_lt
  go_enter Tryz.func76, Tryz.ntmps76
  go_wp2
  all_goals go_ret
  all_goals exact ⟨ret_bool (by rw [Bool.eq_iff_iff]; simp [letterB]; try omega), rfl⟩

set_option maxRecDepth 10000 in
set_option maxHeartbeats 400000 in
theorem named_any (s : ByteArray) (w : World) (hs : s.size ≤ maxLen) :
    Calls Tryz.prog 58 #[.string s] w fun e w' => e = .returned (.bool (namedB s.data.toList)) ∧ w' = w := by
  unfold maxLen at hs
  by_cases h1 : s.size < 1
  · go_enter Tryz.func58, Tryz.ntmps58
    go_wp2
    go_ret
    exact ⟨ret_bool (namedB_short s h1).symm, rfl⟩
  by_cases h2 : 40 < s.size
  · go_enter Tryz.func58, Tryz.ntmps58
    go_wp2
    go_ret
    exact ⟨ret_bool (namedB_long s h2).symm, rfl⟩
  go_enter Tryz.func58, Tryz.ntmps58
  go_wp2
  go_loop [14] (fun i => ∃ k : Nat, k ≤ s.size ∧ i = .int .i64 k ∧ (s.data.toList.take k).all letterB = true) (fun i => s.size - (intOf i).toNat)
  case atStart => exact ⟨0, Nat.zero_le _, rfl, by simp⟩
  case round =>
    obtain ⟨k, hk, rfl, hall⟩ := hrel
    have Hall := hide hall
    clear hall
    by_cases hlt : k < s.size
    · by_cases hl : letterB s[k] = true
      · go_wp2_with (go_at_call 76; refine (letter_any _ _).mono ?_; rintro e w' ⟨rfl, rfl⟩)
        go_round
        case rel => exact ⟨k + 1, by omega, by go_num, all_take_succ s k hlt letterB (unhide Hall) hl⟩
        case measure => simp [intOf]; omega
      · have hl' : letterB s[k] = false := by simpa using hl
        clear hl
        go_wp2_with (go_at_call 76; refine (letter_any _ _).mono ?_; rintro e w' ⟨rfl, rfl⟩)
        go_ret
        exact ⟨ret_bool ((namedB_mid s (by omega) (by omega)).trans (not_all_of s k hlt letterB hl')).symm, rfl⟩
    · go_wp2
      go_ret
      exact ⟨ret_bool ((namedB_mid s (by omega) (by omega)).trans (all_of_size s k (by omega) letterB (unhide Hall))).symm, rfl⟩

end Go.Proofs.YtbkndjhogaloiaaGreatDoor

namespace Go.Proofs.YtbkndjhogaloiaaGreatDoor
open Go.RowKit Go.Shelf
attribute [local go_sem] Oper.semAt_some

/-- the length of the text in a box -/
def lenAt (w : World) (b : Nat) : Nat := match w.cell? ⟨b, 0, none⟩ with
  | some (.string s) => s.size
  | _ => 0
theorem lenAt_of {w : World} {b : Nat} {t : TypeId} {s : ByteArray} (h : Boxed w b t (.string s)) : lenAt w b = s.size := by
  simp [lenAt, h.cell]

theorem Boxed.of_heap {W W' : World} {B : Nat} {t : TypeId} {v : Value} (h : Boxed W B t v) (e : W'.heap[B]? = W.heap[B]?) : Boxed W' B t v := e.trans h

theorem cut_front (r : List UInt8) (i : Nat) : (ByteArray.mk r.toArray).extract 0 i = ⟨(r.take i).toArray⟩ := by
  have := Lib.extract_data ⟨r.toArray⟩ 0 i
  rw [List.drop_zero, Nat.sub_zero] at this
  exact congrArg (fun l : List UInt8 => ByteArray.mk l.toArray) this
theorem cut_back (r : List UInt8) (i : Nat) : (ByteArray.mk r.toArray).extract i r.length = ⟨(r.drop i).toArray⟩ := by
  have := Lib.extract_data ⟨r.toArray⟩ i r.length
  rw [List.take_of_length_le (by simp)] at this
  exact congrArg (fun l : List UInt8 => ByteArray.mk l.toArray) this
theorem wide_depth (n : Nat) : Fence.wide.depth.isSome = true → 1 ≤ n := fun h => by cases h

set_option maxRecDepth 100000 in
set_option maxHeartbeats 1000000 in
theorem splitSeq_gives (n Bsep Bs Bv : Nat) (s : List UInt8) (W : World) (h1 : Bs ≠ Bsep) (h2 : Bs ≠ Bv) (hlen : s.length ≤ 1000000)
    (b1 : Boxed W Bsep 9 (.string ⟨#[47]⟩)) (b2 : Boxed W Bs 9 (.string ⟨s.toArray⟩)) (b3 : Boxed W Bv 3 (.int .i64 0)) :
    SeqX Fence.wide n Tryz.prog 119 #[.pointer (some ⟨Bsep, 0, none⟩), .pointer (some ⟨Bs, 0, none⟩), .pointer (some ⟨Bv, 0, none⟩)] (fun x : List UInt8 => #[.string ⟨x.toArray⟩])
      (fun A B => ∃ v, B = A.setCell ⟨Bs, 0, none⟩ v) (fun A B => ∀ k, k = Bsep ∨ k = Bs ∨ k = Bv → B.heap[k]? = A.heap[k]?) (splitL s) W := by
  intro l J Jx hJ hJx hY h0
  refine callsIn_of_wp Tryz.func119 rfl trivial ?_ rfl
  simp only [Tryz.ntmps119, List.size_toArray, List.length_cons, List.length_nil, Nat.reduceAdd, Nat.reduceSub, Array.replicate_succ, Array.replicate_zero, List.push_toArray, List.append_toArray, List.nil_append, List.cons_append]
  have c1 := b1.cell
  have HY := hide hY
  have HJ := hide hJ
  have HJx := hide hJx
  clear hY hJ hJx
  gi_wp2
  clear c1
  gi_loopw [7] (fun _ wr => ∃ (pre : List (List UInt8)) (r : List UInt8), splitL s = pre ++ splitL r ∧ r.length ≤ 1000000 ∧ Boxed wr Bsep 9 (.string ⟨#[47]⟩) ∧ Boxed wr Bs 9 (.string ⟨r.toArray⟩) ∧ Boxed wr Bv 3 (.int .i64 0) ∧ J pre wr)
    (fun _ wr => lenAt wr Bs)
  case atStart => exact ⟨[], s, rfl, hlen, b1, b2, b3, h0⟩
  case round =>
    clear b1 b2 b3 h0 hlen
    obtain ⟨pre, r, hpre, hlen, b1, b2, b3, hJs⟩ := hrel
    have Hpre := hide hpre
    clear hpre
    have c1 := b1.cell
    have c2 := b2.cell
    have c3 := b3.cell
    have f2 := b2.frozen
    have hz : (ByteArray.mk r.toArray).size = r.length := Lib.size_eq ⟨r.toArray⟩
    rcases indexByte_cases r with hi | ⟨i, hi⟩
    · have Hs := hide (splitL_none r hi)
      have Hi := hide hi
      clear hi
      obtain ⟨fn, tmps, assign, body, hy, hR⟩ := unhide HY pre r wr hJs (by rw [unhide Hpre, unhide Hs]; exact List.prefix_refl _)
      gi_wp2_with fail
      refine ⟨trivial, wide_depth _, (callsIn_wide.2 (Tryz.strings_Index_one _ _ _)).mono ?_⟩
      rintro e w' ⟨rfl, rfl⟩
      rw [show (ByteArray.mk r.toArray).data.toList = r from rfl, unhide Hi]
      gi_wp2
      refine ⟨wide_depth _, hR.mono ?_⟩
      rintro e W3 (⟨rfl, hJ3, _⟩ | ⟨rfl, hJx3, _⟩)
      · gi_wp2
        go_end0
        exact ⟨⟨_, rfl⟩, .inl (by rw [unhide Hpre, unhide Hs]; exact hJ3)⟩
      · gi_wp2
        go_end0
        exact ⟨⟨_, rfl⟩, .inr ⟨_, by rw [unhide Hpre, unhide Hs]; exact List.prefix_refl _, hJx3⟩⟩
    · obtain ⟨hil, hsp⟩ := splitL_some r i hi
      have Hs := hide hsp
      have Hi := hide hi
      clear hi hsp
      obtain ⟨fn, tmps, assign, body, hy, hR⟩ := unhide HY pre (r.take i) wr hJs (by rw [unhide Hpre, unhide Hs]; simp)
      gi_wp2_with fail
      refine ⟨trivial, wide_depth _, (callsIn_wide.2 (Tryz.strings_Index_one _ _ _)).mono ?_⟩
      rintro e w' ⟨rfl, rfl⟩
      rw [show (ByteArray.mk r.toArray).data.toList = r from rfl, unhide Hi]
      rw [← cut_front r i] at hy
      gi_wp2
      refine ⟨wide_depth _, hR.mono ?_⟩
      rintro e W3 (⟨rfl, hJ3, hk3⟩ | ⟨rfl, hJx3, hk3⟩)
      · have d1 := Boxed.of_heap b1 (hk3 Bsep (.inl rfl))
        have d2 := Boxed.of_heap b2 (hk3 Bs (.inr (.inl rfl)))
        have d3 := Boxed.of_heap b3 (hk3 Bv (.inr (.inr rfl)))
        have Hl := hide (lenAt_of b2)
        clear c1 c2 c3 f2 b1 b2 b3 hk3 hy hR
        have c1 := d1.cell
        have c2 := d2.cell
        have f2 := d2.frozen
        gi_wp2
        rw [cut_back]
        refine ⟨⟨pre ++ [r.take i], r.drop (i + 1), by rw [unhide Hpre, unhide Hs]; simp, by simp; omega, Boxed.of_heap d1 (Below.heap_setCell W3 _ _ Bsep (Ne.symm h1)), d2.set _,
          Boxed.of_heap d3 (Below.heap_setCell W3 _ _ Bv (Ne.symm h2)), unhide HJ _ _ _ hJ3 ⟨_, rfl⟩⟩, ?_⟩
        rw [lenAt_of (d2.set _), unhide Hl]
        show (r.drop (i + 1)).toArray.size < r.toArray.size
        simp; omega
      · gi_wp2
        refine bodyPost_ret (results_none rfl _ _ _) rfl ?_
        exact ⟨⟨_, rfl⟩, .inr ⟨pre ++ [r.take i], by rw [unhide Hpre, unhide Hs]; simp, hJx3⟩⟩

end Go.Proofs.YtbkndjhogaloiaaGreatDoor

namespace Go.Proofs.YtbkndjhogaloiaaGreatDoor
open Go.RowKit Go.Shelf
attribute [local go_sem] Oper.semAt_some

theorem below_putObj {n1 l : Nat} (W : World) (o : Obj) (h : n1 ≤ l) : Below n1 W (W.putObj l o) :=
  ⟨rfl, rfl, rfl, by simp, fun k hk => World.putObj_heap_other (by omega)⟩
theorem boxed_putObj {W : World} {B l : Nat} {t : TypeId} {v : Value} (o : Obj) (h : Boxed W B t v) (hne : B ≠ l) : Boxed (W.putObj l o) B t v := (World.putObj_heap_other hne).trans h

set_option maxRecDepth 10000 in
set_option maxHeartbeats 400000 in
theorem splitSeq_makes (s sep : ByteArray) (w : World) :
    Calls Tryz.prog 98 #[.string s, .string sep] w fun e w' =>
      e = .returned (.func (.func 119) #[] #[.pointer (some ⟨w.heap.size + 1, 0, none⟩), .pointer (some ⟨w.heap.size, 0, none⟩), .pointer (some ⟨w.heap.size + 1 + 1, 0, none⟩)]) ∧
      w' = ((w.alloc (.cells #[.string s] 9)).alloc (.cells #[.string sep] 9)).alloc (.cells #[.int .i64 0] 3) := by
  go_enter Tryz.func98, Tryz.ntmps98
  go_wp2
  go_ret
  exact ⟨rfl, rfl⟩

theorem round_wide {n m l0 : Nat} {P : Program} {l : Nat} {f : FuncId} {tmps : Array Value} {assign body : Code} {w : World} {R : Ending → World → Prop} (h : RoundIn Fence.wide n P l f tmps assign body w R) : RoundIn (Fence.wide.inRound l0) m P l f tmps assign body w R :=
  ⟨h.1, fun c cs _ => h.2 c cs (room_wide _)⟩

theorem four_boxes (W : World) (v0 v1 v2 v3 : Value) (t0 t1 t2 t3 : TypeId) (W0 : World) (h : (((W.alloc (.cells #[v0] t0)).alloc (.cells #[v1] t1)).alloc (.cells #[v2] t2)).alloc (.cells #[v3] t3) = W0) :
    W0.heap.size = W.heap.size + 4 ∧ Boxed W0 W.heap.size t0 v0 ∧ Boxed W0 (W.heap.size + 1) t1 v1 ∧ Boxed W0 (W.heap.size + 2) t2 v2 ∧ Boxed W0 (W.heap.size + 3) t3 v3 ∧ Below W.heap.size W W0 := by
  subst h
  refine ⟨by simp, (((Boxed.new W t0 v0).alloc _).alloc _).alloc _, ?_, ?_, ?_, ?_⟩
  · have := Boxed.new (W.alloc (.cells #[v0] t0)) t1 v1
    rw [World.size_alloc] at this
    exact (this.alloc _).alloc _
  · have := Boxed.new ((W.alloc (.cells #[v0] t0)).alloc (.cells #[v1] t1)) t2 v2
    rw [World.size_alloc, World.size_alloc] at this
    exact this.alloc _
  · have := Boxed.new (((W.alloc (.cells #[v0] t0)).alloc (.cells #[v1] t1)).alloc (.cells #[v2] t2)) t3 v3
    rw [World.size_alloc, World.size_alloc, World.size_alloc] at this
    exact this
  · exact ((((Below.refl _ W).alloc (Nat.le_refl _) _).alloc (by simp) _).alloc (by simp; omega) _).alloc (by simp; omega) _

set_option maxRecDepth 100000 in
set_option maxHeartbeats 1000000 in
theorem steps_gives (n Bp : Nat) (s : List UInt8) (W : World) (hn : 1 ≤ n) (hlen : s.length ≤ 1000000) (bp : Boxed W Bp 9 (.string ⟨s.toArray⟩)) :
    SeqX Fence.wide n Tryz.prog 97 #[.pointer (some ⟨Bp, 0, none⟩)] (fun x : List UInt8 => #[.string ⟨x.toArray⟩])
      (Below W.heap.size) (Above W.heap.size) (stepsL s) W := by
  intro l J Jx hJ hJx hY h0
  refine callsIn_of_wp_marks Tryz.func97 rfl trivial ?_ rfl
  simp only [Tryz.ntmps97, List.size_toArray, List.length_cons, List.length_nil, Nat.reduceAdd, Nat.reduceSub, Array.replicate_succ, Array.replicate_zero, List.push_toArray, List.append_toArray, List.nil_append, List.cons_append]
  have cp := bp.cell
  have cp' := (bp.alloc (.cells #[.func (.yield l) #[] #[]] 104)).cell
  have HY := hide hY
  have HJ := hide hJ
  have HJx := hide hJx
  clear hY hJ hJx
  by_cases hroot : s = [47]
  · subst hroot
    gi_wp2
    refine ⟨_, results_none rfl _ _ _, ⟨_, rfl⟩, .inl ?_⟩
    exact unhide HJ _ _ _ h0 ((Below.refl _ W).alloc (Nat.le_refl _) _)
  · have hr1 : (s == [47]) = false := by simpa using hroot
    have Hst : Hid (stepsL s = splitL (Lib.trimPrefix s [47])) := by rw [stepsL, if_neg hroot]; exact rfl
    clear hroot
    gi_wp2_with fail
    refine ⟨trivial, (callsIn_wide.2 (Tryz.strings_TrimPrefix _ _ _)).mono ?_⟩
    rintro e w' ⟨rfl, rfl⟩
    rw [show (ByteArray.mk s.toArray).data.toList = s from rfl, show (ByteArray.mk #[47]).data.toList = [47] from rfl]
    generalize hR : Lib.trimPrefix s [47] = R
    have hRl : R.length ≤ 1000000 := by
      have := Lib.trimPrefix_le s [47]
      rw [← hR]; omega
    have Hst' : Hid (stepsL s = splitL R) := by rw [← hR]; exact Hst
    clear hR Hst hr1 cp cp'
    gi_wp2_with fail
    refine ⟨trivial, (callsIn_wide.2 (splitSeq_makes _ _ _)).mono ?_⟩
    rintro e w' ⟨rfl, rfl⟩
    gi_wp2_with fail
    generalize hW0 : (((W.alloc (.cells #[.func (.yield l) #[] #[]] 104)).alloc (.cells #[.string ⟨R.toArray⟩] 9)).alloc (.cells #[.string ⟨#[47]⟩] 9)).alloc (.cells #[.int .i64 0] 3) = W0
    obtain ⟨hsz, k0, k1, k2, k3, kb⟩ := four_boxes _ _ _ _ _ _ _ _ _ W0 hW0
    clear hW0
    refine wpIn_rangeFunc_X (α := List UInt8) rfl hn (gf := 119) (lb := #[.pointer (some ⟨W.heap.size + 2, 0, none⟩), .pointer (some ⟨W.heap.size + 1, 0, none⟩), .pointer (some ⟨W.heap.size + 3, 0, none⟩)]) rfl trivial (enters_of Tryz.func119 (by kernel_rfl) rfl)
      (fun o1 o2 => splitSeq_gives (n - 1) (W.heap.size + 2) (W.heap.size + 1) (W.heap.size + 3) R _ (by omega) (by omega) hRl ((k2.alloc o1).alloc o2) ((k1.alloc o1).alloc o2) ((k3.alloc o1).alloc o2))
      (fun A B k hs hk hl => by obtain ⟨v, rfl⟩ := hs; exact Below.heap_setCell A _ _ k (by show k ≠ W.heap.size + 1; omega))
      (fun A B C h k i hi => (k i hi).trans (h i hi)) (fun A o k hk => World.putObj_heap_other (by omega)) (fun _ => rfl)
      (fun pre A => J pre A ∧ Boxed A W.heap.size 104 (.func (.yield l) #[] #[]))
      (fun c pre A => c = .ret ∧ Jx pre A)
      (fun pre A B hs hg => by
        obtain ⟨v, rfl⟩ := hg
        exact ⟨unhide HJ _ _ _ hs.1 ((Below.refl _ A).setCell (p := ⟨W.heap.size + 1, 0, none⟩) (by simp) v), Boxed.of_heap hs.2 (Below.heap_setCell A _ _ _ (by show W.heap.size ≠ W.heap.size + 1; omega))⟩)
      (fun c pre A B hs hg => by
        obtain ⟨v, rfl⟩ := hg
        exact ⟨hs.1, unhide HJx _ _ _ hs.2 ((Below.refl _ A).setCell (p := ⟨W.heap.size + 1, 0, none⟩) (by simp) v)⟩)
      (fun pre A o hs => ⟨unhide HJ _ _ _ hs.1 (below_putObj A o (by omega)), boxed_putObj o hs.2 (by omega)⟩)
      (fun c pre A o hs => ⟨hs.1, unhide HJx _ _ _ hs.2 (below_putObj A o (by omega))⟩)
      (fun o1 o2 => ⟨unhide HJ _ _ _ h0 ((kb.alloc (by omega) o1).alloc (by simp; omega) o2), (k0.alloc o1).alloc o2⟩)
      (fun x => { tmps := #[.func (.yield l) #[] #[], .pointer (some ⟨Bp, 0, none⟩), .pointer (some ⟨W.heap.size, 0, none⟩), .string ⟨x.toArray⟩, .string ⟨s.toArray⟩, .bool false, .string ⟨s.toArray⟩, .string ⟨R.toArray⟩,
        .func (.func 119) #[] #[.pointer (some ⟨W.heap.size + 2, 0, none⟩), .pointer (some ⟨W.heap.size + 1, 0, none⟩), .pointer (some ⟨W.heap.size + 3, 0, none⟩)], .string ⟨x.toArray⟩, undef, undef, undef, undef], defers := [] })
      ?assign ?body ?done ?stop
    case assign =>
      intro x A K hK
      gi_wp2
      exact hK
    case body =>
      rintro pre x A ⟨hJA, hbx⟩ hpre hlt
      have cx := hbx.cell
      obtain ⟨fn, tmps, assign, body, hy, hR⟩ := unhide HY pre x A hJA (by rw [unhide Hst']; exact hpre)
      gi_wp2
      refine ⟨wide_depth _, (round_wide hR).mono ?_⟩
      rintro e W3 (⟨rfl, hJ3, hk3⟩ | ⟨rfl, hJx3, hk3⟩)
      · gi_wp2
        exact ⟨hk3.block _ (by omega) (by omega), hk3.block _ (by omega) (by omega), fun k hk => hk3.block k (by omega) (by omega), hJ3, Boxed.of_heap hbx (hk3.block _ (Nat.le_refl _) (by omega))⟩
      · gi_wp2
        exact ⟨hk3.block _ (by omega) (by omega), hk3.block _ (by omega) (by omega), fun k hk => hk3.block k (by omega) (by omega), rfl, hJx3⟩
    case done =>
      rintro A ⟨hJA, hbx⟩ hK
      gi_wp2
      refine ⟨by simp, .inl ⟨_, _, rfl, run_takeDeferred hK, ?_⟩⟩
      refine ⟨_, results_none rfl _ _ _, ⟨_, rfl⟩, .inl ?_⟩
      rw [unhide Hst']
      exact unhide HJ _ _ _ hJA (below_putObj A _ (by omega))
    case stop =>
      rintro c pre A hpre ⟨rfl, hJA⟩ hK
      gi_wp2
      refine ⟨by simp, .inl ⟨_, _, rfl, run_takeDeferred hK, ?_⟩⟩
      refine ⟨_, results_none rfl _ _ _, ⟨_, rfl⟩, .inr ⟨pre, by rw [unhide Hst']; exact hpre, ?_⟩⟩
      exact unhide HJx _ _ _ hJA (below_putObj A _ (by omega))

end Go.Proofs.YtbkndjhogaloiaaGreatDoor

namespace Go.Proofs.YtbkndjhogaloiaaGreatDoor
open Go.RowKit Go.Shelf
set_option maxRecDepth 10000 in
attribute [local go_sem] Oper.semAt_some

set_option maxHeartbeats 400000 in
theorem steps_makes (s : ByteArray) (w : World) :
    Calls Tryz.prog 91 #[.string s] w fun e w' =>
      e = .returned (.func (.func 97) #[] #[.pointer (some ⟨w.heap.size, 0, none⟩)]) ∧ w' = w.alloc (.cells #[.string s] 9) := by
  go_enter Tryz.func91, Tryz.ntmps91
  go_wp2
  go_ret
  exact ⟨rfl, rfl⟩

theorem two_boxes (W : World) (v0 v1 : Value) (t0 t1 : TypeId) (W0 : World) (h : (W.alloc (.cells #[v0] t0)).alloc (.cells #[v1] t1) = W0) :
    W0.heap.size = W.heap.size + 2 ∧ Boxed W0 W.heap.size t0 v0 ∧ Boxed W0 (W.heap.size + 1) t1 v1 ∧ Below W.heap.size W W0 := by
  subst h
  refine ⟨by simp, (Boxed.new W t0 v0).alloc _, ?_, ?_⟩
  · have := Boxed.new (W.alloc (.cells #[v0] t0)) t1 v1
    rw [World.size_alloc] at this
    exact this
  · exact ((Below.refl _ W).alloc (Nat.le_refl _) _).alloc (by simp) _

theorem goodB_long {l : List UInt8} (h : 200 < l.length) : goodB l = false := by
  simp only [goodB, show ¬ l.length ≤ 200 from by omega, decide_false, Bool.false_and]
theorem goodB_front {l : List UInt8} (h : Lib.hasPrefix l [47] = false) : goodB l = false := by
  simp only [goodB, h, Bool.and_false, Bool.false_and]
theorem goodB_mid {l : List UInt8} (h0 : l.length ≤ 200) (h : Lib.hasPrefix l [47] = true) : goodB l = (stepsL l).all namedB := by
  simp only [goodB, h0, h, decide_true, Bool.true_and]
theorem stepsL_length (l : List UInt8) : ∀ p ∈ stepsL l, p.length ≤ l.length := by
  intro p hp
  unfold stepsL at hp
  split at hp
  · simp at hp
  · have h1 := splitL_length _ p hp
    have h2 := Lib.trimPrefix_le l [47]
    omega
theorem all_false_of_prefix {pre xs : List (List UInt8)} (h : pre <+: xs) (h1 : pre.all namedB = false) : xs.all namedB = false := by
  obtain ⟨t, rfl⟩ := h
  rw [List.all_append, h1, Bool.false_and]

theorem ba_list (s : ByteArray) : ∃ l : List UInt8, s = ⟨l.toArray⟩ := ⟨s.data.toList, rfl⟩

set_option maxRecDepth 100000 in
set_option maxHeartbeats 1000000 in
theorem good_main (l : List UInt8) (w : World) (h0 : l.length ≤ 200) (hp : Lib.hasPrefix l [47] = true) :
    Calls Tryz.prog 71 #[.string ⟨l.toArray⟩] w fun e w' => e = .returned (.bool ((stepsL l).all namedB)) ∧ Below w.heap.size w w' := by
  refine (callsIn_wide (n := 6)).1 ?_
  refine callsIn_of_wp_marks Tryz.func71 rfl trivial ?_ rfl
  simp only [Tryz.ntmps71, List.size_toArray, List.length_cons, List.length_nil, Nat.reduceAdd, Nat.reduceSub, Array.replicate_succ, Array.replicate_zero, List.push_toArray, List.append_toArray, List.nil_append, List.cons_append]
  have hz : (ByteArray.mk l.toArray).size = l.length := Lib.size_eq ⟨l.toArray⟩
  have Hp := hide hp
  clear hp
  gi_wp2_with fail
  refine ⟨trivial, (callsIn_wide.2 (Tryz.strings_HasPrefix _ _ _)).mono ?_⟩
  rintro e w' ⟨rfl, rfl⟩
  rw [show (ByteArray.mk l.toArray).data.toList = l from rfl, show (ByteArray.mk #[47]).data.toList = [47] from rfl, unhide Hp]
  gi_wp2_with fail
  refine ⟨trivial, (callsIn_wide.2 (steps_makes _ _)).mono ?_⟩
  rintro e w' ⟨rfl, rfl⟩
  gi_wp2_with fail
  generalize hW0 : (w.alloc (.cells #[.bool false] 4)).alloc (.cells #[.string ⟨l.toArray⟩] 9) = W0
  obtain ⟨hsz, k0, k1, kb⟩ := two_boxes _ _ _ _ _ W0 hW0
  clear hW0
  refine wpIn_rangeFunc_X (α := List UInt8) (encs := fun x => #[.string ⟨x.toArray⟩]) rfl (by omega) (gf := 97) (lb := #[.pointer (some ⟨w.heap.size + 1, 0, none⟩)]) rfl trivial (enters_of Tryz.func97 (by kernel_rfl) rfl)
    (St := Below (W0.heap.size + 1 + 1)) (Kp := Above (W0.heap.size + 1 + 1)) (xs := stepsL l)
    (fun o1 o2 => by
      have h := steps_gives 5 (w.heap.size + 1) l ((W0.alloc o1).alloc o2) (by omega) (by omega) ((k1.alloc o1).alloc o2)
      rw [World.size_alloc, World.size_alloc] at h
      exact h)
    (fun A B k hs hk _ => hs.block k (by omega))
    (fun A B C h k => h.trans k) (fun A o => Above.putObj A o (by omega)) (fun _ => rfl)
    (fun pre A => Below w.heap.size w A ∧ Boxed A w.heap.size 4 (.bool false) ∧ pre.all namedB = true)
    (fun c pre A => c = .ret ∧ Below w.heap.size w A ∧ Boxed A w.heap.size 4 (.bool false) ∧ pre.all namedB = false)
    (fun pre A B hs hg => ⟨hs.1.trans (hg.mono (by omega)), Boxed.of_heap hs.2.1 (hg.block _ (by omega)), hs.2.2⟩)
    (fun c pre A B hs hg => ⟨hs.1, hs.2.1.trans (hg.mono (by omega)), Boxed.of_heap hs.2.2.1 (hg.block _ (by omega)), hs.2.2.2⟩)
    (fun pre A o hs => ⟨hs.1.trans (below_putObj A o (by omega)), boxed_putObj o hs.2.1 (by omega), hs.2.2⟩)
    (fun c pre A o hs => ⟨hs.1, hs.2.1.trans (below_putObj A o (by omega)), boxed_putObj o hs.2.2.1 (by omega), hs.2.2.2⟩)
    (fun o1 o2 => ⟨(kb.alloc (by omega) o1).alloc (by simp; omega) o2, (k0.alloc o1).alloc o2, rfl⟩)
    (fun x => { tmps := #[.string ⟨l.toArray⟩, undef, .pointer (some ⟨w.heap.size, 0, none⟩), .string ⟨x.toArray⟩, .string ⟨l.toArray⟩, .int .i64 l.length, .bool (decide (200 < (l.length : Int))), .bool (decide (200 < (l.length : Int))), .string ⟨l.toArray⟩, .bool true, .bool false,
      .bool (decide (200 < (l.length : Int))), .string ⟨l.toArray⟩, .func (.func 97) #[] #[.pointer (some ⟨w.heap.size + 1, 0, none⟩)], .string ⟨x.toArray⟩, undef, undef, undef], defers := [] })
    ?assign ?body ?done ?stop
  case assign =>
    intro x A K hK
    gi_wp2
    exact hK
  case body =>
    rintro pre x A ⟨hB, hbx, hall⟩ hpre hlt
    have cx := hbx.cell
    have fx := hbx.frozen
    have hxl : x.length ≤ 200 := by
      have := stepsL_length l x (hpre.subset (by simp))
      omega
    have hxs : (ByteArray.mk x.toArray).size ≤ maxLen := by
      unfold maxLen
      rw [Lib.size_eq]
      show x.length ≤ _
      omega
    have Hall := hide hall
    clear hall
    gi_wp2_with fail
    refine ⟨trivial, (CallsIn.inRound _ (callsIn_wide.2 (named_any _ _ hxs))).mono ?_⟩
    rintro e w' ⟨rfl, rfl⟩
    rw [show (ByteArray.mk x.toArray).data.toList = x from rfl]
    cases hx : namedB x
    · gi_wp2
      refine ⟨Below.heap_setCell _ _ _ _ (by show W0.heap.size ≠ w.heap.size; omega), Below.heap_setCell _ _ _ _ (by show W0.heap.size + 1 ≠ w.heap.size; omega), Above.setCell _ _ (by show w.heap.size < _; omega), rfl, hB.setCell (p := ⟨w.heap.size, 0, none⟩) (Nat.le_refl _) _, hbx.set _, ?_⟩
      rw [List.all_append, unhide Hall]; simp [hx]
    · gi_wp2
      refine ⟨rfl, rfl, Above.refl _ _, hB, hbx, ?_⟩
      rw [List.all_append, unhide Hall]; simp [hx]
  case done =>
    rintro A ⟨hB, hbx, hall⟩ hK
    have cx := hbx.cell
    have fx := hbx.frozen
    have Hall := hide hall
    clear hall
    gi_wp2
    have hK' : (A.setCell ⟨w.heap.size, 0, none⟩ (.bool true)).heap[W0.heap.size]? = some (.deferred (some [])) := (Below.heap_setCell _ _ _ _ (by show W0.heap.size ≠ w.heap.size; omega)).trans hK
    have hc := (boxed_putObj (l := W0.heap.size) (.deferred none) (hbx.set (.bool true)) (by omega)).cell
    refine ⟨by simp, .inl ⟨_, _, rfl, run_takeDeferred hK', ?_⟩⟩
    refine ⟨.bool true, ?_, by rw [unhide Hall], (hB.setCell (p := ⟨w.heap.size, 0, none⟩) (Nat.le_refl _) _).trans (below_putObj _ _ (by omega))⟩
    simp [results, Tryz.f71, go_sem, hc]
  case stop =>
    rintro c pre A hpre ⟨rfl, hB, hbx, hall⟩ hK
    have Hall := hide (all_false_of_prefix hpre hall)
    clear hall
    gi_wp2
    have hc := (boxed_putObj (l := W0.heap.size) (.deferred none) hbx (by omega)).cell
    refine ⟨by simp, .inl ⟨_, _, rfl, run_takeDeferred hK, ?_⟩⟩
    refine ⟨.bool false, ?_, by rw [unhide Hall], hB.trans (below_putObj _ _ (by omega))⟩
    simp [results, Tryz.f71, go_sem, hc]

set_option maxRecDepth 10000 in
set_option maxHeartbeats 400000 in
theorem good_long (l : List UInt8) (w : World) (h0 : 200 < l.length) :
    Calls Tryz.prog 71 #[.string ⟨l.toArray⟩] w fun e w' => e = .returned (.bool false) ∧ Below w.heap.size w w' := by
  have hz : (ByteArray.mk l.toArray).size = l.length := Lib.size_eq ⟨l.toArray⟩
  go_enter Tryz.func71, Tryz.ntmps71
  go_wp2_with fail
  exact bodyPost_ret (v := .bool false) (by simp [results, Tryz.f71, go_sem]) rfl ⟨rfl, (Below.refl _ _).alloc (Nat.le_refl _) _⟩

set_option maxRecDepth 10000 in
set_option maxHeartbeats 400000 in
theorem good_front (l : List UInt8) (w : World) (h0 : l.length ≤ 200) (hp : Lib.hasPrefix l [47] = false) :
    Calls Tryz.prog 71 #[.string ⟨l.toArray⟩] w fun e w' => e = .returned (.bool false) ∧ Below w.heap.size w w' := by
  have hz : (ByteArray.mk l.toArray).size = l.length := Lib.size_eq ⟨l.toArray⟩
  have Hp := hide hp
  clear hp
  go_enter Tryz.func71, Tryz.ntmps71
  go_wp2_with fail
  refine (Tryz.strings_HasPrefix _ _ _).mono ?_
  rintro e w' ⟨rfl, rfl⟩
  rw [show (ByteArray.mk l.toArray).data.toList = l from rfl, show (ByteArray.mk #[47]).data.toList = [47] from rfl, unhide Hp]
  go_wp2_with fail
  exact bodyPost_ret (v := .bool false) (by simp [results, Tryz.f71, go_sem]) rfl ⟨rfl, (Below.refl _ _).alloc (Nat.le_refl _) _⟩

/-- WHAT path.Good ANSWERS -/
theorem good_any (s : ByteArray) (w : World) : Calls Tryz.prog 71 #[.string s] w fun e w' => e = .returned (.bool (goodB s.data.toList)) ∧ Below w.heap.size w w' := by
  obtain ⟨l, rfl⟩ := ba_list s
  show Calls _ _ _ _ fun e w' => e = .returned (.bool (goodB l)) ∧ _
  by_cases h0 : 200 < l.length
  · rw [goodB_long h0]; exact good_long l w h0
  · cases hp : Lib.hasPrefix l [47]
    · rw [goodB_front hp]; exact good_front l w (by omega) hp
    · rw [goodB_mid (by omega) hp]; exact good_main l w (by omega) hp

end Go.Proofs.YtbkndjhogaloiaaGreatDoor

namespace Go.Proofs.YtbkndjhogaloiaaGreatDoor
open Go.RowKit Go.Shelf
theorem cat_one (l m : List UInt8) : (ByteArray.mk l.toArray) ++ (ByteArray.mk m.toArray) = ⟨(l ++ m).toArray⟩ := by
  have h : ((ByteArray.mk l.toArray) ++ (ByteArray.mk m.toArray)).data.toList = l ++ m := by simp [ByteArray.data_append]
  exact congrArg (fun l : List UInt8 => ByteArray.mk l.toArray) h
theorem below_next {a b c : World} (h : Below a.heap.size a b) (k : Below b.heap.size b c) : Below a.heap.size a c := h.trans (k.mono h.size)

set_option maxRecDepth 10000 in
set_option maxHeartbeats 400000 in
theorem clone_any (s : ByteArray) (w : World) (hs : s.size ≤ 281474976710656) :
    Calls Tryz.prog 61 #[.string s] w fun e w' => e = .returned (.string s) ∧ Below w.heap.size w w' := by
  go_enter Tryz.func61, Tryz.ntmps61
  go_wp2_with fail
  refine (Tryz.stringslite_Clone s _ hs).mono ?_
  rintro e w1 ⟨rfl, hb1⟩
  go_wp2_with fail
  go_ret
  exact ⟨rfl, hb1⟩

end Go.Proofs.YtbkndjhogaloiaaGreatDoor

namespace Go.Proofs.YtbkndjhogaloiaaGreatDoor
open Go.RowKit

/- a path's parent and last step -/
def lastCut : List UInt8 → Option (List UInt8 × List UInt8)
  | [] => none
  | c :: l => match lastCut l with
    | some (a, b) => some (c :: a, b)
    | none => if c = 47 then some ([], l) else none
def nupL (a : List UInt8) : List UInt8 := if a = [] then [47] else a
def dirOf (p : List UInt8) : List UInt8 := if goodB p = true ∧ p ≠ [47] then (match lastCut p with
  | some (a, _) => nupL a
  | none => []) else []
/- nodes -/
structure Nd where
  p : List UInt8
  d : List UInt8
  c : Int
  m : Int
  q : Int
  v : Int
  k : Int
  o : Int
  n : Int
instance : Inhabited Nd := ⟨⟨[], [], 0, 0, 0, 0, 0, 0, 0⟩⟩
structure Tr where
  z : Int
  ns : List Nd
  ss : List Int
def tr0 : Tr := ⟨0, [], []⟩
def nroot : Nd := ⟨[47], [], 0, 0, 0, 0, 0, 0, 0⟩
def trNew : Tr := ⟨0, [nroot], []⟩

def NAsc (ns : List Nd) : Prop := ns.Pairwise fun a b => bl a.p b.p = true
def kidsN (ns : List Nd) (p : List UInt8) : Nat := ns.countP fun x => decide (dirOf x.p = p)
structure NOk (z : Int) (ns : List Nd) (ss : List Int) (n : Nd) : Prop where
  data : n.d.length ≤ 256
  path : goodB n.p = true
  up : n.p ≠ [47] → ∃ u ∈ ns, u.p = dirOf n.p
  c0 : 0 ≤ n.c
  cm : n.c ≤ n.m
  cq : n.c ≤ n.q
  mz : n.m ≤ z
  qz : n.q ≤ z
  v0 : 0 ≤ n.v
  v1 : n.v ≤ 2147483647
  k0 : 0 ≤ n.k
  kids : n.n = kidsN ns n.p
  own : n.o = 0 ∨ n.o ∈ ss ∧ n.n = 0
structure GoodN (z : Int) (ns : List Nd) (ss : List Int) : Prop where
  few : ns.length ≤ 400
  root : ∃ r rest, ns = r :: rest ∧ r.p = [47] ∧ r.o = 0
  asc : NAsc ns
  ok : ∀ n ∈ ns, NOk z ns ss n
/- where a path stands -/
structure NThere (ns A : List Nd) (n : Nd) (B : List Nd) (p : List UInt8) : Prop where
  eq : ns = A ++ n :: B
  nm : n.p = p
  lo : ∀ a ∈ A, bl a.p p = true
  hi : ∀ b ∈ B, bl p b.p = true
structure NGap (ns A B : List Nd) (p : List UInt8) : Prop where
  eq : ns = A ++ B
  lo : ∀ a ∈ A, bl a.p p = true
  hi : ∀ b ∈ B, bl p b.p = true
def lookN (ns : List Nd) (p : List UInt8) : Option Nd := ns.find? fun n => decide (n.p = p)
theorem NThere.look {ns A B : List Nd} {n : Nd} {p : List UInt8} (T : NThere ns A n B p) : lookN ns p = some n := by
  rw [lookN, T.eq, List.find?_append, List.find?_eq_none.2 (fun a ha => by simp [bl_ne (T.lo a ha)])]
  simp [T.nm]
theorem NGap.no {ns A B : List Nd} {p : List UInt8} (G : NGap ns A B p) : ∀ n ∈ ns, n.p ≠ p := by
  intro n hn
  rw [G.eq] at hn
  rcases List.mem_append.1 hn with h | h
  · exact bl_ne (G.lo n h)
  · exact (bl_ne (G.hi n h)).symm
theorem NGap.look {ns A B : List Nd} {p : List UInt8} (G : NGap ns A B p) : lookN ns p = none := by
  rw [lookN, List.find?_eq_none]
  intro n hn
  simp [G.no n hn]
/- changes -/
def dropN (ns : List Nd) (p : List UInt8) : List Nd := ns.filter fun n => decide (n.p ≠ p)
def insN (ns : List Nd) (x : Nd) : List Nd := (ns.filter fun n => bl n.p x.p) ++ x :: (ns.filter fun n => bl x.p n.p)
def setAt (p d : List UInt8) (v z : Int) (ns : List Nd) : List Nd := ns.map fun n => if n.p = p then ⟨n.p, d, n.c, z, n.q, v, n.k, n.o, n.n⟩ else n
theorem filter_all {α : Type} (f : α → Bool) (l : List α) (h : ∀ x ∈ l, f x = true) : l.filter f = l := List.filter_eq_self.2 h
theorem filter_no {α : Type} (f : α → Bool) (l : List α) (h : ∀ x ∈ l, f x = false) : l.filter f = [] := List.filter_eq_nil_iff.2 (fun x hx => by simp [h x hx])
theorem map_same {α : Type} (f : α → α) (l : List α) (h : ∀ x ∈ l, f x = x) : l.map f = l := by
  induction l with
  | nil => rfl
  | cons x r ih => rw [List.map_cons, h x (by simp), ih (fun y hy => h y (by simp [hy]))]
theorem NThere.drop {ns A B : List Nd} {n : Nd} {p : List UInt8} (T : NThere ns A n B p) : dropN ns p = A ++ B := by
  rw [dropN, T.eq, List.filter_append, List.filter_cons, filter_all _ A (fun a ha => by simp [bl_ne (T.lo a ha)]), filter_all _ B (fun a ha => by simp [(bl_ne (T.hi a ha)).symm])]
  simp [T.nm]
theorem NGap.ins {ns A B : List Nd} {x : Nd} (G : NGap ns A B x.p) : insN ns x = A ++ x :: B := by
  rw [insN, G.eq, List.filter_append, List.filter_append, filter_all _ A (fun a ha => G.lo a ha), filter_no _ B (fun a ha => bl_asymm (G.hi a ha)), filter_no _ A (fun a ha => bl_asymm (G.lo a ha)), filter_all _ B (fun a ha => G.hi a ha)]
  simp
theorem NThere.mapAt {ns A B : List Nd} {n : Nd} {p : List UInt8} (T : NThere ns A n B p) (g : Nd → Nd) : (ns.map fun x => if x.p = p then g x else x) = A ++ g n :: B := by
  rw [T.eq, List.map_append, List.map_cons, map_same _ A (fun a ha => by simp [bl_ne (T.lo a ha)]), map_same _ B (fun a ha => by simp [(bl_ne (T.hi a ha)).symm])]
  simp [T.nm]
theorem NThere.put {ns A B : List Nd} {n : Nd} {p : List UInt8} (T : NThere ns A n B p) (d : List UInt8) (v z : Int) : setAt p d v z ns = A ++ ⟨n.p, d, n.c, z, n.q, v, n.k, n.o, n.n⟩ :: B := T.mapAt _
/- a session -/
def insS (ss : List Int) (s : Int) : List Int := (ss.filter fun x => decide (x < s)) ++ s :: (ss.filter fun x => decide (s < x))
def dropS (ss : List Int) (s : Int) : List Int := ss.filter fun x => decide (x ≠ s)
structure SThere (ss A B : List Int) (s : Int) : Prop where
  eq : ss = A ++ s :: B
  lo : ∀ a ∈ A, a < s
  hi : ∀ b ∈ B, s < b
structure SGap (ss A B : List Int) (s : Int) : Prop where
  eq : ss = A ++ B
  lo : ∀ a ∈ A, a < s
  hi : ∀ b ∈ B, s < b
theorem SThere.mem {ss A B : List Int} {s : Int} (T : SThere ss A B s) : s ∈ ss := by rw [T.eq]; simp
theorem SGap.not {ss A B : List Int} {s : Int} (G : SGap ss A B s) : s ∉ ss := by
  intro h
  rw [G.eq] at h
  rcases List.mem_append.1 h with h | h
  · exact absurd (G.lo s h) (by omega)
  · exact absurd (G.hi s h) (by omega)
theorem SGap.ins {ss A B : List Int} {s : Int} (G : SGap ss A B s) : insS ss s = A ++ s :: B := by
  rw [insS, G.eq, List.filter_append, List.filter_append, filter_all _ A (fun a ha => by simpa using G.lo a ha), filter_no _ B (fun a ha => by have := G.hi a ha; simp; omega), filter_no _ A (fun a ha => by have := G.lo a ha; simp; omega), filter_all _ B (fun a ha => by simpa using G.hi a ha)]
  simp
theorem SThere.drop {ss A B : List Int} {s : Int} (T : SThere ss A B s) : dropS ss s = A ++ B := by
  rw [dropS, T.eq, List.filter_append, List.filter_cons, filter_all _ A (fun a ha => by have := T.lo a ha; simp; omega), filter_all _ B (fun a ha => by have := T.hi a ha; simp; omega)]
  simp
end Go.Proofs.YtbkndjhogaloiaaGreatDoor

namespace Go.Proofs.YtbkndjhogaloiaaGreatDoor

structure Wa where
  s : Int
  k : Int
  p : List UInt8
end Go.Proofs.YtbkndjhogaloiaaGreatDoor

namespace Go.Proofs.YtbkndjhogaloiaaGreatDoor
open Go.RowKit

def isD (c : UInt8) : Bool := decide (48 ≤ c.toNat) && decide (c.toNat ≤ 57)
theorem isD_iff {c : UInt8} : isD c = true ↔ 48 ≤ c.toNat ∧ c.toNat ≤ 57 := by simp [isD]
/-- the number that digits say -/
def num (l : List UInt8) : Nat := l.foldl (fun n c => 10 * n + (c.toNat - 48)) 0
theorem num_snoc (l : List UInt8) (c : UInt8) : num (l ++ [c]) = 10 * num l + (c.toNat - 48) := by simp [num]
theorem snoc_cases (l : List UInt8) : l = [] ∨ ∃ a c, l = a ++ [c] := by
  cases h : l.reverse with
  | nil => exact .inl (by simpa using h)
  | cons c r => exact .inr ⟨r.reverse, c, by have := congrArg List.reverse h; simpa using this⟩
theorem num_lt (l : List UInt8) (h : l.all isD = true) : num l < 10 ^ l.length := by
  obtain ⟨n, hn⟩ : ∃ n, l.length = n := ⟨_, rfl⟩
  induction n generalizing l with
  | zero => rw [List.length_eq_zero_iff.1 hn]; decide
  | succ n ih =>
    rcases snoc_cases l with rfl | ⟨a, c, rfl⟩
    · simp at hn
    · simp only [List.all_append, Bool.and_eq_true, List.all_cons, List.all_nil, Bool.and_true] at h
      have h1 := ih a h.1 (by simpa using hn)
      have h2 := isD_iff.1 h.2
      rw [num_snoc, List.length_append, List.length_singleton, Nat.pow_succ]
      omega
/-- 1 to 10 digits, no needless nought ahead -/
def partB (l : List UInt8) : Bool := decide (1 ≤ l.length) && decide (l.length ≤ 10) && !(decide (1 < l.length) && l.head? == some 48) && l.all isD
def partN (l : List UInt8) : Int := if partB l then (num l : Int) else 0
theorem partN_yes {l : List UInt8} (h : partB l = true) : partN l = num l := by rw [partN, if_pos h]
theorem partN_no {l : List UInt8} (h : partB l = false) : partN l = 0 := by rw [partN, h]; rfl
theorem partB_iff {l : List UInt8} : partB l = true ↔ 1 ≤ l.length ∧ l.length ≤ 10 ∧ (1 < l.length → l.head? ≠ some 48) ∧ l.all isD = true := by
  simp only [partB, Bool.and_eq_true, decide_eq_true_eq, Bool.not_eq_true', Bool.and_eq_false_imp, beq_eq_false_iff_ne, ne_eq]
  constructor
  · rintro ⟨⟨⟨a, b⟩, c⟩, d⟩; exact ⟨a, b, c, d⟩
  · rintro ⟨a, b, c, d⟩; exact ⟨⟨⟨a, b⟩, c⟩, d⟩
theorem partB_no {l : List UInt8} (h : ¬ (1 ≤ l.length ∧ l.length ≤ 10 ∧ (1 < l.length → l.head? ≠ some 48) ∧ l.all isD = true)) : partB l = false := by
  cases hp : partB l with
  | false => rfl
  | true => exact absurd (partB_iff.1 hp) h

theorem decs {u : Nat} (h : u < 10) : Lib.decDigits u = [UInt8.ofNat (48 + u)] := by rw [Lib.decDigits, dif_pos h]
theorem decb {u : Nat} (h : ¬ u < 10) : Lib.decDigits u = Lib.decDigits (u / 10) ++ [UInt8.ofNat (48 + u % 10)] := by rw [Lib.decDigits, dif_neg h]
theorem dig_toNat {d : Nat} (h : d < 10) : (UInt8.ofNat (48 + d)).toNat = 48 + d := by rw [UInt8.toNat_ofNat']; omega
theorem dig_isD {d : Nat} (h : d < 10) : isD (UInt8.ofNat (48 + d)) = true := isD_iff.2 (by rw [dig_toNat h]; omega)
theorem dec_facts (u : Nat) : (Lib.decDigits u).all isD = true ∧ num (Lib.decDigits u) = u ∧ 1 ≤ (Lib.decDigits u).length ∧ (u ≠ 0 → (Lib.decDigits u).head? ≠ some 48) := by
  induction u using Nat.strongRecOn with
  | _ u ih =>
    by_cases h : u < 10
    · rw [decs h]
      refine ⟨by rw [List.all_cons, List.all_nil, dig_isD h]; rfl, ?_, by simp, ?_⟩
      · show 10 * 0 + ((UInt8.ofNat (48 + u)).toNat - 48) = u
        rw [dig_toNat h]; omega
      · intro h0 e
        have h1 := congrArg UInt8.toNat (Option.some.inj e)
        rw [dig_toNat h] at h1
        have h2 : (48 : UInt8).toNat = 48 := rfl
        omega
    · rw [decb h]
      obtain ⟨i1, i2, i3, i4⟩ := ih (u / 10) (by omega)
      refine ⟨by rw [List.all_append, i1, List.all_cons, dig_isD (Nat.mod_lt u (by decide : 0 < 10)), List.all_nil]; rfl, ?_, by simp, ?_⟩
      · rw [num_snoc, i2, dig_toNat (Nat.mod_lt u (by decide))]; omega
      · intro _
        have i5 := i4 (by omega)
        cases hd : Lib.decDigits (u / 10) with
        | nil => rw [hd] at i3; simp at i3
        | cons c r => rw [hd] at i5; simpa using i5
theorem dec_len (k : Nat) : ∀ u, u < 10 ^ (k + 1) → (Lib.decDigits u).length ≤ k + 1 := by
  induction k with
  | zero => intro u hu; rw [decs (by simpa using hu)]; simp
  | succ k ih =>
    intro u hu
    by_cases h : u < 10
    · rw [decs h]; simp
    · rw [decb h]
      have := ih (u / 10) (by rw [Nat.pow_succ] at hu; omega)
      simp; omega
theorem dec_one {u : Nat} (h : 1 < (Lib.decDigits u).length) : u ≠ 0 := by
  rintro rfl
  rw [decs (by decide)] at h
  simp at h
theorem part_dec {u : Nat} (h : u < 10000000000) : partB (Lib.decDigits u) = true := by
  obtain ⟨i1, i2, i3, i4⟩ := dec_facts u
  exact partB_iff.2 ⟨i3, dec_len 9 u h, fun hl => i4 (dec_one hl), i1⟩
/-- what stands ahead of the first dot, and what behind it -/
def cutA (l : List UInt8) : List UInt8 := l.takeWhile (fun c => c != 46)
def cutZ (l : List UInt8) : List UInt8 := (l.dropWhile (fun c => c != 46)).drop 1
theorem cut_hit {a b : List UInt8} (h : ∀ c ∈ a, c ≠ 46) : cutA (a ++ 46 :: b) = a ∧ cutZ (a ++ 46 :: b) = b := by
  have hp : ∀ c ∈ a, (c != 46) = true := fun c hc => by simpa using h c hc
  constructor
  · rw [cutA, List.takeWhile_append_of_pos hp]; simp
  · rw [cutZ, List.dropWhile_append_of_pos hp]; simp
theorem cut_miss {l : List UInt8} (h : ∀ c ∈ l, c ≠ 46) : cutA l = l ∧ cutZ l = [] := by
  have hp : ∀ c ∈ l, (c != 46) = true := fun c hc => by simpa using h c hc
  constructor
  · have := List.takeWhile_append_of_pos (l₂ := []) hp
    rw [cutA]; simpa using this
  · have := List.dropWhile_append_of_pos (l₂ := []) hp
    rw [cutZ]; simp at this; rw [this]; rfl
theorem dot_cases (l : List UInt8) : (∀ c ∈ l, c ≠ 46) ∨ ∃ a b, l = a ++ 46 :: b ∧ ∀ c ∈ a, c ≠ 46 := by
  induction l with
  | nil => exact .inl (by simp)
  | cons x l ih =>
    by_cases hx : x = 46
    · subst hx; exact .inr ⟨[], l, rfl, by simp⟩
    · rcases ih with h | ⟨a, b, rfl, h⟩
      · exact .inl (by simpa [hx] using h)
      · exact .inr ⟨x :: a, b, rfl, by simpa [hx] using h⟩
theorem isD_dot {l : List UInt8} (h : l.all isD = true) : ∀ c ∈ l, c ≠ 46 := by
  intro c hc e
  subst e
  exact absurd (List.all_eq_true.1 h 46 hc) (by decide)

/-- what Read answers -/
def zRead (l : List UInt8) : Int := if partB (cutA l) && partB (cutZ l) then zMake (num (cutA l)) (num (cutZ l)) else 0
def zReadE (l : List UInt8) : Int := if partB (cutA l) && partB (cutZ l) then zMakeE (num (cutA l)) (num (cutZ l)) else 2
theorem zRead_no {l : List UInt8} (h : partB (cutA l) = false ∨ partB (cutZ l) = false) : zRead l = 0 ∧ zReadE l = 2 := by
  rcases h with h | h <;> simp [zRead, zReadE, h]
theorem zRead_yes {l : List UInt8} (h : partB (cutA l) = true) (h' : partB (cutZ l) = true) : zRead l = zMake (num (cutA l)) (num (cutZ l)) ∧ zReadE l = zMakeE (num (cutA l)) (num (cutZ l)) := by
  simp [zRead, zReadE, h, h']
/-- the text of a zxid -/
def zText (z : Int) : List UInt8 := if zGood z then Lib.decDigits (z / 2147483648).toNat ++ 46 :: Lib.decDigits (z % 2147483648).toNat else []
def zTextE (z : Int) : Int := if zGood z then 0 else 3
theorem zText_no {z : Int} (h : zGood z = false) : zText z = [] ∧ zTextE z = 3 := by simp [zText, zTextE, h]
theorem zText_yes {z : Int} (h : zGood z = true) : zText z = Lib.decDigits (z / 2147483648).toNat ++ 46 :: Lib.decDigits (z % 2147483648).toNat ∧ zTextE z = 0 := by simp [zText, zTextE, h]
theorem read_text {z : Int} (h : zGood z = true) : zRead (zText z) = z ∧ zReadE (zText z) = 0 := by
  have hz := zGood_iff.1 h
  obtain ⟨i1, i2, _, _⟩ := dec_facts (z / 2147483648).toNat
  obtain ⟨_, j2, _, _⟩ := dec_facts (z % 2147483648).toNat
  obtain ⟨c1, c2⟩ := cut_hit (b := Lib.decDigits (z % 2147483648).toNat) (isD_dot i1)
  rw [(zText_yes h).1]
  obtain ⟨r1, r2⟩ := zRead_yes (l := Lib.decDigits (z / 2147483648).toNat ++ 46 :: Lib.decDigits (z % 2147483648).toNat) (by rw [c1]; exact part_dec (by omega)) (by rw [c2]; exact part_dec (by omega))
  rw [r1, r2, c1, c2, i2, j2]
  obtain ⟨m1, m2⟩ := zMake_yes (e := ((z / 2147483648).toNat : Int)) (c := ((z % 2147483648).toNat : Int)) (zIn_iff.2 (by omega)) (zIn_iff.2 (by omega))
  rw [m1, m2, Int.toNat_of_nonneg (by omega), Int.toNat_of_nonneg (by omega)]
  exact ⟨by omega, rfl⟩
end Go.Proofs.YtbkndjhogaloiaaGreatDoor

namespace Go.Proofs.YtbkndjhogaloiaaGreatDoor

structure Sv where
  up : Bool
  fs : List DF
  id : Int
  ep : Int
  ts : List WTxn
  dn : Int
  tr : Tr
  ws : List Wa
def sv0 : Sv := ⟨false, [], 0, 0, [], 0, tr0, []⟩
def epochN : List UInt8 := [101, 112, 111, 99, 104]
theorem named_epoch : namedB epochN = true := by decide
theorem zText_len (z : Int) : (zText z).length ≤ 30 := by
  cases hg : zGood z with
  | false => rw [(zText_no hg).1]; simp
  | true =>
    have h := zGood_iff.1 hg
    rw [(zText_yes hg).1]
    have h1 := dec_len 9 (z / 2147483648).toNat (by omega)
    have h2 := dec_len 9 (z % 2147483648).toNat (by omega)
    simp only [List.length_append, List.length_cons]
    omega

end Go.Proofs.YtbkndjhogaloiaaGreatDoor

namespace Go.Proofs.YtbkndjhogaloiaaGreatDoor
open Go.RowKit

def ncells (n : Nd) : List Value := [.string ⟨n.p.toArray⟩, .string ⟨n.d.toArray⟩, .int .i64 n.c, .int .i64 n.m, .int .i64 n.q, .int .i64 n.v, .int .i64 n.k, .int .i64 n.o, .int .i64 n.n]
instance layN : Lay Nd := ⟨9, ncells, 77, fun _ => rfl, fun x u hu => by simp [ncells] at hu; rcases hu with rfl | rfl | rfl | rfl | rfl | rfl | rfl | rfl | rfl <;> rfl⟩
/- the cells of a node -/
theorem RowAt.nd {w : World} {b off : Nat} {xs : List Nd} (h : RowAt w b off (cellsL xs)) {i : Nat} {x : Nd} (hi : xs[i]? = some x) (c : Nat) (hc : c < 9) : ∀ v, (ncells x)[c]? = some v → w.cell? ⟨b, off + i * 9 + c, none⟩ = some v := fun v hv => by
  rw [Nat.add_assoc]
  exact h (i * 9 + c) v ((cellsL_get xs i x hi c hc).trans hv)
theorem RowAt.n0 {w : World} {b off : Nat} {xs : List Nd} (h : RowAt w b off (cellsL xs)) {i : Nat} {x : Nd} (hi : xs[i]? = some x) : w.cell? ⟨b, off + i * 9, none⟩ = some (.string ⟨x.p.toArray⟩) := h.nd hi 0 (by omega) _ rfl
theorem RowAt.n1 {w : World} {b off : Nat} {xs : List Nd} (h : RowAt w b off (cellsL xs)) {i : Nat} {x : Nd} (hi : xs[i]? = some x) : w.cell? ⟨b, off + i * 9 + 1, none⟩ = some (.string ⟨x.d.toArray⟩) := h.nd hi 1 (by omega) _ rfl
theorem RowAt.n2 {w : World} {b off : Nat} {xs : List Nd} (h : RowAt w b off (cellsL xs)) {i : Nat} {x : Nd} (hi : xs[i]? = some x) : w.cell? ⟨b, off + i * 9 + 2, none⟩ = some (.int .i64 x.c) := h.nd hi 2 (by omega) _ rfl
theorem RowAt.n3 {w : World} {b off : Nat} {xs : List Nd} (h : RowAt w b off (cellsL xs)) {i : Nat} {x : Nd} (hi : xs[i]? = some x) : w.cell? ⟨b, off + i * 9 + 3, none⟩ = some (.int .i64 x.m) := h.nd hi 3 (by omega) _ rfl
theorem RowAt.n4 {w : World} {b off : Nat} {xs : List Nd} (h : RowAt w b off (cellsL xs)) {i : Nat} {x : Nd} (hi : xs[i]? = some x) : w.cell? ⟨b, off + i * 9 + 4, none⟩ = some (.int .i64 x.q) := h.nd hi 4 (by omega) _ rfl
theorem RowAt.n5 {w : World} {b off : Nat} {xs : List Nd} (h : RowAt w b off (cellsL xs)) {i : Nat} {x : Nd} (hi : xs[i]? = some x) : w.cell? ⟨b, off + i * 9 + 5, none⟩ = some (.int .i64 x.v) := h.nd hi 5 (by omega) _ rfl
theorem RowAt.n7 {w : World} {b off : Nat} {xs : List Nd} (h : RowAt w b off (cellsL xs)) {i : Nat} {x : Nd} (hi : xs[i]? = some x) : w.cell? ⟨b, off + i * 9 + 7, none⟩ = some (.int .i64 x.o) := h.nd hi 7 (by omega) _ rfl
/-- a tree as a value -/
def TreeV (w : World) (v : Value) (t : Tr) : Prop := ∃ vn vs, v = .agg #[.int .i64 t.z, vn, vs] ∧ SeqV w vn t.ns ∧ SeqV w vs t.ss
theorem TreeV.next {w w' : World} {v : Value} {t : Tr} (h : TreeV w v t) (hb : Below w.heap.size w w') : TreeV w' v t := by
  obtain ⟨vn, vs, rfl, h1, h2⟩ := h
  exact ⟨vn, vs, rfl, h1.next hb, h2.next hb⟩

end Go.Proofs.YtbkndjhogaloiaaGreatDoor

namespace Go.Proofs.YtbkndjhogaloiaaGreatDoor
open Go.RowKit

def wcells (w : Wa) : List Value := [.int .i64 w.s, .int .i64 w.k, .string ⟨w.p.toArray⟩]
instance layW : Lay Wa := ⟨3, wcells, 82, fun _ => rfl, fun x u hu => by simp [wcells] at hu; rcases hu with rfl | rfl | rfl <;> rfl⟩
theorem RowAt.w0 {w : World} {b off : Nat} {xs : List Wa} (h : RowAt w b off (cellsL xs)) {i : Nat} {x : Wa} (hi : xs[i]? = some x) : w.cell? ⟨b, off + i * 3, none⟩ = some (.int .i64 x.s) :=
  h (i * 3) _ (cellsL_get xs i x hi 0 (by decide))
theorem RowAt.w1 {w : World} {b off : Nat} {xs : List Wa} (h : RowAt w b off (cellsL xs)) {i : Nat} {x : Wa} (hi : xs[i]? = some x) : w.cell? ⟨b, off + i * 3 + 1, none⟩ = some (.int .i64 x.k) := by
  rw [Nat.add_assoc]; exact h (i * 3 + 1) _ (cellsL_get xs i x hi 1 (by decide))
theorem RowAt.w2 {w : World} {b off : Nat} {xs : List Wa} (h : RowAt w b off (cellsL xs)) {i : Nat} {x : Wa} (hi : xs[i]? = some x) : w.cell? ⟨b, off + i * 3 + 2, none⟩ = some (.string ⟨x.p.toArray⟩) := by
  rw [Nat.add_assoc]; exact h (i * 3 + 2) _ (cellsL_get xs i x hi 2 (by decide))
theorem winfo0 : (Tryz.prog.info? 82).map (fun i => (i.zero, i.size, i.bytes)) = some (some (.agg #[.int .i64 0, .int .i64 0, .string ⟨#[]⟩]), 3, 32) := by kernel_rfl
theorem winfo : ∃ i0, Tryz.prog.info? 82 = some i0 ∧ i0.zero = some (.agg #[.int .i64 0, .int .i64 0, .string ⟨#[]⟩]) ∧ i0.size = 3 ∧ i0.bytes = 32 := by
  obtain ⟨i0, h, e⟩ := Option.map_eq_some_iff.1 winfo0
  simp only [Prod.mk.injEq] at e
  exact ⟨i0, h, e⟩
end Go.Proofs.YtbkndjhogaloiaaGreatDoor

namespace Go.Proofs.YtbkndjhogaloiaaGreatDoor
open Go.RowKit

theorem dbox_then {w : World} {o : Obj} {w1 : World} (h : Below (w.alloc o).heap.size (w.alloc o) w1) : Below w.heap.size w w1 :=
  ((Below.refl _ _).alloc (Nat.le_refl _) _).trans (h.mono (by simp))

set_option maxRecDepth 10000 in
set_option maxHeartbeats 400000 in
theorem dsize_any (f : DF) (w : World) (h : f.s.length + f.t.length ≤ 9223372036854775807) :
    Calls Tryz.prog 53 #[fileV f] w fun e w' => e = .returned (.int .i64 ((f.s.length + f.t.length : Nat) : Int)) ∧ Below w.heap.size w w' := by
  unfold fileV
  go_enter Tryz.func53, Tryz.ntmps53
  go_wp2
  go_ret
  exact ⟨rfl, (Below.refl _ _).alloc (Nat.le_refl _) _⟩

set_option maxRecDepth 10000 in
set_option maxHeartbeats 400000 in
theorem cmp1_any (f : DF) (name : List UInt8) (w : World) :
    Calls Tryz.prog 78 #[fileV f, .string ⟨name.toArray⟩] w fun e w' => e = .returned (.int .i64 (Lib.compareBytes f.n name)) ∧ Below w.heap.size w w' := by
  unfold fileV
  go_enter Tryz.func78, Tryz.ntmps78
  go_wp2_with fail
  refine (Tryz.strings_Compare _ _ _).mono ?_
  rintro e w1 ⟨rfl, rfl⟩
  go_wp2_with fail
  go_ret
  exact ⟨rfl, (Below.refl _ _).alloc (Nat.le_refl _) _⟩

def headIs (R : List DF) (name : List UInt8) : Bool := match R with
  | [] => false
  | f :: _ => decide (f.n = name)
theorem split_get (A R : List DF) (name : List UInt8) (lo : ∀ a ∈ A, bl a.n name = true) (hi : ∀ a ∈ R, bl a.n name = false) (i : Nat) (h : i < A.length + R.length) : ∃ y, (A ++ R)[i]? = some y ∧ bl y.n name = decide (i < A.length) := by
  by_cases h1 : i < A.length
  · refine ⟨A[i], by rw [List.getElem?_append_left h1, List.getElem?_eq_getElem h1], ?_⟩
    rw [lo _ (List.getElem_mem h1)]; simp [h1]
  · have h2 : i - A.length < R.length := by omega
    refine ⟨R[i - A.length], by rw [List.getElem?_append_right (by omega), List.getElem?_eq_getElem h2], ?_⟩
    rw [hi _ (List.getElem_mem h2)]; simp [h1]

set_option maxRecDepth 10000 in
set_option maxHeartbeats 1000000 in
theorem bsf_any (b off cap : Nat) (A R : List DF) (name : List UInt8) (w : World) (hcap : A.length + R.length ≤ 16) (hb : b < w.heap.size) (h : RowAt w b off (cellsF (A ++ R)))
    (lo : ∀ a ∈ A, bl a.n name = true) (hi : ∀ a ∈ R, bl a.n name = false) :
    Calls Tryz.prog 77 #[.slice (some ⟨b, off, none⟩) (A.length + R.length) cap, .string ⟨name.toArray⟩, .func (.func 78) #[] #[]] w fun e w' =>
      e = .returned (.tuple #[.int .i64 A.length, .bool (headIs R name)]) ∧ Below w.heap.size w w' := by
  have H := hide h
  have SG := hide (split_get A R name lo hi)
  obtain ⟨fin, hfin⟩ : ∃ x, headIs R name = x := ⟨_, rfl⟩
  have HF := hide hfin
  rw [hfin]
  clear h hfin lo hi
  go_enter Tryz.func77, Tryz.ntmps77
  go_wp2_with fail
  go_loopg [9, 10] (A.length + R.length) (fun kx s9 s10 wr => ∃ lo hi : Nat, s9 = .int .i64 lo ∧ s10 = .int .i64 hi ∧ lo ≤ A.length ∧ A.length ≤ hi ∧ hi ≤ A.length + R.length ∧ hi - lo ≤ kx ∧ Hid (Below w.heap.size w wr))
  case atStart => exact ⟨0, A.length + R.length, rfl, rfl, Nat.zero_le _, by omega, Nat.le_refl _, by omega, hide (Below.refl _ _)⟩
  case round =>
    obtain ⟨lo, hi, rfl, rfl, h1, h2, h3, hg, hB⟩ := hrel
    by_cases hlt : lo < hi
    · obtain ⟨y, hy, hyn⟩ := unhide SG ((lo + hi) / 2) (by omega)
      have HY := hide hyn
      have r := (unhide H).kept (unhide hB) hb
      have e0 := r.c0 hy
      have e1 := r.c1 hy
      have e2 := r.c2 hy
      clear hyn hy r
      have hc := cmp_bl y.n name
      rw [unhide HY] at hc
      have CM := fun W => cmp1_any y name W
      generalize Lib.compareBytes y.n name = cv at hc CM
      by_cases hm : (lo + hi) / 2 < A.length
      · have hn : cv < 0 := by simpa [hm] using hc
        clear hc
        go_wp2_with fail
        refine (CM _).mono ?_
        rintro e w1 ⟨rfl, hb1⟩
        have hB2 : Below w.heap.size w w1 := (unhide hB).trans (hb1.mono (unhide hB).size)
        clear CM
        go_wp2_with fail
        go_roundg (hi - ((lo + hi) / 2 + 1))
        case measure => omega
        case rel => exact ⟨(lo + hi) / 2 + 1, hi, by rw [show ((lo : Int) + (hi : Int)) / 2 + 1 = (((lo + hi) / 2 + 1 : Nat) : Int) by omega], rfl, by omega, h2, h3, Nat.le_refl _, hide hB2⟩
      · have hn : ¬ cv < 0 := by simpa [hm] using hc
        clear hc
        go_wp2_with fail
        refine (CM _).mono ?_
        rintro e w1 ⟨rfl, hb1⟩
        have hB2 : Below w.heap.size w w1 := (unhide hB).trans (hb1.mono (unhide hB).size)
        clear CM
        go_wp2_with fail
        go_roundg ((lo + hi) / 2 - lo)
        case measure => omega
        case rel => exact ⟨lo, (lo + hi) / 2, rfl, by rw [show ((lo : Int) + (hi : Int)) / 2 = (((lo + hi) / 2 : Nat) : Int) by omega], h1, by omega, by omega, Nat.le_refl _, hide hB2⟩
    · obtain rfl : lo = A.length := by omega
      obtain rfl : hi = A.length := by omega
      cases R with
      | nil =>
        go_wp2_with fail
        go_ret2
        exact ⟨by rw [← unhide HF]; rfl, unhide hB⟩
      | cons f R =>
        have r := (unhide H).kept (unhide hB) hb
        have hy : (A ++ f :: R)[A.length]? = some f := by simp
        have e0 := r.c0 hy
        have e1 := r.c1 hy
        have e2 := r.c2 hy
        clear hy r
        have hc := cmp_zero f.n name
        have CM := fun W => cmp1_any f name W
        have hf : fin = decide (f.n = name) := (unhide HF).symm
        rw [← hc] at hf
        clear hc HF
        generalize Lib.compareBytes f.n name = cv at hf CM
        subst hf
        simp only [List.length_cons]
        go_wp2_with fail
        refine (CM _).mono ?_
        rintro e w1 ⟨rfl, hb1⟩
        have hB2 : Below w.heap.size w w1 := (unhide hB).trans (hb1.mono (unhide hB).size)
        clear CM
        go_wp2_with fail
        go_ret2
        exact ⟨by rfl, hB2⟩

set_option maxRecDepth 10000 in
set_option maxHeartbeats 400000 in
theorem bsf_none (a : Option Addr) (cap : Nat) (name : List UInt8) (w : World) :
    Calls Tryz.prog 77 #[.slice a 0 cap, .string ⟨name.toArray⟩, .func (.func 78) #[] #[]] w fun e w' =>
      e = .returned (.tuple #[.int .i64 0, .bool false]) ∧ Below w.heap.size w w' := by
  go_enter Tryz.func77, Tryz.ntmps77
  go_wp2_with fail
  go_loopg [9, 10] 1 (fun _ s9 s10 wr => s9 = .int .i64 0 ∧ s10 = .int .i64 0 ∧ Hid (Below w.heap.size w wr))
  case atStart => exact ⟨rfl, rfl, hide (Below.refl _ _)⟩
  case round =>
    obtain ⟨rfl, rfl, hB⟩ := hrel
    go_wp2_with fail
    go_ret2
    exact ⟨rfl, unhide hB⟩

set_option maxRecDepth 10000 in
set_option maxHeartbeats 400000 in
theorem find_split (v : Value) (fs A R : List DF) (name : List UInt8) (w : World) (hv : DiskV w v fs) (hl : fs.length ≤ 16) (he : fs = A ++ R) (lo : ∀ a ∈ A, bl a.n name = true) (hi : ∀ a ∈ R, bl a.n name = false) :
    Calls Tryz.prog 59 #[.agg #[v], .string ⟨name.toArray⟩] w fun e w' => e = .returned (.tuple #[.int .i64 A.length, .bool (headIs R name)]) ∧ Below w.heap.size w w' := by
  have C : ∀ W : World, Below w.heap.size w W → Calls Tryz.prog 77 #[v, .string ⟨name.toArray⟩, .func (.func 78) #[] #[]] W fun e w' =>
      e = .returned (.tuple #[.int .i64 A.length, .bool (headIs R name)]) ∧ Below W.heap.size W w' := fun W hW => by
    rcases hv with ⟨a, cap, rfl, h0, _⟩ | ⟨b, off, cap, rfl, _, _, hb, _, hr⟩
    · rw [h0] at he
      obtain ⟨rfl, rfl⟩ : A = [] ∧ R = [] := by
        have := congrArg List.length he
        simp at this
        exact ⟨List.eq_nil_of_length_eq_zero (by omega), List.eq_nil_of_length_eq_zero (by omega)⟩
      exact bsf_none a cap name W
    · subst he
      rw [List.length_append]
      exact bsf_any b off cap A R name W (by simpa using hl) (Nat.lt_of_lt_of_le hb hW.size) (hr.kept hW hb) lo hi
  have C' := hide C
  have V : ∃ a n c, v = .slice a n c := by
    rcases hv with ⟨a, cap, rfl, _, _⟩ | ⟨b, off, cap, rfl, _⟩
    · exact ⟨_, _, _, rfl⟩
    · exact ⟨_, _, _, rfl⟩
  obtain ⟨a, n, c, rfl⟩ := V
  clear C hv hl he lo hi
  generalize headIs R name = hd at C' ⊢
  go_enter Tryz.func59, Tryz.ntmps59
  go_wp2_with fail
  refine (unhide C' _ ((Below.refl _ _).alloc (Nat.le_refl _) _)).mono ?_
  rintro e w1 ⟨rfl, hb1⟩
  have hbz := dbox_then hb1
  go_wp2_with fail
  go_ret2
  exact ⟨rfl, hbz⟩
theorem find_there (v : Value) (fs A B : List DF) (f : DF) (name : List UInt8) (w : World) (hv : DiskV w v fs) (hl : fs.length ≤ 16) (T : There fs A f B name) :
    Calls Tryz.prog 59 #[.agg #[v], .string ⟨name.toArray⟩] w fun e w' => e = .returned (.tuple #[.int .i64 A.length, .bool true]) ∧ Below w.heap.size w w' := by
  have := find_split v fs A (f :: B) name w hv hl T.eq T.lo (fun a ha => by
    rcases List.mem_cons.1 ha with rfl | h
    · rw [T.nm]; exact bl_irrefl _
    · exact bl_asymm (T.hi a h))
  rwa [show headIs (f :: B) name = true from by simp [headIs, T.nm]] at this
theorem find_gap (v : Value) (fs A B : List DF) (name : List UInt8) (w : World) (hv : DiskV w v fs) (hl : fs.length ≤ 16) (G : Gap fs A B name) :
    Calls Tryz.prog 59 #[.agg #[v], .string ⟨name.toArray⟩] w fun e w' => e = .returned (.tuple #[.int .i64 A.length, .bool false]) ∧ Below w.heap.size w w' := by
  have := find_split v fs A B name w hv hl G.eq G.lo (fun a ha => bl_asymm (G.hi a ha))
  rwa [show headIs B name = false from by
    cases B with
    | nil => rfl
    | cons f B => have := bl_ne (G.hi f (by simp)); simp [headIs, this.symm]] at this

end Go.Proofs.YtbkndjhogaloiaaGreatDoor
