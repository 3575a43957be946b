/-
  What path.letter and path.Named answer, for every byte and every text: the walks.
  What strings.SplitSeq's iterator gives at one byte, a slash, and what path.steps' iterator gives: for every loop body.
  What path.steps' iterator gives: the steps of a text, in order, to every loop body.
  What path.Good answers, for every text: the walk.
  What is known of paths beside the walks: pieces, bounds, clones; shared by the texts of several packages.
  A tree as plain lists: nodes by path, sessions, what a good one is, where a path stands. No program is named here.
  Watches and notes as plain lists: which events set a watch off, who is told, what is left. No program is named here.
  A log as a plain list of transactions: its bytes, what bytes begin with, and where that ends. No program is named here.
  Decimal digits and the text of a zxid, as plain functions on lists of bytes; no program is named here.
  A server as plain data: whether it is up, its disk, its peer, its tree, its watches. The epoch that a disk remembers. No program is named here.
  A transaction as a value.
-/
import Derived.Test.YtoacignhobchbaaGreatDoorRows
import Derived.Test.YtoacignhobchbaaGreatDoorSRA
import Derived.WalkKit
import Derived.WalkSpells
import Derived.WalkLawsBesides
import Derived.Test.YtoacignhobchbaaGreatDoorShelf
import Derived.Shelf.RegionOpen
import Derived.TacticsInMore
import Derived.LoopNIn
import Derived.LoopIn
import Derived.Lib.QuietBelow
import Derived.Lib.ItoaNum
import Derived.Lib.IndexLaws
import Derived.Test.YtoacignhobchbaaGreatDoorProg
namespace Go.Proofs.YtoacignhobchbaaGreatDoor
open Go.RowKit

theorem ret_bool {a b : Bool} (h : a = b) : Ending.returned (.bool a) = .returned (.bool b) := by rw [h]

set_option maxRecDepth 10000 in
set_option maxHeartbeats 400000 in
theorem letter_any (c : UInt8) (w : World) :
    Calls Tryz.prog 121 #[.int .u8 c.toNat] w fun e w' => e = .returned (.bool (letterB c)) ∧ w' = w := by
  have hc := c.toNat_lt
  go_enter Tryz.func121, Tryz.ntmps121
  go_wp2
  all_goals go_ret
  all_goals exact ⟨ret_bool (by rw [Bool.eq_iff_iff]; simp [letterB]; try omega), rfl⟩

set_option maxRecDepth 10000 in
set_option maxHeartbeats 400000 in
theorem named_any (s : ByteArray) (w : World) (hs : s.size ≤ maxLen) :
    Calls Tryz.prog 92 #[.string s] w fun e w' => e = .returned (.bool (namedB s.data.toList)) ∧ w' = w := by
  unfold maxLen at hs
  by_cases h1 : s.size < 1
  · go_enter Tryz.func92, Tryz.ntmps92
    go_wp2
    go_ret
    exact ⟨ret_bool (namedB_short s h1).symm, rfl⟩
  by_cases h2 : 40 < s.size
  · go_enter Tryz.func92, Tryz.ntmps92
    go_wp2
    go_ret
    exact ⟨ret_bool (namedB_long s h2).symm, rfl⟩
  go_enter Tryz.func92, Tryz.ntmps92
  go_wp2
  go_loop [14] (fun i => ∃ k : Nat, k ≤ s.size ∧ i = .int .i64 k ∧ (s.data.toList.take k).all letterB = true) (fun i => s.size - (intOf i).toNat)
  case atStart => exact ⟨0, Nat.zero_le _, rfl, by simp⟩
  case round =>
    obtain ⟨k, hk, rfl, hall⟩ := hrel
    have Hall := hide hall
    clear hall
    by_cases hlt : k < s.size
    · by_cases hl : letterB s[k] = true
      · go_wp2_with (go_at_call 121; refine (letter_any _ _).mono ?_; rintro e w' ⟨rfl, rfl⟩)
        go_round
        case rel => exact ⟨k + 1, by omega, by go_num, all_take_succ s k hlt letterB (unhide Hall) hl⟩
        case measure => simp [intOf]; omega
      · have hl' : letterB s[k] = false := by simpa using hl
        clear hl
        go_wp2_with (go_at_call 121; refine (letter_any _ _).mono ?_; rintro e w' ⟨rfl, rfl⟩)
        go_ret
        exact ⟨ret_bool ((namedB_mid s (by omega) (by omega)).trans (not_all_of s k hlt letterB hl')).symm, rfl⟩
    · go_wp2
      go_ret
      exact ⟨ret_bool ((namedB_mid s (by omega) (by omega)).trans (all_of_size s k (by omega) letterB (unhide Hall))).symm, rfl⟩

end Go.Proofs.YtoacignhobchbaaGreatDoor

namespace Go.Proofs.YtoacignhobchbaaGreatDoor
open Go.RowKit Go.Shelf
attribute [local go_sem] Oper.semAt_some

/-- the length of the text in a box -/
def lenAt (w : World) (b : Nat) : Nat := match w.cell? ⟨b, 0, none⟩ with
  | some (.string s) => s.size
  | _ => 0
theorem lenAt_of {w : World} {b : Nat} {t : TypeId} {s : ByteArray} (h : Boxed w b t (.string s)) : lenAt w b = s.size := by
  simp [lenAt, h.cell]

theorem Boxed.of_heap {W W' : World} {B : Nat} {t : TypeId} {v : Value} (h : Boxed W B t v) (e : W'.heap[B]? = W.heap[B]?) : Boxed W' B t v := e.trans h

theorem cut_front (r : List UInt8) (i : Nat) : (ByteArray.mk r.toArray).extract 0 i = ⟨(r.take i).toArray⟩ := by
  have := Lib.extract_data ⟨r.toArray⟩ 0 i
  rw [List.drop_zero, Nat.sub_zero] at this
  exact congrArg (fun l : List UInt8 => ByteArray.mk l.toArray) this
theorem cut_back (r : List UInt8) (i : Nat) : (ByteArray.mk r.toArray).extract i r.length = ⟨(r.drop i).toArray⟩ := by
  have := Lib.extract_data ⟨r.toArray⟩ i r.length
  rw [List.take_of_length_le (by simp)] at this
  exact congrArg (fun l : List UInt8 => ByteArray.mk l.toArray) this
theorem wide_depth (n : Nat) : Fence.wide.depth.isSome = true → 1 ≤ n := fun h => by cases h

set_option maxRecDepth 100000 in
set_option maxHeartbeats 1000000 in
theorem splitSeq_gives (n Bsep Bs Bv : Nat) (s : List UInt8) (W : World) (h1 : Bs ≠ Bsep) (h2 : Bs ≠ Bv) (hlen : s.length ≤ 1000000)
    (b1 : Boxed W Bsep 9 (.string ⟨#[47]⟩)) (b2 : Boxed W Bs 9 (.string ⟨s.toArray⟩)) (b3 : Boxed W Bv 3 (.int .i64 0)) :
    SeqX Fence.wide n Tryz.prog 166 #[.pointer (some ⟨Bsep, 0, none⟩), .pointer (some ⟨Bs, 0, none⟩), .pointer (some ⟨Bv, 0, none⟩)] (fun x : List UInt8 => #[.string ⟨x.toArray⟩])
      (fun A B => ∃ v, B = A.setCell ⟨Bs, 0, none⟩ v) (fun A B => ∀ k, k = Bsep ∨ k = Bs ∨ k = Bv → B.heap[k]? = A.heap[k]?) (splitL s) W := by
  intro l J Jx hJ hJx hY h0
  refine callsIn_of_wp Tryz.func166 rfl trivial ?_ rfl
  simp only [Tryz.ntmps166, List.size_toArray, List.length_cons, List.length_nil, Nat.reduceAdd, Nat.reduceSub, Array.replicate_succ, Array.replicate_zero, List.push_toArray, List.append_toArray, List.nil_append, List.cons_append]
  have c1 := b1.cell
  have HY := hide hY
  have HJ := hide hJ
  have HJx := hide hJx
  clear hY hJ hJx
  gi_wp2
  clear c1
  gi_loopw [7] (fun _ wr => ∃ (pre : List (List UInt8)) (r : List UInt8), splitL s = pre ++ splitL r ∧ r.length ≤ 1000000 ∧ Boxed wr Bsep 9 (.string ⟨#[47]⟩) ∧ Boxed wr Bs 9 (.string ⟨r.toArray⟩) ∧ Boxed wr Bv 3 (.int .i64 0) ∧ J pre wr)
    (fun _ wr => lenAt wr Bs)
  case atStart => exact ⟨[], s, rfl, hlen, b1, b2, b3, h0⟩
  case round =>
    clear b1 b2 b3 h0 hlen
    obtain ⟨pre, r, hpre, hlen, b1, b2, b3, hJs⟩ := hrel
    have Hpre := hide hpre
    clear hpre
    have c1 := b1.cell
    have c2 := b2.cell
    have c3 := b3.cell
    have f2 := b2.frozen
    have hz : (ByteArray.mk r.toArray).size = r.length := Lib.size_eq ⟨r.toArray⟩
    rcases indexByte_cases r with hi | ⟨i, hi⟩
    · have Hs := hide (splitL_none r hi)
      have Hi := hide hi
      clear hi
      obtain ⟨fn, tmps, assign, body, hy, hR⟩ := unhide HY pre r wr hJs (by rw [unhide Hpre, unhide Hs]; exact List.prefix_refl _)
      gi_wp2_with fail
      refine ⟨trivial, wide_depth _, (callsIn_wide.2 (Tryz.strings_Index_one _ _ _)).mono ?_⟩
      rintro e w' ⟨rfl, rfl⟩
      rw [show (ByteArray.mk r.toArray).data.toList = r from rfl, unhide Hi]
      gi_wp2
      refine ⟨wide_depth _, hR.mono ?_⟩
      rintro e W3 (⟨rfl, hJ3, _⟩ | ⟨rfl, hJx3, _⟩)
      · gi_wp2
        go_end0
        exact ⟨⟨_, rfl⟩, .inl (by rw [unhide Hpre, unhide Hs]; exact hJ3)⟩
      · gi_wp2
        go_end0
        exact ⟨⟨_, rfl⟩, .inr ⟨_, by rw [unhide Hpre, unhide Hs]; exact List.prefix_refl _, hJx3⟩⟩
    · obtain ⟨hil, hsp⟩ := splitL_some r i hi
      have Hs := hide hsp
      have Hi := hide hi
      clear hi hsp
      obtain ⟨fn, tmps, assign, body, hy, hR⟩ := unhide HY pre (r.take i) wr hJs (by rw [unhide Hpre, unhide Hs]; simp)
      gi_wp2_with fail
      refine ⟨trivial, wide_depth _, (callsIn_wide.2 (Tryz.strings_Index_one _ _ _)).mono ?_⟩
      rintro e w' ⟨rfl, rfl⟩
      rw [show (ByteArray.mk r.toArray).data.toList = r from rfl, unhide Hi]
      rw [← cut_front r i] at hy
      gi_wp2
      refine ⟨wide_depth _, hR.mono ?_⟩
      rintro e W3 (⟨rfl, hJ3, hk3⟩ | ⟨rfl, hJx3, hk3⟩)
      · have d1 := Boxed.of_heap b1 (hk3 Bsep (.inl rfl))
        have d2 := Boxed.of_heap b2 (hk3 Bs (.inr (.inl rfl)))
        have d3 := Boxed.of_heap b3 (hk3 Bv (.inr (.inr rfl)))
        have Hl := hide (lenAt_of b2)
        clear c1 c2 c3 f2 b1 b2 b3 hk3 hy hR
        have c1 := d1.cell
        have c2 := d2.cell
        have f2 := d2.frozen
        gi_wp2
        rw [cut_back]
        refine ⟨⟨pre ++ [r.take i], r.drop (i + 1), by rw [unhide Hpre, unhide Hs]; simp, by simp; omega, Boxed.of_heap d1 (Below.heap_setCell W3 _ _ Bsep (Ne.symm h1)), d2.set _,
          Boxed.of_heap d3 (Below.heap_setCell W3 _ _ Bv (Ne.symm h2)), unhide HJ _ _ _ hJ3 ⟨_, rfl⟩⟩, ?_⟩
        rw [lenAt_of (d2.set _), unhide Hl]
        show (r.drop (i + 1)).toArray.size < r.toArray.size
        simp; omega
      · gi_wp2
        refine bodyPost_ret (results_none rfl _ _ _) rfl ?_
        exact ⟨⟨_, rfl⟩, .inr ⟨pre ++ [r.take i], by rw [unhide Hpre, unhide Hs]; simp, hJx3⟩⟩

end Go.Proofs.YtoacignhobchbaaGreatDoor

namespace Go.Proofs.YtoacignhobchbaaGreatDoor
open Go.RowKit Go.Shelf
attribute [local go_sem] Oper.semAt_some

theorem below_putObj {n1 l : Nat} (W : World) (o : Obj) (h : n1 ≤ l) : Below n1 W (W.putObj l o) :=
  ⟨rfl, rfl, rfl, by simp, fun k hk => World.putObj_heap_other (by omega)⟩
theorem boxed_putObj {W : World} {B l : Nat} {t : TypeId} {v : Value} (o : Obj) (h : Boxed W B t v) (hne : B ≠ l) : Boxed (W.putObj l o) B t v := (World.putObj_heap_other hne).trans h

set_option maxRecDepth 10000 in
set_option maxHeartbeats 400000 in
theorem splitSeq_makes (s sep : ByteArray) (w : World) :
    Calls Tryz.prog 143 #[.string s, .string sep] w fun e w' =>
      e = .returned (.func (.func 166) #[] #[.pointer (some ⟨w.heap.size + 1, 0, none⟩), .pointer (some ⟨w.heap.size, 0, none⟩), .pointer (some ⟨w.heap.size + 1 + 1, 0, none⟩)]) ∧
      w' = ((w.alloc (.cells #[.string s] 9)).alloc (.cells #[.string sep] 9)).alloc (.cells #[.int .i64 0] 3) := by
  go_enter Tryz.func143, Tryz.ntmps143
  go_wp2
  go_ret
  exact ⟨rfl, rfl⟩

theorem round_wide {n m l0 : Nat} {P : Program} {l : Nat} {f : FuncId} {tmps : Array Value} {assign body : Code} {w : World} {R : Ending → World → Prop} (h : RoundIn Fence.wide n P l f tmps assign body w R) : RoundIn (Fence.wide.inRound l0) m P l f tmps assign body w R :=
  ⟨h.1, fun c cs _ => h.2 c cs (room_wide _)⟩

theorem four_boxes (W : World) (v0 v1 v2 v3 : Value) (t0 t1 t2 t3 : TypeId) (W0 : World) (h : (((W.alloc (.cells #[v0] t0)).alloc (.cells #[v1] t1)).alloc (.cells #[v2] t2)).alloc (.cells #[v3] t3) = W0) :
    W0.heap.size = W.heap.size + 4 ∧ Boxed W0 W.heap.size t0 v0 ∧ Boxed W0 (W.heap.size + 1) t1 v1 ∧ Boxed W0 (W.heap.size + 2) t2 v2 ∧ Boxed W0 (W.heap.size + 3) t3 v3 ∧ Below W.heap.size W W0 := by
  subst h
  refine ⟨by simp, (((Boxed.new W t0 v0).alloc _).alloc _).alloc _, ?_, ?_, ?_, ?_⟩
  · have := Boxed.new (W.alloc (.cells #[v0] t0)) t1 v1
    rw [World.size_alloc] at this
    exact (this.alloc _).alloc _
  · have := Boxed.new ((W.alloc (.cells #[v0] t0)).alloc (.cells #[v1] t1)) t2 v2
    rw [World.size_alloc, World.size_alloc] at this
    exact this.alloc _
  · have := Boxed.new (((W.alloc (.cells #[v0] t0)).alloc (.cells #[v1] t1)).alloc (.cells #[v2] t2)) t3 v3
    rw [World.size_alloc, World.size_alloc, World.size_alloc] at this
    exact this
  · exact ((((Below.refl _ W).alloc (Nat.le_refl _) _).alloc (by simp) _).alloc (by simp; omega) _).alloc (by simp; omega) _

set_option maxRecDepth 100000 in
set_option maxHeartbeats 1000000 in
theorem steps_gives (n Bp : Nat) (s : List UInt8) (W : World) (hn : 1 ≤ n) (hlen : s.length ≤ 1000000) (bp : Boxed W Bp 9 (.string ⟨s.toArray⟩)) :
    SeqX Fence.wide n Tryz.prog 142 #[.pointer (some ⟨Bp, 0, none⟩)] (fun x : List UInt8 => #[.string ⟨x.toArray⟩])
      (Below W.heap.size) (Above W.heap.size) (stepsL s) W := by
  intro l J Jx hJ hJx hY h0
  refine callsIn_of_wp_marks Tryz.func142 rfl trivial ?_ rfl
  simp only [Tryz.ntmps142, List.size_toArray, List.length_cons, List.length_nil, Nat.reduceAdd, Nat.reduceSub, Array.replicate_succ, Array.replicate_zero, List.push_toArray, List.append_toArray, List.nil_append, List.cons_append]
  have cp := bp.cell
  have cp' := (bp.alloc (.cells #[.func (.yield l) #[] #[]] 148)).cell
  have HY := hide hY
  have HJ := hide hJ
  have HJx := hide hJx
  clear hY hJ hJx
  by_cases hroot : s = [47]
  · subst hroot
    gi_wp2
    refine ⟨_, results_none rfl _ _ _, ⟨_, rfl⟩, .inl ?_⟩
    exact unhide HJ _ _ _ h0 ((Below.refl _ W).alloc (Nat.le_refl _) _)
  · have hr1 : (s == [47]) = false := by simpa using hroot
    have Hst : Hid (stepsL s = splitL (Lib.trimPrefix s [47])) := by rw [stepsL, if_neg hroot]; exact rfl
    clear hroot
    gi_wp2_with fail
    refine ⟨trivial, (callsIn_wide.2 (Tryz.strings_TrimPrefix _ _ _)).mono ?_⟩
    rintro e w' ⟨rfl, rfl⟩
    rw [show (ByteArray.mk s.toArray).data.toList = s from rfl, show (ByteArray.mk #[47]).data.toList = [47] from rfl]
    generalize hR : Lib.trimPrefix s [47] = R
    have hRl : R.length ≤ 1000000 := by
      have := Lib.trimPrefix_le s [47]
      rw [← hR]; omega
    have Hst' : Hid (stepsL s = splitL R) := by rw [← hR]; exact Hst
    clear hR Hst hr1 cp cp'
    gi_wp2_with fail
    refine ⟨trivial, (callsIn_wide.2 (splitSeq_makes _ _ _)).mono ?_⟩
    rintro e w' ⟨rfl, rfl⟩
    gi_wp2_with fail
    generalize hW0 : (((W.alloc (.cells #[.func (.yield l) #[] #[]] 148)).alloc (.cells #[.string ⟨R.toArray⟩] 9)).alloc (.cells #[.string ⟨#[47]⟩] 9)).alloc (.cells #[.int .i64 0] 3) = W0
    obtain ⟨hsz, k0, k1, k2, k3, kb⟩ := four_boxes _ _ _ _ _ _ _ _ _ W0 hW0
    clear hW0
    refine wpIn_rangeFunc_X (α := List UInt8) rfl hn (gf := 166) (lb := #[.pointer (some ⟨W.heap.size + 2, 0, none⟩), .pointer (some ⟨W.heap.size + 1, 0, none⟩), .pointer (some ⟨W.heap.size + 3, 0, none⟩)]) rfl trivial (enters_of Tryz.func166 (by kernel_rfl) rfl)
      (fun o1 o2 => splitSeq_gives (n - 1) (W.heap.size + 2) (W.heap.size + 1) (W.heap.size + 3) R _ (by omega) (by omega) hRl ((k2.alloc o1).alloc o2) ((k1.alloc o1).alloc o2) ((k3.alloc o1).alloc o2))
      (fun A B k hs hk hl => by obtain ⟨v, rfl⟩ := hs; exact Below.heap_setCell A _ _ k (by show k ≠ W.heap.size + 1; omega))
      (fun A B C h k i hi => (k i hi).trans (h i hi)) (fun A o k hk => World.putObj_heap_other (by omega)) (fun _ => rfl)
      (fun pre A => J pre A ∧ Boxed A W.heap.size 148 (.func (.yield l) #[] #[]))
      (fun c pre A => c = .ret ∧ Jx pre A)
      (fun pre A B hs hg => by
        obtain ⟨v, rfl⟩ := hg
        exact ⟨unhide HJ _ _ _ hs.1 ((Below.refl _ A).setCell (p := ⟨W.heap.size + 1, 0, none⟩) (by simp) v), Boxed.of_heap hs.2 (Below.heap_setCell A _ _ _ (by show W.heap.size ≠ W.heap.size + 1; omega))⟩)
      (fun c pre A B hs hg => by
        obtain ⟨v, rfl⟩ := hg
        exact ⟨hs.1, unhide HJx _ _ _ hs.2 ((Below.refl _ A).setCell (p := ⟨W.heap.size + 1, 0, none⟩) (by simp) v)⟩)
      (fun pre A o hs => ⟨unhide HJ _ _ _ hs.1 (below_putObj A o (by omega)), boxed_putObj o hs.2 (by omega)⟩)
      (fun c pre A o hs => ⟨hs.1, unhide HJx _ _ _ hs.2 (below_putObj A o (by omega))⟩)
      (fun o1 o2 => ⟨unhide HJ _ _ _ h0 ((kb.alloc (by omega) o1).alloc (by simp; omega) o2), (k0.alloc o1).alloc o2⟩)
      (fun x => { tmps := #[.func (.yield l) #[] #[], .pointer (some ⟨Bp, 0, none⟩), .pointer (some ⟨W.heap.size, 0, none⟩), .string ⟨x.toArray⟩, .string ⟨s.toArray⟩, .bool false, .string ⟨s.toArray⟩, .string ⟨R.toArray⟩,
        .func (.func 166) #[] #[.pointer (some ⟨W.heap.size + 2, 0, none⟩), .pointer (some ⟨W.heap.size + 1, 0, none⟩), .pointer (some ⟨W.heap.size + 3, 0, none⟩)], .string ⟨x.toArray⟩, undef, undef, undef, undef], defers := [] })
      ?assign ?body ?done ?stop
    case assign =>
      intro x A K hK
      gi_wp2
      exact hK
    case body =>
      rintro pre x A ⟨hJA, hbx⟩ hpre hlt
      have cx := hbx.cell
      obtain ⟨fn, tmps, assign, body, hy, hR⟩ := unhide HY pre x A hJA (by rw [unhide Hst']; exact hpre)
      gi_wp2
      refine ⟨wide_depth _, (round_wide hR).mono ?_⟩
      rintro e W3 (⟨rfl, hJ3, hk3⟩ | ⟨rfl, hJx3, hk3⟩)
      · gi_wp2
        exact ⟨hk3.block _ (by omega) (by omega), hk3.block _ (by omega) (by omega), fun k hk => hk3.block k (by omega) (by omega), hJ3, Boxed.of_heap hbx (hk3.block _ (Nat.le_refl _) (by omega))⟩
      · gi_wp2
        exact ⟨hk3.block _ (by omega) (by omega), hk3.block _ (by omega) (by omega), fun k hk => hk3.block k (by omega) (by omega), rfl, hJx3⟩
    case done =>
      rintro A ⟨hJA, hbx⟩ hK
      gi_wp2
      refine ⟨by simp, .inl ⟨_, _, rfl, run_takeDeferred hK, ?_⟩⟩
      refine ⟨_, results_none rfl _ _ _, ⟨_, rfl⟩, .inl ?_⟩
      rw [unhide Hst']
      exact unhide HJ _ _ _ hJA (below_putObj A _ (by omega))
    case stop =>
      rintro c pre A hpre ⟨rfl, hJA⟩ hK
      gi_wp2
      refine ⟨by simp, .inl ⟨_, _, rfl, run_takeDeferred hK, ?_⟩⟩
      refine ⟨_, results_none rfl _ _ _, ⟨_, rfl⟩, .inr ⟨pre, by rw [unhide Hst']; exact hpre, ?_⟩⟩
      exact unhide HJx _ _ _ hJA (below_putObj A _ (by omega))

end Go.Proofs.YtoacignhobchbaaGreatDoor

namespace Go.Proofs.YtoacignhobchbaaGreatDoor
open Go.RowKit Go.Shelf
set_option maxRecDepth 10000 in
attribute [local go_sem] Oper.semAt_some

set_option maxHeartbeats 400000 in
theorem steps_makes (s : ByteArray) (w : World) :
    Calls Tryz.prog 118 #[.string s] w fun e w' =>
      e = .returned (.func (.func 142) #[] #[.pointer (some ⟨w.heap.size, 0, none⟩)]) ∧ w' = w.alloc (.cells #[.string s] 9) := by
  go_enter Tryz.func118, Tryz.ntmps118
  go_wp2
  go_ret
  exact ⟨rfl, rfl⟩

theorem two_boxes (W : World) (v0 v1 : Value) (t0 t1 : TypeId) (W0 : World) (h : (W.alloc (.cells #[v0] t0)).alloc (.cells #[v1] t1) = W0) :
    W0.heap.size = W.heap.size + 2 ∧ Boxed W0 W.heap.size t0 v0 ∧ Boxed W0 (W.heap.size + 1) t1 v1 ∧ Below W.heap.size W W0 := by
  subst h
  refine ⟨by simp, (Boxed.new W t0 v0).alloc _, ?_, ?_⟩
  · have := Boxed.new (W.alloc (.cells #[v0] t0)) t1 v1
    rw [World.size_alloc] at this
    exact this
  · exact ((Below.refl _ W).alloc (Nat.le_refl _) _).alloc (by simp) _

theorem goodB_long {l : List UInt8} (h : 200 < l.length) : goodB l = false := by
  simp only [goodB, show ¬ l.length ≤ 200 from by omega, decide_false, Bool.false_and]
theorem goodB_front {l : List UInt8} (h : Lib.hasPrefix l [47] = false) : goodB l = false := by
  simp only [goodB, h, Bool.and_false, Bool.false_and]
theorem goodB_mid {l : List UInt8} (h0 : l.length ≤ 200) (h : Lib.hasPrefix l [47] = true) : goodB l = (stepsL l).all namedB := by
  simp only [goodB, h0, h, decide_true, Bool.true_and]
theorem stepsL_length (l : List UInt8) : ∀ p ∈ stepsL l, p.length ≤ l.length := by
  intro p hp
  unfold stepsL at hp
  split at hp
  · simp at hp
  · have h1 := splitL_length _ p hp
    have h2 := Lib.trimPrefix_le l [47]
    omega
theorem all_false_of_prefix {pre xs : List (List UInt8)} (h : pre <+: xs) (h1 : pre.all namedB = false) : xs.all namedB = false := by
  obtain ⟨t, rfl⟩ := h
  rw [List.all_append, h1, Bool.false_and]

theorem ba_list (s : ByteArray) : ∃ l : List UInt8, s = ⟨l.toArray⟩ := ⟨s.data.toList, rfl⟩

set_option maxRecDepth 100000 in
set_option maxHeartbeats 1000000 in
theorem good_main (l : List UInt8) (w : World) (h0 : l.length ≤ 200) (hp : Lib.hasPrefix l [47] = true) :
    Calls Tryz.prog 87 #[.string ⟨l.toArray⟩] w fun e w' => e = .returned (.bool ((stepsL l).all namedB)) ∧ Below w.heap.size w w' := by
  refine (callsIn_wide (n := 6)).1 ?_
  refine callsIn_of_wp_marks Tryz.func87 rfl trivial ?_ rfl
  simp only [Tryz.ntmps87, List.size_toArray, List.length_cons, List.length_nil, Nat.reduceAdd, Nat.reduceSub, Array.replicate_succ, Array.replicate_zero, List.push_toArray, List.append_toArray, List.nil_append, List.cons_append]
  have hz : (ByteArray.mk l.toArray).size = l.length := Lib.size_eq ⟨l.toArray⟩
  have Hp := hide hp
  clear hp
  gi_wp2_with fail
  refine ⟨trivial, (callsIn_wide.2 (Tryz.strings_HasPrefix _ _ _)).mono ?_⟩
  rintro e w' ⟨rfl, rfl⟩
  rw [show (ByteArray.mk l.toArray).data.toList = l from rfl, show (ByteArray.mk #[47]).data.toList = [47] from rfl, unhide Hp]
  gi_wp2_with fail
  refine ⟨trivial, (callsIn_wide.2 (steps_makes _ _)).mono ?_⟩
  rintro e w' ⟨rfl, rfl⟩
  gi_wp2_with fail
  generalize hW0 : (w.alloc (.cells #[.bool false] 4)).alloc (.cells #[.string ⟨l.toArray⟩] 9) = W0
  obtain ⟨hsz, k0, k1, kb⟩ := two_boxes _ _ _ _ _ W0 hW0
  clear hW0
  refine wpIn_rangeFunc_X (α := List UInt8) (encs := fun x => #[.string ⟨x.toArray⟩]) rfl (by omega) (gf := 142) (lb := #[.pointer (some ⟨w.heap.size + 1, 0, none⟩)]) rfl trivial (enters_of Tryz.func142 (by kernel_rfl) rfl)
    (St := Below (W0.heap.size + 1 + 1)) (Kp := Above (W0.heap.size + 1 + 1)) (xs := stepsL l)
    (fun o1 o2 => by
      have h := steps_gives 5 (w.heap.size + 1) l ((W0.alloc o1).alloc o2) (by omega) (by omega) ((k1.alloc o1).alloc o2)
      rw [World.size_alloc, World.size_alloc] at h
      exact h)
    (fun A B k hs hk _ => hs.block k (by omega))
    (fun A B C h k => h.trans k) (fun A o => Above.putObj A o (by omega)) (fun _ => rfl)
    (fun pre A => Below w.heap.size w A ∧ Boxed A w.heap.size 4 (.bool false) ∧ pre.all namedB = true)
    (fun c pre A => c = .ret ∧ Below w.heap.size w A ∧ Boxed A w.heap.size 4 (.bool false) ∧ pre.all namedB = false)
    (fun pre A B hs hg => ⟨hs.1.trans (hg.mono (by omega)), Boxed.of_heap hs.2.1 (hg.block _ (by omega)), hs.2.2⟩)
    (fun c pre A B hs hg => ⟨hs.1, hs.2.1.trans (hg.mono (by omega)), Boxed.of_heap hs.2.2.1 (hg.block _ (by omega)), hs.2.2.2⟩)
    (fun pre A o hs => ⟨hs.1.trans (below_putObj A o (by omega)), boxed_putObj o hs.2.1 (by omega), hs.2.2⟩)
    (fun c pre A o hs => ⟨hs.1, hs.2.1.trans (below_putObj A o (by omega)), boxed_putObj o hs.2.2.1 (by omega), hs.2.2.2⟩)
    (fun o1 o2 => ⟨(kb.alloc (by omega) o1).alloc (by simp; omega) o2, (k0.alloc o1).alloc o2, rfl⟩)
    (fun x => { tmps := #[.string ⟨l.toArray⟩, undef, .pointer (some ⟨w.heap.size, 0, none⟩), .string ⟨x.toArray⟩, .string ⟨l.toArray⟩, .int .i64 l.length, .bool (decide (200 < (l.length : Int))), .bool (decide (200 < (l.length : Int))), .string ⟨l.toArray⟩, .bool true, .bool false,
      .bool (decide (200 < (l.length : Int))), .string ⟨l.toArray⟩, .func (.func 142) #[] #[.pointer (some ⟨w.heap.size + 1, 0, none⟩)], .string ⟨x.toArray⟩, undef, undef, undef], defers := [] })
    ?assign ?body ?done ?stop
  case assign =>
    intro x A K hK
    gi_wp2
    exact hK
  case body =>
    rintro pre x A ⟨hB, hbx, hall⟩ hpre hlt
    have cx := hbx.cell
    have fx := hbx.frozen
    have hxl : x.length ≤ 200 := by
      have := stepsL_length l x (hpre.subset (by simp))
      omega
    have hxs : (ByteArray.mk x.toArray).size ≤ maxLen := by
      unfold maxLen
      rw [Lib.size_eq]
      show x.length ≤ _
      omega
    have Hall := hide hall
    clear hall
    gi_wp2_with fail
    refine ⟨trivial, (CallsIn.inRound _ (callsIn_wide.2 (named_any _ _ hxs))).mono ?_⟩
    rintro e w' ⟨rfl, rfl⟩
    rw [show (ByteArray.mk x.toArray).data.toList = x from rfl]
    cases hx : namedB x
    · gi_wp2
      refine ⟨Below.heap_setCell _ _ _ _ (by show W0.heap.size ≠ w.heap.size; omega), Below.heap_setCell _ _ _ _ (by show W0.heap.size + 1 ≠ w.heap.size; omega), Above.setCell _ _ (by show w.heap.size < _; omega), rfl, hB.setCell (p := ⟨w.heap.size, 0, none⟩) (Nat.le_refl _) _, hbx.set _, ?_⟩
      rw [List.all_append, unhide Hall]; simp [hx]
    · gi_wp2
      refine ⟨rfl, rfl, Above.refl _ _, hB, hbx, ?_⟩
      rw [List.all_append, unhide Hall]; simp [hx]
  case done =>
    rintro A ⟨hB, hbx, hall⟩ hK
    have cx := hbx.cell
    have fx := hbx.frozen
    have Hall := hide hall
    clear hall
    gi_wp2
    have hK' : (A.setCell ⟨w.heap.size, 0, none⟩ (.bool true)).heap[W0.heap.size]? = some (.deferred (some [])) := (Below.heap_setCell _ _ _ _ (by show W0.heap.size ≠ w.heap.size; omega)).trans hK
    have hc := (boxed_putObj (l := W0.heap.size) (.deferred none) (hbx.set (.bool true)) (by omega)).cell
    refine ⟨by simp, .inl ⟨_, _, rfl, run_takeDeferred hK', ?_⟩⟩
    refine ⟨.bool true, ?_, by rw [unhide Hall], (hB.setCell (p := ⟨w.heap.size, 0, none⟩) (Nat.le_refl _) _).trans (below_putObj _ _ (by omega))⟩
    simp [results, Tryz.f87, go_sem, hc]
  case stop =>
    rintro c pre A hpre ⟨rfl, hB, hbx, hall⟩ hK
    have Hall := hide (all_false_of_prefix hpre hall)
    clear hall
    gi_wp2
    have hc := (boxed_putObj (l := W0.heap.size) (.deferred none) hbx (by omega)).cell
    refine ⟨by simp, .inl ⟨_, _, rfl, run_takeDeferred hK, ?_⟩⟩
    refine ⟨.bool false, ?_, by rw [unhide Hall], hB.trans (below_putObj _ _ (by omega))⟩
    simp [results, Tryz.f87, go_sem, hc]

set_option maxRecDepth 10000 in
set_option maxHeartbeats 400000 in
theorem good_long (l : List UInt8) (w : World) (h0 : 200 < l.length) :
    Calls Tryz.prog 87 #[.string ⟨l.toArray⟩] w fun e w' => e = .returned (.bool false) ∧ Below w.heap.size w w' := by
  have hz : (ByteArray.mk l.toArray).size = l.length := Lib.size_eq ⟨l.toArray⟩
  go_enter Tryz.func87, Tryz.ntmps87
  go_wp2_with fail
  exact bodyPost_ret (v := .bool false) (by simp [results, Tryz.f87, go_sem]) rfl ⟨rfl, (Below.refl _ _).alloc (Nat.le_refl _) _⟩

set_option maxRecDepth 10000 in
set_option maxHeartbeats 400000 in
theorem good_front (l : List UInt8) (w : World) (h0 : l.length ≤ 200) (hp : Lib.hasPrefix l [47] = false) :
    Calls Tryz.prog 87 #[.string ⟨l.toArray⟩] w fun e w' => e = .returned (.bool false) ∧ Below w.heap.size w w' := by
  have hz : (ByteArray.mk l.toArray).size = l.length := Lib.size_eq ⟨l.toArray⟩
  have Hp := hide hp
  clear hp
  go_enter Tryz.func87, Tryz.ntmps87
  go_wp2_with fail
  refine (Tryz.strings_HasPrefix _ _ _).mono ?_
  rintro e w' ⟨rfl, rfl⟩
  rw [show (ByteArray.mk l.toArray).data.toList = l from rfl, show (ByteArray.mk #[47]).data.toList = [47] from rfl, unhide Hp]
  go_wp2_with fail
  exact bodyPost_ret (v := .bool false) (by simp [results, Tryz.f87, go_sem]) rfl ⟨rfl, (Below.refl _ _).alloc (Nat.le_refl _) _⟩

/-- WHAT path.Good ANSWERS -/
theorem good_any (s : ByteArray) (w : World) : Calls Tryz.prog 87 #[.string s] w fun e w' => e = .returned (.bool (goodB s.data.toList)) ∧ Below w.heap.size w w' := by
  obtain ⟨l, rfl⟩ := ba_list s
  show Calls _ _ _ _ fun e w' => e = .returned (.bool (goodB l)) ∧ _
  by_cases h0 : 200 < l.length
  · rw [goodB_long h0]; exact good_long l w h0
  · cases hp : Lib.hasPrefix l [47]
    · rw [goodB_front hp]; exact good_front l w (by omega) hp
    · rw [goodB_mid (by omega) hp]; exact good_main l w (by omega) hp

end Go.Proofs.YtoacignhobchbaaGreatDoor

namespace Go.Proofs.YtoacignhobchbaaGreatDoor
open Go.RowKit Go.Shelf

theorem ret_str {a b : ByteArray} (h : a = b) : Ending.returned (.string a) = .returned (.string b) := by rw [h]
theorem cat_one (l m : List UInt8) : (ByteArray.mk l.toArray) ++ (ByteArray.mk m.toArray) = ⟨(l ++ m).toArray⟩ := by
  have h : ((ByteArray.mk l.toArray) ++ (ByteArray.mk m.toArray)).data.toList = l ++ m := by simp [ByteArray.data_append]
  exact congrArg (fun l : List UInt8 => ByteArray.mk l.toArray) h
theorem goodB_le {l : List UInt8} (h : goodB l = true) : l.length ≤ 200 := by
  simp only [goodB, Bool.and_eq_true, decide_eq_true_eq] at h
  exact h.1.1
theorem namedB_le {l : List UInt8} (h : namedB l = true) : 1 ≤ l.length ∧ l.length ≤ 40 := by
  simp only [namedB, Bool.and_eq_true, decide_eq_true_eq] at h
  exact ⟨h.1.1, h.1.2⟩

theorem ret_strE {a b : ByteArray} {i j : Int} (h : a = b) (h' : i = j) : Ending.returned (.tuple #[.string a, .int .i64 i]) = .returned (.tuple #[.string b, .int .i64 j]) := by rw [h, h']
theorem size_le_maxLen {m : List UInt8} (h : m.length ≤ 140737488355328) : (ByteArray.mk m.toArray).size ≤ maxLen := by
  unfold maxLen
  rw [Lib.size_eq]
  show m.length ≤ _
  omega

theorem below_next {a b c : World} (h : Below a.heap.size a b) (k : Below b.heap.size b c) : Below a.heap.size a c := h.trans (k.mono h.size)

theorem last_slash : ∀ l : List UInt8, 47 ∈ l → ∃ a b, l = a ++ 47 :: b ∧ 47 ∉ b
  | [], h => by simp at h
  | c :: l, h => by
    by_cases hl : 47 ∈ l
    · obtain ⟨a, b, e, hb⟩ := last_slash l hl
      exact ⟨c :: a, b, by rw [e]; rfl, hb⟩
    · have hc : c = 47 := by
        rcases List.mem_cons.1 h with e | e
        · exact e.symm
        · exact absurd e hl
      exact ⟨[], l, by rw [hc]; rfl, hl⟩
theorem goodB_root : goodB [47] = true := by decide +kernel
set_option maxRecDepth 10000 in
set_option maxHeartbeats 400000 in
theorem clone_any (s : ByteArray) (w : World) (hs : s.size ≤ 281474976710656) :
    Calls Tryz.prog 69 #[.string s] w fun e w' => e = .returned (.string s) ∧ Below w.heap.size w w' := by
  go_enter Tryz.func69, Tryz.ntmps69
  go_wp2_with fail
  refine (Tryz.stringslite_Clone s _ hs).mono ?_
  rintro e w1 ⟨rfl, hb1⟩
  go_wp2_with fail
  go_ret
  exact ⟨rfl, hb1⟩

end Go.Proofs.YtoacignhobchbaaGreatDoor

namespace Go.Proofs.YtoacignhobchbaaGreatDoor
open Go.RowKit

/- a path's parent and last step -/
def lastCut : List UInt8 → Option (List UInt8 × List UInt8)
  | [] => none
  | c :: l => match lastCut l with
    | some (a, b) => some (c :: a, b)
    | none => if c = 47 then some ([], l) else none
theorem lastCut_none : ∀ b : List UInt8, 47 ∉ b → lastCut b = none
  | [], _ => rfl
  | c :: l, h => by
    have h1 : c ≠ 47 := by rintro rfl; simp at h
    rw [lastCut, lastCut_none l (by simp at h; exact h.2)]
    simp [h1]
theorem lastCut_some (b : List UInt8) (hb : 47 ∉ b) : ∀ a : List UInt8, lastCut (a ++ 47 :: b) = some (a, b)
  | [] => by simp [lastCut, lastCut_none b hb]
  | c :: a => by simp [lastCut, lastCut_some b hb a]
def nupL (a : List UInt8) : List UInt8 := if a = [] then [47] else a
def dirOf (p : List UInt8) : List UInt8 := if goodB p = true ∧ p ≠ [47] then (match lastCut p with
  | some (a, _) => nupL a
  | none => []) else []
def stepOf (p : List UInt8) : List UInt8 := if goodB p = true ∧ p ≠ [47] then (match lastCut p with
  | some (_, b) => b
  | none => []) else []
def splE (p : List UInt8) : Int := if goodB p = true then (if p = [47] then 7 else 0) else 2
theorem ngood_slash {p : List UInt8} (h : goodB p = true) : ∃ r, p = 47 :: r := by
  simp only [goodB, Bool.and_eq_true] at h
  have h1 := h.1.2
  cases p with
  | nil => simp [Lib.hasPrefix, List.isPrefixOf] at h1
  | cons c r => simp [Lib.hasPrefix, List.isPrefixOf] at h1; exact ⟨r, by rw [h1]⟩
theorem ngood_nil : goodB [] = false := by decide +kernel
theorem good_cut {p : List UInt8} (h : goodB p = true) : ∃ a b, p = a ++ 47 :: b ∧ 47 ∉ b := by
  obtain ⟨r, rfl⟩ := ngood_slash h
  exact last_slash _ (by simp)
theorem dirOf_cut {a b : List UInt8} (h : goodB (a ++ 47 :: b) = true) (hn : a ++ 47 :: b ≠ [47]) (hb : 47 ∉ b) : dirOf (a ++ 47 :: b) = nupL a := by
  rw [dirOf, if_pos ⟨h, hn⟩, lastCut_some b hb a]
theorem stepOf_cut {a b : List UInt8} (h : goodB (a ++ 47 :: b) = true) (hn : a ++ 47 :: b ≠ [47]) (hb : 47 ∉ b) : stepOf (a ++ 47 :: b) = b := by
  rw [stepOf, if_pos ⟨h, hn⟩, lastCut_some b hb a]
theorem dirOf_bad {p : List UInt8} (h : goodB p = false) : dirOf p = [] := by rw [dirOf, if_neg (by simp [h])]
theorem stepOf_bad {p : List UInt8} (h : goodB p = false) : stepOf p = [] := by rw [stepOf, if_neg (by simp [h])]
theorem dirOf_root : dirOf [47] = [] := by rw [dirOf, if_neg (by simp)]
theorem stepOf_root : stepOf [47] = [] := by rw [stepOf, if_neg (by simp)]
theorem splE_bad {p : List UInt8} (h : goodB p = false) : splE p = 2 := by rw [splE, if_neg (by simp [h])]
theorem splE_root : splE [47] = 7 := by rw [splE, if_pos goodB_root, if_pos rfl]
theorem splE_ok {p : List UInt8} (h : goodB p = true) (hn : p ≠ [47]) : splE p = 0 := by rw [splE, if_pos h, if_neg hn]
theorem dirOf_ne {p : List UInt8} (h : goodB p = true) (hn : p ≠ [47]) : dirOf p ≠ p ∧ dirOf p ≠ [] := by
  obtain ⟨a, b, rfl, hb⟩ := good_cut h
  rw [dirOf_cut h hn hb, nupL]
  split
  · rename_i h0; subst h0
    exact ⟨fun e => hn (by simpa using e.symm), by simp⟩
  · rename_i h0
    refine ⟨fun e => ?_, h0⟩
    have := congrArg List.length e
    simp at this
/- nodes -/
structure Nd where
  p : List UInt8
  d : List UInt8
  c : Int
  m : Int
  q : Int
  v : Int
  k : Int
  o : Int
  n : Int
instance : Inhabited Nd := ⟨⟨[], [], 0, 0, 0, 0, 0, 0, 0⟩⟩
structure Tr where
  z : Int
  ns : List Nd
  ss : List Int
def tr0 : Tr := ⟨0, [], []⟩
def nroot : Nd := ⟨[47], [], 0, 0, 0, 0, 0, 0, 0⟩
def trNew : Tr := ⟨0, [nroot], []⟩

def NAsc (ns : List Nd) : Prop := ns.Pairwise fun a b => bl a.p b.p = true
def kidsN (ns : List Nd) (p : List UInt8) : Nat := ns.countP fun x => decide (dirOf x.p = p)
structure NOk (z : Int) (ns : List Nd) (ss : List Int) (n : Nd) : Prop where
  data : n.d.length ≤ 256
  path : goodB n.p = true
  up : n.p ≠ [47] → ∃ u ∈ ns, u.p = dirOf n.p
  c0 : 0 ≤ n.c
  cm : n.c ≤ n.m
  cq : n.c ≤ n.q
  mz : n.m ≤ z
  qz : n.q ≤ z
  v0 : 0 ≤ n.v
  v1 : n.v ≤ 2147483647
  k0 : 0 ≤ n.k
  kids : n.n = kidsN ns n.p
  own : n.o = 0 ∨ n.o ∈ ss ∧ n.n = 0
structure GoodN (z : Int) (ns : List Nd) (ss : List Int) : Prop where
  few : ns.length ≤ 400
  root : ∃ r rest, ns = r :: rest ∧ r.p = [47] ∧ r.o = 0
  asc : NAsc ns
  ok : ∀ n ∈ ns, NOk z ns ss n
def SAsc (ss : List Int) : Prop := ss.Pairwise (· < ·) ∧ ∀ s ∈ ss, 1 ≤ s ∧ s ≤ 2147483647
structure GoodT (t : Tr) : Prop where
  zx : zGood t.z = true
  ses : SAsc t.ss
  nod : GoodN t.z t.ns t.ss
  cap : ∀ n ∈ t.ns, n.k ≤ 2147483647
noncomputable def goodT (t : Tr) : Bool := @decide (GoodT t) (Classical.propDecidable _)
theorem goodT_true {t : Tr} : goodT t = true ↔ GoodT t := by unfold goodT; exact @decide_eq_true_iff _ (Classical.propDecidable _)
theorem goodT_false {t : Tr} : goodT t = false ↔ ¬ GoodT t := by unfold goodT; exact @decide_eq_false_iff_not _ (Classical.propDecidable _)

theorem nasc_uniq {ns : List Nd} (h : NAsc ns) {a b : Nd} (ha : a ∈ ns) (hb : b ∈ ns) (e : a.p = b.p) : a = b := by
  obtain ⟨i, hi, rfl⟩ := List.getElem_of_mem ha
  obtain ⟨j, hj, rfl⟩ := List.getElem_of_mem hb
  have h := List.pairwise_iff_getElem.1 h
  by_cases h1 : i < j
  · exact absurd e (bl_ne (h i j hi hj h1))
  · by_cases h2 : j < i
    · exact absurd e.symm (bl_ne (h j i hj hi h2))
    · obtain rfl : i = j := by omega
      rfl

/- where a path stands -/
structure NThere (ns A : List Nd) (n : Nd) (B : List Nd) (p : List UInt8) : Prop where
  eq : ns = A ++ n :: B
  nm : n.p = p
  lo : ∀ a ∈ A, bl a.p p = true
  hi : ∀ b ∈ B, bl p b.p = true
structure NGap (ns A B : List Nd) (p : List UInt8) : Prop where
  eq : ns = A ++ B
  lo : ∀ a ∈ A, bl a.p p = true
  hi : ∀ b ∈ B, bl p b.p = true
theorem nwhere (p : List UInt8) : ∀ ns : List Nd, NAsc ns → (∃ A n B, NThere ns A n B p) ∨ ∃ A B, NGap ns A B p
  | [], _ => .inr ⟨[], [], rfl, by simp, by simp⟩
  | x :: r, h => by
    obtain ⟨hx, hr⟩ := List.pairwise_cons.1 h
    cases h1 : bl x.p p with
    | true =>
      rcases nwhere p r hr with ⟨A, f, B, T⟩ | ⟨A, B, G⟩
      · exact .inl ⟨x :: A, f, B, by rw [T.eq]; rfl, T.nm, by simp [h1]; exact T.lo, T.hi⟩
      · exact .inr ⟨x :: A, B, by rw [G.eq]; rfl, by simp [h1]; exact G.lo, G.hi⟩
    | false =>
      cases h2 : bl p x.p with
      | true => exact .inr ⟨[], x :: r, rfl, by simp, by simp [h2]; exact fun b hb => bl_trans _ _ _ h2 (hx b hb)⟩
      | false =>
        have e := bl_total _ _ h1 h2
        exact .inl ⟨[], x, r, rfl, e, by simp, fun b hb => by rw [← e]; exact hx b hb⟩
def lookN (ns : List Nd) (p : List UInt8) : Option Nd := ns.find? fun n => decide (n.p = p)
theorem NThere.look {ns A B : List Nd} {n : Nd} {p : List UInt8} (T : NThere ns A n B p) : lookN ns p = some n := by
  rw [lookN, T.eq, List.find?_append, List.find?_eq_none.2 (fun a ha => by simp [bl_ne (T.lo a ha)])]
  simp [T.nm]
theorem NGap.no {ns A B : List Nd} {p : List UInt8} (G : NGap ns A B p) : ∀ n ∈ ns, n.p ≠ p := by
  intro n hn
  rw [G.eq] at hn
  rcases List.mem_append.1 hn with h | h
  · exact bl_ne (G.lo n h)
  · exact (bl_ne (G.hi n h)).symm
theorem NGap.look {ns A B : List Nd} {p : List UInt8} (G : NGap ns A B p) : lookN ns p = none := by
  rw [lookN, List.find?_eq_none]
  intro n hn
  simp [G.no n hn]
theorem lookN_some {ns : List Nd} {p : List UInt8} {n : Nd} (h : lookN ns p = some n) : n ∈ ns ∧ n.p = p := by
  refine ⟨List.mem_of_find?_eq_some h, ?_⟩
  have := List.find?_some h
  simpa using this
theorem look_mem {ns : List Nd} (h : NAsc ns) {n : Nd} (hn : n ∈ ns) : lookN ns n.p = some n := by
  rcases nwhere n.p ns h with ⟨A, m, B, T⟩ | ⟨A, B, G⟩
  · rw [T.look, nasc_uniq h (by rw [T.eq]; simp) hn T.nm]
  · exact absurd rfl (G.no n hn)
theorem there_of_look {ns : List Nd} (h : NAsc ns) {p : List UInt8} {n : Nd} (hn : lookN ns p = some n) : ∃ A B, NThere ns A n B p := by
  rcases nwhere p ns h with ⟨A, m, B, T⟩ | ⟨A, B, G⟩
  · rw [T.look] at hn; cases hn; exact ⟨A, B, T⟩
  · rw [G.look] at hn; cases hn
theorem gap_of_look {ns : List Nd} (h : NAsc ns) {p : List UInt8} (hn : lookN ns p = none) : ∃ A B, NGap ns A B p := by
  rcases nwhere p ns h with ⟨A, m, B, T⟩ | ⟨A, B, G⟩
  · rw [T.look] at hn; cases hn
  · exact ⟨A, B, G⟩

/- changes -/
def dropN (ns : List Nd) (p : List UInt8) : List Nd := ns.filter fun n => decide (n.p ≠ p)
def insN (ns : List Nd) (x : Nd) : List Nd := (ns.filter fun n => bl n.p x.p) ++ x :: (ns.filter fun n => bl x.p n.p)
def bump (z more : Int) (n : Nd) : Nd := ⟨n.p, n.d, n.c, n.m, z, n.v, n.k + 1, n.o, n.n + more⟩
def bumpAt (p : List UInt8) (z more : Int) (ns : List Nd) : List Nd := ns.map fun n => if n.p = p then bump z more n else n
def setAt (p d : List UInt8) (v z : Int) (ns : List Nd) : List Nd := ns.map fun n => if n.p = p then ⟨n.p, d, n.c, z, n.q, v, n.k, n.o, n.n⟩ else n
theorem filter_all {α : Type} (f : α → Bool) (l : List α) (h : ∀ x ∈ l, f x = true) : l.filter f = l := List.filter_eq_self.2 h
theorem filter_no {α : Type} (f : α → Bool) (l : List α) (h : ∀ x ∈ l, f x = false) : l.filter f = [] := List.filter_eq_nil_iff.2 (fun x hx => by simp [h x hx])
theorem map_same {α : Type} (f : α → α) (l : List α) (h : ∀ x ∈ l, f x = x) : l.map f = l := by
  induction l with
  | nil => rfl
  | cons x r ih => rw [List.map_cons, h x (by simp), ih (fun y hy => h y (by simp [hy]))]
theorem NThere.drop {ns A B : List Nd} {n : Nd} {p : List UInt8} (T : NThere ns A n B p) : dropN ns p = A ++ B := by
  rw [dropN, T.eq, List.filter_append, List.filter_cons, filter_all _ A (fun a ha => by simp [bl_ne (T.lo a ha)]), filter_all _ B (fun a ha => by simp [(bl_ne (T.hi a ha)).symm])]
  simp [T.nm]
theorem NGap.ins {ns A B : List Nd} {x : Nd} (G : NGap ns A B x.p) : insN ns x = A ++ x :: B := by
  rw [insN, G.eq, List.filter_append, List.filter_append, filter_all _ A (fun a ha => G.lo a ha), filter_no _ B (fun a ha => bl_asymm (G.hi a ha)), filter_no _ A (fun a ha => bl_asymm (G.lo a ha)), filter_all _ B (fun a ha => G.hi a ha)]
  simp
theorem NThere.mapAt {ns A B : List Nd} {n : Nd} {p : List UInt8} (T : NThere ns A n B p) (g : Nd → Nd) : (ns.map fun x => if x.p = p then g x else x) = A ++ g n :: B := by
  rw [T.eq, List.map_append, List.map_cons, map_same _ A (fun a ha => by simp [bl_ne (T.lo a ha)]), map_same _ B (fun a ha => by simp [(bl_ne (T.hi a ha)).symm])]
  simp [T.nm]
theorem NThere.bump {ns A B : List Nd} {n : Nd} {p : List UInt8} (T : NThere ns A n B p) (z more : Int) : bumpAt p z more ns = A ++ bump z more n :: B := T.mapAt _
theorem NThere.put {ns A B : List Nd} {n : Nd} {p : List UInt8} (T : NThere ns A n B p) (d : List UInt8) (v z : Int) : setAt p d v z ns = A ++ ⟨n.p, d, n.c, z, n.q, v, n.k, n.o, n.n⟩ :: B := T.mapAt _
theorem bump_p (p : List UInt8) (z more : Int) (n : Nd) : (if n.p = p then bump z more n else n).p = n.p := by split <;> rfl
theorem bumpAt_paths (p : List UInt8) (z more : Int) (ns : List Nd) : (bumpAt p z more ns).map Nd.p = ns.map Nd.p := by
  rw [bumpAt, List.map_map]
  apply List.map_congr_left
  intro n _
  exact bump_p p z more n
theorem nasc_paths (ns : List Nd) : NAsc ns ↔ (ns.map Nd.p).Pairwise fun a b => bl a b = true := by rw [List.pairwise_map]; rfl
theorem kidsN_paths (ns : List Nd) (p : List UInt8) : kidsN ns p = (ns.map Nd.p).countP fun x => decide (dirOf x = p) := by rw [List.countP_map]; rfl

/- a session -/
def insS (ss : List Int) (s : Int) : List Int := (ss.filter fun x => decide (x < s)) ++ s :: (ss.filter fun x => decide (s < x))
def dropS (ss : List Int) (s : Int) : List Int := ss.filter fun x => decide (x ≠ s)
structure SThere (ss A B : List Int) (s : Int) : Prop where
  eq : ss = A ++ s :: B
  lo : ∀ a ∈ A, a < s
  hi : ∀ b ∈ B, s < b
structure SGap (ss A B : List Int) (s : Int) : Prop where
  eq : ss = A ++ B
  lo : ∀ a ∈ A, a < s
  hi : ∀ b ∈ B, s < b
theorem swhere (s : Int) : ∀ ss : List Int, ss.Pairwise (· < ·) → (∃ A B, SThere ss A B s) ∨ ∃ A B, SGap ss A B s
  | [], _ => .inr ⟨[], [], rfl, by simp, by simp⟩
  | x :: r, h => by
    obtain ⟨hx, hr⟩ := List.pairwise_cons.1 h
    by_cases h1 : x < s
    · rcases swhere s r hr with ⟨A, B, T⟩ | ⟨A, B, G⟩
      · exact .inl ⟨x :: A, B, by rw [T.eq]; rfl, by simp [h1]; exact T.lo, T.hi⟩
      · exact .inr ⟨x :: A, B, by rw [G.eq]; rfl, by simp [h1]; exact G.lo, G.hi⟩
    · by_cases h2 : s < x
      · exact .inr ⟨[], x :: r, rfl, by simp, by simp [h2]; exact fun b hb => Int.lt_trans h2 (hx b hb)⟩
      · obtain rfl : x = s := by omega
        exact .inl ⟨[], r, rfl, by simp, hx⟩
theorem SThere.mem {ss A B : List Int} {s : Int} (T : SThere ss A B s) : s ∈ ss := by rw [T.eq]; simp
theorem SGap.not {ss A B : List Int} {s : Int} (G : SGap ss A B s) : s ∉ ss := by
  intro h
  rw [G.eq] at h
  rcases List.mem_append.1 h with h | h
  · exact absurd (G.lo s h) (by omega)
  · exact absurd (G.hi s h) (by omega)
theorem SGap.ins {ss A B : List Int} {s : Int} (G : SGap ss A B s) : insS ss s = A ++ s :: B := by
  rw [insS, G.eq, List.filter_append, List.filter_append, filter_all _ A (fun a ha => by simpa using G.lo a ha), filter_no _ B (fun a ha => by have := G.hi a ha; simp; omega), filter_no _ A (fun a ha => by have := G.lo a ha; simp; omega), filter_all _ B (fun a ha => by simpa using G.hi a ha)]
  simp
theorem SThere.drop {ss A B : List Int} {s : Int} (T : SThere ss A B s) : dropS ss s = A ++ B := by
  rw [dropS, T.eq, List.filter_append, List.filter_cons, filter_all _ A (fun a ha => by have := T.lo a ha; simp; omega), filter_all _ B (fun a ha => by have := T.hi a ha; simp; omega)]
  simp
theorem rising_len (M : Int) : ∀ (ss : List Int) (lo : Int), ss.Pairwise (· < ·) → (∀ s ∈ ss, lo < s ∧ s ≤ M) → lo ≤ M → (ss.length : Int) ≤ M - lo
  | [], lo, _, _, h => by simp; omega
  | x :: r, lo, hp, hb, _ => by
    obtain ⟨hx, hr⟩ := List.pairwise_cons.1 hp
    have h1 := hb x (by simp)
    have := rising_len M r x hr (fun s hs => ⟨hx s hs, (hb s (by simp [hs])).2⟩) h1.2
    simp; omega
theorem sasc_len {ss : List Int} (h : SAsc ss) : ss.length ≤ 2147483647 := by
  have := rising_len 2147483647 ss 0 h.1 (fun s hs => by have := h.2 s hs; omega) (by omega)
  omega
theorem sasc_ins {ss : List Int} {s : Int} (h : SAsc ss) (hs : 1 ≤ s ∧ s ≤ 2147483647) (hn : s ∉ ss) : SAsc (insS ss s) := by
  rcases swhere s ss h.1 with ⟨A, B, T⟩ | ⟨A, B, G⟩
  · exact absurd T.mem hn
  · rw [G.ins]
    have h1 := h.1
    have h2 := h.2
    rw [G.eq] at h1 h2
    rw [List.pairwise_append] at h1
    refine ⟨?_, ?_⟩
    · rw [List.pairwise_append, List.pairwise_cons]
      refine ⟨h1.1, ⟨G.hi, h1.2.1⟩, fun a ha b hb => ?_⟩
      rcases List.mem_cons.1 hb with rfl | hb
      · exact G.lo a ha
      · exact h1.2.2 a ha b hb
    · intro x hx
      rcases List.mem_append.1 hx with h | h
      · exact h2 x (by simp [h])
      · rcases List.mem_cons.1 h with rfl | h
        · exact hs
        · exact h2 x (by simp [h])
theorem sasc_drop {ss : List Int} (s : Int) (h : SAsc ss) : SAsc (dropS ss s) := ⟨h.1.filter _, fun x hx => h.2 x (List.mem_filter.1 hx).1⟩
theorem mem_insS {ss : List Int} {s x : Int} (hx : x ∈ ss) : x ∈ insS ss s := by
  rw [insS]
  by_cases h1 : x < s
  · exact List.mem_append_left _ (List.mem_filter.2 ⟨hx, by simpa using h1⟩)
  · by_cases h2 : s < x
    · exact List.mem_append_right _ (List.mem_cons_of_mem _ (List.mem_filter.2 ⟨hx, by simpa using h2⟩))
    · obtain rfl : x = s := by omega
      exact List.mem_append_right _ (by simp)

end Go.Proofs.YtoacignhobchbaaGreatDoor

namespace Go.Proofs.YtoacignhobchbaaGreatDoor

structure Wa where
  s : Int
  k : Int
  p : List UInt8
structure Nt where
  s : Int
  k : Int
  p : List UInt8
def offB (w : Wa) (e : Ev) : Bool := decide (w.p = e.p) && (if w.k = 2 then decide (e.k = 4) || decide (e.k = 2) else decide (e.k = 1) || decide (e.k = 2) || decide (e.k = 3))
def noteOf (e : Ev) (w : Wa) : Nt := ⟨w.s, e.k, e.p⟩
def toldL (ws : List Wa) (e : Ev) : List Nt := (ws.filter (fun w => offB w e)).map (noteOf e)
def leftL (ws : List Wa) (e : Ev) : List Wa := ws.filter (fun w => !offB w e)
def fireN : List Wa → List Ev → List Nt
  | _, [] => []
  | ws, e :: r => toldL ws e ++ fireN (leftL ws e) r
def fireW : List Wa → List Ev → List Wa
  | ws, [] => ws
  | ws, e :: r => fireW (leftL ws e) r
def dropW (ws : List Wa) (s : Int) : List Wa := ws.filter (fun w => !decide (w.s = s))

theorem part_len (ws : List Wa) (f : Wa → Bool) : (ws.filter f).length + (ws.filter (fun w => !f w)).length = ws.length := by
  induction ws with
  | nil => rfl
  | cons w r ih =>
    cases h : f w
    · simp [h]; omega
    · simp [h]; omega
theorem told_len (ws : List Wa) (e : Ev) : (toldL ws e).length + (leftL ws e).length = ws.length := by
  simp only [toldL, leftL, List.length_map]
  exact part_len ws (fun w => offB w e)
theorem fire_len (es : List Ev) : ∀ ws : List Wa, (fireN ws es).length + (fireW ws es).length = ws.length := by
  induction es with
  | nil => intro ws; simp [fireN, fireW]
  | cons e r ih =>
    intro ws
    have h1 := told_len ws e
    have h2 := ih (leftL ws e)
    simp only [fireN, fireW, List.length_append]
    omega
theorem fireN_app (a b : List Ev) : ∀ ws : List Wa, fireN ws (a ++ b) = fireN ws a ++ fireN (fireW ws a) b := by
  induction a with
  | nil => intro ws; simp [fireN, fireW]
  | cons e r ih => intro ws; simp [fireN, fireW, ih]
theorem fireW_app (a b : List Ev) : ∀ ws : List Wa, fireW ws (a ++ b) = fireW (fireW ws a) b := by
  induction a with
  | nil => intro ws; simp [fireW]
  | cons e r ih => intro ws; simp [fireW, ih]
theorem mem_fireW (es : List Ev) : ∀ (ws : List Wa) (w : Wa), w ∈ fireW ws es → w ∈ ws ∧ ∀ e ∈ es, offB w e = false := by
  induction es with
  | nil => intro ws w h; exact ⟨h, by simp⟩
  | cons e r ih =>
    intro ws w h
    obtain ⟨h1, h2⟩ := ih (leftL ws e) w h
    simp only [leftL, List.mem_filter] at h1
    refine ⟨h1.1, fun x hx => ?_⟩
    rcases List.mem_cons.1 hx with rfl | hx
    · simpa using h1.2
    · exact h2 x hx
theorem fireW_sub (ws : List Wa) (es : List Ev) (w : Wa) (h : w ∈ fireW ws es) : w ∈ ws := (mem_fireW es ws w h).1
end Go.Proofs.YtoacignhobchbaaGreatDoor

namespace Go.Proofs.YtoacignhobchbaaGreatDoor
open Go.RowKit

def recsL : List WTxn → List UInt8
  | [] => []
  | t :: l => recL t ++ recsL l
theorem recsL_append : ∀ a b, recsL (a ++ b) = recsL a ++ recsL b
  | [], _ => rfl
  | t :: a, b => by rw [List.cons_append, recsL, recsL, recsL_append a b, List.append_assoc]
theorem recsL_snoc (a : List WTxn) (t : WTxn) : recsL (a ++ [t]) = recsL a ++ recL t := by rw [recsL_append, recsL, recsL, List.append_nil]
def lastZ (l : List WTxn) : Int := l.foldl (fun _ t => t.z) 0
theorem lastZ_snoc (l : List WTxn) (t : WTxn) : lastZ (l ++ [t]) = t.z := by simp [lastZ]
theorem lastZ_nil : lastZ [] = 0 := rfl
/-- may it stand behind these? -/
def follB (l : List WTxn) (t : WTxn) : Bool := decide (l.length = 0) || decide (lastZ l < t.z)
theorem follB_some {l : List WTxn} {t : WTxn} (h : l.length ≠ 0) : follB l t = decide (lastZ l < t.z) := by simp [follB, h]
theorem snoc_of {l : List WTxn} (h : l.length ≠ 0) : ∃ m x, l = m ++ [x] := by
  rcases List.eq_nil_or_concat l with rfl | ⟨m, x, rfl⟩
  · exact absurd rfl h
  · exact ⟨m, x, List.concat_eq_append⟩
structure Logs (ts : List WTxn) : Prop where
  good : ∀ t ∈ ts, gdE t = 0
  rise : ts.Pairwise fun a b => a.z < b.z
theorem Logs.nil : Logs [] := ⟨by simp, List.Pairwise.nil⟩
theorem Logs.le_last {ts : List WTxn} (h : Logs ts) {a : WTxn} (ha : a ∈ ts) : a.z ≤ lastZ ts := by
  rcases List.eq_nil_or_concat ts with rfl | ⟨m, x, e⟩
  · simp at ha
  · rw [List.concat_eq_append] at e
    subst e
    rw [lastZ_snoc]
    rcases List.mem_append.1 ha with h1 | h1
    · have := (List.pairwise_append.1 h.rise).2.2 a h1 x (by simp)
      omega
    · simp at h1; subst h1; omega
theorem Logs.snoc {ts : List WTxn} {t : WTxn} (h : Logs ts) (hg : gdE t = 0) (hf : follB ts t = true) : Logs (ts ++ [t]) := by
  refine ⟨fun x hx => ?_, ?_⟩
  · rcases List.mem_append.1 hx with h1 | h1
    · exact h.good x h1
    · simp at h1; subst h1; exact hg
  · rw [List.pairwise_append]
    refine ⟨h.rise, by simp, fun a ha b hb => ?_⟩
    simp at hb; subst hb
    have h0 : ts.length ≠ 0 := by rintro h0; rw [List.length_eq_zero_iff.1 h0] at ha; simp at ha
    rw [follB_some h0] at hf
    have := h.le_last ha
    have := of_decide_eq_true hf
    omega
theorem Logs.left {a b : List WTxn} (h : Logs (a ++ b)) : Logs a := ⟨fun t ht => h.good t (by simp [ht]), (List.pairwise_append.1 h.rise).1⟩
theorem Logs.at {a b : List WTxn} {t : WTxn} (h : Logs (a ++ t :: b)) : gdE t = 0 ∧ follB a t = true := by
  refine ⟨h.good t (by simp), ?_⟩
  by_cases h0 : a.length = 0
  · simp [follB, h0]
  · rw [follB_some h0]
    obtain ⟨m, x, rfl⟩ := snoc_of h0
    rw [lastZ_snoc]
    exact decide_eq_true ((List.pairwise_append.1 h.rise).2.2 x (by simp) t (by simp))
/-- bytes begin with these, and there it stops -/
structure Scan (s : List UInt8) (ts : List WTxn) (r : List UInt8) : Prop where
  eq : s = recsL ts ++ r
  log : Logs ts
  stop : decE r ≠ 0 ∨ follB ts (decT r) = false
theorem Scan.len {s r : List UInt8} {ts : List WTxn} (h : Scan s ts r) : (recsL ts).length + r.length = s.length := by rw [h.eq, List.length_append]
theorem recsL_ge : ∀ ts : List WTxn, ts.length * 31 ≤ (recsL ts).length
  | [] => by simp [recsL]
  | t :: l => by
    have := recsL_ge l
    rw [recsL, List.length_append, recL_length, List.length_cons]
    omega
theorem recL_le {t : WTxn} (h : gdE t = 0) : (recL t).length ≤ 487 := by
  obtain ⟨_, _, _, _, _, hp, hd⟩ := gd_bounds h
  rw [recL_length]; omega
theorem recsL_le : ∀ ts : List WTxn, (∀ t ∈ ts, gdE t = 0) → (recsL ts).length ≤ ts.length * 487
  | [], _ => by simp [recsL]
  | t :: l, h => by
    have h1 := recsL_le l (fun x hx => h x (by simp [hx]))
    have h2 := recL_le (h t (by simp))
    rw [recsL, List.length_append, List.length_cons]
    omega
theorem take_more1 {ts : List WTxn} {k : Nat} {t : WTxn} (h : ts[k]? = some t) : ts.take (k + 1) = ts.take k ++ [t] := by
  obtain ⟨hk, rfl⟩ := List.getElem?_eq_some_iff.1 h
  exact List.take_succ_eq_append_getElem hk
end Go.Proofs.YtoacignhobchbaaGreatDoor

namespace Go.Proofs.YtoacignhobchbaaGreatDoor
open Go.RowKit

def isD (c : UInt8) : Bool := decide (48 ≤ c.toNat) && decide (c.toNat ≤ 57)
theorem isD_iff {c : UInt8} : isD c = true ↔ 48 ≤ c.toNat ∧ c.toNat ≤ 57 := by simp [isD]
/-- the number that digits say -/
def num (l : List UInt8) : Nat := l.foldl (fun n c => 10 * n + (c.toNat - 48)) 0
theorem num_snoc (l : List UInt8) (c : UInt8) : num (l ++ [c]) = 10 * num l + (c.toNat - 48) := by simp [num]
theorem snoc_cases (l : List UInt8) : l = [] ∨ ∃ a c, l = a ++ [c] := by
  cases h : l.reverse with
  | nil => exact .inl (by simpa using h)
  | cons c r => exact .inr ⟨r.reverse, c, by have := congrArg List.reverse h; simpa using this⟩
theorem num_lt (l : List UInt8) (h : l.all isD = true) : num l < 10 ^ l.length := by
  obtain ⟨n, hn⟩ : ∃ n, l.length = n := ⟨_, rfl⟩
  induction n generalizing l with
  | zero => rw [List.length_eq_zero_iff.1 hn]; decide
  | succ n ih =>
    rcases snoc_cases l with rfl | ⟨a, c, rfl⟩
    · simp at hn
    · simp only [List.all_append, Bool.and_eq_true, List.all_cons, List.all_nil, Bool.and_true] at h
      have h1 := ih a h.1 (by simpa using hn)
      have h2 := isD_iff.1 h.2
      rw [num_snoc, List.length_append, List.length_singleton, Nat.pow_succ]
      omega
/-- 1 to 10 digits, no needless nought ahead -/
def partB (l : List UInt8) : Bool := decide (1 ≤ l.length) && decide (l.length ≤ 10) && !(decide (1 < l.length) && l.head? == some 48) && l.all isD
def partN (l : List UInt8) : Int := if partB l then (num l : Int) else 0
theorem partN_yes {l : List UInt8} (h : partB l = true) : partN l = num l := by rw [partN, if_pos h]
theorem partN_no {l : List UInt8} (h : partB l = false) : partN l = 0 := by rw [partN, h]; rfl
theorem partB_iff {l : List UInt8} : partB l = true ↔ 1 ≤ l.length ∧ l.length ≤ 10 ∧ (1 < l.length → l.head? ≠ some 48) ∧ l.all isD = true := by
  simp only [partB, Bool.and_eq_true, decide_eq_true_eq, Bool.not_eq_true', Bool.and_eq_false_imp, beq_eq_false_iff_ne, ne_eq]
  constructor
  · rintro ⟨⟨⟨a, b⟩, c⟩, d⟩; exact ⟨a, b, c, d⟩
  · rintro ⟨a, b, c, d⟩; exact ⟨⟨⟨a, b⟩, c⟩, d⟩
theorem partB_no {l : List UInt8} (h : ¬ (1 ≤ l.length ∧ l.length ≤ 10 ∧ (1 < l.length → l.head? ≠ some 48) ∧ l.all isD = true)) : partB l = false := by
  cases hp : partB l with
  | false => rfl
  | true => exact absurd (partB_iff.1 hp) h

/-- what stands ahead of the first dot, and what behind it -/
def cutA (l : List UInt8) : List UInt8 := l.takeWhile (fun c => c != 46)
def cutZ (l : List UInt8) : List UInt8 := (l.dropWhile (fun c => c != 46)).drop 1
theorem cut_hit {a b : List UInt8} (h : ∀ c ∈ a, c ≠ 46) : cutA (a ++ 46 :: b) = a ∧ cutZ (a ++ 46 :: b) = b := by
  have hp : ∀ c ∈ a, (c != 46) = true := fun c hc => by simpa using h c hc
  constructor
  · rw [cutA, List.takeWhile_append_of_pos hp]; simp
  · rw [cutZ, List.dropWhile_append_of_pos hp]; simp
theorem cut_miss {l : List UInt8} (h : ∀ c ∈ l, c ≠ 46) : cutA l = l ∧ cutZ l = [] := by
  have hp : ∀ c ∈ l, (c != 46) = true := fun c hc => by simpa using h c hc
  constructor
  · have := List.takeWhile_append_of_pos (l₂ := []) hp
    rw [cutA]; simpa using this
  · have := List.dropWhile_append_of_pos (l₂ := []) hp
    rw [cutZ]; simp at this; rw [this]; rfl
theorem dot_cases (l : List UInt8) : (∀ c ∈ l, c ≠ 46) ∨ ∃ a b, l = a ++ 46 :: b ∧ ∀ c ∈ a, c ≠ 46 := by
  induction l with
  | nil => exact .inl (by simp)
  | cons x l ih =>
    by_cases hx : x = 46
    · subst hx; exact .inr ⟨[], l, rfl, by simp⟩
    · rcases ih with h | ⟨a, b, rfl, h⟩
      · exact .inl (by simpa [hx] using h)
      · exact .inr ⟨x :: a, b, rfl, by simpa [hx] using h⟩
/-- what Read answers -/
def zRead (l : List UInt8) : Int := if partB (cutA l) && partB (cutZ l) then zMake (num (cutA l)) (num (cutZ l)) else 0
def zReadE (l : List UInt8) : Int := if partB (cutA l) && partB (cutZ l) then zMakeE (num (cutA l)) (num (cutZ l)) else 2
theorem zRead_no {l : List UInt8} (h : partB (cutA l) = false ∨ partB (cutZ l) = false) : zRead l = 0 ∧ zReadE l = 2 := by
  rcases h with h | h <;> simp [zRead, zReadE, h]
theorem zRead_yes {l : List UInt8} (h : partB (cutA l) = true) (h' : partB (cutZ l) = true) : zRead l = zMake (num (cutA l)) (num (cutZ l)) ∧ zReadE l = zMakeE (num (cutA l)) (num (cutZ l)) := by
  simp [zRead, zReadE, h, h']
end Go.Proofs.YtoacignhobchbaaGreatDoor

namespace Go.Proofs.YtoacignhobchbaaGreatDoor

structure Sv where
  up : Bool
  fs : List DF
  id : Int
  ep : Int
  ts : List WTxn
  dn : Int
  tr : Tr
  ws : List Wa
def sv0 : Sv := ⟨false, [], 0, 0, [], 0, tr0, []⟩
def epochN : List UInt8 := [101, 112, 111, 99, 104]
end Go.Proofs.YtoacignhobchbaaGreatDoor

namespace Go.Proofs.YtoacignhobchbaaGreatDoor
open Go.RowKit
/-- a transaction as a value -/
def txnV (t : WTxn) : Value := .agg #[.int .i64 t.z, .int .i64 t.o, .int .i64 t.s, .string ⟨t.p.toArray⟩, .string ⟨t.d.toArray⟩, .int .i64 t.v, .int .i64 t.w]
end Go.Proofs.YtoacignhobchbaaGreatDoor
