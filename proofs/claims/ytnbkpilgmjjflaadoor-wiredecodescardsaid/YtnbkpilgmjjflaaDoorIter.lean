/-
  What strings.SplitSeq's iterator gives at one byte, a slash, and what path.steps' iterator gives: for every loop body.
-/
import Derived.Test.YtnbkpilgmjjflaaDoorRows
import Derived.Test.YtnbkpilgmjjflaaDoorLoop
import Derived.Test.YtnbkpilgmjjflaaDoorShelf
import Derived.Test.YtnbkpilgmjjflaaDoorSplit
import Derived.Test.YtnbkpilgmjjflaaDoorNamed
import Derived.Shelf.RegionOpen
import Derived.TacticsInMore
import Derived.LoopNIn
import Derived.LoopIn
namespace Go.Proofs.YtnbkpilgmjjflaaDoor
open Go.RowKit Go.Shelf
attribute [local go_sem] Oper.semAt_some

/-- the length of the text in a box -/
def lenAt (w : World) (b : Nat) : Nat := match w.cell? ⟨b, 0, none⟩ with
  | some (.string s) => s.size
  | _ => 0
theorem lenAt_of {w : World} {b : Nat} {t : TypeId} {s : ByteArray} (h : Boxed w b t (.string s)) : lenAt w b = s.size := by
  simp [lenAt, h.cell]

theorem Boxed.of_heap {W W' : World} {B : Nat} {t : TypeId} {v : Value} (h : Boxed W B t v) (e : W'.heap[B]? = W.heap[B]?) : Boxed W' B t v := e.trans h

theorem cut_front (r : List UInt8) (i : Nat) : (ByteArray.mk r.toArray).extract 0 i = ⟨(r.take i).toArray⟩ := by
  have := Lib.extract_data ⟨r.toArray⟩ 0 i
  rw [List.drop_zero, Nat.sub_zero] at this
  exact congrArg (fun l : List UInt8 => ByteArray.mk l.toArray) this
theorem cut_back (r : List UInt8) (i : Nat) : (ByteArray.mk r.toArray).extract i r.length = ⟨(r.drop i).toArray⟩ := by
  have := Lib.extract_data ⟨r.toArray⟩ i r.length
  rw [List.take_of_length_le (by simp)] at this
  exact congrArg (fun l : List UInt8 => ByteArray.mk l.toArray) this
theorem wide_depth (n : Nat) : Fence.wide.depth.isSome = true → 1 ≤ n := fun h => by cases h

set_option maxRecDepth 100000 in
set_option maxHeartbeats 1000000 in
theorem splitSeq_gives (n Bsep Bs Bv : Nat) (s : List UInt8) (W : World) (h1 : Bs ≠ Bsep) (h2 : Bs ≠ Bv) (hlen : s.length ≤ 1000000)
    (b1 : Boxed W Bsep 9 (.string ⟨#[47]⟩)) (b2 : Boxed W Bs 9 (.string ⟨s.toArray⟩)) (b3 : Boxed W Bv 3 (.int .i64 0)) :
    SeqX Fence.wide n Tryd.prog 47 #[.pointer (some ⟨Bsep, 0, none⟩), .pointer (some ⟨Bs, 0, none⟩), .pointer (some ⟨Bv, 0, none⟩)] (fun x : List UInt8 => #[.string ⟨x.toArray⟩])
      (fun A B => ∃ v, B = A.setCell ⟨Bs, 0, none⟩ v) (fun A B => ∀ k, k = Bsep ∨ k = Bs ∨ k = Bv → B.heap[k]? = A.heap[k]?) (splitL s) W := by
  intro l J Jx hJ hJx hY h0
  refine callsIn_of_wp Tryd.func47 rfl trivial ?_ rfl
  simp only [Tryd.ntmps47, List.size_toArray, List.length_cons, List.length_nil, Nat.reduceAdd, Nat.reduceSub, Array.replicate_succ, Array.replicate_zero, List.push_toArray, List.append_toArray, List.nil_append, List.cons_append]
  have c1 := b1.cell
  have HY := hide hY
  have HJ := hide hJ
  have HJx := hide hJx
  clear hY hJ hJx
  gi_wp2
  clear c1
  gi_loopw [7] (fun _ wr => ∃ (pre : List (List UInt8)) (r : List UInt8), splitL s = pre ++ splitL r ∧ r.length ≤ 1000000 ∧ Boxed wr Bsep 9 (.string ⟨#[47]⟩) ∧ Boxed wr Bs 9 (.string ⟨r.toArray⟩) ∧ Boxed wr Bv 3 (.int .i64 0) ∧ J pre wr)
    (fun _ wr => lenAt wr Bs)
  case atStart => exact ⟨[], s, rfl, hlen, b1, b2, b3, h0⟩
  case round =>
    clear b1 b2 b3 h0 hlen
    obtain ⟨pre, r, hpre, hlen, b1, b2, b3, hJs⟩ := hrel
    have Hpre := hide hpre
    clear hpre
    have c1 := b1.cell
    have c2 := b2.cell
    have c3 := b3.cell
    have f2 := b2.frozen
    have hz : (ByteArray.mk r.toArray).size = r.length := Lib.size_eq ⟨r.toArray⟩
    rcases indexByte_cases r with hi | ⟨i, hi⟩
    · have Hs := hide (splitL_none r hi)
      have Hi := hide hi
      clear hi
      obtain ⟨fn, tmps, assign, body, hy, hR⟩ := unhide HY pre r wr hJs (by rw [unhide Hpre, unhide Hs]; exact List.prefix_refl _)
      gi_wp2_with fail
      refine ⟨trivial, wide_depth _, (callsIn_wide.2 (Tryd.strings_Index_one _ _ _)).mono ?_⟩
      rintro e w' ⟨rfl, rfl⟩
      rw [show (ByteArray.mk r.toArray).data.toList = r from rfl, unhide Hi]
      gi_wp2
      refine ⟨wide_depth _, hR.mono ?_⟩
      rintro e W3 (⟨rfl, hJ3, _⟩ | ⟨rfl, hJx3, _⟩)
      · gi_wp2
        go_end0
        exact ⟨⟨_, rfl⟩, .inl (by rw [unhide Hpre, unhide Hs]; exact hJ3)⟩
      · gi_wp2
        go_end0
        exact ⟨⟨_, rfl⟩, .inr ⟨_, by rw [unhide Hpre, unhide Hs]; exact List.prefix_refl _, hJx3⟩⟩
    · obtain ⟨hil, hsp⟩ := splitL_some r i hi
      have Hs := hide hsp
      have Hi := hide hi
      clear hi hsp
      obtain ⟨fn, tmps, assign, body, hy, hR⟩ := unhide HY pre (r.take i) wr hJs (by rw [unhide Hpre, unhide Hs]; simp)
      gi_wp2_with fail
      refine ⟨trivial, wide_depth _, (callsIn_wide.2 (Tryd.strings_Index_one _ _ _)).mono ?_⟩
      rintro e w' ⟨rfl, rfl⟩
      rw [show (ByteArray.mk r.toArray).data.toList = r from rfl, unhide Hi]
      rw [← cut_front r i] at hy
      gi_wp2
      refine ⟨wide_depth _, hR.mono ?_⟩
      rintro e W3 (⟨rfl, hJ3, hk3⟩ | ⟨rfl, hJx3, hk3⟩)
      · have d1 := Boxed.of_heap b1 (hk3 Bsep (.inl rfl))
        have d2 := Boxed.of_heap b2 (hk3 Bs (.inr (.inl rfl)))
        have d3 := Boxed.of_heap b3 (hk3 Bv (.inr (.inr rfl)))
        have Hl := hide (lenAt_of b2)
        clear c1 c2 c3 f2 b1 b2 b3 hk3 hy hR
        have c1 := d1.cell
        have c2 := d2.cell
        have f2 := d2.frozen
        gi_wp2
        rw [cut_back]
        refine ⟨⟨pre ++ [r.take i], r.drop (i + 1), by rw [unhide Hpre, unhide Hs]; simp, by simp; omega, Boxed.of_heap d1 (Below.heap_setCell W3 _ _ Bsep (Ne.symm h1)), d2.set _,
          Boxed.of_heap d3 (Below.heap_setCell W3 _ _ Bv (Ne.symm h2)), unhide HJ _ _ _ hJ3 ⟨_, rfl⟩⟩, ?_⟩
        rw [lenAt_of (d2.set _), unhide Hl]
        show (r.drop (i + 1)).toArray.size < r.toArray.size
        simp; omega
      · gi_wp2
        refine bodyPost_ret (results_none rfl _ _ _) rfl ?_
        exact ⟨⟨_, rfl⟩, .inr ⟨pre ++ [r.take i], by rw [unhide Hpre, unhide Hs]; simp, hJx3⟩⟩

end Go.Proofs.YtnbkpilgmjjflaaDoor
