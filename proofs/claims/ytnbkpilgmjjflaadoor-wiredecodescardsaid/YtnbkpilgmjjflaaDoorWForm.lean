/-
  What wire.counted and wire.formed answer, for every transaction: the walks.
-/
import Derived.Test.YtnbkpilgmjjflaaDoorZxGood
import Derived.Test.YtnbkpilgmjjflaaDoorWRec
import Derived.Test.YtnbkpilgmjjflaaDoorPathPlain
namespace Go.Proofs.YtnbkpilgmjjflaaDoor
open Go.RowKit

theorem bcell {W w1 : World} (hb : Below W.heap.size W w1) : (∀ b o, b < W.heap.size → w1.cell? ⟨b, o, none⟩ = W.cell? ⟨b, o, none⟩) ∧ (∀ b o, b < W.heap.size → w1.frozen? ⟨b, o, none⟩ = W.frozen? ⟨b, o, none⟩) :=
  ⟨fun b o h => hb.cell (p := ⟨b, o, none⟩) h, fun b o h => hb.frozen (p := ⟨b, o, none⟩) h⟩
/-- a transaction as a value -/
def txnV (t : WTxn) : Value := .agg #[.int .i64 t.z, .int .i64 t.o, .int .i64 t.s, .string ⟨t.p.toArray⟩, .string ⟨t.d.toArray⟩, .int .i64 t.v, .int .i64 t.w]

set_option maxHeartbeats 400000 in
theorem counted_any (n k : Int) (w : World) :
    Calls Tryd.prog 22 #[.int .i64 n, .int .i64 k] w fun e w' => e = .returned (.bool (cntB n k)) ∧ w' = w := by
  go_enter Tryd.func22, Tryd.ntmps22
  go_wp2
  all_goals go_ret
  all_goals exact ⟨zret_bool (by rw [Bool.eq_iff_iff, cntB_iff]; simp; try omega), rfl⟩

theorem box_then {w : World} {o : Obj} {w1 : World} (h : Below (w.alloc o).heap.size (w.alloc o) w1) : Below w.heap.size w w1 :=
  ((Below.refl _ _).alloc (Nat.le_refl _) _).trans (h.mono (by simp))
theorem op_cases {o : Int} (h : opB o = true) : o = 1 ∨ o = 2 ∨ o = 3 ∨ o = 4 ∨ o = 5 := by have := opB_iff.1 h; omega

theorem fm_1 (z s : Int) (p d : List UInt8) (v u : Int) : fmB ⟨z, 1, s, p, d, v, u⟩ = (p == [] && d == [] && v == 0 && u == 0) := rfl
theorem fm_2 (z s : Int) (p d : List UInt8) (v u : Int) : fmB ⟨z, 2, s, p, d, v, u⟩ = (p == [] && d == [] && v == 0 && u == 0) := rfl
theorem fm_3 (z s : Int) (p d : List UInt8) (v u : Int) : fmB ⟨z, 3, s, p, d, v, u⟩ = (goodB p && !(p == [47]) && v == 0) := rfl
theorem fm_4 (z s : Int) (p d : List UInt8) (v u : Int) : fmB ⟨z, 4, s, p, d, v, u⟩ = (goodB p && !(p == [47]) && d == [] && v == 0 && u == 0) := rfl
theorem fm_5 (z s : Int) (p d : List UInt8) (v u : Int) : fmB ⟨z, 5, s, p, d, v, u⟩ = (goodB p && u == 0) := rfl

set_option maxHeartbeats 1000000 in
theorem formed_1 (z s : Int) (p d : List UInt8) (v u : Int) (w : World) :
    Calls Tryd.prog 23 #[.agg #[.int .i64 z, .int .i64 1, .int .i64 s, .string ⟨p.toArray⟩, .string ⟨d.toArray⟩, .int .i64 v, .int .i64 u]] w fun e w' => e = .returned (.bool (fmB ⟨z, 1, s, p, d, v, u⟩)) ∧ Below w.heap.size w w' := by
  rw [fm_1]
  cases hg : goodB p
  all_goals
    have Hg := hide hg
    clear hg
    go_enter Tryd.func23, Tryd.ntmps23
    go_wp2_with fail
    refine (good_any _ _).mono ?_
    rintro e w1 ⟨rfl, hb1⟩
    have hbz := box_then hb1
    obtain ⟨hc, hf⟩ := bcell hb1
    rw [show (ByteArray.mk p.toArray).data.toList = p from rfl, unhide Hg]
    go_wp2_with fail
    all_goals go_ret
    all_goals (clear hc hf hb1)
    all_goals (refine ⟨zret_bool ?_, hbz⟩; clear hbz Hg; simp [*])

set_option maxHeartbeats 1000000 in
theorem formed_2 (z s : Int) (p d : List UInt8) (v u : Int) (w : World) :
    Calls Tryd.prog 23 #[.agg #[.int .i64 z, .int .i64 2, .int .i64 s, .string ⟨p.toArray⟩, .string ⟨d.toArray⟩, .int .i64 v, .int .i64 u]] w fun e w' => e = .returned (.bool (fmB ⟨z, 2, s, p, d, v, u⟩)) ∧ Below w.heap.size w w' := by
  rw [fm_2]
  cases hg : goodB p
  all_goals
    have Hg := hide hg
    clear hg
    go_enter Tryd.func23, Tryd.ntmps23
    go_wp2_with fail
    refine (good_any _ _).mono ?_
    rintro e w1 ⟨rfl, hb1⟩
    have hbz := box_then hb1
    obtain ⟨hc, hf⟩ := bcell hb1
    rw [show (ByteArray.mk p.toArray).data.toList = p from rfl, unhide Hg]
    go_wp2_with fail
    all_goals go_ret
    all_goals (clear hc hf hb1)
    all_goals (refine ⟨zret_bool ?_, hbz⟩; clear hbz Hg; simp [*])

set_option maxHeartbeats 1000000 in
theorem formed_3 (z s : Int) (p d : List UInt8) (v u : Int) (w : World) :
    Calls Tryd.prog 23 #[.agg #[.int .i64 z, .int .i64 3, .int .i64 s, .string ⟨p.toArray⟩, .string ⟨d.toArray⟩, .int .i64 v, .int .i64 u]] w fun e w' => e = .returned (.bool (fmB ⟨z, 3, s, p, d, v, u⟩)) ∧ Below w.heap.size w w' := by
  rw [fm_3]
  cases hg : goodB p
  all_goals
    have Hg := hide hg
    clear hg
    go_enter Tryd.func23, Tryd.ntmps23
    go_wp2_with fail
    refine (good_any _ _).mono ?_
    rintro e w1 ⟨rfl, hb1⟩
    have hbz := box_then hb1
    obtain ⟨hc, hf⟩ := bcell hb1
    rw [show (ByteArray.mk p.toArray).data.toList = p from rfl, unhide Hg]
    go_wp2_with fail
    all_goals go_ret
    all_goals (clear hc hf hb1)
    all_goals (refine ⟨zret_bool ?_, hbz⟩; clear hbz Hg; simp [*])

set_option maxHeartbeats 1000000 in
theorem formed_4 (z s : Int) (p d : List UInt8) (v u : Int) (w : World) :
    Calls Tryd.prog 23 #[.agg #[.int .i64 z, .int .i64 4, .int .i64 s, .string ⟨p.toArray⟩, .string ⟨d.toArray⟩, .int .i64 v, .int .i64 u]] w fun e w' => e = .returned (.bool (fmB ⟨z, 4, s, p, d, v, u⟩)) ∧ Below w.heap.size w w' := by
  rw [fm_4]
  cases hg : goodB p
  all_goals
    have Hg := hide hg
    clear hg
    go_enter Tryd.func23, Tryd.ntmps23
    go_wp2_with fail
    refine (good_any _ _).mono ?_
    rintro e w1 ⟨rfl, hb1⟩
    have hbz := box_then hb1
    obtain ⟨hc, hf⟩ := bcell hb1
    rw [show (ByteArray.mk p.toArray).data.toList = p from rfl, unhide Hg]
    go_wp2_with fail
    all_goals go_ret
    all_goals (clear hc hf hb1)
    all_goals (refine ⟨zret_bool ?_, hbz⟩; clear hbz Hg; simp [*])

end Go.Proofs.YtnbkpilgmjjflaaDoor
