/-
  What wire.counted and wire.formed answer, for every transaction: the walks.
  What wire.Good answers, for every transaction: the walk.
  A tree under change: what tree.copied and growth's tell and parentChanges do: the walks.
-/
import Derived.Test.YtoacignhobchbaaGreatDoorSUJ
import Derived.Test.YtoacignhobchbaaGreatDoorSUA
import Derived.Test.YtoacignhobchbaaGreatDoorSUC
import Derived.Test.YtoacignhobchbaaGreatDoorSUH
import Derived.Test.YtoacignhobchbaaGreatDoorSUI
namespace Go.Proofs.YtoacignhobchbaaGreatDoor
open Go.RowKit

theorem bcell {W w1 : World} (hb : Below W.heap.size W w1) : (∀ b o, b < W.heap.size → w1.cell? ⟨b, o, none⟩ = W.cell? ⟨b, o, none⟩) ∧ (∀ b o, b < W.heap.size → w1.frozen? ⟨b, o, none⟩ = W.frozen? ⟨b, o, none⟩) :=
  ⟨fun b o h => hb.cell (p := ⟨b, o, none⟩) h, fun b o h => hb.frozen (p := ⟨b, o, none⟩) h⟩

set_option maxRecDepth 10000 in
set_option maxHeartbeats 400000 in
theorem counted_any (n k : Int) (w : World) :
    Calls Tryz.prog 75 #[.int .i64 n, .int .i64 k] w fun e w' => e = .returned (.bool (cntB n k)) ∧ w' = w := by
  go_enter Tryz.func75, Tryz.ntmps75
  go_wp2
  all_goals go_ret
  all_goals exact ⟨zret_bool (by rw [Bool.eq_iff_iff, cntB_iff]; simp; try omega), rfl⟩

theorem box_then {w : World} {o : Obj} {w1 : World} (h : Below (w.alloc o).heap.size (w.alloc o) w1) : Below w.heap.size w w1 :=
  ((Below.refl _ _).alloc (Nat.le_refl _) _).trans (h.mono (by simp))
theorem op_cases {o : Int} (h : opB o = true) : o = 1 ∨ o = 2 ∨ o = 3 ∨ o = 4 ∨ o = 5 := by have := opB_iff.1 h; omega

theorem fm_1 (z s : Int) (p d : List UInt8) (v u : Int) : fmB ⟨z, 1, s, p, d, v, u⟩ = (p == [] && d == [] && v == 0 && u == 0) := rfl
theorem fm_2 (z s : Int) (p d : List UInt8) (v u : Int) : fmB ⟨z, 2, s, p, d, v, u⟩ = (p == [] && d == [] && v == 0 && u == 0) := rfl
theorem fm_3 (z s : Int) (p d : List UInt8) (v u : Int) : fmB ⟨z, 3, s, p, d, v, u⟩ = (goodB p && !(p == [47]) && v == 0) := rfl
theorem fm_4 (z s : Int) (p d : List UInt8) (v u : Int) : fmB ⟨z, 4, s, p, d, v, u⟩ = (goodB p && !(p == [47]) && d == [] && v == 0 && u == 0) := rfl
theorem fm_5 (z s : Int) (p d : List UInt8) (v u : Int) : fmB ⟨z, 5, s, p, d, v, u⟩ = (goodB p && u == 0) := rfl

set_option maxRecDepth 10000 in
set_option maxHeartbeats 1000000 in
theorem formed_1 (z s : Int) (p d : List UInt8) (v u : Int) (w : World) :
    Calls Tryz.prog 76 #[.agg #[.int .i64 z, .int .i64 1, .int .i64 s, .string ⟨p.toArray⟩, .string ⟨d.toArray⟩, .int .i64 v, .int .i64 u]] w fun e w' => e = .returned (.bool (fmB ⟨z, 1, s, p, d, v, u⟩)) ∧ Below w.heap.size w w' := by
  rw [fm_1]
  cases hg : goodB p
  all_goals
    have Hg := hide hg
    clear hg
    go_enter Tryz.func76, Tryz.ntmps76
    go_wp2_with fail
    refine (good_any _ _).mono ?_
    rintro e w1 ⟨rfl, hb1⟩
    have hbz := box_then hb1
    obtain ⟨hc, hf⟩ := bcell hb1
    rw [show (ByteArray.mk p.toArray).data.toList = p from rfl, unhide Hg]
    go_wp2_with fail
    all_goals go_ret
    all_goals (clear hc hf hb1)
    all_goals (refine ⟨zret_bool ?_, hbz⟩; clear hbz Hg; simp [*])

set_option maxRecDepth 10000 in
set_option maxHeartbeats 1000000 in
theorem formed_2 (z s : Int) (p d : List UInt8) (v u : Int) (w : World) :
    Calls Tryz.prog 76 #[.agg #[.int .i64 z, .int .i64 2, .int .i64 s, .string ⟨p.toArray⟩, .string ⟨d.toArray⟩, .int .i64 v, .int .i64 u]] w fun e w' => e = .returned (.bool (fmB ⟨z, 2, s, p, d, v, u⟩)) ∧ Below w.heap.size w w' := by
  rw [fm_2]
  cases hg : goodB p
  all_goals
    have Hg := hide hg
    clear hg
    go_enter Tryz.func76, Tryz.ntmps76
    go_wp2_with fail
    refine (good_any _ _).mono ?_
    rintro e w1 ⟨rfl, hb1⟩
    have hbz := box_then hb1
    obtain ⟨hc, hf⟩ := bcell hb1
    rw [show (ByteArray.mk p.toArray).data.toList = p from rfl, unhide Hg]
    go_wp2_with fail
    all_goals go_ret
    all_goals (clear hc hf hb1)
    all_goals (refine ⟨zret_bool ?_, hbz⟩; clear hbz Hg; simp [*])

set_option maxRecDepth 10000 in
set_option maxHeartbeats 1000000 in
theorem formed_3 (z s : Int) (p d : List UInt8) (v u : Int) (w : World) :
    Calls Tryz.prog 76 #[.agg #[.int .i64 z, .int .i64 3, .int .i64 s, .string ⟨p.toArray⟩, .string ⟨d.toArray⟩, .int .i64 v, .int .i64 u]] w fun e w' => e = .returned (.bool (fmB ⟨z, 3, s, p, d, v, u⟩)) ∧ Below w.heap.size w w' := by
  rw [fm_3]
  cases hg : goodB p
  all_goals
    have Hg := hide hg
    clear hg
    go_enter Tryz.func76, Tryz.ntmps76
    go_wp2_with fail
    refine (good_any _ _).mono ?_
    rintro e w1 ⟨rfl, hb1⟩
    have hbz := box_then hb1
    obtain ⟨hc, hf⟩ := bcell hb1
    rw [show (ByteArray.mk p.toArray).data.toList = p from rfl, unhide Hg]
    go_wp2_with fail
    all_goals go_ret
    all_goals (clear hc hf hb1)
    all_goals (refine ⟨zret_bool ?_, hbz⟩; clear hbz Hg; simp [*])

set_option maxRecDepth 10000 in
set_option maxHeartbeats 1000000 in
theorem formed_4 (z s : Int) (p d : List UInt8) (v u : Int) (w : World) :
    Calls Tryz.prog 76 #[.agg #[.int .i64 z, .int .i64 4, .int .i64 s, .string ⟨p.toArray⟩, .string ⟨d.toArray⟩, .int .i64 v, .int .i64 u]] w fun e w' => e = .returned (.bool (fmB ⟨z, 4, s, p, d, v, u⟩)) ∧ Below w.heap.size w w' := by
  rw [fm_4]
  cases hg : goodB p
  all_goals
    have Hg := hide hg
    clear hg
    go_enter Tryz.func76, Tryz.ntmps76
    go_wp2_with fail
    refine (good_any _ _).mono ?_
    rintro e w1 ⟨rfl, hb1⟩
    have hbz := box_then hb1
    obtain ⟨hc, hf⟩ := bcell hb1
    rw [show (ByteArray.mk p.toArray).data.toList = p from rfl, unhide Hg]
    go_wp2_with fail
    all_goals go_ret
    all_goals (clear hc hf hb1)
    all_goals (refine ⟨zret_bool ?_, hbz⟩; clear hbz Hg; simp [*])

end Go.Proofs.YtoacignhobchbaaGreatDoor

namespace Go.Proofs.YtoacignhobchbaaGreatDoor
open Go.RowKit
set_option maxRecDepth 10000 in

set_option maxHeartbeats 1000000 in
theorem formed_5 (z s : Int) (p d : List UInt8) (v u : Int) (w : World) :
    Calls Tryz.prog 76 #[.agg #[.int .i64 z, .int .i64 5, .int .i64 s, .string ⟨p.toArray⟩, .string ⟨d.toArray⟩, .int .i64 v, .int .i64 u]] w fun e w' => e = .returned (.bool (fmB ⟨z, 5, s, p, d, v, u⟩)) ∧ Below w.heap.size w w' := by
  rw [fm_5]
  cases hg : goodB p
  all_goals
    have Hg := hide hg
    clear hg
    go_enter Tryz.func76, Tryz.ntmps76
    go_wp2_with fail
    refine (good_any _ _).mono ?_
    rintro e w1 ⟨rfl, hb1⟩
    have hbz := box_then hb1
    have hz1 : w.heap.size < w1.heap.size := by have := hb1.size; simp at this; omega
    obtain ⟨hc, hf⟩ := bcell hb1
    rw [show (ByteArray.mk p.toArray).data.toList = p from rfl, unhide Hg]
    go_wp2_with fail
    all_goals
      refine (good_any _ _).mono ?_
      rintro e w2 ⟨rfl, hb2⟩
      have hbz2 := below_next hbz hb2
      obtain ⟨hc2, hf2⟩ := bcell hb2
      rw [show (ByteArray.mk p.toArray).data.toList = p from rfl, unhide Hg]
      go_wp2_with fail
    all_goals go_ret
    all_goals (clear hc hf hb1 hc2 hf2 hb2 hbz)
    all_goals (refine ⟨zret_bool ?_, hbz2⟩; clear hbz2 Hg; simp [*])

theorem formed_any (t : WTxn) (w : World) (ht : opB t.o = true) :
    Calls Tryz.prog 76 #[txnV t] w fun e w' => e = .returned (.bool (fmB t)) ∧ Below w.heap.size w w' := by
  obtain ⟨z, o, s, p, d, v, u⟩ := t
  rcases op_cases ht with h | h | h | h | h <;> (replace h : o = _ := h; subst h)
  · exact formed_1 z s p d v u w
  · exact formed_2 z s p d v u w
  · exact formed_3 z s p d v u w
  · exact formed_4 z s p d v u w
  · exact formed_5 z s p d v u w

theorem opB_no {o : Int} (h : opB o = false) : o < 1 ∨ 5 < o := by
  by_cases h1 : 1 ≤ o ∧ o ≤ 5
  · rw [opB_iff.2 h1] at h; exact absurd h (by decide)
  · omega
theorem ret_gd {a b : Int} (h : a = b) : Ending.returned (.int .i64 a) = .returned (.int .i64 b) := by rw [h]

theorem num_no {t : WTxn} (h : zGood t.z = false ∨ cntB t.s 1 = false ∨ cntB t.v 0 = false ∨ cntB t.w 0 = false) : numB t = false := by
  rcases h with h | h | h | h <;> simp [numB, h]

set_option maxRecDepth 10000 in
set_option maxHeartbeats 2000000 in
theorem wgood_any (t : WTxn) (w : World) (hd : t.d.length ≤ 140737488355328) :
    Calls Tryz.prog 45 #[txnV t] w fun e w' => e = .returned (.int .i64 (gdE t)) ∧ Below w.heap.size w w' := by
  cases ho : opB t.o
  · have H := hide (gdE_kind ho)
    have hor := opB_no ho
    clear ho
    obtain ⟨z, o, s, p, d, v, u⟩ := t
    unfold txnV
    replace hor : o < 1 ∨ 5 < o := hor
    rcases hor with hor | hor
    all_goals
      go_enter Tryz.func45, Tryz.ntmps45
      go_wp2_with fail
      go_ret
      exact ⟨ret_gd (unhide H).symm, (Below.refl _ _).alloc (Nat.le_refl _) _⟩
  have hor := opB_iff.1 ho
  have ho1 := hor.1
  have ho2 := hor.2
  have Ho := hide ho
  clear ho hor
  cases hz : zGood t.z
  · have H := hide (gdE_range (unhide Ho) (num_no (.inl hz)))
    have Hz := hide hz
    clear hz
    · obtain ⟨z, o, s, p, d, v, u⟩ := t
      unfold txnV
      have hzd : (ByteArray.mk d.toArray).size = d.length := Lib.size_eq ⟨d.toArray⟩
      replace ho1 : 1 ≤ o := ho1
      replace ho2 : o ≤ 5 := ho2
      replace hd : d.length ≤ 140737488355328 := hd
      go_enter Tryz.func45, Tryz.ntmps45
      go_wp2_with fail
      refine (zgood_any _ _).mono ?_
      rintro e w1 ⟨rfl, rfl⟩
      rw [unhide Hz]
      go_wp2_with fail
      go_ret
      exact ⟨ret_gd (unhide H).symm, (Below.refl _ _).alloc (Nat.le_refl _) _⟩
  cases hs : cntB t.s 1
  · have H := hide (gdE_range (unhide Ho) (num_no (.inr (.inl hs))))
    have Hz := hide hz
    have Hs := hide hs
    clear hz hs
    · obtain ⟨z, o, s, p, d, v, u⟩ := t
      unfold txnV
      have hzd : (ByteArray.mk d.toArray).size = d.length := Lib.size_eq ⟨d.toArray⟩
      replace ho1 : 1 ≤ o := ho1
      replace ho2 : o ≤ 5 := ho2
      replace hd : d.length ≤ 140737488355328 := hd
      go_enter Tryz.func45, Tryz.ntmps45
      go_wp2_with fail
      refine (zgood_any _ _).mono ?_
      rintro e w1 ⟨rfl, rfl⟩
      rw [unhide Hz]
      go_wp2_with fail
      refine (counted_any _ _ _).mono ?_
      rintro e w1 ⟨rfl, rfl⟩
      rw [unhide Hs]
      go_wp2_with fail
      go_ret
      exact ⟨ret_gd (unhide H).symm, (Below.refl _ _).alloc (Nat.le_refl _) _⟩
  cases hv : cntB t.v 0
  · have H := hide (gdE_range (unhide Ho) (num_no (.inr (.inr (.inl hv)))))
    have Hz := hide hz
    have Hs := hide hs
    have Hv := hide hv
    clear hz hs hv
    · obtain ⟨z, o, s, p, d, v, u⟩ := t
      unfold txnV
      have hzd : (ByteArray.mk d.toArray).size = d.length := Lib.size_eq ⟨d.toArray⟩
      replace ho1 : 1 ≤ o := ho1
      replace ho2 : o ≤ 5 := ho2
      replace hd : d.length ≤ 140737488355328 := hd
      go_enter Tryz.func45, Tryz.ntmps45
      go_wp2_with fail
      refine (zgood_any _ _).mono ?_
      rintro e w1 ⟨rfl, rfl⟩
      rw [unhide Hz]
      go_wp2_with fail
      refine (counted_any _ _ _).mono ?_
      rintro e w1 ⟨rfl, rfl⟩
      rw [unhide Hs]
      go_wp2_with fail
      refine (counted_any _ _ _).mono ?_
      rintro e w1 ⟨rfl, rfl⟩
      rw [unhide Hv]
      go_wp2_with fail
      go_ret
      exact ⟨ret_gd (unhide H).symm, (Below.refl _ _).alloc (Nat.le_refl _) _⟩
  cases hu : cntB t.w 0
  · have H := hide (gdE_range (unhide Ho) (num_no (.inr (.inr (.inr hu)))))
    have Hz := hide hz
    have Hs := hide hs
    have Hv := hide hv
    have Hu := hide hu
    clear hz hs hv hu
    · obtain ⟨z, o, s, p, d, v, u⟩ := t
      unfold txnV
      have hzd : (ByteArray.mk d.toArray).size = d.length := Lib.size_eq ⟨d.toArray⟩
      replace ho1 : 1 ≤ o := ho1
      replace ho2 : o ≤ 5 := ho2
      replace hd : d.length ≤ 140737488355328 := hd
      go_enter Tryz.func45, Tryz.ntmps45
      go_wp2_with fail
      refine (zgood_any _ _).mono ?_
      rintro e w1 ⟨rfl, rfl⟩
      rw [unhide Hz]
      go_wp2_with fail
      refine (counted_any _ _ _).mono ?_
      rintro e w1 ⟨rfl, rfl⟩
      rw [unhide Hs]
      go_wp2_with fail
      refine (counted_any _ _ _).mono ?_
      rintro e w1 ⟨rfl, rfl⟩
      rw [unhide Hv]
      go_wp2_with fail
      refine (counted_any _ _ _).mono ?_
      rintro e w1 ⟨rfl, rfl⟩
      rw [unhide Hu]
      go_wp2_with fail
      go_ret
      exact ⟨ret_gd (unhide H).symm, (Below.refl _ _).alloc (Nat.le_refl _) _⟩
  have HN := hide (numB_iff.2 ⟨hz, hs, hv, hu⟩)
  have Hz := hide hz
  have Hs := hide hs
  have Hv := hide hv
  have Hu := hide hu
  clear hz hs hv hu
  by_cases hl : 256 < t.d.length
  · have H := hide (gdE_long (unhide Ho) (unhide HN) hl)
    · obtain ⟨z, o, s, p, d, v, u⟩ := t
      unfold txnV
      replace hl : 256 < d.length := hl
      have hzd : (ByteArray.mk d.toArray).size = d.length := Lib.size_eq ⟨d.toArray⟩
      replace ho1 : 1 ≤ o := ho1
      replace ho2 : o ≤ 5 := ho2
      replace hd : d.length ≤ 140737488355328 := hd
      go_enter Tryz.func45, Tryz.ntmps45
      go_wp2_with fail
      refine (zgood_any _ _).mono ?_
      rintro e w1 ⟨rfl, rfl⟩
      rw [unhide Hz]
      go_wp2_with fail
      refine (counted_any _ _ _).mono ?_
      rintro e w1 ⟨rfl, rfl⟩
      rw [unhide Hs]
      go_wp2_with fail
      refine (counted_any _ _ _).mono ?_
      rintro e w1 ⟨rfl, rfl⟩
      rw [unhide Hv]
      go_wp2_with fail
      refine (counted_any _ _ _).mono ?_
      rintro e w1 ⟨rfl, rfl⟩
      rw [unhide Hu]
      go_wp2_with fail
      go_ret
      exact ⟨ret_gd (unhide H).symm, (Below.refl _ _).alloc (Nat.le_refl _) _⟩
  cases hfm : fmB t
  · have H := hide (gdE_form (unhide Ho) (unhide HN) (by omega) hfm)
    have Hf := hide hfm
    clear hfm
    · obtain ⟨z, o, s, p, d, v, u⟩ := t
      unfold txnV
      replace hl : ¬ 256 < d.length := hl
      have hzd : (ByteArray.mk d.toArray).size = d.length := Lib.size_eq ⟨d.toArray⟩
      replace ho1 : 1 ≤ o := ho1
      replace ho2 : o ≤ 5 := ho2
      replace hd : d.length ≤ 140737488355328 := hd
      go_enter Tryz.func45, Tryz.ntmps45
      go_wp2_with fail
      refine (zgood_any _ _).mono ?_
      rintro e w1 ⟨rfl, rfl⟩
      rw [unhide Hz]
      go_wp2_with fail
      refine (counted_any _ _ _).mono ?_
      rintro e w1 ⟨rfl, rfl⟩
      rw [unhide Hs]
      go_wp2_with fail
      refine (counted_any _ _ _).mono ?_
      rintro e w1 ⟨rfl, rfl⟩
      rw [unhide Hv]
      go_wp2_with fail
      refine (counted_any _ _ _).mono ?_
      rintro e w1 ⟨rfl, rfl⟩
      rw [unhide Hu]
      go_wp2_with fail
      refine (formed_any ⟨z, o, s, p, d, v, u⟩ _ (unhide Ho)).mono ?_
      rintro e w2 ⟨rfl, hb2⟩
      have hbz := box_then hb2
      rw [unhide Hf]
      go_wp2_with fail
      go_ret
      exact ⟨ret_gd (unhide H).symm, hbz⟩
  · have H := hide (gdE_ok (unhide Ho) (unhide HN) (by omega) hfm)
    have Hf := hide hfm
    clear hfm
    · obtain ⟨z, o, s, p, d, v, u⟩ := t
      unfold txnV
      replace hl : ¬ 256 < d.length := hl
      have hzd : (ByteArray.mk d.toArray).size = d.length := Lib.size_eq ⟨d.toArray⟩
      replace ho1 : 1 ≤ o := ho1
      replace ho2 : o ≤ 5 := ho2
      replace hd : d.length ≤ 140737488355328 := hd
      go_enter Tryz.func45, Tryz.ntmps45
      go_wp2_with fail
      refine (zgood_any _ _).mono ?_
      rintro e w1 ⟨rfl, rfl⟩
      rw [unhide Hz]
      go_wp2_with fail
      refine (counted_any _ _ _).mono ?_
      rintro e w1 ⟨rfl, rfl⟩
      rw [unhide Hs]
      go_wp2_with fail
      refine (counted_any _ _ _).mono ?_
      rintro e w1 ⟨rfl, rfl⟩
      rw [unhide Hv]
      go_wp2_with fail
      refine (counted_any _ _ _).mono ?_
      rintro e w1 ⟨rfl, rfl⟩
      rw [unhide Hu]
      go_wp2_with fail
      refine (formed_any ⟨z, o, s, p, d, v, u⟩ _ (unhide Ho)).mono ?_
      rintro e w2 ⟨rfl, hb2⟩
      have hbz := box_then hb2
      rw [unhide Hf]
      go_wp2_with fail
      go_ret
      exact ⟨ret_gd (unhide H).symm, hbz⟩

end Go.Proofs.YtoacignhobchbaaGreatDoor

namespace Go.Proofs.YtoacignhobchbaaGreatDoor
open Go.RowKit

theorem nclone_any (s : List UInt8) (w : World) (hs : s.length ≤ 281474976710656) :
    Calls Tryz.prog 69 #[.string ⟨s.toArray⟩] w fun e w' => e = .returned (.string ⟨s.toArray⟩) ∧ Below w.heap.size w w' := clone_any ⟨s.toArray⟩ w hs
theorem OneR.cellN {W : World} {b : Nat} {n : Nd} (h : OneR W b n) (j : Nat) (v : Value) (hj : (ncells n)[j]? = some v) : W.cell? ⟨b, j, none⟩ = some v := by
  have := h.row j v hj
  rwa [Nat.zero_add] at this
theorem OneR.frozenN {W : World} {b : Nat} {n : Nd} (h : OneR W b n) (j : Nat) : W.frozen? ⟨b, j, none⟩ = false := by
  unfold OneR at h
  simp [World.frozen?, h]
theorem OneR.keptN {W V : World} {b : Nat} {n : Nd} (h : OneR W b n) (hb : Below W.heap.size W V) : OneR V b n := by
  unfold OneR at h ⊢
  exact (hb.block _ (Array.getElem?_eq_some_iff.1 h).1).trans h
def nzero : Nd := ⟨[], [], 0, 0, 0, 0, 0, 0, 0⟩

set_option maxRecDepth 20000 in
set_option maxHeartbeats 1000000 in
theorem tcopied_any (n : Nd) (w : World) (hp : n.p.length ≤ 140737488355328) (hd : n.d.length ≤ 140737488355328) :
    Calls Tryz.prog 47 #[nodeV n] w fun e w' => e = .returned (nodeV n) ∧ Below w.heap.size w w' := by
  have C1 := fun W => nclone_any n.p W (by omega)
  have C2 := fun W => nclone_any n.d W (by omega)
  have X0 : ∀ W, W = (w.alloc (.cells (ncells n).toArray 70)).alloc (.cells (ncells nzero).toArray 70) → OneR W w.heap.size n ∧ OneR W (w.heap.size + 1) nzero ∧ Below w.heap.size w W := by
    rintro W rfl
    refine ⟨?_, ?_, ((Below.refl _ _).alloc (Nat.le_refl _) _).alloc (by simp) _⟩
    · unfold OneR
      exact (((Below.refl (w.heap.size + 1) (w.alloc (.cells (ncells n).toArray 70))).alloc (by simp) (.cells (ncells nzero).toArray 70)).block _ (by omega)).trans (heap_alloc_new w _)
    · have := heap_alloc_new (w.alloc (.cells (ncells n).toArray 70)) (.cells (ncells nzero).toArray 70)
      rw [show (w.alloc (.cells (ncells n).toArray 70)).heap.size = w.heap.size + 1 by simp] at this
      exact this
  have X := hide X0
  clear X0
  unfold nodeV
  go_enter Tryz.func47, Tryz.ntmps47
  go_wp2_with fail
  generalize hW0 : (w.alloc _).alloc _ = W0
  obtain ⟨x1, x2, x3⟩ := unhide X W0 hW0.symm
  clear hW0 X
  refine (C1 _).mono ?_
  rintro e w1 ⟨rfl, hb1⟩
  have y1 := x1.keptN hb1
  have e0 := y1.cellN 0 _ rfl
  have e1 := y1.cellN 1 _ rfl
  have f0 := y1.frozenN 0
  have hs0 := nset_same e0
  have Y1 := hide y1
  have Y2 := hide (x2.keptN hb1)
  have B1 := hide (nnext x3 hb1)
  clear y1 x1 x2 x3 hb1 C1
  go_wp2_with fail
  refine (C2 _).mono ?_
  rintro e w2 ⟨rfl, hb2⟩
  have y1 := (unhide Y1).keptN hb2
  have y2 := (unhide Y2).keptN hb2
  have B2 := hide (nnext (unhide B1) hb2)
  clear e0 e1 f0 hs0 C2 hb2 Y1 Y2
  have c0 := y1.cellN 0 _ rfl
  have c1 := y1.cellN 1 _ rfl
  have c2 := y1.cellN 2 _ rfl
  have c3 := y1.cellN 3 _ rfl
  have c4 := y1.cellN 4 _ rfl
  have c5 := y1.cellN 5 _ rfl
  have c6 := y1.cellN 6 _ rfl
  have c7 := y1.cellN 7 _ rfl
  have c8 := y1.cellN 8 _ rfl
  have d0 := y2.cellN 0 _ rfl
  have d1 := y2.cellN 1 _ rfl
  have d2 := y2.cellN 2 _ rfl
  have d3 := y2.cellN 3 _ rfl
  have d4 := y2.cellN 4 _ rfl
  have d5 := y2.cellN 5 _ rfl
  have d6 := y2.cellN 6 _ rfl
  have d7 := y2.cellN 7 _ rfl
  have d8 := y2.cellN 8 _ rfl
  have f1 := y1.frozenN 1
  have g0 := y2.frozenN 0
  have g1 := y2.frozenN 1
  have g2 := y2.frozenN 2
  have g3 := y2.frozenN 3
  have g4 := y2.frozenN 4
  have g5 := y2.frozenN 5
  have g6 := y2.frozenN 6
  have g7 := y2.frozenN 7
  have g8 := y2.frozenN 8
  have hs1 := nset_same c1
  have hne : w.heap.size ≠ w.heap.size + 1 := by omega
  clear y1 y2
  go_wp2_with fail
  have BB := unhide B2
  exact bodyPost_ret (v := nodeV n) (by simp [results, Tryz.results47, go_sem, nodeV, d0, d1, d2, d3, d4, d5, d6, d7, d8]) rfl
    ⟨rfl, ((((((((BB.setCell (by simp) _).setCell (by simp) _).setCell (by simp) _).setCell (by simp) _).setCell (by simp) _).setCell (by simp) _).setCell (by simp) _).setCell (by simp) _).setCell (by simp) _⟩

end Go.Proofs.YtoacignhobchbaaGreatDoor
