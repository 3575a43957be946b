/-
  What wire.Good answers, for every transaction: the walk.
-/
import Derived.Test.YtnbkpilgmjjflaaDoorWForm
namespace Go.Proofs.YtnbkpilgmjjflaaDoor
open Go.RowKit

set_option maxHeartbeats 1000000 in
theorem formed_5 (z s : Int) (p d : List UInt8) (v u : Int) (w : World) :
    Calls Tryd.prog 23 #[.agg #[.int .i64 z, .int .i64 5, .int .i64 s, .string ⟨p.toArray⟩, .string ⟨d.toArray⟩, .int .i64 v, .int .i64 u]] w fun e w' => e = .returned (.bool (fmB ⟨z, 5, s, p, d, v, u⟩)) ∧ Below w.heap.size w w' := by
  rw [fm_5]
  cases hg : goodB p
  all_goals
    have Hg := hide hg
    clear hg
    go_enter Tryd.func23, Tryd.ntmps23
    go_wp2_with fail
    refine (good_any _ _).mono ?_
    rintro e w1 ⟨rfl, hb1⟩
    have hbz := box_then hb1
    have hz1 : w.heap.size < w1.heap.size := by have := hb1.size; simp at this; omega
    obtain ⟨hc, hf⟩ := bcell hb1
    rw [show (ByteArray.mk p.toArray).data.toList = p from rfl, unhide Hg]
    go_wp2_with fail
    all_goals
      refine (good_any _ _).mono ?_
      rintro e w2 ⟨rfl, hb2⟩
      have hbz2 := below_next hbz hb2
      obtain ⟨hc2, hf2⟩ := bcell hb2
      rw [show (ByteArray.mk p.toArray).data.toList = p from rfl, unhide Hg]
      go_wp2_with fail
    all_goals go_ret
    all_goals (clear hc hf hb1 hc2 hf2 hb2 hbz)
    all_goals (refine ⟨zret_bool ?_, hbz2⟩; clear hbz2 Hg; simp [*])

theorem formed_any (t : WTxn) (w : World) (ht : opB t.o = true) :
    Calls Tryd.prog 23 #[txnV t] w fun e w' => e = .returned (.bool (fmB t)) ∧ Below w.heap.size w w' := by
  obtain ⟨z, o, s, p, d, v, u⟩ := t
  rcases op_cases ht with h | h | h | h | h <;> (replace h : o = _ := h; subst h)
  · exact formed_1 z s p d v u w
  · exact formed_2 z s p d v u w
  · exact formed_3 z s p d v u w
  · exact formed_4 z s p d v u w
  · exact formed_5 z s p d v u w

theorem opB_no {o : Int} (h : opB o = false) : o < 1 ∨ 5 < o := by
  by_cases h1 : 1 ≤ o ∧ o ≤ 5
  · rw [opB_iff.2 h1] at h; exact absurd h (by decide)
  · omega
theorem ret_gd {a b : Int} (h : a = b) : Ending.returned (.int .i64 a) = .returned (.int .i64 b) := by rw [h]

theorem num_no {t : WTxn} (h : zGood t.z = false ∨ cntB t.s 1 = false ∨ cntB t.v 0 = false ∨ cntB t.w 0 = false) : numB t = false := by
  rcases h with h | h | h | h <;> simp [numB, h]

set_option maxHeartbeats 2000000 in
theorem wgood_any (t : WTxn) (w : World) (hd : t.d.length ≤ 140737488355328) :
    Calls Tryd.prog 10 #[txnV t] w fun e w' => e = .returned (.int .i64 (gdE t)) ∧ Below w.heap.size w w' := by
  cases ho : opB t.o
  · have H := hide (gdE_kind ho)
    have hor := opB_no ho
    clear ho
    obtain ⟨z, o, s, p, d, v, u⟩ := t
    unfold txnV
    replace hor : o < 1 ∨ 5 < o := hor
    rcases hor with hor | hor
    all_goals
      go_enter Tryd.func10, Tryd.ntmps10
      go_wp2_with fail
      go_ret
      exact ⟨ret_gd (unhide H).symm, (Below.refl _ _).alloc (Nat.le_refl _) _⟩
  have hor := opB_iff.1 ho
  have ho1 := hor.1
  have ho2 := hor.2
  have Ho := hide ho
  clear ho hor
  cases hz : zGood t.z
  · have H := hide (gdE_range (unhide Ho) (num_no (.inl hz)))
    have Hz := hide hz
    clear hz
    · obtain ⟨z, o, s, p, d, v, u⟩ := t
      unfold txnV
      have hzd : (ByteArray.mk d.toArray).size = d.length := Lib.size_eq ⟨d.toArray⟩
      replace ho1 : 1 ≤ o := ho1
      replace ho2 : o ≤ 5 := ho2
      replace hd : d.length ≤ 140737488355328 := hd
      go_enter Tryd.func10, Tryd.ntmps10
      go_wp2_with fail
      refine (zgood_any _ _).mono ?_
      rintro e w1 ⟨rfl, rfl⟩
      rw [unhide Hz]
      go_wp2_with fail
      go_ret
      exact ⟨ret_gd (unhide H).symm, (Below.refl _ _).alloc (Nat.le_refl _) _⟩
  cases hs : cntB t.s 1
  · have H := hide (gdE_range (unhide Ho) (num_no (.inr (.inl hs))))
    have Hz := hide hz
    have Hs := hide hs
    clear hz hs
    · obtain ⟨z, o, s, p, d, v, u⟩ := t
      unfold txnV
      have hzd : (ByteArray.mk d.toArray).size = d.length := Lib.size_eq ⟨d.toArray⟩
      replace ho1 : 1 ≤ o := ho1
      replace ho2 : o ≤ 5 := ho2
      replace hd : d.length ≤ 140737488355328 := hd
      go_enter Tryd.func10, Tryd.ntmps10
      go_wp2_with fail
      refine (zgood_any _ _).mono ?_
      rintro e w1 ⟨rfl, rfl⟩
      rw [unhide Hz]
      go_wp2_with fail
      refine (counted_any _ _ _).mono ?_
      rintro e w1 ⟨rfl, rfl⟩
      rw [unhide Hs]
      go_wp2_with fail
      go_ret
      exact ⟨ret_gd (unhide H).symm, (Below.refl _ _).alloc (Nat.le_refl _) _⟩
  cases hv : cntB t.v 0
  · have H := hide (gdE_range (unhide Ho) (num_no (.inr (.inr (.inl hv)))))
    have Hz := hide hz
    have Hs := hide hs
    have Hv := hide hv
    clear hz hs hv
    · obtain ⟨z, o, s, p, d, v, u⟩ := t
      unfold txnV
      have hzd : (ByteArray.mk d.toArray).size = d.length := Lib.size_eq ⟨d.toArray⟩
      replace ho1 : 1 ≤ o := ho1
      replace ho2 : o ≤ 5 := ho2
      replace hd : d.length ≤ 140737488355328 := hd
      go_enter Tryd.func10, Tryd.ntmps10
      go_wp2_with fail
      refine (zgood_any _ _).mono ?_
      rintro e w1 ⟨rfl, rfl⟩
      rw [unhide Hz]
      go_wp2_with fail
      refine (counted_any _ _ _).mono ?_
      rintro e w1 ⟨rfl, rfl⟩
      rw [unhide Hs]
      go_wp2_with fail
      refine (counted_any _ _ _).mono ?_
      rintro e w1 ⟨rfl, rfl⟩
      rw [unhide Hv]
      go_wp2_with fail
      go_ret
      exact ⟨ret_gd (unhide H).symm, (Below.refl _ _).alloc (Nat.le_refl _) _⟩
  cases hu : cntB t.w 0
  · have H := hide (gdE_range (unhide Ho) (num_no (.inr (.inr (.inr hu)))))
    have Hz := hide hz
    have Hs := hide hs
    have Hv := hide hv
    have Hu := hide hu
    clear hz hs hv hu
    · obtain ⟨z, o, s, p, d, v, u⟩ := t
      unfold txnV
      have hzd : (ByteArray.mk d.toArray).size = d.length := Lib.size_eq ⟨d.toArray⟩
      replace ho1 : 1 ≤ o := ho1
      replace ho2 : o ≤ 5 := ho2
      replace hd : d.length ≤ 140737488355328 := hd
      go_enter Tryd.func10, Tryd.ntmps10
      go_wp2_with fail
      refine (zgood_any _ _).mono ?_
      rintro e w1 ⟨rfl, rfl⟩
      rw [unhide Hz]
      go_wp2_with fail
      refine (counted_any _ _ _).mono ?_
      rintro e w1 ⟨rfl, rfl⟩
      rw [unhide Hs]
      go_wp2_with fail
      refine (counted_any _ _ _).mono ?_
      rintro e w1 ⟨rfl, rfl⟩
      rw [unhide Hv]
      go_wp2_with fail
      refine (counted_any _ _ _).mono ?_
      rintro e w1 ⟨rfl, rfl⟩
      rw [unhide Hu]
      go_wp2_with fail
      go_ret
      exact ⟨ret_gd (unhide H).symm, (Below.refl _ _).alloc (Nat.le_refl _) _⟩
  have HN := hide (numB_iff.2 ⟨hz, hs, hv, hu⟩)
  have Hz := hide hz
  have Hs := hide hs
  have Hv := hide hv
  have Hu := hide hu
  clear hz hs hv hu
  by_cases hl : 256 < t.d.length
  · have H := hide (gdE_long (unhide Ho) (unhide HN) hl)
    · obtain ⟨z, o, s, p, d, v, u⟩ := t
      unfold txnV
      replace hl : 256 < d.length := hl
      have hzd : (ByteArray.mk d.toArray).size = d.length := Lib.size_eq ⟨d.toArray⟩
      replace ho1 : 1 ≤ o := ho1
      replace ho2 : o ≤ 5 := ho2
      replace hd : d.length ≤ 140737488355328 := hd
      go_enter Tryd.func10, Tryd.ntmps10
      go_wp2_with fail
      refine (zgood_any _ _).mono ?_
      rintro e w1 ⟨rfl, rfl⟩
      rw [unhide Hz]
      go_wp2_with fail
      refine (counted_any _ _ _).mono ?_
      rintro e w1 ⟨rfl, rfl⟩
      rw [unhide Hs]
      go_wp2_with fail
      refine (counted_any _ _ _).mono ?_
      rintro e w1 ⟨rfl, rfl⟩
      rw [unhide Hv]
      go_wp2_with fail
      refine (counted_any _ _ _).mono ?_
      rintro e w1 ⟨rfl, rfl⟩
      rw [unhide Hu]
      go_wp2_with fail
      go_ret
      exact ⟨ret_gd (unhide H).symm, (Below.refl _ _).alloc (Nat.le_refl _) _⟩
  cases hfm : fmB t
  · have H := hide (gdE_form (unhide Ho) (unhide HN) (by omega) hfm)
    have Hf := hide hfm
    clear hfm
    · obtain ⟨z, o, s, p, d, v, u⟩ := t
      unfold txnV
      replace hl : ¬ 256 < d.length := hl
      have hzd : (ByteArray.mk d.toArray).size = d.length := Lib.size_eq ⟨d.toArray⟩
      replace ho1 : 1 ≤ o := ho1
      replace ho2 : o ≤ 5 := ho2
      replace hd : d.length ≤ 140737488355328 := hd
      go_enter Tryd.func10, Tryd.ntmps10
      go_wp2_with fail
      refine (zgood_any _ _).mono ?_
      rintro e w1 ⟨rfl, rfl⟩
      rw [unhide Hz]
      go_wp2_with fail
      refine (counted_any _ _ _).mono ?_
      rintro e w1 ⟨rfl, rfl⟩
      rw [unhide Hs]
      go_wp2_with fail
      refine (counted_any _ _ _).mono ?_
      rintro e w1 ⟨rfl, rfl⟩
      rw [unhide Hv]
      go_wp2_with fail
      refine (counted_any _ _ _).mono ?_
      rintro e w1 ⟨rfl, rfl⟩
      rw [unhide Hu]
      go_wp2_with fail
      refine (formed_any ⟨z, o, s, p, d, v, u⟩ _ (unhide Ho)).mono ?_
      rintro e w2 ⟨rfl, hb2⟩
      have hbz := box_then hb2
      rw [unhide Hf]
      go_wp2_with fail
      go_ret
      exact ⟨ret_gd (unhide H).symm, hbz⟩
  · have H := hide (gdE_ok (unhide Ho) (unhide HN) (by omega) hfm)
    have Hf := hide hfm
    clear hfm
    · obtain ⟨z, o, s, p, d, v, u⟩ := t
      unfold txnV
      replace hl : ¬ 256 < d.length := hl
      have hzd : (ByteArray.mk d.toArray).size = d.length := Lib.size_eq ⟨d.toArray⟩
      replace ho1 : 1 ≤ o := ho1
      replace ho2 : o ≤ 5 := ho2
      replace hd : d.length ≤ 140737488355328 := hd
      go_enter Tryd.func10, Tryd.ntmps10
      go_wp2_with fail
      refine (zgood_any _ _).mono ?_
      rintro e w1 ⟨rfl, rfl⟩
      rw [unhide Hz]
      go_wp2_with fail
      refine (counted_any _ _ _).mono ?_
      rintro e w1 ⟨rfl, rfl⟩
      rw [unhide Hs]
      go_wp2_with fail
      refine (counted_any _ _ _).mono ?_
      rintro e w1 ⟨rfl, rfl⟩
      rw [unhide Hv]
      go_wp2_with fail
      refine (counted_any _ _ _).mono ?_
      rintro e w1 ⟨rfl, rfl⟩
      rw [unhide Hu]
      go_wp2_with fail
      refine (formed_any ⟨z, o, s, p, d, v, u⟩ _ (unhide Ho)).mono ?_
      rintro e w2 ⟨rfl, hb2⟩
      have hbz := box_then hb2
      rw [unhide Hf]
      go_wp2_with fail
      go_ret
      exact ⟨ret_gd (unhide H).symm, hbz⟩

end Go.Proofs.YtnbkpilgmjjflaaDoor
