/-
  What aviaryref.GoodTxn answers: the walk.
  What aviaryref.GoodTxn answers of what has a path: the walks.
  What aviaryref.GoodTxn answers of what has a path: the walks.
  What aviaryref.GoodTxn answers of what has a path: the walks.
  What aviaryref.GoodTxn answers, for every transaction up to a bound: the walk.
-/
import Derived.Test.YtalnmhgedfgooaaGreatDoorMB
import Derived.Test.YtalnmhgedfgooaaGreatDoorQJ
import Derived.Deep.QuietTactic
import Derived.BigQuiet
namespace Go.Proofs.YtalnmhgedfgooaaGreatDoor
open Go.RowKit

set_option maxHeartbeats 400000 in
theorem in_any (n k : Int) (w : World) :
    Calls Tryz.prog 71 #[.int .i64 n, .int .i64 k] w fun e w' => e = .returned (.bool (cntB n k)) ∧ w' = w := by
  go_enter Tryz.func71, Tryz.ntmps71
  go_wp2
  all_goals go_ret
  all_goals exact ⟨zret_bool (by rw [Bool.eq_iff_iff, cntB_iff]; simp; try omega), rfl⟩

theorem gd_of {t : WTxn} (h : opB t.o = true) (h1 : numB t = true) (h2 : t.d.length ≤ 256) : gdE t = if fmB t then 0 else 2 := by simp [gdE, h, h1, h2]

theorem drewN_below {w : World} {n : Nat} : Below w.heap.size w (w.drewN n) := ⟨rfl, rfl, rfl, Nat.le_refl _, fun _ _ => rfl⟩
theorem drawn_box {w : World} {o : Obj} {n : Nat} : Below w.heap.size w ((w.alloc o).drewN n) :=
  ((Below.refl _ _).alloc (Nat.le_refl _) _).trans (drewN_below.mono (by simp))
theorem drawn_then {w : World} {o : Obj} {n : Nat} {w2 : World} (h : Below ((w.alloc o).drewN n).heap.size ((w.alloc o).drewN n) w2) : Below w.heap.size w w2 :=
  below_next drawn_box h

set_option maxHeartbeats 1000000 in
theorem rgd_1 (z s : Int) (p d : List UInt8) (v u : Int) (w : World) (hz : z ≤ 9223372036854775807) (hd : d.length ≤ 256) (hn : numB ⟨z, 1, s, p, d, v, u⟩ = true) :
    Calls Tryz.prog 54 #[.agg #[.int .i64 z, .int .i64 1, .int .i64 s, .string ⟨p.toArray⟩, .string ⟨d.toArray⟩, .int .i64 v, .int .i64 u]] w fun e w' => e = .returned (.int .i64 (gdE ⟨z, 1, s, p, d, v, u⟩)) ∧ Below w.heap.size w w' := by
  have HG : Hid (gdE ⟨z, 1, s, p, d, v, u⟩ = if (p == [] && d == [] && v == 0 && u == 0) then 0 else 2) := hide (by rw [gd_of rfl hn hd, fm_1])
  obtain ⟨G, hG⟩ : ∃ G, gdE ⟨z, 1, s, p, d, v, u⟩ = G := ⟨_, rfl⟩
  rw [hG] at HG ⊢
  clear hG
  obtain ⟨h1, h2, h3, h4⟩ := numB_iff.1 hn
  have Hz := hide h1
  have Hs := hide h2
  have Hv := hide h3
  have Hu := hide h4
  clear h1 h2 h3 h4 hn
  have hzd : (ByteArray.mk d.toArray).size = d.length := Lib.size_eq ⟨d.toArray⟩
  go_enter Tryz.func54, Tryz.ntmps54
  go_wp2_with fail
  refine (rgood_any _ hz _).mono ?_
  rintro e w1 ⟨rfl, rfl⟩
  rw [unhide Hz]
  go_wp2_with fail
  refine (in_any _ _ _).mono ?_
  rintro e w1 ⟨rfl, rfl⟩
  rw [unhide Hs]
  go_wp2_with fail
  refine (in_any _ _ _).mono ?_
  rintro e w1 ⟨rfl, rfl⟩
  rw [unhide Hv]
  go_wp2_with fail
  refine (in_any _ _ _).mono ?_
  rintro e w1 ⟨rfl, rfl⟩
  rw [unhide Hu]
  go_wp2_with fail
  go_quiet (fail)
  go_wp2_with fail
  all_goals go_ret
  all_goals (refine ⟨ret_gd ?_, drawn_box⟩; rw [unhide HG]; clear HG Hz Hs Hv Hu; simp [*]; try (rename_i hl; simpa using hl))

set_option maxHeartbeats 1000000 in
theorem rgd_2 (z s : Int) (p d : List UInt8) (v u : Int) (w : World) (hz : z ≤ 9223372036854775807) (hd : d.length ≤ 256) (hn : numB ⟨z, 2, s, p, d, v, u⟩ = true) :
    Calls Tryz.prog 54 #[.agg #[.int .i64 z, .int .i64 2, .int .i64 s, .string ⟨p.toArray⟩, .string ⟨d.toArray⟩, .int .i64 v, .int .i64 u]] w fun e w' => e = .returned (.int .i64 (gdE ⟨z, 2, s, p, d, v, u⟩)) ∧ Below w.heap.size w w' := by
  have HG : Hid (gdE ⟨z, 2, s, p, d, v, u⟩ = if (p == [] && d == [] && v == 0 && u == 0) then 0 else 2) := hide (by rw [gd_of rfl hn hd, fm_2])
  obtain ⟨G, hG⟩ : ∃ G, gdE ⟨z, 2, s, p, d, v, u⟩ = G := ⟨_, rfl⟩
  rw [hG] at HG ⊢
  clear hG
  obtain ⟨h1, h2, h3, h4⟩ := numB_iff.1 hn
  have Hz := hide h1
  have Hs := hide h2
  have Hv := hide h3
  have Hu := hide h4
  clear h1 h2 h3 h4 hn
  have hzd : (ByteArray.mk d.toArray).size = d.length := Lib.size_eq ⟨d.toArray⟩
  go_enter Tryz.func54, Tryz.ntmps54
  go_wp2_with fail
  refine (rgood_any _ hz _).mono ?_
  rintro e w1 ⟨rfl, rfl⟩
  rw [unhide Hz]
  go_wp2_with fail
  refine (in_any _ _ _).mono ?_
  rintro e w1 ⟨rfl, rfl⟩
  rw [unhide Hs]
  go_wp2_with fail
  refine (in_any _ _ _).mono ?_
  rintro e w1 ⟨rfl, rfl⟩
  rw [unhide Hv]
  go_wp2_with fail
  refine (in_any _ _ _).mono ?_
  rintro e w1 ⟨rfl, rfl⟩
  rw [unhide Hu]
  go_wp2_with fail
  go_quiet (fail)
  go_wp2_with fail
  all_goals go_ret
  all_goals (refine ⟨ret_gd ?_, drawn_box⟩; rw [unhide HG]; clear HG Hz Hs Hv Hu; simp [*]; try (rename_i hl; simpa using hl))

end Go.Proofs.YtalnmhgedfgooaaGreatDoor

namespace Go.Proofs.YtalnmhgedfgooaaGreatDoor
open Go.RowKit

set_option maxHeartbeats 1000000 in
theorem rgd_3 (z s : Int) (p d : List UInt8) (v u : Int) (w : World) (hz : z ≤ 9223372036854775807) (hp : p.length ≤ 1048576) (hd : d.length ≤ 256) (hn : numB ⟨z, 3, s, p, d, v, u⟩ = true) :
    Calls Tryz.prog 54 #[.agg #[.int .i64 z, .int .i64 3, .int .i64 s, .string ⟨p.toArray⟩, .string ⟨d.toArray⟩, .int .i64 v, .int .i64 u]] w fun e w' => e = .returned (.int .i64 (gdE ⟨z, 3, s, p, d, v, u⟩)) ∧ Below w.heap.size w w' := by
  have HG : Hid (gdE ⟨z, 3, s, p, d, v, u⟩ = if (goodB p && !(p == [47]) && v == 0) then 0 else 2) := hide (by rw [gd_of rfl hn hd, fm_3])
  obtain ⟨G, hG⟩ : ∃ G, gdE ⟨z, 3, s, p, d, v, u⟩ = G := ⟨_, rfl⟩
  rw [hG] at HG ⊢
  clear hG
  obtain ⟨h1, h2, h3, h4⟩ := numB_iff.1 hn
  have Hz := hide h1
  have Hs := hide h2
  have Hv := hide h3
  have Hu := hide h4
  clear h1 h2 h3 h4 hn
  have hzd : (ByteArray.mk d.toArray).size = d.length := Lib.size_eq ⟨d.toArray⟩
  cases hg : goodB p
  all_goals
    have Hg := hide hg
    clear hg
    go_enter Tryz.func54, Tryz.ntmps54
    go_wp2_with fail
    refine (rgood_any _ hz _).mono ?_
    rintro e w1 ⟨rfl, rfl⟩
    rw [unhide Hz]
    go_wp2_with fail
    refine (in_any _ _ _).mono ?_
    rintro e w1 ⟨rfl, rfl⟩
    rw [unhide Hs]
    go_wp2_with fail
    refine (in_any _ _ _).mono ?_
    rintro e w1 ⟨rfl, rfl⟩
    rw [unhide Hv]
    go_wp2_with fail
    refine (in_any _ _ _).mono ?_
    rintro e w1 ⟨rfl, rfl⟩
    rw [unhide Hu]
    go_wp2_with fail
    go_quiet (fail)
    go_wp2_with fail
    all_goals
      refine (refGood_any p _ hp).mono ?_
      rintro e w2 ⟨rfl, hb2⟩
      have hbz : Below w.heap.size w w2 := drawn_then hb2
      obtain ⟨hc, hf⟩ := bcell hb2
      rw [unhide Hg]
      go_wp2_with fail
    all_goals go_ret
    all_goals (refine ⟨ret_gd ?_, by assumption⟩; rw [unhide HG, unhide Hg]; clear HG Hg Hz Hs Hv Hu; simp [*]; try (rename_i hl; simp [‹¬p = [47]›] at hl; exact hl))

end Go.Proofs.YtalnmhgedfgooaaGreatDoor

namespace Go.Proofs.YtalnmhgedfgooaaGreatDoor
open Go.RowKit

set_option maxHeartbeats 1000000 in
theorem rgd_4 (z s : Int) (p d : List UInt8) (v u : Int) (w : World) (hz : z ≤ 9223372036854775807) (hp : p.length ≤ 1048576) (hd : d.length ≤ 256) (hn : numB ⟨z, 4, s, p, d, v, u⟩ = true) :
    Calls Tryz.prog 54 #[.agg #[.int .i64 z, .int .i64 4, .int .i64 s, .string ⟨p.toArray⟩, .string ⟨d.toArray⟩, .int .i64 v, .int .i64 u]] w fun e w' => e = .returned (.int .i64 (gdE ⟨z, 4, s, p, d, v, u⟩)) ∧ Below w.heap.size w w' := by
  have HG : Hid (gdE ⟨z, 4, s, p, d, v, u⟩ = if (goodB p && !(p == [47]) && d == [] && v == 0 && u == 0) then 0 else 2) := hide (by rw [gd_of rfl hn hd, fm_4])
  obtain ⟨G, hG⟩ : ∃ G, gdE ⟨z, 4, s, p, d, v, u⟩ = G := ⟨_, rfl⟩
  rw [hG] at HG ⊢
  clear hG
  obtain ⟨h1, h2, h3, h4⟩ := numB_iff.1 hn
  have Hz := hide h1
  have Hs := hide h2
  have Hv := hide h3
  have Hu := hide h4
  clear h1 h2 h3 h4 hn
  have hzd : (ByteArray.mk d.toArray).size = d.length := Lib.size_eq ⟨d.toArray⟩
  cases hg : goodB p
  all_goals
    have Hg := hide hg
    clear hg
    go_enter Tryz.func54, Tryz.ntmps54
    go_wp2_with fail
    refine (rgood_any _ hz _).mono ?_
    rintro e w1 ⟨rfl, rfl⟩
    rw [unhide Hz]
    go_wp2_with fail
    refine (in_any _ _ _).mono ?_
    rintro e w1 ⟨rfl, rfl⟩
    rw [unhide Hs]
    go_wp2_with fail
    refine (in_any _ _ _).mono ?_
    rintro e w1 ⟨rfl, rfl⟩
    rw [unhide Hv]
    go_wp2_with fail
    refine (in_any _ _ _).mono ?_
    rintro e w1 ⟨rfl, rfl⟩
    rw [unhide Hu]
    go_wp2_with fail
    go_quiet (fail)
    go_wp2_with fail
    all_goals
      refine (refGood_any p _ hp).mono ?_
      rintro e w2 ⟨rfl, hb2⟩
      have hbz : Below w.heap.size w w2 := drawn_then hb2
      obtain ⟨hc, hf⟩ := bcell hb2
      rw [unhide Hg]
      go_wp2_with fail
    all_goals go_ret
    all_goals (refine ⟨ret_gd ?_, by assumption⟩; rw [unhide HG, unhide Hg]; clear HG Hg Hz Hs Hv Hu; simp [*]; try (rename_i hl; simp [‹¬p = [47]›] at hl; exact hl))

end Go.Proofs.YtalnmhgedfgooaaGreatDoor

namespace Go.Proofs.YtalnmhgedfgooaaGreatDoor
open Go.RowKit

set_option maxHeartbeats 1000000 in
theorem rgd_5 (z s : Int) (p d : List UInt8) (v u : Int) (w : World) (hz : z ≤ 9223372036854775807) (hp : p.length ≤ 1048576) (hd : d.length ≤ 256) (hn : numB ⟨z, 5, s, p, d, v, u⟩ = true) :
    Calls Tryz.prog 54 #[.agg #[.int .i64 z, .int .i64 5, .int .i64 s, .string ⟨p.toArray⟩, .string ⟨d.toArray⟩, .int .i64 v, .int .i64 u]] w fun e w' => e = .returned (.int .i64 (gdE ⟨z, 5, s, p, d, v, u⟩)) ∧ Below w.heap.size w w' := by
  have HG : Hid (gdE ⟨z, 5, s, p, d, v, u⟩ = if (goodB p && u == 0) then 0 else 2) := hide (by rw [gd_of rfl hn hd, fm_5])
  obtain ⟨G, hG⟩ : ∃ G, gdE ⟨z, 5, s, p, d, v, u⟩ = G := ⟨_, rfl⟩
  rw [hG] at HG ⊢
  clear hG
  obtain ⟨h1, h2, h3, h4⟩ := numB_iff.1 hn
  have Hz := hide h1
  have Hs := hide h2
  have Hv := hide h3
  have Hu := hide h4
  clear h1 h2 h3 h4 hn
  have hzd : (ByteArray.mk d.toArray).size = d.length := Lib.size_eq ⟨d.toArray⟩
  cases hg : goodB p
  all_goals
    have Hg := hide hg
    clear hg
    go_enter Tryz.func54, Tryz.ntmps54
    go_wp2_with fail
    refine (rgood_any _ hz _).mono ?_
    rintro e w1 ⟨rfl, rfl⟩
    rw [unhide Hz]
    go_wp2_with fail
    refine (in_any _ _ _).mono ?_
    rintro e w1 ⟨rfl, rfl⟩
    rw [unhide Hs]
    go_wp2_with fail
    refine (in_any _ _ _).mono ?_
    rintro e w1 ⟨rfl, rfl⟩
    rw [unhide Hv]
    go_wp2_with fail
    refine (in_any _ _ _).mono ?_
    rintro e w1 ⟨rfl, rfl⟩
    rw [unhide Hu]
    go_wp2_with fail
    go_quiet (fail)
    go_wp2_with fail
    all_goals
      refine (refGood_any p _ hp).mono ?_
      rintro e w2 ⟨rfl, hb2⟩
      have hbz : Below w.heap.size w w2 := drawn_then hb2
      obtain ⟨hc, hf⟩ := bcell hb2
      rw [unhide Hg]
      go_wp2_with fail
    all_goals go_ret
    all_goals (refine ⟨ret_gd ?_, by assumption⟩; rw [unhide HG, unhide Hg]; clear HG Hg Hz Hs Hv Hu; simp [*]; try (rename_i hl; simpa using hl))

end Go.Proofs.YtalnmhgedfgooaaGreatDoor

namespace Go.Proofs.YtalnmhgedfgooaaGreatDoor
open Go.RowKit

set_option maxHeartbeats 2000000 in
theorem rgd_any (t : WTxn) (w : World) (hzb : t.z ≤ 9223372036854775807) (hp : t.p.length ≤ 1048576) (hd : t.d.length ≤ 140737488355328) :
    Calls Tryz.prog 54 #[txnV t] w fun e w' => e = .returned (.int .i64 (gdE t)) ∧ Below w.heap.size w w' := by
  cases ho : opB t.o
  · have H := hide (gdE_kind ho)
    have hor := opB_no ho
    clear ho
    obtain ⟨z, o, s, p, d, v, u⟩ := t
    unfold txnV
    replace hor : o < 1 ∨ 5 < o := hor
    rcases hor with hor | hor
    all_goals
      go_enter Tryz.func54, Tryz.ntmps54
      go_wp2_with fail
      go_ret
      exact ⟨ret_gd (unhide H).symm, (Below.refl _ _).alloc (Nat.le_refl _) _⟩
  have hor := opB_iff.1 ho
  have ho1 := hor.1
  have ho2 := hor.2
  have Ho := hide ho
  clear ho hor
  cases hz : zGood t.z
  · have H := hide (gdE_range (unhide Ho) (num_no (.inl hz)))
    have Hz := hide hz
    clear hz
    · obtain ⟨z, o, s, p, d, v, u⟩ := t
      unfold txnV
      have hzd : (ByteArray.mk d.toArray).size = d.length := Lib.size_eq ⟨d.toArray⟩
      replace ho1 : 1 ≤ o := ho1
      replace ho2 : o ≤ 5 := ho2
      replace hd : d.length ≤ 140737488355328 := hd
      go_enter Tryz.func54, Tryz.ntmps54
      go_wp2_with fail
      refine (rgood_any _ hzb _).mono ?_
      rintro e w1 ⟨rfl, rfl⟩
      rw [unhide Hz]
      go_wp2_with fail
      go_ret
      exact ⟨ret_gd (unhide H).symm, (Below.refl _ _).alloc (Nat.le_refl _) _⟩
  cases hs : cntB t.s 1
  · have H := hide (gdE_range (unhide Ho) (num_no (.inr (.inl hs))))
    have Hz := hide hz
    have Hs := hide hs
    clear hz hs
    · obtain ⟨z, o, s, p, d, v, u⟩ := t
      unfold txnV
      have hzd : (ByteArray.mk d.toArray).size = d.length := Lib.size_eq ⟨d.toArray⟩
      replace ho1 : 1 ≤ o := ho1
      replace ho2 : o ≤ 5 := ho2
      replace hd : d.length ≤ 140737488355328 := hd
      go_enter Tryz.func54, Tryz.ntmps54
      go_wp2_with fail
      refine (rgood_any _ hzb _).mono ?_
      rintro e w1 ⟨rfl, rfl⟩
      rw [unhide Hz]
      go_wp2_with fail
      refine (in_any _ _ _).mono ?_
      rintro e w1 ⟨rfl, rfl⟩
      rw [unhide Hs]
      go_wp2_with fail
      go_ret
      exact ⟨ret_gd (unhide H).symm, (Below.refl _ _).alloc (Nat.le_refl _) _⟩
  cases hv : cntB t.v 0
  · have H := hide (gdE_range (unhide Ho) (num_no (.inr (.inr (.inl hv)))))
    have Hz := hide hz
    have Hs := hide hs
    have Hv := hide hv
    clear hz hs hv
    · obtain ⟨z, o, s, p, d, v, u⟩ := t
      unfold txnV
      have hzd : (ByteArray.mk d.toArray).size = d.length := Lib.size_eq ⟨d.toArray⟩
      replace ho1 : 1 ≤ o := ho1
      replace ho2 : o ≤ 5 := ho2
      replace hd : d.length ≤ 140737488355328 := hd
      go_enter Tryz.func54, Tryz.ntmps54
      go_wp2_with fail
      refine (rgood_any _ hzb _).mono ?_
      rintro e w1 ⟨rfl, rfl⟩
      rw [unhide Hz]
      go_wp2_with fail
      refine (in_any _ _ _).mono ?_
      rintro e w1 ⟨rfl, rfl⟩
      rw [unhide Hs]
      go_wp2_with fail
      refine (in_any _ _ _).mono ?_
      rintro e w1 ⟨rfl, rfl⟩
      rw [unhide Hv]
      go_wp2_with fail
      go_ret
      exact ⟨ret_gd (unhide H).symm, (Below.refl _ _).alloc (Nat.le_refl _) _⟩
  cases hu : cntB t.w 0
  · have H := hide (gdE_range (unhide Ho) (num_no (.inr (.inr (.inr hu)))))
    have Hz := hide hz
    have Hs := hide hs
    have Hv := hide hv
    have Hu := hide hu
    clear hz hs hv hu
    · obtain ⟨z, o, s, p, d, v, u⟩ := t
      unfold txnV
      have hzd : (ByteArray.mk d.toArray).size = d.length := Lib.size_eq ⟨d.toArray⟩
      replace ho1 : 1 ≤ o := ho1
      replace ho2 : o ≤ 5 := ho2
      replace hd : d.length ≤ 140737488355328 := hd
      go_enter Tryz.func54, Tryz.ntmps54
      go_wp2_with fail
      refine (rgood_any _ hzb _).mono ?_
      rintro e w1 ⟨rfl, rfl⟩
      rw [unhide Hz]
      go_wp2_with fail
      refine (in_any _ _ _).mono ?_
      rintro e w1 ⟨rfl, rfl⟩
      rw [unhide Hs]
      go_wp2_with fail
      refine (in_any _ _ _).mono ?_
      rintro e w1 ⟨rfl, rfl⟩
      rw [unhide Hv]
      go_wp2_with fail
      refine (in_any _ _ _).mono ?_
      rintro e w1 ⟨rfl, rfl⟩
      rw [unhide Hu]
      go_wp2_with fail
      go_ret
      exact ⟨ret_gd (unhide H).symm, (Below.refl _ _).alloc (Nat.le_refl _) _⟩
  have HN := hide (numB_iff.2 ⟨hz, hs, hv, hu⟩)
  have Hz := hide hz
  have Hs := hide hs
  have Hv := hide hv
  have Hu := hide hu
  clear hz hs hv hu
  by_cases hl : 256 < t.d.length
  · have H := hide (gdE_long (unhide Ho) (unhide HN) hl)
    · obtain ⟨z, o, s, p, d, v, u⟩ := t
      unfold txnV
      replace hl : 256 < d.length := hl
      have hzd : (ByteArray.mk d.toArray).size = d.length := Lib.size_eq ⟨d.toArray⟩
      replace ho1 : 1 ≤ o := ho1
      replace ho2 : o ≤ 5 := ho2
      replace hd : d.length ≤ 140737488355328 := hd
      go_enter Tryz.func54, Tryz.ntmps54
      go_wp2_with fail
      refine (rgood_any _ hzb _).mono ?_
      rintro e w1 ⟨rfl, rfl⟩
      rw [unhide Hz]
      go_wp2_with fail
      refine (in_any _ _ _).mono ?_
      rintro e w1 ⟨rfl, rfl⟩
      rw [unhide Hs]
      go_wp2_with fail
      refine (in_any _ _ _).mono ?_
      rintro e w1 ⟨rfl, rfl⟩
      rw [unhide Hv]
      go_wp2_with fail
      refine (in_any _ _ _).mono ?_
      rintro e w1 ⟨rfl, rfl⟩
      rw [unhide Hu]
      go_wp2_with fail
      go_ret
      exact ⟨ret_gd (unhide H).symm, (Below.refl _ _).alloc (Nat.le_refl _) _⟩
  have hl' : t.d.length ≤ 256 := by omega
  obtain ⟨z, o, s, p, d, v, u⟩ := t
  rcases op_cases (unhide Ho) with h | h | h | h | h <;> (replace h : o = _ := h; subst h)
  · exact rgd_1 z s p d v u w hzb hl' (unhide HN)
  · exact rgd_2 z s p d v u w hzb hl' (unhide HN)
  · exact rgd_3 z s p d v u w hzb hp hl' (unhide HN)
  · exact rgd_4 z s p d v u w hzb hp hl' (unhide HN)
  · exact rgd_5 z s p d v u w hzb hp hl' (unhide HN)

end Go.Proofs.YtalnmhgedfgooaaGreatDoor
