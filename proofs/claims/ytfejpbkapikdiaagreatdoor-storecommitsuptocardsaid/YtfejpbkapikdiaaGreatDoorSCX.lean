/-
  What aviaryref.GoodTxn answers of what has a path: the walks.
  What aviaryref.GoodTxn answers of what has a path: the walks.
  What aviaryref.GoodTxn answers of what has a path: the walks.
-/
import Derived.Test.YtfejpbkapikdiaaGreatDoorSCW
namespace Go.Proofs.YtfejpbkapikdiaaGreatDoor
open Go.RowKit
set_option maxRecDepth 10000 in

set_option maxHeartbeats 1000000 in
theorem rgd_3 (z s : Int) (p d : List UInt8) (v u : Int) (w : World) (hz : z ≤ 9223372036854775807) (hp : p.length ≤ 1048576) (hd : d.length ≤ 256) (hn : numB ⟨z, 3, s, p, d, v, u⟩ = true) :
    Calls Tryz.prog 45 #[.agg #[.int .i64 z, .int .i64 3, .int .i64 s, .string ⟨p.toArray⟩, .string ⟨d.toArray⟩, .int .i64 v, .int .i64 u]] w fun e w' => e = .returned (.int .i64 (gdE ⟨z, 3, s, p, d, v, u⟩)) ∧ Below w.heap.size w w' := by
  have HG : Hid (gdE ⟨z, 3, s, p, d, v, u⟩ = if (goodB p && !(p == [47]) && v == 0) then 0 else 2) := hide (by rw [gd_of rfl hn hd, fm_3])
  obtain ⟨G, hG⟩ : ∃ G, gdE ⟨z, 3, s, p, d, v, u⟩ = G := ⟨_, rfl⟩
  rw [hG] at HG ⊢
  clear hG
  obtain ⟨h1, h2, h3, h4⟩ := numB_iff.1 hn
  have Hz := hide h1
  have Hs := hide h2
  have Hv := hide h3
  have Hu := hide h4
  clear h1 h2 h3 h4 hn
  have hzd : (ByteArray.mk d.toArray).size = d.length := Lib.size_eq ⟨d.toArray⟩
  cases hg : goodB p
  all_goals
    have Hg := hide hg
    clear hg
    go_enter Tryz.func45, Tryz.ntmps45
    go_wp2_with fail
    refine (rgood_any _ hz _).mono ?_
    rintro e w1 ⟨rfl, rfl⟩
    rw [unhide Hz]
    go_wp2_with fail
    refine (in_any _ _ _).mono ?_
    rintro e w1 ⟨rfl, rfl⟩
    rw [unhide Hs]
    go_wp2_with fail
    refine (in_any _ _ _).mono ?_
    rintro e w1 ⟨rfl, rfl⟩
    rw [unhide Hv]
    go_wp2_with fail
    refine (in_any _ _ _).mono ?_
    rintro e w1 ⟨rfl, rfl⟩
    rw [unhide Hu]
    go_wp2_with fail
    go_quiet (fail)
    go_wp2_with fail
    all_goals
      refine (refGood_any p _ hp).mono ?_
      rintro e w2 ⟨rfl, hb2⟩
      have hbz : Below w.heap.size w w2 := drawn_then hb2
      obtain ⟨hc, hf⟩ := bcell hb2
      rw [unhide Hg]
      go_wp2_with fail
    all_goals go_ret
    all_goals (refine ⟨ret_gd ?_, by assumption⟩; rw [unhide HG, unhide Hg]; clear HG Hg Hz Hs Hv Hu; simp [*]; try (rename_i hl; simp [‹¬p = [47]›] at hl; exact hl))

end Go.Proofs.YtfejpbkapikdiaaGreatDoor

namespace Go.Proofs.YtfejpbkapikdiaaGreatDoor
open Go.RowKit
set_option maxRecDepth 10000 in

set_option maxHeartbeats 1000000 in
theorem rgd_4 (z s : Int) (p d : List UInt8) (v u : Int) (w : World) (hz : z ≤ 9223372036854775807) (hp : p.length ≤ 1048576) (hd : d.length ≤ 256) (hn : numB ⟨z, 4, s, p, d, v, u⟩ = true) :
    Calls Tryz.prog 45 #[.agg #[.int .i64 z, .int .i64 4, .int .i64 s, .string ⟨p.toArray⟩, .string ⟨d.toArray⟩, .int .i64 v, .int .i64 u]] w fun e w' => e = .returned (.int .i64 (gdE ⟨z, 4, s, p, d, v, u⟩)) ∧ Below w.heap.size w w' := by
  have HG : Hid (gdE ⟨z, 4, s, p, d, v, u⟩ = if (goodB p && !(p == [47]) && d == [] && v == 0 && u == 0) then 0 else 2) := hide (by rw [gd_of rfl hn hd, fm_4])
  obtain ⟨G, hG⟩ : ∃ G, gdE ⟨z, 4, s, p, d, v, u⟩ = G := ⟨_, rfl⟩
  rw [hG] at HG ⊢
  clear hG
  obtain ⟨h1, h2, h3, h4⟩ := numB_iff.1 hn
  have Hz := hide h1
  have Hs := hide h2
  have Hv := hide h3
  have Hu := hide h4
  clear h1 h2 h3 h4 hn
  have hzd : (ByteArray.mk d.toArray).size = d.length := Lib.size_eq ⟨d.toArray⟩
  cases hg : goodB p
  all_goals
    have Hg := hide hg
    clear hg
    go_enter Tryz.func45, Tryz.ntmps45
    go_wp2_with fail
    refine (rgood_any _ hz _).mono ?_
    rintro e w1 ⟨rfl, rfl⟩
    rw [unhide Hz]
    go_wp2_with fail
    refine (in_any _ _ _).mono ?_
    rintro e w1 ⟨rfl, rfl⟩
    rw [unhide Hs]
    go_wp2_with fail
    refine (in_any _ _ _).mono ?_
    rintro e w1 ⟨rfl, rfl⟩
    rw [unhide Hv]
    go_wp2_with fail
    refine (in_any _ _ _).mono ?_
    rintro e w1 ⟨rfl, rfl⟩
    rw [unhide Hu]
    go_wp2_with fail
    go_quiet (fail)
    go_wp2_with fail
    all_goals
      refine (refGood_any p _ hp).mono ?_
      rintro e w2 ⟨rfl, hb2⟩
      have hbz : Below w.heap.size w w2 := drawn_then hb2
      obtain ⟨hc, hf⟩ := bcell hb2
      rw [unhide Hg]
      go_wp2_with fail
    all_goals go_ret
    all_goals (refine ⟨ret_gd ?_, by assumption⟩; rw [unhide HG, unhide Hg]; clear HG Hg Hz Hs Hv Hu; simp [*]; try (rename_i hl; simp [‹¬p = [47]›] at hl; exact hl))

end Go.Proofs.YtfejpbkapikdiaaGreatDoor

namespace Go.Proofs.YtfejpbkapikdiaaGreatDoor
open Go.RowKit
set_option maxRecDepth 10000 in

set_option maxHeartbeats 1000000 in
theorem rgd_5 (z s : Int) (p d : List UInt8) (v u : Int) (w : World) (hz : z ≤ 9223372036854775807) (hp : p.length ≤ 1048576) (hd : d.length ≤ 256) (hn : numB ⟨z, 5, s, p, d, v, u⟩ = true) :
    Calls Tryz.prog 45 #[.agg #[.int .i64 z, .int .i64 5, .int .i64 s, .string ⟨p.toArray⟩, .string ⟨d.toArray⟩, .int .i64 v, .int .i64 u]] w fun e w' => e = .returned (.int .i64 (gdE ⟨z, 5, s, p, d, v, u⟩)) ∧ Below w.heap.size w w' := by
  have HG : Hid (gdE ⟨z, 5, s, p, d, v, u⟩ = if (goodB p && u == 0) then 0 else 2) := hide (by rw [gd_of rfl hn hd, fm_5])
  obtain ⟨G, hG⟩ : ∃ G, gdE ⟨z, 5, s, p, d, v, u⟩ = G := ⟨_, rfl⟩
  rw [hG] at HG ⊢
  clear hG
  obtain ⟨h1, h2, h3, h4⟩ := numB_iff.1 hn
  have Hz := hide h1
  have Hs := hide h2
  have Hv := hide h3
  have Hu := hide h4
  clear h1 h2 h3 h4 hn
  have hzd : (ByteArray.mk d.toArray).size = d.length := Lib.size_eq ⟨d.toArray⟩
  cases hg : goodB p
  all_goals
    have Hg := hide hg
    clear hg
    go_enter Tryz.func45, Tryz.ntmps45
    go_wp2_with fail
    refine (rgood_any _ hz _).mono ?_
    rintro e w1 ⟨rfl, rfl⟩
    rw [unhide Hz]
    go_wp2_with fail
    refine (in_any _ _ _).mono ?_
    rintro e w1 ⟨rfl, rfl⟩
    rw [unhide Hs]
    go_wp2_with fail
    refine (in_any _ _ _).mono ?_
    rintro e w1 ⟨rfl, rfl⟩
    rw [unhide Hv]
    go_wp2_with fail
    refine (in_any _ _ _).mono ?_
    rintro e w1 ⟨rfl, rfl⟩
    rw [unhide Hu]
    go_wp2_with fail
    go_quiet (fail)
    go_wp2_with fail
    all_goals
      refine (refGood_any p _ hp).mono ?_
      rintro e w2 ⟨rfl, hb2⟩
      have hbz : Below w.heap.size w w2 := drawn_then hb2
      obtain ⟨hc, hf⟩ := bcell hb2
      rw [unhide Hg]
      go_wp2_with fail
    all_goals go_ret
    all_goals (refine ⟨ret_gd ?_, by assumption⟩; rw [unhide HG, unhide Hg]; clear HG Hg Hz Hs Hv Hu; simp [*]; try (rename_i hl; simpa using hl))

end Go.Proofs.YtfejpbkapikdiaaGreatDoor
