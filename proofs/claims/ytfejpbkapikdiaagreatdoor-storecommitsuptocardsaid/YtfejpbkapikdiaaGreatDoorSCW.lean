/-
  What aviaryref.GoodTxn answers: the walk.
-/
import Derived.Test.YtfejpbkapikdiaaGreatDoorSCK
import Derived.Test.YtfejpbkapikdiaaGreatDoorSCT
import Derived.Test.YtfejpbkapikdiaaGreatDoorSCS
import Derived.Deep.QuietTactic
import Derived.BigQuiet
namespace Go.Proofs.YtfejpbkapikdiaaGreatDoor
open Go.RowKit
set_option maxRecDepth 10000 in

set_option maxHeartbeats 400000 in
theorem in_any (n k : Int) (w : World) :
    Calls Tryz.prog 73 #[.int .i64 n, .int .i64 k] w fun e w' => e = .returned (.bool (cntB n k)) ∧ w' = w := by
  go_enter Tryz.func73, Tryz.ntmps73
  go_wp2
  all_goals go_ret
  all_goals exact ⟨zret_bool (by rw [Bool.eq_iff_iff, cntB_iff]; simp; try omega), rfl⟩

theorem gd_of {t : WTxn} (h : opB t.o = true) (h1 : numB t = true) (h2 : t.d.length ≤ 256) : gdE t = if fmB t then 0 else 2 := by simp [gdE, h, h1, h2]

theorem drewN_below {w : World} {n : Nat} : Below w.heap.size w (w.drewN n) := ⟨rfl, rfl, rfl, Nat.le_refl _, fun _ _ => rfl⟩
theorem drawn_box {w : World} {o : Obj} {n : Nat} : Below w.heap.size w ((w.alloc o).drewN n) :=
  ((Below.refl _ _).alloc (Nat.le_refl _) _).trans (drewN_below.mono (by simp))
theorem drawn_then {w : World} {o : Obj} {n : Nat} {w2 : World} (h : Below ((w.alloc o).drewN n).heap.size ((w.alloc o).drewN n) w2) : Below w.heap.size w w2 :=
  below_next drawn_box h

set_option maxRecDepth 10000 in
set_option maxHeartbeats 1000000 in
theorem rgd_1 (z s : Int) (p d : List UInt8) (v u : Int) (w : World) (hz : z ≤ 9223372036854775807) (hd : d.length ≤ 256) (hn : numB ⟨z, 1, s, p, d, v, u⟩ = true) :
    Calls Tryz.prog 45 #[.agg #[.int .i64 z, .int .i64 1, .int .i64 s, .string ⟨p.toArray⟩, .string ⟨d.toArray⟩, .int .i64 v, .int .i64 u]] w fun e w' => e = .returned (.int .i64 (gdE ⟨z, 1, s, p, d, v, u⟩)) ∧ Below w.heap.size w w' := by
  have HG : Hid (gdE ⟨z, 1, s, p, d, v, u⟩ = if (p == [] && d == [] && v == 0 && u == 0) then 0 else 2) := hide (by rw [gd_of rfl hn hd, fm_1])
  obtain ⟨G, hG⟩ : ∃ G, gdE ⟨z, 1, s, p, d, v, u⟩ = G := ⟨_, rfl⟩
  rw [hG] at HG ⊢
  clear hG
  obtain ⟨h1, h2, h3, h4⟩ := numB_iff.1 hn
  have Hz := hide h1
  have Hs := hide h2
  have Hv := hide h3
  have Hu := hide h4
  clear h1 h2 h3 h4 hn
  have hzd : (ByteArray.mk d.toArray).size = d.length := Lib.size_eq ⟨d.toArray⟩
  go_enter Tryz.func45, Tryz.ntmps45
  go_wp2_with fail
  refine (rgood_any _ hz _).mono ?_
  rintro e w1 ⟨rfl, rfl⟩
  rw [unhide Hz]
  go_wp2_with fail
  refine (in_any _ _ _).mono ?_
  rintro e w1 ⟨rfl, rfl⟩
  rw [unhide Hs]
  go_wp2_with fail
  refine (in_any _ _ _).mono ?_
  rintro e w1 ⟨rfl, rfl⟩
  rw [unhide Hv]
  go_wp2_with fail
  refine (in_any _ _ _).mono ?_
  rintro e w1 ⟨rfl, rfl⟩
  rw [unhide Hu]
  go_wp2_with fail
  go_quiet (fail)
  go_wp2_with fail
  all_goals go_ret
  all_goals (refine ⟨ret_gd ?_, drawn_box⟩; rw [unhide HG]; clear HG Hz Hs Hv Hu; simp [*]; try (rename_i hl; simpa using hl))

set_option maxRecDepth 10000 in
set_option maxHeartbeats 1000000 in
theorem rgd_2 (z s : Int) (p d : List UInt8) (v u : Int) (w : World) (hz : z ≤ 9223372036854775807) (hd : d.length ≤ 256) (hn : numB ⟨z, 2, s, p, d, v, u⟩ = true) :
    Calls Tryz.prog 45 #[.agg #[.int .i64 z, .int .i64 2, .int .i64 s, .string ⟨p.toArray⟩, .string ⟨d.toArray⟩, .int .i64 v, .int .i64 u]] w fun e w' => e = .returned (.int .i64 (gdE ⟨z, 2, s, p, d, v, u⟩)) ∧ Below w.heap.size w w' := by
  have HG : Hid (gdE ⟨z, 2, s, p, d, v, u⟩ = if (p == [] && d == [] && v == 0 && u == 0) then 0 else 2) := hide (by rw [gd_of rfl hn hd, fm_2])
  obtain ⟨G, hG⟩ : ∃ G, gdE ⟨z, 2, s, p, d, v, u⟩ = G := ⟨_, rfl⟩
  rw [hG] at HG ⊢
  clear hG
  obtain ⟨h1, h2, h3, h4⟩ := numB_iff.1 hn
  have Hz := hide h1
  have Hs := hide h2
  have Hv := hide h3
  have Hu := hide h4
  clear h1 h2 h3 h4 hn
  have hzd : (ByteArray.mk d.toArray).size = d.length := Lib.size_eq ⟨d.toArray⟩
  go_enter Tryz.func45, Tryz.ntmps45
  go_wp2_with fail
  refine (rgood_any _ hz _).mono ?_
  rintro e w1 ⟨rfl, rfl⟩
  rw [unhide Hz]
  go_wp2_with fail
  refine (in_any _ _ _).mono ?_
  rintro e w1 ⟨rfl, rfl⟩
  rw [unhide Hs]
  go_wp2_with fail
  refine (in_any _ _ _).mono ?_
  rintro e w1 ⟨rfl, rfl⟩
  rw [unhide Hv]
  go_wp2_with fail
  refine (in_any _ _ _).mono ?_
  rintro e w1 ⟨rfl, rfl⟩
  rw [unhide Hu]
  go_wp2_with fail
  go_quiet (fail)
  go_wp2_with fail
  all_goals go_ret
  all_goals (refine ⟨ret_gd ?_, drawn_box⟩; rw [unhide HG]; clear HG Hz Hs Hv Hu; simp [*]; try (rename_i hl; simpa using hl))

end Go.Proofs.YtfejpbkapikdiaaGreatDoor
