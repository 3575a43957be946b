/-
  WireEncodes: the law's walk, out of the contracts of Good and Encode, the program's and the document's own.
-/
import Derived.Test.YtnbkpilgmjjflaaDoorWRefEnc
namespace Go.Proofs.YtnbkpilgmjjflaaDoor
open Go.RowKit

def encS (t : WTxn) : List UInt8 := if gdE t = 0 then recL t else []
theorem encode_any (t : WTxn) (w : World) (hd : t.d.length ≤ 140737488355328) :
    Calls Tryd.prog 8 #[txnV t] w fun e w' => e = .returned (.tuple #[.string ⟨(encS t).toArray⟩, .int .i64 (gdE t)]) ∧ Below w.heap.size w w' := by
  by_cases h : gdE t = 0
  · rw [encS, if_pos h, h]; exact encode_yes t w h
  · rw [encS, if_neg h]; exact encode_no t w hd h
theorem rencode_any (t : WTxn) (w : World) (hzb : t.z ≤ 9223372036854775807) (hp : t.p.length ≤ 1048576) (hd : t.d.length ≤ 140737488355328) :
    Calls Tryd.prog 9 #[txnV t] w fun e w' => e = .returned (.tuple #[.string ⟨(encS t).toArray⟩, .int .i64 (gdE t)]) ∧ Below w.heap.size w w' := by
  by_cases h : gdE t = 0
  · rw [encS, if_pos h, h]; exact rencode_yes t w h
  · rw [encS, if_neg h]; exact rencode_no t w hzb hp hd h
theorem gd_t0 : gdE t0 = 4 := by decide +kernel

set_option maxRecDepth 100000 in
set_option maxHeartbeats 2000000 in
theorem wireEncodes_walk (t : WTxn) (w : World) (hzb : t.z ≤ 9223372036854775807) (hp : t.p.length ≤ 1048576) (hd : t.d.length ≤ 140737488355328) :
    Calls Tryd.prog 3 #[txnV t] w fun e w' => e = .returned (.bool true) ∧ Below w.heap.size w w' := by
  have Hen := hide (fun w => encode_any t w hd)
  have Hre := hide (fun w => rencode_any t w hzb hp hd)
  have Hgd := hide (fun w => wgood_any t w hd)
  have Hrg := hide (fun w => rgd_any t w hzb hp hd)
  have Hz := hide (fun w => wgood_any t0 w (by decide))
  rw [gd_t0] at Hz
  generalize encS t = S at Hen Hre
  generalize gdE t = E at Hen Hre Hgd Hrg
  clear hzb hp hd
  obtain ⟨z, o, s, p, d, v, u⟩ := t
  unfold txnV at Hen Hre Hgd Hrg Hz ⊢
  unfold t0 at Hz
  go_enter Tryd.func3, Tryd.ntmps3
  go_wp2_with fail
  refine (unhide Hen _).mono ?_
  rintro e w1 ⟨rfl, hb1⟩
  have hB1 := box_then hb1
  have hW1 : w1.heap[w.heap.size]? = some (.cells #[.int .i64 z, .int .i64 o, .int .i64 s, .string ⟨p.toArray⟩, .string ⟨d.toArray⟩, .int .i64 v, .int .i64 u] 23) :=
    (hb1.block _ (by simp)).trans (by show (w.heap.push _)[w.heap.size]? = _; simp)
  obtain ⟨hc, hf⟩ := bcell hb1
  go_wp2_with fail
  refine (unhide Hre _).mono ?_
  rintro e W ⟨rfl, hb2⟩
  have hB := below_next hB1 hb2
  have hz1 : w.heap.size < w1.heap.size := (Array.getElem?_eq_some_iff.1 hW1).1
  have hW : W.heap[w.heap.size]? = some (.cells #[.int .i64 z, .int .i64 o, .int .i64 s, .string ⟨p.toArray⟩, .string ⟨d.toArray⟩, .int .i64 v, .int .i64 u] 23) :=
    (hb2.block _ hz1).trans hW1
  clear hc hf hW1 hb1 hB1 hb2 hz1
  have k0 : ∀ d' os, (Sort.grow (redrawn W d') os).cell? ⟨w.heap.size, 0, none⟩ = some (.int .i64 z) := fun d' os => cell_regrown (by simp [World.cell?, hW]) d' os
  have k1 : ∀ d' os, (Sort.grow (redrawn W d') os).cell? ⟨w.heap.size, 1, none⟩ = some (.int .i64 o) := fun d' os => cell_regrown (by simp [World.cell?, hW]) d' os
  have k2 : ∀ d' os, (Sort.grow (redrawn W d') os).cell? ⟨w.heap.size, 2, none⟩ = some (.int .i64 s) := fun d' os => cell_regrown (by simp [World.cell?, hW]) d' os
  have k3 : ∀ d' os, (Sort.grow (redrawn W d') os).cell? ⟨w.heap.size, 3, none⟩ = some (.string ⟨p.toArray⟩) := fun d' os => cell_regrown (by simp [World.cell?, hW]) d' os
  have k4 : ∀ d' os, (Sort.grow (redrawn W d') os).cell? ⟨w.heap.size, 4, none⟩ = some (.string ⟨d.toArray⟩) := fun d' os => cell_regrown (by simp [World.cell?, hW]) d' os
  have k5 : ∀ d' os, (Sort.grow (redrawn W d') os).cell? ⟨w.heap.size, 5, none⟩ = some (.int .i64 v) := fun d' os => cell_regrown (by simp [World.cell?, hW]) d' os
  have k6 : ∀ d' os, (Sort.grow (redrawn W d') os).cell? ⟨w.heap.size, 6, none⟩ = some (.int .i64 u) := fun d' os => cell_regrown (by simp [World.cell?, hW]) d' os
  clear hW Hen Hre
  have c0 := fun d' os => Calls.regrown_of (d := d') (os := os) (unhide Hgd (Sort.grow (redrawn W d') os))
  have c1 := fun d' os => Calls.regrown_of (d := d') (os := os) (unhide Hrg (Sort.grow (redrawn W d') os))
  have c2 := fun d' os => Calls.regrown_of (d := d') (os := os) (unhide Hz (Sort.grow (redrawn W d') os))
  go_wp2_with fail
  refine wp_region_quiet_below (by kernel_rfl) (by kernel_rfl) ?_
  repeat (first | go_big_quiet_step (first | with_reducible exact c0 _ _ | with_reducible exact c1 _ _ | with_reducible exact c2 _ _) | quiet_step (first | with_reducible exact c0 _ _ | with_reducible exact c1 _ _ | with_reducible exact c2 _ _))
  refine wpQuiet_nil ?_
  intro _ hw'
  obtain ⟨⟨dq, osq⟩, hw''⟩ := hw'
  subst hw''
  have hb3 : Below w.heap.size w (Sort.grow (redrawn W dq) osq) := below_next hB (below_regrown W dq osq)
  clear c0 c1 c2 k0 k1 k2 k3 k4 k5 k6
  go_wp2_with fail
  go_ret
  exact ⟨rfl, hb3⟩

end Go.Proofs.YtnbkpilgmjjflaaDoor
