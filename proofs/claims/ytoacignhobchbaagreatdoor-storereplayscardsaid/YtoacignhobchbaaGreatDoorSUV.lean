/-
  Copies of rows: slices.Clone, store.own.. and store.each, at files, transactions, nodes and watches: the walks.
-/
import Derived.Test.YtoacignhobchbaaGreatDoorSUU
import Derived.Test.YtoacignhobchbaaGreatDoorSUR
import Derived.Test.YtoacignhobchbaaGreatDoorSUH
import Derived.Lib.SliceRun
import Derived.Lib.QuietBelow
import Derived.BigQuiet
namespace Go.Proofs.YtoacignhobchbaaGreatDoor
open Go.RowKit

/- files and transactions as laid elements -/
instance layF : Lay DF := ⟨3, fcells, 87, fun _ => rfl, fun x u hu => by simp [fcells] at hu; rcases hu with rfl | rfl | rfl <;> rfl⟩
theorem cellsF_L (fs : List DF) : cellsL fs = cellsF fs := by
  induction fs with
  | nil => rfl
  | cons f r ih => rw [cellsL_cons, ih]; rfl
theorem seq_disk {w : World} {v : Value} {fs : List DF} : SeqV w v fs ↔ DiskV w v fs := by unfold SeqV DiskV; rw [cellsF_L]
theorem sclone1_any (s : List UInt8) (w : World) (hs : s.length ≤ 281474976710656) :
    Calls Tryz.prog 69 #[.string ⟨s.toArray⟩] w fun e w' => e = .returned (.string ⟨s.toArray⟩) ∧ Below w.heap.size w w' := dclone_any s w hs

set_option maxRecDepth 10000 in
set_option maxHeartbeats 2000000 in
theorem clF_some (a : Addr) (cap : Nat) (xs : List DF) (w : World) (hl : xs.length * 48 ≤ 140737488355328) (hc : ∀ j u, (cellsL xs)[j]? = some u → w.cell? (a.add j) = some u) :
    Calls Tryz.prog 68 #[.slice (some a) xs.length cap] w fun e w' => ∃ v', e = .returned v' ∧ OwnS w' w.heap.size v' xs ∧ Below w.heap.size w w' := by
  have q22 : ∀ (w : World) (a : Option Addr) (n c n' c' : Nat), (binOp .eql 26 (.slice a n c) (.slice none n' c')).run Tryz.prog w = .ok (.bool a.isNone) w := fun w a n c n' c' => Lib.run_eql_slice_nil w _ _ a n c n' c' Tryz.underlying26
  have H := hide hc
  clear hc
  obtain ⟨i0, hi0, hz0, hz1, hz2⟩ := info_file
  go_enter Tryz.func68, Tryz.ntmps68
  go_wp2_with (at_builtin; refine wpList_append_own _ rfl _ _ 26 rfl w.heap.size 87 i0 _ 3 48 Tryz.underlying26 hi0 hz0 hz1 hz2 rfl (by decide) _ _ _ rfl (World.ownsRow_made w #[] 0 (Nat.le_refl _) (Nat.zero_le _) (by simp)) a xs.length cap (cellsL xs) rfl ?qc1 ?qc2 ?qc3 ?qc4 ?qc5 ?qc6 ?_)
  case qc1 => exact cellsL_length xs
  case qc2 =>
    intro j u hj
    exact Lib.cell?_alloc_some _ (unhide H j u hj)
  case qc3 => exact cellsL_one xs
  case qc4 => simp only [maxLen]; omega
  case qc5 => omega
  case qc6 => simp
  intro v' w1 hown hgrow hnil
  go_wp2
  go_ret
  refine ⟨v', rfl, OwnS.of_row (by first | exact hown | (simp only [List.nil_append, Nat.zero_add] at hown; exact hown) | simpa using hown), ?_⟩
  exact ((Below.refl _ w).alloc (Nat.le_refl _) _).grown hgrow (by simp) (by intro k hk; simp [Value.ownBlock] at hk; omega)

set_option maxRecDepth 10000 in
set_option maxHeartbeats 400000 in
theorem clF_nil (n c : Nat) (w : World) :
    Calls Tryz.prog 68 #[.slice none n c] w fun e w' => e = .returned (.slice none 0 0) ∧ w' = w := by
  have q22 : ∀ (w : World) (a : Option Addr) (n c n' c' : Nat), (binOp .eql 26 (.slice a n c) (.slice none n' c')).run Tryz.prog w = .ok (.bool a.isNone) w := fun w a n c n' c' => Lib.run_eql_slice_nil w _ _ a n c n' c' Tryz.underlying26
  go_enter Tryz.func68, Tryz.ntmps68
  go_wp2
  go_ret
  exact ⟨rfl, rfl⟩

theorem clF_any (v : Value) (xs : List DF) (w : World) (hv : SeqV w v xs) (hl : xs.length * 48 ≤ 140737488355328) :
    Calls Tryz.prog 68 #[v] w fun e w' => ∃ v', e = .returned v' ∧ OwnS w' w.heap.size v' xs ∧ Below w.heap.size w w' := by
  rcases hv with ⟨a, cap, rfl, rfl, _⟩ | ⟨b, off, cap, rfl, _, _, hb, _, hr⟩
  · cases a with
    | none => exact (clF_nil 0 cap w).mono fun e w' ⟨he, hw⟩ => ⟨_, he, .inl ⟨rfl, rfl⟩, by rw [hw]; exact Below.refl _ _⟩
    | some a => exact clF_some a cap [] w (by simp) (fun j u h => by simp [cellsL] at h)
  · exact clF_some ⟨b, off, none⟩ cap xs w hl (fun j u h => by rw [Addr.add_lit]; exact hr j u h)

set_option maxRecDepth 10000 in
set_option maxHeartbeats 2000000 in
theorem ownF_any (x : DF) (w : World) (hn : x.n.length ≤ 140737488355328) (hs : x.s.length ≤ 140737488355328) (ht : x.t.length ≤ 140737488355328) :
    Calls Tryz.prog 31 #[.agg #[.string ⟨x.n.toArray⟩, .string ⟨x.s.toArray⟩, .string ⟨x.t.toArray⟩]] w fun e w' => e = .returned (.agg #[.string ⟨x.n.toArray⟩, .string ⟨x.s.toArray⟩, .string ⟨x.t.toArray⟩]) ∧ Below w.heap.size w w' := by
  obtain ⟨xn, xs, xt⟩ := x
  simp only at *
  have Kn := fun W => sclone1_any xn W (by omega)
  have Ks := fun W => sclone1_any xs W (by omega)
  have Kt := fun W => sclone1_any xt W (by omega)
  go_enter Tryz.func31, Tryz.ntmps31
  go_wp2_with fail
  have hB0 : Below w.heap.size w ((w.alloc (.cells #[.string ⟨xn.toArray⟩, .string ⟨xs.toArray⟩, .string ⟨xt.toArray⟩] 87)).alloc (.cells #[.string ⟨#[]⟩, .string ⟨#[]⟩, .string ⟨#[]⟩] 87)) := nnext (allocB _ _) (allocB _ _)
  have hz0 : ((w.alloc (.cells #[.string ⟨xn.toArray⟩, .string ⟨xs.toArray⟩, .string ⟨xt.toArray⟩] 87)).alloc (.cells #[.string ⟨#[]⟩, .string ⟨#[]⟩, .string ⟨#[]⟩] 87)).heap.size = w.heap.size + 2 := by simp
  have p0 : ((w.alloc (.cells #[.string ⟨xn.toArray⟩, .string ⟨xs.toArray⟩, .string ⟨xt.toArray⟩] 87)).alloc (.cells #[.string ⟨#[]⟩, .string ⟨#[]⟩, .string ⟨#[]⟩] 87)).cell? ⟨w.heap.size, 0, none⟩ = some (.string ⟨xn.toArray⟩) := by simp
  have r0 : ((w.alloc (.cells #[.string ⟨xn.toArray⟩, .string ⟨xs.toArray⟩, .string ⟨xt.toArray⟩] 87)).alloc (.cells #[.string ⟨#[]⟩, .string ⟨#[]⟩, .string ⟨#[]⟩] 87)).cell? ⟨w.heap.size + 1, 0, none⟩ = some (.string ⟨#[]⟩) := by simp
  have p1 : ((w.alloc (.cells #[.string ⟨xn.toArray⟩, .string ⟨xs.toArray⟩, .string ⟨xt.toArray⟩] 87)).alloc (.cells #[.string ⟨#[]⟩, .string ⟨#[]⟩, .string ⟨#[]⟩] 87)).cell? ⟨w.heap.size, 1, none⟩ = some (.string ⟨xs.toArray⟩) := by simp
  have r1 : ((w.alloc (.cells #[.string ⟨xn.toArray⟩, .string ⟨xs.toArray⟩, .string ⟨xt.toArray⟩] 87)).alloc (.cells #[.string ⟨#[]⟩, .string ⟨#[]⟩, .string ⟨#[]⟩] 87)).cell? ⟨w.heap.size + 1, 1, none⟩ = some (.string ⟨#[]⟩) := by simp
  have p2 : ((w.alloc (.cells #[.string ⟨xn.toArray⟩, .string ⟨xs.toArray⟩, .string ⟨xt.toArray⟩] 87)).alloc (.cells #[.string ⟨#[]⟩, .string ⟨#[]⟩, .string ⟨#[]⟩] 87)).cell? ⟨w.heap.size, 2, none⟩ = some (.string ⟨xt.toArray⟩) := by simp
  have r2 : ((w.alloc (.cells #[.string ⟨xn.toArray⟩, .string ⟨xs.toArray⟩, .string ⟨xt.toArray⟩] 87)).alloc (.cells #[.string ⟨#[]⟩, .string ⟨#[]⟩, .string ⟨#[]⟩] 87)).cell? ⟨w.heap.size + 1, 2, none⟩ = some (.string ⟨#[]⟩) := by simp
  have pf : ∀ j, ((w.alloc (.cells #[.string ⟨xn.toArray⟩, .string ⟨xs.toArray⟩, .string ⟨xt.toArray⟩] 87)).alloc (.cells #[.string ⟨#[]⟩, .string ⟨#[]⟩, .string ⟨#[]⟩] 87)).frozen? ⟨w.heap.size, j, none⟩ = false := by intro j; simp
  have rf : ∀ j, ((w.alloc (.cells #[.string ⟨xn.toArray⟩, .string ⟨xs.toArray⟩, .string ⟨xt.toArray⟩] 87)).alloc (.cells #[.string ⟨#[]⟩, .string ⟨#[]⟩, .string ⟨#[]⟩] 87)).frozen? ⟨w.heap.size + 1, j, none⟩ = false := by intro j; simp
  generalize (w.alloc (.cells #[.string ⟨xn.toArray⟩, .string ⟨xs.toArray⟩, .string ⟨xt.toArray⟩] 87)).alloc (.cells #[.string ⟨#[]⟩, .string ⟨#[]⟩, .string ⟨#[]⟩] 87) = W0 at *
  have d0 : ∀ d os, (Sort.grow (redrawn W0 d) os).cell? ⟨w.heap.size, 0, none⟩ = some (.string ⟨xn.toArray⟩) := fun d os => cell_regrown p0 d os
  have g0 : ∀ d os, (Sort.grow (redrawn W0 d) os).frozen? ⟨w.heap.size, 0, none⟩ = false := fun d os => by rw [(below_regrown W0 d os).frozen (p := ⟨w.heap.size, 0, none⟩) (by simp only; omega)]; exact pf 0
  have s0 : ∀ d os, (Sort.grow (redrawn W0 d) os).setCell ⟨w.heap.size, 0, none⟩ (.string ⟨xn.toArray⟩) = Sort.grow (redrawn W0 d) os := fun d os => nset_same (d0 d os)
  have c0 := fun d os => Calls.regrown_of (w := W0) (d := d) (os := os) (Kn _)
  have d1 : ∀ d os, (Sort.grow (redrawn W0 d) os).cell? ⟨w.heap.size, 1, none⟩ = some (.string ⟨xs.toArray⟩) := fun d os => cell_regrown p1 d os
  have g1 : ∀ d os, (Sort.grow (redrawn W0 d) os).frozen? ⟨w.heap.size, 1, none⟩ = false := fun d os => by rw [(below_regrown W0 d os).frozen (p := ⟨w.heap.size, 1, none⟩) (by simp only; omega)]; exact pf 1
  have s1 : ∀ d os, (Sort.grow (redrawn W0 d) os).setCell ⟨w.heap.size, 1, none⟩ (.string ⟨xs.toArray⟩) = Sort.grow (redrawn W0 d) os := fun d os => nset_same (d1 d os)
  have c1 := fun d os => Calls.regrown_of (w := W0) (d := d) (os := os) (Ks _)
  have d2 : ∀ d os, (Sort.grow (redrawn W0 d) os).cell? ⟨w.heap.size, 2, none⟩ = some (.string ⟨xt.toArray⟩) := fun d os => cell_regrown p2 d os
  have g2 : ∀ d os, (Sort.grow (redrawn W0 d) os).frozen? ⟨w.heap.size, 2, none⟩ = false := fun d os => by rw [(below_regrown W0 d os).frozen (p := ⟨w.heap.size, 2, none⟩) (by simp only; omega)]; exact pf 2
  have s2 : ∀ d os, (Sort.grow (redrawn W0 d) os).setCell ⟨w.heap.size, 2, none⟩ (.string ⟨xt.toArray⟩) = Sort.grow (redrawn W0 d) os := fun d os => nset_same (d2 d os)
  have c2 := fun d os => Calls.regrown_of (w := W0) (d := d) (os := os) (Kt _)
  refine wp_region_quiet_below (by kernel_rfl) (by kernel_rfl) ?_
  repeat (first | go_big_quiet_step (first | with_reducible exact c0 _ _ | with_reducible exact c1 _ _ | with_reducible exact c2 _ _) | quiet_step (first | with_reducible exact c0 _ _ | with_reducible exact c1 _ _ | with_reducible exact c2 _ _))
  refine wpQuiet_nil ?_
  intro _ hw'
  obtain ⟨⟨dq, osq⟩, hw''⟩ := hw'
  subst hw''
  have hb1 := below_regrown W0 dq osq
  have hB := nnext hB0 hb1
  have e0 := (hb1.cell (p := ⟨w.heap.size, 0, none⟩) (by simp only; omega)).trans p0
  have u0 := (hb1.cell (p := ⟨w.heap.size + 1, 0, none⟩) (by simp only; omega)).trans r0
  have v0 := (hb1.frozen (p := ⟨w.heap.size + 1, 0, none⟩) (by simp only; omega)).trans (rf 0)
  have e1 := (hb1.cell (p := ⟨w.heap.size, 1, none⟩) (by simp only; omega)).trans p1
  have u1 := (hb1.cell (p := ⟨w.heap.size + 1, 1, none⟩) (by simp only; omega)).trans r1
  have v1 := (hb1.frozen (p := ⟨w.heap.size + 1, 1, none⟩) (by simp only; omega)).trans (rf 1)
  have e2 := (hb1.cell (p := ⟨w.heap.size, 2, none⟩) (by simp only; omega)).trans p2
  have u2 := (hb1.cell (p := ⟨w.heap.size + 1, 2, none⟩) (by simp only; omega)).trans r2
  have v2 := (hb1.frozen (p := ⟨w.heap.size + 1, 2, none⟩) (by simp only; omega)).trans (rf 2)
  generalize Sort.grow (redrawn W0 dq) osq = w1 at *
  clear hb1 hB0 hz0 pf rf p0 r0 p1 r1 p2 r2 d0 g0 s0 c0 Kn d1 g1 s1 c1 Ks d2 g2 s2 c2 Kt
  go_wp2_with fail
  refine bodyPost_ret (v := .agg #[.string ⟨xn.toArray⟩, .string ⟨xs.toArray⟩, .string ⟨xt.toArray⟩]) (by simp [results, Tryz.results31, go_sem, u0, u1, u2]) rfl ⟨rfl, ?_⟩
  exact (((hB.setCell (by simp) _).setCell (by simp) _).setCell (by simp) _)

set_option maxRecDepth 10000 in
set_option maxHeartbeats 2000000 in
theorem clT_some (a : Addr) (cap : Nat) (xs : List WTxn) (w : World) (hl : xs.length * 72 ≤ 140737488355328) (hc : ∀ j u, (cellsL xs)[j]? = some u → w.cell? (a.add j) = some u) :
    Calls Tryz.prog 70 #[.slice (some a) xs.length cap] w fun e w' => ∃ v', e = .returned v' ∧ OwnS w' w.heap.size v' xs ∧ Below w.heap.size w w' := by
  have q22 : ∀ (w : World) (a : Option Addr) (n c n' c' : Nat), (binOp .eql 24 (.slice a n c) (.slice none n' c')).run Tryz.prog w = .ok (.bool a.isNone) w := fun w a n c n' c' => Lib.run_eql_slice_nil w _ _ a n c n' c' Tryz.underlying24
  have H := hide hc
  clear hc
  obtain ⟨i0, hi0, hz0, hz1, hz2⟩ := info_txn
  go_enter Tryz.func70, Tryz.ntmps70
  go_wp2_with (at_builtin; refine wpList_append_own _ rfl _ _ 24 rfl w.heap.size 53 i0 _ 7 72 Tryz.underlying24 hi0 hz0 hz1 hz2 rfl (by decide) _ _ _ rfl (World.ownsRow_made w #[] 0 (Nat.le_refl _) (Nat.zero_le _) (by simp)) a xs.length cap (cellsL xs) rfl ?qc1 ?qc2 ?qc3 ?qc4 ?qc5 ?qc6 ?_)
  case qc1 => exact cellsL_length xs
  case qc2 =>
    intro j u hj
    exact Lib.cell?_alloc_some _ (unhide H j u hj)
  case qc3 => exact cellsL_one xs
  case qc4 => simp only [maxLen]; omega
  case qc5 => omega
  case qc6 => simp
  intro v' w1 hown hgrow hnil
  go_wp2
  go_ret
  refine ⟨v', rfl, OwnS.of_row (by first | exact hown | (simp only [List.nil_append, Nat.zero_add] at hown; exact hown) | simpa using hown), ?_⟩
  exact ((Below.refl _ w).alloc (Nat.le_refl _) _).grown hgrow (by simp) (by intro k hk; simp [Value.ownBlock] at hk; omega)

set_option maxRecDepth 10000 in
set_option maxHeartbeats 400000 in
theorem clT_nil (n c : Nat) (w : World) :
    Calls Tryz.prog 70 #[.slice none n c] w fun e w' => e = .returned (.slice none 0 0) ∧ w' = w := by
  have q22 : ∀ (w : World) (a : Option Addr) (n c n' c' : Nat), (binOp .eql 24 (.slice a n c) (.slice none n' c')).run Tryz.prog w = .ok (.bool a.isNone) w := fun w a n c n' c' => Lib.run_eql_slice_nil w _ _ a n c n' c' Tryz.underlying24
  go_enter Tryz.func70, Tryz.ntmps70
  go_wp2
  go_ret
  exact ⟨rfl, rfl⟩

theorem clT_any (v : Value) (xs : List WTxn) (w : World) (hv : SeqV w v xs) (hl : xs.length * 72 ≤ 140737488355328) :
    Calls Tryz.prog 70 #[v] w fun e w' => ∃ v', e = .returned v' ∧ OwnS w' w.heap.size v' xs ∧ Below w.heap.size w w' := by
  rcases hv with ⟨a, cap, rfl, rfl, _⟩ | ⟨b, off, cap, rfl, _, _, hb, _, hr⟩
  · cases a with
    | none => exact (clT_nil 0 cap w).mono fun e w' ⟨he, hw⟩ => ⟨_, he, .inl ⟨rfl, rfl⟩, by rw [hw]; exact Below.refl _ _⟩
    | some a => exact clT_some a cap [] w (by simp) (fun j u h => by simp [cellsL] at h)
  · exact clT_some ⟨b, off, none⟩ cap xs w hl (fun j u h => by rw [Addr.add_lit]; exact hr j u h)

set_option maxRecDepth 10000 in
set_option maxHeartbeats 2000000 in
theorem ownT_any (x : WTxn) (w : World) (hp : x.p.length ≤ 140737488355328) (hd : x.d.length ≤ 140737488355328) :
    Calls Tryz.prog 33 #[.agg #[.int .i64 x.z, .int .i64 x.o, .int .i64 x.s, .string ⟨x.p.toArray⟩, .string ⟨x.d.toArray⟩, .int .i64 x.v, .int .i64 x.w]] w fun e w' => e = .returned (.agg #[.int .i64 x.z, .int .i64 x.o, .int .i64 x.s, .string ⟨x.p.toArray⟩, .string ⟨x.d.toArray⟩, .int .i64 x.v, .int .i64 x.w]) ∧ Below w.heap.size w w' := by
  obtain ⟨xz, xo, xs, xp, xd, xv, xw⟩ := x
  simp only at *
  have Kp := fun W => sclone1_any xp W (by omega)
  have Kd := fun W => sclone1_any xd W (by omega)
  go_enter Tryz.func33, Tryz.ntmps33
  go_wp2_with fail
  have hB0 : Below w.heap.size w ((w.alloc (.cells #[.int .i64 xz, .int .i64 xo, .int .i64 xs, .string ⟨xp.toArray⟩, .string ⟨xd.toArray⟩, .int .i64 xv, .int .i64 xw] 53)).alloc (.cells #[.int .i64 0, .int .i64 0, .int .i64 0, .string ⟨#[]⟩, .string ⟨#[]⟩, .int .i64 0, .int .i64 0] 53)) := nnext (allocB _ _) (allocB _ _)
  have hz0 : ((w.alloc (.cells #[.int .i64 xz, .int .i64 xo, .int .i64 xs, .string ⟨xp.toArray⟩, .string ⟨xd.toArray⟩, .int .i64 xv, .int .i64 xw] 53)).alloc (.cells #[.int .i64 0, .int .i64 0, .int .i64 0, .string ⟨#[]⟩, .string ⟨#[]⟩, .int .i64 0, .int .i64 0] 53)).heap.size = w.heap.size + 2 := by simp
  have p0 : ((w.alloc (.cells #[.int .i64 xz, .int .i64 xo, .int .i64 xs, .string ⟨xp.toArray⟩, .string ⟨xd.toArray⟩, .int .i64 xv, .int .i64 xw] 53)).alloc (.cells #[.int .i64 0, .int .i64 0, .int .i64 0, .string ⟨#[]⟩, .string ⟨#[]⟩, .int .i64 0, .int .i64 0] 53)).cell? ⟨w.heap.size, 0, none⟩ = some (.int .i64 xz) := by simp
  have r0 : ((w.alloc (.cells #[.int .i64 xz, .int .i64 xo, .int .i64 xs, .string ⟨xp.toArray⟩, .string ⟨xd.toArray⟩, .int .i64 xv, .int .i64 xw] 53)).alloc (.cells #[.int .i64 0, .int .i64 0, .int .i64 0, .string ⟨#[]⟩, .string ⟨#[]⟩, .int .i64 0, .int .i64 0] 53)).cell? ⟨w.heap.size + 1, 0, none⟩ = some (.int .i64 0) := by simp
  have p1 : ((w.alloc (.cells #[.int .i64 xz, .int .i64 xo, .int .i64 xs, .string ⟨xp.toArray⟩, .string ⟨xd.toArray⟩, .int .i64 xv, .int .i64 xw] 53)).alloc (.cells #[.int .i64 0, .int .i64 0, .int .i64 0, .string ⟨#[]⟩, .string ⟨#[]⟩, .int .i64 0, .int .i64 0] 53)).cell? ⟨w.heap.size, 1, none⟩ = some (.int .i64 xo) := by simp
  have r1 : ((w.alloc (.cells #[.int .i64 xz, .int .i64 xo, .int .i64 xs, .string ⟨xp.toArray⟩, .string ⟨xd.toArray⟩, .int .i64 xv, .int .i64 xw] 53)).alloc (.cells #[.int .i64 0, .int .i64 0, .int .i64 0, .string ⟨#[]⟩, .string ⟨#[]⟩, .int .i64 0, .int .i64 0] 53)).cell? ⟨w.heap.size + 1, 1, none⟩ = some (.int .i64 0) := by simp
  have p2 : ((w.alloc (.cells #[.int .i64 xz, .int .i64 xo, .int .i64 xs, .string ⟨xp.toArray⟩, .string ⟨xd.toArray⟩, .int .i64 xv, .int .i64 xw] 53)).alloc (.cells #[.int .i64 0, .int .i64 0, .int .i64 0, .string ⟨#[]⟩, .string ⟨#[]⟩, .int .i64 0, .int .i64 0] 53)).cell? ⟨w.heap.size, 2, none⟩ = some (.int .i64 xs) := by simp
  have r2 : ((w.alloc (.cells #[.int .i64 xz, .int .i64 xo, .int .i64 xs, .string ⟨xp.toArray⟩, .string ⟨xd.toArray⟩, .int .i64 xv, .int .i64 xw] 53)).alloc (.cells #[.int .i64 0, .int .i64 0, .int .i64 0, .string ⟨#[]⟩, .string ⟨#[]⟩, .int .i64 0, .int .i64 0] 53)).cell? ⟨w.heap.size + 1, 2, none⟩ = some (.int .i64 0) := by simp
  have p3 : ((w.alloc (.cells #[.int .i64 xz, .int .i64 xo, .int .i64 xs, .string ⟨xp.toArray⟩, .string ⟨xd.toArray⟩, .int .i64 xv, .int .i64 xw] 53)).alloc (.cells #[.int .i64 0, .int .i64 0, .int .i64 0, .string ⟨#[]⟩, .string ⟨#[]⟩, .int .i64 0, .int .i64 0] 53)).cell? ⟨w.heap.size, 3, none⟩ = some (.string ⟨xp.toArray⟩) := by simp
  have r3 : ((w.alloc (.cells #[.int .i64 xz, .int .i64 xo, .int .i64 xs, .string ⟨xp.toArray⟩, .string ⟨xd.toArray⟩, .int .i64 xv, .int .i64 xw] 53)).alloc (.cells #[.int .i64 0, .int .i64 0, .int .i64 0, .string ⟨#[]⟩, .string ⟨#[]⟩, .int .i64 0, .int .i64 0] 53)).cell? ⟨w.heap.size + 1, 3, none⟩ = some (.string ⟨#[]⟩) := by simp
  have p4 : ((w.alloc (.cells #[.int .i64 xz, .int .i64 xo, .int .i64 xs, .string ⟨xp.toArray⟩, .string ⟨xd.toArray⟩, .int .i64 xv, .int .i64 xw] 53)).alloc (.cells #[.int .i64 0, .int .i64 0, .int .i64 0, .string ⟨#[]⟩, .string ⟨#[]⟩, .int .i64 0, .int .i64 0] 53)).cell? ⟨w.heap.size, 4, none⟩ = some (.string ⟨xd.toArray⟩) := by simp
  have r4 : ((w.alloc (.cells #[.int .i64 xz, .int .i64 xo, .int .i64 xs, .string ⟨xp.toArray⟩, .string ⟨xd.toArray⟩, .int .i64 xv, .int .i64 xw] 53)).alloc (.cells #[.int .i64 0, .int .i64 0, .int .i64 0, .string ⟨#[]⟩, .string ⟨#[]⟩, .int .i64 0, .int .i64 0] 53)).cell? ⟨w.heap.size + 1, 4, none⟩ = some (.string ⟨#[]⟩) := by simp
  have p5 : ((w.alloc (.cells #[.int .i64 xz, .int .i64 xo, .int .i64 xs, .string ⟨xp.toArray⟩, .string ⟨xd.toArray⟩, .int .i64 xv, .int .i64 xw] 53)).alloc (.cells #[.int .i64 0, .int .i64 0, .int .i64 0, .string ⟨#[]⟩, .string ⟨#[]⟩, .int .i64 0, .int .i64 0] 53)).cell? ⟨w.heap.size, 5, none⟩ = some (.int .i64 xv) := by simp
  have r5 : ((w.alloc (.cells #[.int .i64 xz, .int .i64 xo, .int .i64 xs, .string ⟨xp.toArray⟩, .string ⟨xd.toArray⟩, .int .i64 xv, .int .i64 xw] 53)).alloc (.cells #[.int .i64 0, .int .i64 0, .int .i64 0, .string ⟨#[]⟩, .string ⟨#[]⟩, .int .i64 0, .int .i64 0] 53)).cell? ⟨w.heap.size + 1, 5, none⟩ = some (.int .i64 0) := by simp
  have p6 : ((w.alloc (.cells #[.int .i64 xz, .int .i64 xo, .int .i64 xs, .string ⟨xp.toArray⟩, .string ⟨xd.toArray⟩, .int .i64 xv, .int .i64 xw] 53)).alloc (.cells #[.int .i64 0, .int .i64 0, .int .i64 0, .string ⟨#[]⟩, .string ⟨#[]⟩, .int .i64 0, .int .i64 0] 53)).cell? ⟨w.heap.size, 6, none⟩ = some (.int .i64 xw) := by simp
  have r6 : ((w.alloc (.cells #[.int .i64 xz, .int .i64 xo, .int .i64 xs, .string ⟨xp.toArray⟩, .string ⟨xd.toArray⟩, .int .i64 xv, .int .i64 xw] 53)).alloc (.cells #[.int .i64 0, .int .i64 0, .int .i64 0, .string ⟨#[]⟩, .string ⟨#[]⟩, .int .i64 0, .int .i64 0] 53)).cell? ⟨w.heap.size + 1, 6, none⟩ = some (.int .i64 0) := by simp
  have pf : ∀ j, ((w.alloc (.cells #[.int .i64 xz, .int .i64 xo, .int .i64 xs, .string ⟨xp.toArray⟩, .string ⟨xd.toArray⟩, .int .i64 xv, .int .i64 xw] 53)).alloc (.cells #[.int .i64 0, .int .i64 0, .int .i64 0, .string ⟨#[]⟩, .string ⟨#[]⟩, .int .i64 0, .int .i64 0] 53)).frozen? ⟨w.heap.size, j, none⟩ = false := by intro j; simp
  have rf : ∀ j, ((w.alloc (.cells #[.int .i64 xz, .int .i64 xo, .int .i64 xs, .string ⟨xp.toArray⟩, .string ⟨xd.toArray⟩, .int .i64 xv, .int .i64 xw] 53)).alloc (.cells #[.int .i64 0, .int .i64 0, .int .i64 0, .string ⟨#[]⟩, .string ⟨#[]⟩, .int .i64 0, .int .i64 0] 53)).frozen? ⟨w.heap.size + 1, j, none⟩ = false := by intro j; simp
  generalize (w.alloc (.cells #[.int .i64 xz, .int .i64 xo, .int .i64 xs, .string ⟨xp.toArray⟩, .string ⟨xd.toArray⟩, .int .i64 xv, .int .i64 xw] 53)).alloc (.cells #[.int .i64 0, .int .i64 0, .int .i64 0, .string ⟨#[]⟩, .string ⟨#[]⟩, .int .i64 0, .int .i64 0] 53) = W0 at *
  have d3 : ∀ d os, (Sort.grow (redrawn W0 d) os).cell? ⟨w.heap.size, 3, none⟩ = some (.string ⟨xp.toArray⟩) := fun d os => cell_regrown p3 d os
  have g3 : ∀ d os, (Sort.grow (redrawn W0 d) os).frozen? ⟨w.heap.size, 3, none⟩ = false := fun d os => by rw [(below_regrown W0 d os).frozen (p := ⟨w.heap.size, 3, none⟩) (by simp only; omega)]; exact pf 3
  have s3 : ∀ d os, (Sort.grow (redrawn W0 d) os).setCell ⟨w.heap.size, 3, none⟩ (.string ⟨xp.toArray⟩) = Sort.grow (redrawn W0 d) os := fun d os => nset_same (d3 d os)
  have c3 := fun d os => Calls.regrown_of (w := W0) (d := d) (os := os) (Kp _)
  have d4 : ∀ d os, (Sort.grow (redrawn W0 d) os).cell? ⟨w.heap.size, 4, none⟩ = some (.string ⟨xd.toArray⟩) := fun d os => cell_regrown p4 d os
  have g4 : ∀ d os, (Sort.grow (redrawn W0 d) os).frozen? ⟨w.heap.size, 4, none⟩ = false := fun d os => by rw [(below_regrown W0 d os).frozen (p := ⟨w.heap.size, 4, none⟩) (by simp only; omega)]; exact pf 4
  have s4 : ∀ d os, (Sort.grow (redrawn W0 d) os).setCell ⟨w.heap.size, 4, none⟩ (.string ⟨xd.toArray⟩) = Sort.grow (redrawn W0 d) os := fun d os => nset_same (d4 d os)
  have c4 := fun d os => Calls.regrown_of (w := W0) (d := d) (os := os) (Kd _)
  refine wp_region_quiet_below (by kernel_rfl) (by kernel_rfl) ?_
  repeat (first | go_big_quiet_step (first | with_reducible exact c3 _ _ | with_reducible exact c4 _ _) | quiet_step (first | with_reducible exact c3 _ _ | with_reducible exact c4 _ _))
  refine wpQuiet_nil ?_
  intro _ hw'
  obtain ⟨⟨dq, osq⟩, hw''⟩ := hw'
  subst hw''
  have hb1 := below_regrown W0 dq osq
  have hB := nnext hB0 hb1
  have e0 := (hb1.cell (p := ⟨w.heap.size, 0, none⟩) (by simp only; omega)).trans p0
  have u0 := (hb1.cell (p := ⟨w.heap.size + 1, 0, none⟩) (by simp only; omega)).trans r0
  have v0 := (hb1.frozen (p := ⟨w.heap.size + 1, 0, none⟩) (by simp only; omega)).trans (rf 0)
  have e1 := (hb1.cell (p := ⟨w.heap.size, 1, none⟩) (by simp only; omega)).trans p1
  have u1 := (hb1.cell (p := ⟨w.heap.size + 1, 1, none⟩) (by simp only; omega)).trans r1
  have v1 := (hb1.frozen (p := ⟨w.heap.size + 1, 1, none⟩) (by simp only; omega)).trans (rf 1)
  have e2 := (hb1.cell (p := ⟨w.heap.size, 2, none⟩) (by simp only; omega)).trans p2
  have u2 := (hb1.cell (p := ⟨w.heap.size + 1, 2, none⟩) (by simp only; omega)).trans r2
  have v2 := (hb1.frozen (p := ⟨w.heap.size + 1, 2, none⟩) (by simp only; omega)).trans (rf 2)
  have e3 := (hb1.cell (p := ⟨w.heap.size, 3, none⟩) (by simp only; omega)).trans p3
  have u3 := (hb1.cell (p := ⟨w.heap.size + 1, 3, none⟩) (by simp only; omega)).trans r3
  have v3 := (hb1.frozen (p := ⟨w.heap.size + 1, 3, none⟩) (by simp only; omega)).trans (rf 3)
  have e4 := (hb1.cell (p := ⟨w.heap.size, 4, none⟩) (by simp only; omega)).trans p4
  have u4 := (hb1.cell (p := ⟨w.heap.size + 1, 4, none⟩) (by simp only; omega)).trans r4
  have v4 := (hb1.frozen (p := ⟨w.heap.size + 1, 4, none⟩) (by simp only; omega)).trans (rf 4)
  have e5 := (hb1.cell (p := ⟨w.heap.size, 5, none⟩) (by simp only; omega)).trans p5
  have u5 := (hb1.cell (p := ⟨w.heap.size + 1, 5, none⟩) (by simp only; omega)).trans r5
  have v5 := (hb1.frozen (p := ⟨w.heap.size + 1, 5, none⟩) (by simp only; omega)).trans (rf 5)
  have e6 := (hb1.cell (p := ⟨w.heap.size, 6, none⟩) (by simp only; omega)).trans p6
  have u6 := (hb1.cell (p := ⟨w.heap.size + 1, 6, none⟩) (by simp only; omega)).trans r6
  have v6 := (hb1.frozen (p := ⟨w.heap.size + 1, 6, none⟩) (by simp only; omega)).trans (rf 6)
  generalize Sort.grow (redrawn W0 dq) osq = w1 at *
  clear hb1 hB0 hz0 pf rf p0 r0 p1 r1 p2 r2 p3 r3 p4 r4 p5 r5 p6 r6 d3 g3 s3 c3 Kp d4 g4 s4 c4 Kd
  go_wp2_with fail
  refine bodyPost_ret (v := .agg #[.int .i64 xz, .int .i64 xo, .int .i64 xs, .string ⟨xp.toArray⟩, .string ⟨xd.toArray⟩, .int .i64 xv, .int .i64 xw]) (by simp [results, Tryz.results33, go_sem, u0, u1, u2, u3, u4, u5, u6]) rfl ⟨rfl, ?_⟩
  exact (((((((hB.setCell (by simp) _).setCell (by simp) _).setCell (by simp) _).setCell (by simp) _).setCell (by simp) _).setCell (by simp) _).setCell (by simp) _)

set_option maxRecDepth 10000 in
set_option maxHeartbeats 2000000 in
theorem clN_some (a : Addr) (cap : Nat) (xs : List Nd) (w : World) (hl : xs.length * 88 ≤ 140737488355328) (hc : ∀ j u, (cellsL xs)[j]? = some u → w.cell? (a.add j) = some u) :
    Calls Tryz.prog 71 #[.slice (some a) xs.length cap] w fun e w' => ∃ v', e = .returned v' ∧ OwnS w' w.heap.size v' xs ∧ Below w.heap.size w w' := by
  have q22 : ∀ (w : World) (a : Option Addr) (n c n' c' : Nat), (binOp .eql 31 (.slice a n c) (.slice none n' c')).run Tryz.prog w = .ok (.bool a.isNone) w := fun w a n c n' c' => Lib.run_eql_slice_nil w _ _ a n c n' c' Tryz.underlying31
  have H := hide hc
  clear hc
  obtain ⟨i0, hi0, hz0, hz1, hz2⟩ := ninfo
  go_enter Tryz.func71, Tryz.ntmps71
  go_wp2_with (at_builtin; refine wpList_append_own _ rfl _ _ 31 rfl w.heap.size 70 i0 _ 9 88 Tryz.underlying31 hi0 hz0 hz1 hz2 rfl (by decide) _ _ _ rfl (World.ownsRow_made w #[] 0 (Nat.le_refl _) (Nat.zero_le _) (by simp)) a xs.length cap (cellsL xs) rfl ?qc1 ?qc2 ?qc3 ?qc4 ?qc5 ?qc6 ?_)
  case qc1 => exact cellsL_length xs
  case qc2 =>
    intro j u hj
    exact Lib.cell?_alloc_some _ (unhide H j u hj)
  case qc3 => exact cellsL_one xs
  case qc4 => simp only [maxLen]; omega
  case qc5 => omega
  case qc6 => simp
  intro v' w1 hown hgrow hnil
  go_wp2
  go_ret
  refine ⟨v', rfl, OwnS.of_row (by first | exact hown | (simp only [List.nil_append, Nat.zero_add] at hown; exact hown) | simpa using hown), ?_⟩
  exact ((Below.refl _ w).alloc (Nat.le_refl _) _).grown hgrow (by simp) (by intro k hk; simp [Value.ownBlock] at hk; omega)

set_option maxRecDepth 10000 in
set_option maxHeartbeats 400000 in
theorem clN_nil (n c : Nat) (w : World) :
    Calls Tryz.prog 71 #[.slice none n c] w fun e w' => e = .returned (.slice none 0 0) ∧ w' = w := by
  have q22 : ∀ (w : World) (a : Option Addr) (n c n' c' : Nat), (binOp .eql 31 (.slice a n c) (.slice none n' c')).run Tryz.prog w = .ok (.bool a.isNone) w := fun w a n c n' c' => Lib.run_eql_slice_nil w _ _ a n c n' c' Tryz.underlying31
  go_enter Tryz.func71, Tryz.ntmps71
  go_wp2
  go_ret
  exact ⟨rfl, rfl⟩

theorem clN_any (v : Value) (xs : List Nd) (w : World) (hv : SeqV w v xs) (hl : xs.length * 88 ≤ 140737488355328) :
    Calls Tryz.prog 71 #[v] w fun e w' => ∃ v', e = .returned v' ∧ OwnS w' w.heap.size v' xs ∧ Below w.heap.size w w' := by
  rcases hv with ⟨a, cap, rfl, rfl, _⟩ | ⟨b, off, cap, rfl, _, _, hb, _, hr⟩
  · cases a with
    | none => exact (clN_nil 0 cap w).mono fun e w' ⟨he, hw⟩ => ⟨_, he, .inl ⟨rfl, rfl⟩, by rw [hw]; exact Below.refl _ _⟩
    | some a => exact clN_some a cap [] w (by simp) (fun j u h => by simp [cellsL] at h)
  · exact clN_some ⟨b, off, none⟩ cap xs w hl (fun j u h => by rw [Addr.add_lit]; exact hr j u h)

set_option maxRecDepth 10000 in
set_option maxHeartbeats 2000000 in
theorem ownN_any (x : Nd) (w : World) (hp : x.p.length ≤ 140737488355328) (hd : x.d.length ≤ 140737488355328) :
    Calls Tryz.prog 35 #[.agg #[.string ⟨x.p.toArray⟩, .string ⟨x.d.toArray⟩, .int .i64 x.c, .int .i64 x.m, .int .i64 x.q, .int .i64 x.v, .int .i64 x.k, .int .i64 x.o, .int .i64 x.n]] w fun e w' => e = .returned (.agg #[.string ⟨x.p.toArray⟩, .string ⟨x.d.toArray⟩, .int .i64 x.c, .int .i64 x.m, .int .i64 x.q, .int .i64 x.v, .int .i64 x.k, .int .i64 x.o, .int .i64 x.n]) ∧ Below w.heap.size w w' := by
  obtain ⟨xp, xd, xc, xm, xq, xv, xk, xo, xn⟩ := x
  simp only at *
  have Kp := fun W => sclone1_any xp W (by omega)
  have Kd := fun W => sclone1_any xd W (by omega)
  go_enter Tryz.func35, Tryz.ntmps35
  go_wp2_with fail
  have hB0 : Below w.heap.size w ((w.alloc (.cells #[.string ⟨xp.toArray⟩, .string ⟨xd.toArray⟩, .int .i64 xc, .int .i64 xm, .int .i64 xq, .int .i64 xv, .int .i64 xk, .int .i64 xo, .int .i64 xn] 70)).alloc (.cells #[.string ⟨#[]⟩, .string ⟨#[]⟩, .int .i64 0, .int .i64 0, .int .i64 0, .int .i64 0, .int .i64 0, .int .i64 0, .int .i64 0] 70)) := nnext (allocB _ _) (allocB _ _)
  have hz0 : ((w.alloc (.cells #[.string ⟨xp.toArray⟩, .string ⟨xd.toArray⟩, .int .i64 xc, .int .i64 xm, .int .i64 xq, .int .i64 xv, .int .i64 xk, .int .i64 xo, .int .i64 xn] 70)).alloc (.cells #[.string ⟨#[]⟩, .string ⟨#[]⟩, .int .i64 0, .int .i64 0, .int .i64 0, .int .i64 0, .int .i64 0, .int .i64 0, .int .i64 0] 70)).heap.size = w.heap.size + 2 := by simp
  have p0 : ((w.alloc (.cells #[.string ⟨xp.toArray⟩, .string ⟨xd.toArray⟩, .int .i64 xc, .int .i64 xm, .int .i64 xq, .int .i64 xv, .int .i64 xk, .int .i64 xo, .int .i64 xn] 70)).alloc (.cells #[.string ⟨#[]⟩, .string ⟨#[]⟩, .int .i64 0, .int .i64 0, .int .i64 0, .int .i64 0, .int .i64 0, .int .i64 0, .int .i64 0] 70)).cell? ⟨w.heap.size, 0, none⟩ = some (.string ⟨xp.toArray⟩) := by simp
  have r0 : ((w.alloc (.cells #[.string ⟨xp.toArray⟩, .string ⟨xd.toArray⟩, .int .i64 xc, .int .i64 xm, .int .i64 xq, .int .i64 xv, .int .i64 xk, .int .i64 xo, .int .i64 xn] 70)).alloc (.cells #[.string ⟨#[]⟩, .string ⟨#[]⟩, .int .i64 0, .int .i64 0, .int .i64 0, .int .i64 0, .int .i64 0, .int .i64 0, .int .i64 0] 70)).cell? ⟨w.heap.size + 1, 0, none⟩ = some (.string ⟨#[]⟩) := by simp
  have p1 : ((w.alloc (.cells #[.string ⟨xp.toArray⟩, .string ⟨xd.toArray⟩, .int .i64 xc, .int .i64 xm, .int .i64 xq, .int .i64 xv, .int .i64 xk, .int .i64 xo, .int .i64 xn] 70)).alloc (.cells #[.string ⟨#[]⟩, .string ⟨#[]⟩, .int .i64 0, .int .i64 0, .int .i64 0, .int .i64 0, .int .i64 0, .int .i64 0, .int .i64 0] 70)).cell? ⟨w.heap.size, 1, none⟩ = some (.string ⟨xd.toArray⟩) := by simp
  have r1 : ((w.alloc (.cells #[.string ⟨xp.toArray⟩, .string ⟨xd.toArray⟩, .int .i64 xc, .int .i64 xm, .int .i64 xq, .int .i64 xv, .int .i64 xk, .int .i64 xo, .int .i64 xn] 70)).alloc (.cells #[.string ⟨#[]⟩, .string ⟨#[]⟩, .int .i64 0, .int .i64 0, .int .i64 0, .int .i64 0, .int .i64 0, .int .i64 0, .int .i64 0] 70)).cell? ⟨w.heap.size + 1, 1, none⟩ = some (.string ⟨#[]⟩) := by simp
  have p2 : ((w.alloc (.cells #[.string ⟨xp.toArray⟩, .string ⟨xd.toArray⟩, .int .i64 xc, .int .i64 xm, .int .i64 xq, .int .i64 xv, .int .i64 xk, .int .i64 xo, .int .i64 xn] 70)).alloc (.cells #[.string ⟨#[]⟩, .string ⟨#[]⟩, .int .i64 0, .int .i64 0, .int .i64 0, .int .i64 0, .int .i64 0, .int .i64 0, .int .i64 0] 70)).cell? ⟨w.heap.size, 2, none⟩ = some (.int .i64 xc) := by simp
  have r2 : ((w.alloc (.cells #[.string ⟨xp.toArray⟩, .string ⟨xd.toArray⟩, .int .i64 xc, .int .i64 xm, .int .i64 xq, .int .i64 xv, .int .i64 xk, .int .i64 xo, .int .i64 xn] 70)).alloc (.cells #[.string ⟨#[]⟩, .string ⟨#[]⟩, .int .i64 0, .int .i64 0, .int .i64 0, .int .i64 0, .int .i64 0, .int .i64 0, .int .i64 0] 70)).cell? ⟨w.heap.size + 1, 2, none⟩ = some (.int .i64 0) := by simp
  have p3 : ((w.alloc (.cells #[.string ⟨xp.toArray⟩, .string ⟨xd.toArray⟩, .int .i64 xc, .int .i64 xm, .int .i64 xq, .int .i64 xv, .int .i64 xk, .int .i64 xo, .int .i64 xn] 70)).alloc (.cells #[.string ⟨#[]⟩, .string ⟨#[]⟩, .int .i64 0, .int .i64 0, .int .i64 0, .int .i64 0, .int .i64 0, .int .i64 0, .int .i64 0] 70)).cell? ⟨w.heap.size, 3, none⟩ = some (.int .i64 xm) := by simp
  have r3 : ((w.alloc (.cells #[.string ⟨xp.toArray⟩, .string ⟨xd.toArray⟩, .int .i64 xc, .int .i64 xm, .int .i64 xq, .int .i64 xv, .int .i64 xk, .int .i64 xo, .int .i64 xn] 70)).alloc (.cells #[.string ⟨#[]⟩, .string ⟨#[]⟩, .int .i64 0, .int .i64 0, .int .i64 0, .int .i64 0, .int .i64 0, .int .i64 0, .int .i64 0] 70)).cell? ⟨w.heap.size + 1, 3, none⟩ = some (.int .i64 0) := by simp
  have p4 : ((w.alloc (.cells #[.string ⟨xp.toArray⟩, .string ⟨xd.toArray⟩, .int .i64 xc, .int .i64 xm, .int .i64 xq, .int .i64 xv, .int .i64 xk, .int .i64 xo, .int .i64 xn] 70)).alloc (.cells #[.string ⟨#[]⟩, .string ⟨#[]⟩, .int .i64 0, .int .i64 0, .int .i64 0, .int .i64 0, .int .i64 0, .int .i64 0, .int .i64 0] 70)).cell? ⟨w.heap.size, 4, none⟩ = some (.int .i64 xq) := by simp
  have r4 : ((w.alloc (.cells #[.string ⟨xp.toArray⟩, .string ⟨xd.toArray⟩, .int .i64 xc, .int .i64 xm, .int .i64 xq, .int .i64 xv, .int .i64 xk, .int .i64 xo, .int .i64 xn] 70)).alloc (.cells #[.string ⟨#[]⟩, .string ⟨#[]⟩, .int .i64 0, .int .i64 0, .int .i64 0, .int .i64 0, .int .i64 0, .int .i64 0, .int .i64 0] 70)).cell? ⟨w.heap.size + 1, 4, none⟩ = some (.int .i64 0) := by simp
  have p5 : ((w.alloc (.cells #[.string ⟨xp.toArray⟩, .string ⟨xd.toArray⟩, .int .i64 xc, .int .i64 xm, .int .i64 xq, .int .i64 xv, .int .i64 xk, .int .i64 xo, .int .i64 xn] 70)).alloc (.cells #[.string ⟨#[]⟩, .string ⟨#[]⟩, .int .i64 0, .int .i64 0, .int .i64 0, .int .i64 0, .int .i64 0, .int .i64 0, .int .i64 0] 70)).cell? ⟨w.heap.size, 5, none⟩ = some (.int .i64 xv) := by simp
  have r5 : ((w.alloc (.cells #[.string ⟨xp.toArray⟩, .string ⟨xd.toArray⟩, .int .i64 xc, .int .i64 xm, .int .i64 xq, .int .i64 xv, .int .i64 xk, .int .i64 xo, .int .i64 xn] 70)).alloc (.cells #[.string ⟨#[]⟩, .string ⟨#[]⟩, .int .i64 0, .int .i64 0, .int .i64 0, .int .i64 0, .int .i64 0, .int .i64 0, .int .i64 0] 70)).cell? ⟨w.heap.size + 1, 5, none⟩ = some (.int .i64 0) := by simp
  have p6 : ((w.alloc (.cells #[.string ⟨xp.toArray⟩, .string ⟨xd.toArray⟩, .int .i64 xc, .int .i64 xm, .int .i64 xq, .int .i64 xv, .int .i64 xk, .int .i64 xo, .int .i64 xn] 70)).alloc (.cells #[.string ⟨#[]⟩, .string ⟨#[]⟩, .int .i64 0, .int .i64 0, .int .i64 0, .int .i64 0, .int .i64 0, .int .i64 0, .int .i64 0] 70)).cell? ⟨w.heap.size, 6, none⟩ = some (.int .i64 xk) := by simp
  have r6 : ((w.alloc (.cells #[.string ⟨xp.toArray⟩, .string ⟨xd.toArray⟩, .int .i64 xc, .int .i64 xm, .int .i64 xq, .int .i64 xv, .int .i64 xk, .int .i64 xo, .int .i64 xn] 70)).alloc (.cells #[.string ⟨#[]⟩, .string ⟨#[]⟩, .int .i64 0, .int .i64 0, .int .i64 0, .int .i64 0, .int .i64 0, .int .i64 0, .int .i64 0] 70)).cell? ⟨w.heap.size + 1, 6, none⟩ = some (.int .i64 0) := by simp
  have p7 : ((w.alloc (.cells #[.string ⟨xp.toArray⟩, .string ⟨xd.toArray⟩, .int .i64 xc, .int .i64 xm, .int .i64 xq, .int .i64 xv, .int .i64 xk, .int .i64 xo, .int .i64 xn] 70)).alloc (.cells #[.string ⟨#[]⟩, .string ⟨#[]⟩, .int .i64 0, .int .i64 0, .int .i64 0, .int .i64 0, .int .i64 0, .int .i64 0, .int .i64 0] 70)).cell? ⟨w.heap.size, 7, none⟩ = some (.int .i64 xo) := by simp
  have r7 : ((w.alloc (.cells #[.string ⟨xp.toArray⟩, .string ⟨xd.toArray⟩, .int .i64 xc, .int .i64 xm, .int .i64 xq, .int .i64 xv, .int .i64 xk, .int .i64 xo, .int .i64 xn] 70)).alloc (.cells #[.string ⟨#[]⟩, .string ⟨#[]⟩, .int .i64 0, .int .i64 0, .int .i64 0, .int .i64 0, .int .i64 0, .int .i64 0, .int .i64 0] 70)).cell? ⟨w.heap.size + 1, 7, none⟩ = some (.int .i64 0) := by simp
  have p8 : ((w.alloc (.cells #[.string ⟨xp.toArray⟩, .string ⟨xd.toArray⟩, .int .i64 xc, .int .i64 xm, .int .i64 xq, .int .i64 xv, .int .i64 xk, .int .i64 xo, .int .i64 xn] 70)).alloc (.cells #[.string ⟨#[]⟩, .string ⟨#[]⟩, .int .i64 0, .int .i64 0, .int .i64 0, .int .i64 0, .int .i64 0, .int .i64 0, .int .i64 0] 70)).cell? ⟨w.heap.size, 8, none⟩ = some (.int .i64 xn) := by simp
  have r8 : ((w.alloc (.cells #[.string ⟨xp.toArray⟩, .string ⟨xd.toArray⟩, .int .i64 xc, .int .i64 xm, .int .i64 xq, .int .i64 xv, .int .i64 xk, .int .i64 xo, .int .i64 xn] 70)).alloc (.cells #[.string ⟨#[]⟩, .string ⟨#[]⟩, .int .i64 0, .int .i64 0, .int .i64 0, .int .i64 0, .int .i64 0, .int .i64 0, .int .i64 0] 70)).cell? ⟨w.heap.size + 1, 8, none⟩ = some (.int .i64 0) := by simp
  have pf : ∀ j, ((w.alloc (.cells #[.string ⟨xp.toArray⟩, .string ⟨xd.toArray⟩, .int .i64 xc, .int .i64 xm, .int .i64 xq, .int .i64 xv, .int .i64 xk, .int .i64 xo, .int .i64 xn] 70)).alloc (.cells #[.string ⟨#[]⟩, .string ⟨#[]⟩, .int .i64 0, .int .i64 0, .int .i64 0, .int .i64 0, .int .i64 0, .int .i64 0, .int .i64 0] 70)).frozen? ⟨w.heap.size, j, none⟩ = false := by intro j; simp
  have rf : ∀ j, ((w.alloc (.cells #[.string ⟨xp.toArray⟩, .string ⟨xd.toArray⟩, .int .i64 xc, .int .i64 xm, .int .i64 xq, .int .i64 xv, .int .i64 xk, .int .i64 xo, .int .i64 xn] 70)).alloc (.cells #[.string ⟨#[]⟩, .string ⟨#[]⟩, .int .i64 0, .int .i64 0, .int .i64 0, .int .i64 0, .int .i64 0, .int .i64 0, .int .i64 0] 70)).frozen? ⟨w.heap.size + 1, j, none⟩ = false := by intro j; simp
  generalize (w.alloc (.cells #[.string ⟨xp.toArray⟩, .string ⟨xd.toArray⟩, .int .i64 xc, .int .i64 xm, .int .i64 xq, .int .i64 xv, .int .i64 xk, .int .i64 xo, .int .i64 xn] 70)).alloc (.cells #[.string ⟨#[]⟩, .string ⟨#[]⟩, .int .i64 0, .int .i64 0, .int .i64 0, .int .i64 0, .int .i64 0, .int .i64 0, .int .i64 0] 70) = W0 at *
  have d0 : ∀ d os, (Sort.grow (redrawn W0 d) os).cell? ⟨w.heap.size, 0, none⟩ = some (.string ⟨xp.toArray⟩) := fun d os => cell_regrown p0 d os
  have g0 : ∀ d os, (Sort.grow (redrawn W0 d) os).frozen? ⟨w.heap.size, 0, none⟩ = false := fun d os => by rw [(below_regrown W0 d os).frozen (p := ⟨w.heap.size, 0, none⟩) (by simp only; omega)]; exact pf 0
  have s0 : ∀ d os, (Sort.grow (redrawn W0 d) os).setCell ⟨w.heap.size, 0, none⟩ (.string ⟨xp.toArray⟩) = Sort.grow (redrawn W0 d) os := fun d os => nset_same (d0 d os)
  have c0 := fun d os => Calls.regrown_of (w := W0) (d := d) (os := os) (Kp _)
  have d1 : ∀ d os, (Sort.grow (redrawn W0 d) os).cell? ⟨w.heap.size, 1, none⟩ = some (.string ⟨xd.toArray⟩) := fun d os => cell_regrown p1 d os
  have g1 : ∀ d os, (Sort.grow (redrawn W0 d) os).frozen? ⟨w.heap.size, 1, none⟩ = false := fun d os => by rw [(below_regrown W0 d os).frozen (p := ⟨w.heap.size, 1, none⟩) (by simp only; omega)]; exact pf 1
  have s1 : ∀ d os, (Sort.grow (redrawn W0 d) os).setCell ⟨w.heap.size, 1, none⟩ (.string ⟨xd.toArray⟩) = Sort.grow (redrawn W0 d) os := fun d os => nset_same (d1 d os)
  have c1 := fun d os => Calls.regrown_of (w := W0) (d := d) (os := os) (Kd _)
  refine wp_region_quiet_below (by kernel_rfl) (by kernel_rfl) ?_
  repeat (first | go_big_quiet_step (first | with_reducible exact c0 _ _ | with_reducible exact c1 _ _) | quiet_step (first | with_reducible exact c0 _ _ | with_reducible exact c1 _ _))
  refine wpQuiet_nil ?_
  intro _ hw'
  obtain ⟨⟨dq, osq⟩, hw''⟩ := hw'
  subst hw''
  have hb1 := below_regrown W0 dq osq
  have hB := nnext hB0 hb1
  have e0 := (hb1.cell (p := ⟨w.heap.size, 0, none⟩) (by simp only; omega)).trans p0
  have u0 := (hb1.cell (p := ⟨w.heap.size + 1, 0, none⟩) (by simp only; omega)).trans r0
  have v0 := (hb1.frozen (p := ⟨w.heap.size + 1, 0, none⟩) (by simp only; omega)).trans (rf 0)
  have e1 := (hb1.cell (p := ⟨w.heap.size, 1, none⟩) (by simp only; omega)).trans p1
  have u1 := (hb1.cell (p := ⟨w.heap.size + 1, 1, none⟩) (by simp only; omega)).trans r1
  have v1 := (hb1.frozen (p := ⟨w.heap.size + 1, 1, none⟩) (by simp only; omega)).trans (rf 1)
  have e2 := (hb1.cell (p := ⟨w.heap.size, 2, none⟩) (by simp only; omega)).trans p2
  have u2 := (hb1.cell (p := ⟨w.heap.size + 1, 2, none⟩) (by simp only; omega)).trans r2
  have v2 := (hb1.frozen (p := ⟨w.heap.size + 1, 2, none⟩) (by simp only; omega)).trans (rf 2)
  have e3 := (hb1.cell (p := ⟨w.heap.size, 3, none⟩) (by simp only; omega)).trans p3
  have u3 := (hb1.cell (p := ⟨w.heap.size + 1, 3, none⟩) (by simp only; omega)).trans r3
  have v3 := (hb1.frozen (p := ⟨w.heap.size + 1, 3, none⟩) (by simp only; omega)).trans (rf 3)
  have e4 := (hb1.cell (p := ⟨w.heap.size, 4, none⟩) (by simp only; omega)).trans p4
  have u4 := (hb1.cell (p := ⟨w.heap.size + 1, 4, none⟩) (by simp only; omega)).trans r4
  have v4 := (hb1.frozen (p := ⟨w.heap.size + 1, 4, none⟩) (by simp only; omega)).trans (rf 4)
  have e5 := (hb1.cell (p := ⟨w.heap.size, 5, none⟩) (by simp only; omega)).trans p5
  have u5 := (hb1.cell (p := ⟨w.heap.size + 1, 5, none⟩) (by simp only; omega)).trans r5
  have v5 := (hb1.frozen (p := ⟨w.heap.size + 1, 5, none⟩) (by simp only; omega)).trans (rf 5)
  have e6 := (hb1.cell (p := ⟨w.heap.size, 6, none⟩) (by simp only; omega)).trans p6
  have u6 := (hb1.cell (p := ⟨w.heap.size + 1, 6, none⟩) (by simp only; omega)).trans r6
  have v6 := (hb1.frozen (p := ⟨w.heap.size + 1, 6, none⟩) (by simp only; omega)).trans (rf 6)
  have e7 := (hb1.cell (p := ⟨w.heap.size, 7, none⟩) (by simp only; omega)).trans p7
  have u7 := (hb1.cell (p := ⟨w.heap.size + 1, 7, none⟩) (by simp only; omega)).trans r7
  have v7 := (hb1.frozen (p := ⟨w.heap.size + 1, 7, none⟩) (by simp only; omega)).trans (rf 7)
  have e8 := (hb1.cell (p := ⟨w.heap.size, 8, none⟩) (by simp only; omega)).trans p8
  have u8 := (hb1.cell (p := ⟨w.heap.size + 1, 8, none⟩) (by simp only; omega)).trans r8
  have v8 := (hb1.frozen (p := ⟨w.heap.size + 1, 8, none⟩) (by simp only; omega)).trans (rf 8)
  generalize Sort.grow (redrawn W0 dq) osq = w1 at *
  clear hb1 hB0 hz0 pf rf p0 r0 p1 r1 p2 r2 p3 r3 p4 r4 p5 r5 p6 r6 p7 r7 p8 r8 d0 g0 s0 c0 Kp d1 g1 s1 c1 Kd
  go_wp2_with fail
  refine bodyPost_ret (v := .agg #[.string ⟨xp.toArray⟩, .string ⟨xd.toArray⟩, .int .i64 xc, .int .i64 xm, .int .i64 xq, .int .i64 xv, .int .i64 xk, .int .i64 xo, .int .i64 xn]) (by simp [results, Tryz.results35, go_sem, u0, u1, u2, u3, u4, u5, u6, u7, u8]) rfl ⟨rfl, ?_⟩
  exact (((((((((hB.setCell (by simp) _).setCell (by simp) _).setCell (by simp) _).setCell (by simp) _).setCell (by simp) _).setCell (by simp) _).setCell (by simp) _).setCell (by simp) _).setCell (by simp) _)

set_option maxRecDepth 10000 in
set_option maxHeartbeats 2000000 in
theorem clW_some (a : Addr) (cap : Nat) (xs : List Wa) (w : World) (hl : xs.length * 32 ≤ 140737488355328) (hc : ∀ j u, (cellsL xs)[j]? = some u → w.cell? (a.add j) = some u) :
    Calls Tryz.prog 72 #[.slice (some a) xs.length cap] w fun e w' => ∃ v', e = .returned v' ∧ OwnS w' w.heap.size v' xs ∧ Below w.heap.size w w' := by
  have q22 : ∀ (w : World) (a : Option Addr) (n c n' c' : Nat), (binOp .eql 23 (.slice a n c) (.slice none n' c')).run Tryz.prog w = .ok (.bool a.isNone) w := fun w a n c n' c' => Lib.run_eql_slice_nil w _ _ a n c n' c' Tryz.underlying23
  have H := hide hc
  clear hc
  obtain ⟨i0, hi0, hz0, hz1, hz2⟩ := winfo
  go_enter Tryz.func72, Tryz.ntmps72
  go_wp2_with (at_builtin; refine wpList_append_own _ rfl _ _ 23 rfl w.heap.size 72 i0 _ 3 32 Tryz.underlying23 hi0 hz0 hz1 hz2 rfl (by decide) _ _ _ rfl (World.ownsRow_made w #[] 0 (Nat.le_refl _) (Nat.zero_le _) (by simp)) a xs.length cap (cellsL xs) rfl ?qc1 ?qc2 ?qc3 ?qc4 ?qc5 ?qc6 ?_)
  case qc1 => exact cellsL_length xs
  case qc2 =>
    intro j u hj
    exact Lib.cell?_alloc_some _ (unhide H j u hj)
  case qc3 => exact cellsL_one xs
  case qc4 => simp only [maxLen]; omega
  case qc5 => omega
  case qc6 => simp
  intro v' w1 hown hgrow hnil
  go_wp2
  go_ret
  refine ⟨v', rfl, OwnS.of_row (by first | exact hown | (simp only [List.nil_append, Nat.zero_add] at hown; exact hown) | simpa using hown), ?_⟩
  exact ((Below.refl _ w).alloc (Nat.le_refl _) _).grown hgrow (by simp) (by intro k hk; simp [Value.ownBlock] at hk; omega)

set_option maxRecDepth 10000 in
set_option maxHeartbeats 400000 in
theorem clW_nil (n c : Nat) (w : World) :
    Calls Tryz.prog 72 #[.slice none n c] w fun e w' => e = .returned (.slice none 0 0) ∧ w' = w := by
  have q22 : ∀ (w : World) (a : Option Addr) (n c n' c' : Nat), (binOp .eql 23 (.slice a n c) (.slice none n' c')).run Tryz.prog w = .ok (.bool a.isNone) w := fun w a n c n' c' => Lib.run_eql_slice_nil w _ _ a n c n' c' Tryz.underlying23
  go_enter Tryz.func72, Tryz.ntmps72
  go_wp2
  go_ret
  exact ⟨rfl, rfl⟩

theorem clW_any (v : Value) (xs : List Wa) (w : World) (hv : SeqV w v xs) (hl : xs.length * 32 ≤ 140737488355328) :
    Calls Tryz.prog 72 #[v] w fun e w' => ∃ v', e = .returned v' ∧ OwnS w' w.heap.size v' xs ∧ Below w.heap.size w w' := by
  rcases hv with ⟨a, cap, rfl, rfl, _⟩ | ⟨b, off, cap, rfl, _, _, hb, _, hr⟩
  · cases a with
    | none => exact (clW_nil 0 cap w).mono fun e w' ⟨he, hw⟩ => ⟨_, he, .inl ⟨rfl, rfl⟩, by rw [hw]; exact Below.refl _ _⟩
    | some a => exact clW_some a cap [] w (by simp) (fun j u h => by simp [cellsL] at h)
  · exact clW_some ⟨b, off, none⟩ cap xs w hl (fun j u h => by rw [Addr.add_lit]; exact hr j u h)

set_option maxRecDepth 10000 in
set_option maxHeartbeats 2000000 in
theorem ownW_any (x : Wa) (w : World) (hp : x.p.length ≤ 140737488355328) :
    Calls Tryz.prog 38 #[.agg #[.int .i64 x.s, .int .i64 x.k, .string ⟨x.p.toArray⟩]] w fun e w' => e = .returned (.agg #[.int .i64 x.s, .int .i64 x.k, .string ⟨x.p.toArray⟩]) ∧ Below w.heap.size w w' := by
  obtain ⟨xs, xk, xp⟩ := x
  simp only at *
  have Kp := fun W => sclone1_any xp W (by omega)
  go_enter Tryz.func38, Tryz.ntmps38
  go_wp2_with fail
  have hB0 : Below w.heap.size w ((w.alloc (.cells #[.int .i64 xs, .int .i64 xk, .string ⟨xp.toArray⟩] 72)).alloc (.cells #[.int .i64 0, .int .i64 0, .string ⟨#[]⟩] 72)) := nnext (allocB _ _) (allocB _ _)
  have hz0 : ((w.alloc (.cells #[.int .i64 xs, .int .i64 xk, .string ⟨xp.toArray⟩] 72)).alloc (.cells #[.int .i64 0, .int .i64 0, .string ⟨#[]⟩] 72)).heap.size = w.heap.size + 2 := by simp
  have p0 : ((w.alloc (.cells #[.int .i64 xs, .int .i64 xk, .string ⟨xp.toArray⟩] 72)).alloc (.cells #[.int .i64 0, .int .i64 0, .string ⟨#[]⟩] 72)).cell? ⟨w.heap.size, 0, none⟩ = some (.int .i64 xs) := by simp
  have r0 : ((w.alloc (.cells #[.int .i64 xs, .int .i64 xk, .string ⟨xp.toArray⟩] 72)).alloc (.cells #[.int .i64 0, .int .i64 0, .string ⟨#[]⟩] 72)).cell? ⟨w.heap.size + 1, 0, none⟩ = some (.int .i64 0) := by simp
  have p1 : ((w.alloc (.cells #[.int .i64 xs, .int .i64 xk, .string ⟨xp.toArray⟩] 72)).alloc (.cells #[.int .i64 0, .int .i64 0, .string ⟨#[]⟩] 72)).cell? ⟨w.heap.size, 1, none⟩ = some (.int .i64 xk) := by simp
  have r1 : ((w.alloc (.cells #[.int .i64 xs, .int .i64 xk, .string ⟨xp.toArray⟩] 72)).alloc (.cells #[.int .i64 0, .int .i64 0, .string ⟨#[]⟩] 72)).cell? ⟨w.heap.size + 1, 1, none⟩ = some (.int .i64 0) := by simp
  have p2 : ((w.alloc (.cells #[.int .i64 xs, .int .i64 xk, .string ⟨xp.toArray⟩] 72)).alloc (.cells #[.int .i64 0, .int .i64 0, .string ⟨#[]⟩] 72)).cell? ⟨w.heap.size, 2, none⟩ = some (.string ⟨xp.toArray⟩) := by simp
  have r2 : ((w.alloc (.cells #[.int .i64 xs, .int .i64 xk, .string ⟨xp.toArray⟩] 72)).alloc (.cells #[.int .i64 0, .int .i64 0, .string ⟨#[]⟩] 72)).cell? ⟨w.heap.size + 1, 2, none⟩ = some (.string ⟨#[]⟩) := by simp
  have pf : ∀ j, ((w.alloc (.cells #[.int .i64 xs, .int .i64 xk, .string ⟨xp.toArray⟩] 72)).alloc (.cells #[.int .i64 0, .int .i64 0, .string ⟨#[]⟩] 72)).frozen? ⟨w.heap.size, j, none⟩ = false := by intro j; simp
  have rf : ∀ j, ((w.alloc (.cells #[.int .i64 xs, .int .i64 xk, .string ⟨xp.toArray⟩] 72)).alloc (.cells #[.int .i64 0, .int .i64 0, .string ⟨#[]⟩] 72)).frozen? ⟨w.heap.size + 1, j, none⟩ = false := by intro j; simp
  generalize (w.alloc (.cells #[.int .i64 xs, .int .i64 xk, .string ⟨xp.toArray⟩] 72)).alloc (.cells #[.int .i64 0, .int .i64 0, .string ⟨#[]⟩] 72) = W0 at *
  refine (Kp _).mono ?_
  rintro e w1 ⟨rfl, hb1⟩
  have c0 := (hb1.cell (p := ⟨w.heap.size, 0, none⟩) (by simp only; omega)).trans p0
  have d0 := (hb1.cell (p := ⟨w.heap.size + 1, 0, none⟩) (by simp only; omega)).trans r0
  have g0 := (hb1.frozen (p := ⟨w.heap.size + 1, 0, none⟩) (by simp only; omega)).trans (rf 0)
  have c1 := (hb1.cell (p := ⟨w.heap.size, 1, none⟩) (by simp only; omega)).trans p1
  have d1 := (hb1.cell (p := ⟨w.heap.size + 1, 1, none⟩) (by simp only; omega)).trans r1
  have g1 := (hb1.frozen (p := ⟨w.heap.size + 1, 1, none⟩) (by simp only; omega)).trans (rf 1)
  have c2 := (hb1.cell (p := ⟨w.heap.size, 2, none⟩) (by simp only; omega)).trans p2
  have d2 := (hb1.cell (p := ⟨w.heap.size + 1, 2, none⟩) (by simp only; omega)).trans r2
  have g2 := (hb1.frozen (p := ⟨w.heap.size + 1, 2, none⟩) (by simp only; omega)).trans (rf 2)
  have f2 := (hb1.frozen (p := ⟨w.heap.size, 2, none⟩) (by simp only; omega)).trans (pf 2)
  have s2 := nset_same c2
  have hB := nnext hB0 hb1
  clear hb1 Kp hB0 hz0 pf rf p0 r0 p1 r1 p2 r2
  go_wp2_with fail
  refine bodyPost_ret (v := .agg #[.int .i64 xs, .int .i64 xk, .string ⟨xp.toArray⟩]) (by simp [results, Tryz.results38, go_sem, d0, d1, d2]) rfl ⟨rfl, ?_⟩
  exact (((hB.setCell (by simp) _).setCell (by simp) _).setCell (by simp) _)
end Go.Proofs.YtoacignhobchbaaGreatDoor
