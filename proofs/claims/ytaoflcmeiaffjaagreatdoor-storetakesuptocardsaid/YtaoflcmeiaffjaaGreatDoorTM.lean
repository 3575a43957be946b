/-
  Copies of rows: slices.Clone, store.own.. and store.each, at files, transactions, nodes and watches: the walks.
  store.each at files, transactions, nodes and watches: the walks.
  store.copied: the walk.
-/
import Derived.Test.YtaoflcmeiaffjaaGreatDoorTH
import Derived.Test.YtaoflcmeiaffjaaGreatDoorTD
import Derived.Test.YtaoflcmeiaffjaaGreatDoorTJ
import Derived.Lib.SliceRun
import Derived.Lib.QuietBelow
import Derived.BigQuiet
import Derived.Test.YtaoflcmeiaffjaaGreatDoorTK
namespace Go.Proofs.YtaoflcmeiaffjaaGreatDoor
open Go.RowKit

/- files and transactions as laid elements -/
instance layF : Lay DF := ⟨3, fcells, 72, fun _ => rfl, fun x u hu => by simp [fcells] at hu; rcases hu with rfl | rfl | rfl <;> rfl⟩
instance layX : Lay WTxn := ⟨7, tcells, 47, fun _ => rfl, fun x u hu => tcells_one x u hu⟩
theorem cellsF_L (fs : List DF) : cellsL fs = cellsF fs := by
  induction fs with
  | nil => rfl
  | cons f r ih => rw [cellsL_cons, ih]; rfl
theorem cellsT_L (ts : List WTxn) : cellsL ts = cellsT ts := by
  induction ts with
  | nil => rfl
  | cons f r ih => rw [cellsL_cons, ih]; rfl
theorem seq_disk {w : World} {v : Value} {fs : List DF} : SeqV w v fs ↔ DiskV w v fs := by unfold SeqV DiskV; rw [cellsF_L]
theorem seq_log {w : World} {v : Value} {ts : List WTxn} : SeqV w v ts ↔ LogV w v ts := by unfold SeqV LogV; rw [cellsT_L]
theorem sclone1_any (s : List UInt8) (w : World) (hs : s.length ≤ 281474976710656) :
    Calls Tryz.prog 83 #[.string ⟨s.toArray⟩] w fun e w' => e = .returned (.string ⟨s.toArray⟩) ∧ Below w.heap.size w w' := dclone_any s w hs

set_option maxRecDepth 10000 in
set_option maxHeartbeats 2000000 in
theorem clF_some (a : Addr) (cap : Nat) (xs : List DF) (w : World) (hl : xs.length * 48 ≤ 140737488355328) (hc : ∀ j u, (cellsL xs)[j]? = some u → w.cell? (a.add j) = some u) :
    Calls Tryz.prog 131 #[.slice (some a) xs.length cap] w fun e w' => ∃ v', e = .returned v' ∧ OwnS w' w.heap.size v' xs ∧ Below w.heap.size w w' := by
  have q22 : ∀ (w : World) (a : Option Addr) (n c n' c' : Nat), (binOp .eql 22 (.slice a n c) (.slice none n' c')).run Tryz.prog w = .ok (.bool a.isNone) w := fun w a n c n' c' => Lib.run_eql_slice_nil w _ _ a n c n' c' Tryz.underlying22
  have H := hide hc
  clear hc
  obtain ⟨i0, hi0, hz0, hz1, hz2⟩ := info_file
  go_enter Tryz.func131, Tryz.ntmps131
  go_wp2_with (at_builtin; refine wpList_append_own _ rfl _ _ 22 rfl w.heap.size 72 i0 _ 3 48 Tryz.underlying22 hi0 hz0 hz1 hz2 rfl (by decide) _ _ _ rfl (World.ownsRow_made w #[] 0 (Nat.le_refl _) (Nat.zero_le _) (by simp)) a xs.length cap (cellsL xs) rfl ?qc1 ?qc2 ?qc3 ?qc4 ?qc5 ?qc6 ?_)
  case qc1 => exact cellsL_length xs
  case qc2 =>
    intro j u hj
    exact Lib.cell?_alloc_some _ (unhide H j u hj)
  case qc3 => exact cellsL_one xs
  case qc4 => simp only [maxLen]; omega
  case qc5 => omega
  case qc6 => simp
  intro v' w1 hown hgrow hnil
  go_wp2
  go_ret
  refine ⟨v', rfl, OwnS.of_row (by first | exact hown | (simp only [List.nil_append, Nat.zero_add] at hown; exact hown) | simpa using hown), ?_⟩
  exact ((Below.refl _ w).alloc (Nat.le_refl _) _).grown hgrow (by simp) (by intro k hk; simp [Value.ownBlock] at hk; omega)

set_option maxRecDepth 10000 in
set_option maxHeartbeats 400000 in
theorem clF_nil (n c : Nat) (w : World) :
    Calls Tryz.prog 131 #[.slice none n c] w fun e w' => e = .returned (.slice none 0 0) ∧ w' = w := by
  have q22 : ∀ (w : World) (a : Option Addr) (n c n' c' : Nat), (binOp .eql 22 (.slice a n c) (.slice none n' c')).run Tryz.prog w = .ok (.bool a.isNone) w := fun w a n c n' c' => Lib.run_eql_slice_nil w _ _ a n c n' c' Tryz.underlying22
  go_enter Tryz.func131, Tryz.ntmps131
  go_wp2
  go_ret
  exact ⟨rfl, rfl⟩

theorem clF_any (v : Value) (xs : List DF) (w : World) (hv : SeqV w v xs) (hl : xs.length * 48 ≤ 140737488355328) :
    Calls Tryz.prog 131 #[v] w fun e w' => ∃ v', e = .returned v' ∧ OwnS w' w.heap.size v' xs ∧ Below w.heap.size w w' := by
  rcases hv with ⟨a, cap, rfl, rfl, _⟩ | ⟨b, off, cap, rfl, _, _, hb, _, hr⟩
  · cases a with
    | none => exact (clF_nil 0 cap w).mono fun e w' ⟨he, hw⟩ => ⟨_, he, .inl ⟨rfl, rfl⟩, by rw [hw]; exact Below.refl _ _⟩
    | some a => exact clF_some a cap [] w (by simp) (fun j u h => by simp [cellsL] at h)
  · exact clF_some ⟨b, off, none⟩ cap xs w hl (fun j u h => by rw [Addr.add_lit]; exact hr j u h)

set_option maxRecDepth 10000 in
set_option maxHeartbeats 2000000 in
theorem ownF_any (x : DF) (w : World) (hn : x.n.length ≤ 140737488355328) (hs : x.s.length ≤ 140737488355328) (ht : x.t.length ≤ 140737488355328) :
    Calls Tryz.prog 100 #[.agg #[.string ⟨x.n.toArray⟩, .string ⟨x.s.toArray⟩, .string ⟨x.t.toArray⟩]] w fun e w' => e = .returned (.agg #[.string ⟨x.n.toArray⟩, .string ⟨x.s.toArray⟩, .string ⟨x.t.toArray⟩]) ∧ Below w.heap.size w w' := by
  obtain ⟨xn, xs, xt⟩ := x
  simp only at *
  have Kn := fun W => sclone1_any xn W (by omega)
  have Ks := fun W => sclone1_any xs W (by omega)
  have Kt := fun W => sclone1_any xt W (by omega)
  go_enter Tryz.func100, Tryz.ntmps100
  go_wp2_with fail
  have hB0 : Below w.heap.size w ((w.alloc (.cells #[.string ⟨xn.toArray⟩, .string ⟨xs.toArray⟩, .string ⟨xt.toArray⟩] 72)).alloc (.cells #[.string ⟨#[]⟩, .string ⟨#[]⟩, .string ⟨#[]⟩] 72)) := nnext (allocB _ _) (allocB _ _)
  have hz0 : ((w.alloc (.cells #[.string ⟨xn.toArray⟩, .string ⟨xs.toArray⟩, .string ⟨xt.toArray⟩] 72)).alloc (.cells #[.string ⟨#[]⟩, .string ⟨#[]⟩, .string ⟨#[]⟩] 72)).heap.size = w.heap.size + 2 := by simp
  have p0 : ((w.alloc (.cells #[.string ⟨xn.toArray⟩, .string ⟨xs.toArray⟩, .string ⟨xt.toArray⟩] 72)).alloc (.cells #[.string ⟨#[]⟩, .string ⟨#[]⟩, .string ⟨#[]⟩] 72)).cell? ⟨w.heap.size, 0, none⟩ = some (.string ⟨xn.toArray⟩) := by simp
  have r0 : ((w.alloc (.cells #[.string ⟨xn.toArray⟩, .string ⟨xs.toArray⟩, .string ⟨xt.toArray⟩] 72)).alloc (.cells #[.string ⟨#[]⟩, .string ⟨#[]⟩, .string ⟨#[]⟩] 72)).cell? ⟨w.heap.size + 1, 0, none⟩ = some (.string ⟨#[]⟩) := by simp
  have p1 : ((w.alloc (.cells #[.string ⟨xn.toArray⟩, .string ⟨xs.toArray⟩, .string ⟨xt.toArray⟩] 72)).alloc (.cells #[.string ⟨#[]⟩, .string ⟨#[]⟩, .string ⟨#[]⟩] 72)).cell? ⟨w.heap.size, 1, none⟩ = some (.string ⟨xs.toArray⟩) := by simp
  have r1 : ((w.alloc (.cells #[.string ⟨xn.toArray⟩, .string ⟨xs.toArray⟩, .string ⟨xt.toArray⟩] 72)).alloc (.cells #[.string ⟨#[]⟩, .string ⟨#[]⟩, .string ⟨#[]⟩] 72)).cell? ⟨w.heap.size + 1, 1, none⟩ = some (.string ⟨#[]⟩) := by simp
  have p2 : ((w.alloc (.cells #[.string ⟨xn.toArray⟩, .string ⟨xs.toArray⟩, .string ⟨xt.toArray⟩] 72)).alloc (.cells #[.string ⟨#[]⟩, .string ⟨#[]⟩, .string ⟨#[]⟩] 72)).cell? ⟨w.heap.size, 2, none⟩ = some (.string ⟨xt.toArray⟩) := by simp
  have r2 : ((w.alloc (.cells #[.string ⟨xn.toArray⟩, .string ⟨xs.toArray⟩, .string ⟨xt.toArray⟩] 72)).alloc (.cells #[.string ⟨#[]⟩, .string ⟨#[]⟩, .string ⟨#[]⟩] 72)).cell? ⟨w.heap.size + 1, 2, none⟩ = some (.string ⟨#[]⟩) := by simp
  have pf : ∀ j, ((w.alloc (.cells #[.string ⟨xn.toArray⟩, .string ⟨xs.toArray⟩, .string ⟨xt.toArray⟩] 72)).alloc (.cells #[.string ⟨#[]⟩, .string ⟨#[]⟩, .string ⟨#[]⟩] 72)).frozen? ⟨w.heap.size, j, none⟩ = false := by intro j; simp
  have rf : ∀ j, ((w.alloc (.cells #[.string ⟨xn.toArray⟩, .string ⟨xs.toArray⟩, .string ⟨xt.toArray⟩] 72)).alloc (.cells #[.string ⟨#[]⟩, .string ⟨#[]⟩, .string ⟨#[]⟩] 72)).frozen? ⟨w.heap.size + 1, j, none⟩ = false := by intro j; simp
  generalize (w.alloc (.cells #[.string ⟨xn.toArray⟩, .string ⟨xs.toArray⟩, .string ⟨xt.toArray⟩] 72)).alloc (.cells #[.string ⟨#[]⟩, .string ⟨#[]⟩, .string ⟨#[]⟩] 72) = W0 at *
  have d0 : ∀ d os, (Sort.grow (redrawn W0 d) os).cell? ⟨w.heap.size, 0, none⟩ = some (.string ⟨xn.toArray⟩) := fun d os => cell_regrown p0 d os
  have g0 : ∀ d os, (Sort.grow (redrawn W0 d) os).frozen? ⟨w.heap.size, 0, none⟩ = false := fun d os => by rw [(below_regrown W0 d os).frozen (p := ⟨w.heap.size, 0, none⟩) (by simp only; omega)]; exact pf 0
  have s0 : ∀ d os, (Sort.grow (redrawn W0 d) os).setCell ⟨w.heap.size, 0, none⟩ (.string ⟨xn.toArray⟩) = Sort.grow (redrawn W0 d) os := fun d os => nset_same (d0 d os)
  have c0 := fun d os => Calls.regrown_of (w := W0) (d := d) (os := os) (Kn _)
  have d1 : ∀ d os, (Sort.grow (redrawn W0 d) os).cell? ⟨w.heap.size, 1, none⟩ = some (.string ⟨xs.toArray⟩) := fun d os => cell_regrown p1 d os
  have g1 : ∀ d os, (Sort.grow (redrawn W0 d) os).frozen? ⟨w.heap.size, 1, none⟩ = false := fun d os => by rw [(below_regrown W0 d os).frozen (p := ⟨w.heap.size, 1, none⟩) (by simp only; omega)]; exact pf 1
  have s1 : ∀ d os, (Sort.grow (redrawn W0 d) os).setCell ⟨w.heap.size, 1, none⟩ (.string ⟨xs.toArray⟩) = Sort.grow (redrawn W0 d) os := fun d os => nset_same (d1 d os)
  have c1 := fun d os => Calls.regrown_of (w := W0) (d := d) (os := os) (Ks _)
  have d2 : ∀ d os, (Sort.grow (redrawn W0 d) os).cell? ⟨w.heap.size, 2, none⟩ = some (.string ⟨xt.toArray⟩) := fun d os => cell_regrown p2 d os
  have g2 : ∀ d os, (Sort.grow (redrawn W0 d) os).frozen? ⟨w.heap.size, 2, none⟩ = false := fun d os => by rw [(below_regrown W0 d os).frozen (p := ⟨w.heap.size, 2, none⟩) (by simp only; omega)]; exact pf 2
  have s2 : ∀ d os, (Sort.grow (redrawn W0 d) os).setCell ⟨w.heap.size, 2, none⟩ (.string ⟨xt.toArray⟩) = Sort.grow (redrawn W0 d) os := fun d os => nset_same (d2 d os)
  have c2 := fun d os => Calls.regrown_of (w := W0) (d := d) (os := os) (Kt _)
  refine wp_region_quiet_below (by kernel_rfl) (by kernel_rfl) ?_
  repeat (first | go_big_quiet_step (first | with_reducible exact c0 _ _ | with_reducible exact c1 _ _ | with_reducible exact c2 _ _) | quiet_step (first | with_reducible exact c0 _ _ | with_reducible exact c1 _ _ | with_reducible exact c2 _ _))
  refine wpQuiet_nil ?_
  intro _ hw'
  obtain ⟨⟨dq, osq⟩, hw''⟩ := hw'
  subst hw''
  have hb1 := below_regrown W0 dq osq
  have hB := nnext hB0 hb1
  have e0 := (hb1.cell (p := ⟨w.heap.size, 0, none⟩) (by simp only; omega)).trans p0
  have u0 := (hb1.cell (p := ⟨w.heap.size + 1, 0, none⟩) (by simp only; omega)).trans r0
  have v0 := (hb1.frozen (p := ⟨w.heap.size + 1, 0, none⟩) (by simp only; omega)).trans (rf 0)
  have e1 := (hb1.cell (p := ⟨w.heap.size, 1, none⟩) (by simp only; omega)).trans p1
  have u1 := (hb1.cell (p := ⟨w.heap.size + 1, 1, none⟩) (by simp only; omega)).trans r1
  have v1 := (hb1.frozen (p := ⟨w.heap.size + 1, 1, none⟩) (by simp only; omega)).trans (rf 1)
  have e2 := (hb1.cell (p := ⟨w.heap.size, 2, none⟩) (by simp only; omega)).trans p2
  have u2 := (hb1.cell (p := ⟨w.heap.size + 1, 2, none⟩) (by simp only; omega)).trans r2
  have v2 := (hb1.frozen (p := ⟨w.heap.size + 1, 2, none⟩) (by simp only; omega)).trans (rf 2)
  generalize Sort.grow (redrawn W0 dq) osq = w1 at *
  clear hb1 hB0 hz0 pf rf p0 r0 p1 r1 p2 r2 d0 g0 s0 c0 Kn d1 g1 s1 c1 Ks d2 g2 s2 c2 Kt
  go_wp2_with fail
  refine bodyPost_ret (v := .agg #[.string ⟨xn.toArray⟩, .string ⟨xs.toArray⟩, .string ⟨xt.toArray⟩]) (by simp [results, Tryz.results100, go_sem, u0, u1, u2]) rfl ⟨rfl, ?_⟩
  exact (((hB.setCell (by simp) _).setCell (by simp) _).setCell (by simp) _)

set_option maxRecDepth 10000 in
set_option maxHeartbeats 2000000 in
theorem clT_some (a : Addr) (cap : Nat) (xs : List WTxn) (w : World) (hl : xs.length * 72 ≤ 140737488355328) (hc : ∀ j u, (cellsL xs)[j]? = some u → w.cell? (a.add j) = some u) :
    Calls Tryz.prog 141 #[.slice (some a) xs.length cap] w fun e w' => ∃ v', e = .returned v' ∧ OwnS w' w.heap.size v' xs ∧ Below w.heap.size w w' := by
  have q22 : ∀ (w : World) (a : Option Addr) (n c n' c' : Nat), (binOp .eql 25 (.slice a n c) (.slice none n' c')).run Tryz.prog w = .ok (.bool a.isNone) w := fun w a n c n' c' => Lib.run_eql_slice_nil w _ _ a n c n' c' Tryz.underlying25
  have H := hide hc
  clear hc
  obtain ⟨i0, hi0, hz0, hz1, hz2⟩ := info_txn
  go_enter Tryz.func141, Tryz.ntmps141
  go_wp2_with (at_builtin; refine wpList_append_own _ rfl _ _ 25 rfl w.heap.size 47 i0 _ 7 72 Tryz.underlying25 hi0 hz0 hz1 hz2 rfl (by decide) _ _ _ rfl (World.ownsRow_made w #[] 0 (Nat.le_refl _) (Nat.zero_le _) (by simp)) a xs.length cap (cellsL xs) rfl ?qc1 ?qc2 ?qc3 ?qc4 ?qc5 ?qc6 ?_)
  case qc1 => exact cellsL_length xs
  case qc2 =>
    intro j u hj
    exact Lib.cell?_alloc_some _ (unhide H j u hj)
  case qc3 => exact cellsL_one xs
  case qc4 => simp only [maxLen]; omega
  case qc5 => omega
  case qc6 => simp
  intro v' w1 hown hgrow hnil
  go_wp2
  go_ret
  refine ⟨v', rfl, OwnS.of_row (by first | exact hown | (simp only [List.nil_append, Nat.zero_add] at hown; exact hown) | simpa using hown), ?_⟩
  exact ((Below.refl _ w).alloc (Nat.le_refl _) _).grown hgrow (by simp) (by intro k hk; simp [Value.ownBlock] at hk; omega)

set_option maxRecDepth 10000 in
set_option maxHeartbeats 400000 in
theorem clT_nil (n c : Nat) (w : World) :
    Calls Tryz.prog 141 #[.slice none n c] w fun e w' => e = .returned (.slice none 0 0) ∧ w' = w := by
  have q22 : ∀ (w : World) (a : Option Addr) (n c n' c' : Nat), (binOp .eql 25 (.slice a n c) (.slice none n' c')).run Tryz.prog w = .ok (.bool a.isNone) w := fun w a n c n' c' => Lib.run_eql_slice_nil w _ _ a n c n' c' Tryz.underlying25
  go_enter Tryz.func141, Tryz.ntmps141
  go_wp2
  go_ret
  exact ⟨rfl, rfl⟩

theorem clT_any (v : Value) (xs : List WTxn) (w : World) (hv : SeqV w v xs) (hl : xs.length * 72 ≤ 140737488355328) :
    Calls Tryz.prog 141 #[v] w fun e w' => ∃ v', e = .returned v' ∧ OwnS w' w.heap.size v' xs ∧ Below w.heap.size w w' := by
  rcases hv with ⟨a, cap, rfl, rfl, _⟩ | ⟨b, off, cap, rfl, _, _, hb, _, hr⟩
  · cases a with
    | none => exact (clT_nil 0 cap w).mono fun e w' ⟨he, hw⟩ => ⟨_, he, .inl ⟨rfl, rfl⟩, by rw [hw]; exact Below.refl _ _⟩
    | some a => exact clT_some a cap [] w (by simp) (fun j u h => by simp [cellsL] at h)
  · exact clT_some ⟨b, off, none⟩ cap xs w hl (fun j u h => by rw [Addr.add_lit]; exact hr j u h)

set_option maxRecDepth 10000 in
set_option maxHeartbeats 2000000 in
theorem ownT_any (x : WTxn) (w : World) (hp : x.p.length ≤ 140737488355328) (hd : x.d.length ≤ 140737488355328) :
    Calls Tryz.prog 98 #[.agg #[.int .i64 x.z, .int .i64 x.o, .int .i64 x.s, .string ⟨x.p.toArray⟩, .string ⟨x.d.toArray⟩, .int .i64 x.v, .int .i64 x.w]] w fun e w' => e = .returned (.agg #[.int .i64 x.z, .int .i64 x.o, .int .i64 x.s, .string ⟨x.p.toArray⟩, .string ⟨x.d.toArray⟩, .int .i64 x.v, .int .i64 x.w]) ∧ Below w.heap.size w w' := by
  obtain ⟨xz, xo, xs, xp, xd, xv, xw⟩ := x
  simp only at *
  have Kp := fun W => sclone1_any xp W (by omega)
  have Kd := fun W => sclone1_any xd W (by omega)
  go_enter Tryz.func98, Tryz.ntmps98
  go_wp2_with fail
  have hB0 : Below w.heap.size w ((w.alloc (.cells #[.int .i64 xz, .int .i64 xo, .int .i64 xs, .string ⟨xp.toArray⟩, .string ⟨xd.toArray⟩, .int .i64 xv, .int .i64 xw] 47)).alloc (.cells #[.int .i64 0, .int .i64 0, .int .i64 0, .string ⟨#[]⟩, .string ⟨#[]⟩, .int .i64 0, .int .i64 0] 47)) := nnext (allocB _ _) (allocB _ _)
  have hz0 : ((w.alloc (.cells #[.int .i64 xz, .int .i64 xo, .int .i64 xs, .string ⟨xp.toArray⟩, .string ⟨xd.toArray⟩, .int .i64 xv, .int .i64 xw] 47)).alloc (.cells #[.int .i64 0, .int .i64 0, .int .i64 0, .string ⟨#[]⟩, .string ⟨#[]⟩, .int .i64 0, .int .i64 0] 47)).heap.size = w.heap.size + 2 := by simp
  have p0 : ((w.alloc (.cells #[.int .i64 xz, .int .i64 xo, .int .i64 xs, .string ⟨xp.toArray⟩, .string ⟨xd.toArray⟩, .int .i64 xv, .int .i64 xw] 47)).alloc (.cells #[.int .i64 0, .int .i64 0, .int .i64 0, .string ⟨#[]⟩, .string ⟨#[]⟩, .int .i64 0, .int .i64 0] 47)).cell? ⟨w.heap.size, 0, none⟩ = some (.int .i64 xz) := by simp
  have r0 : ((w.alloc (.cells #[.int .i64 xz, .int .i64 xo, .int .i64 xs, .string ⟨xp.toArray⟩, .string ⟨xd.toArray⟩, .int .i64 xv, .int .i64 xw] 47)).alloc (.cells #[.int .i64 0, .int .i64 0, .int .i64 0, .string ⟨#[]⟩, .string ⟨#[]⟩, .int .i64 0, .int .i64 0] 47)).cell? ⟨w.heap.size + 1, 0, none⟩ = some (.int .i64 0) := by simp
  have p1 : ((w.alloc (.cells #[.int .i64 xz, .int .i64 xo, .int .i64 xs, .string ⟨xp.toArray⟩, .string ⟨xd.toArray⟩, .int .i64 xv, .int .i64 xw] 47)).alloc (.cells #[.int .i64 0, .int .i64 0, .int .i64 0, .string ⟨#[]⟩, .string ⟨#[]⟩, .int .i64 0, .int .i64 0] 47)).cell? ⟨w.heap.size, 1, none⟩ = some (.int .i64 xo) := by simp
  have r1 : ((w.alloc (.cells #[.int .i64 xz, .int .i64 xo, .int .i64 xs, .string ⟨xp.toArray⟩, .string ⟨xd.toArray⟩, .int .i64 xv, .int .i64 xw] 47)).alloc (.cells #[.int .i64 0, .int .i64 0, .int .i64 0, .string ⟨#[]⟩, .string ⟨#[]⟩, .int .i64 0, .int .i64 0] 47)).cell? ⟨w.heap.size + 1, 1, none⟩ = some (.int .i64 0) := by simp
  have p2 : ((w.alloc (.cells #[.int .i64 xz, .int .i64 xo, .int .i64 xs, .string ⟨xp.toArray⟩, .string ⟨xd.toArray⟩, .int .i64 xv, .int .i64 xw] 47)).alloc (.cells #[.int .i64 0, .int .i64 0, .int .i64 0, .string ⟨#[]⟩, .string ⟨#[]⟩, .int .i64 0, .int .i64 0] 47)).cell? ⟨w.heap.size, 2, none⟩ = some (.int .i64 xs) := by simp
  have r2 : ((w.alloc (.cells #[.int .i64 xz, .int .i64 xo, .int .i64 xs, .string ⟨xp.toArray⟩, .string ⟨xd.toArray⟩, .int .i64 xv, .int .i64 xw] 47)).alloc (.cells #[.int .i64 0, .int .i64 0, .int .i64 0, .string ⟨#[]⟩, .string ⟨#[]⟩, .int .i64 0, .int .i64 0] 47)).cell? ⟨w.heap.size + 1, 2, none⟩ = some (.int .i64 0) := by simp
  have p3 : ((w.alloc (.cells #[.int .i64 xz, .int .i64 xo, .int .i64 xs, .string ⟨xp.toArray⟩, .string ⟨xd.toArray⟩, .int .i64 xv, .int .i64 xw] 47)).alloc (.cells #[.int .i64 0, .int .i64 0, .int .i64 0, .string ⟨#[]⟩, .string ⟨#[]⟩, .int .i64 0, .int .i64 0] 47)).cell? ⟨w.heap.size, 3, none⟩ = some (.string ⟨xp.toArray⟩) := by simp
  have r3 : ((w.alloc (.cells #[.int .i64 xz, .int .i64 xo, .int .i64 xs, .string ⟨xp.toArray⟩, .string ⟨xd.toArray⟩, .int .i64 xv, .int .i64 xw] 47)).alloc (.cells #[.int .i64 0, .int .i64 0, .int .i64 0, .string ⟨#[]⟩, .string ⟨#[]⟩, .int .i64 0, .int .i64 0] 47)).cell? ⟨w.heap.size + 1, 3, none⟩ = some (.string ⟨#[]⟩) := by simp
  have p4 : ((w.alloc (.cells #[.int .i64 xz, .int .i64 xo, .int .i64 xs, .string ⟨xp.toArray⟩, .string ⟨xd.toArray⟩, .int .i64 xv, .int .i64 xw] 47)).alloc (.cells #[.int .i64 0, .int .i64 0, .int .i64 0, .string ⟨#[]⟩, .string ⟨#[]⟩, .int .i64 0, .int .i64 0] 47)).cell? ⟨w.heap.size, 4, none⟩ = some (.string ⟨xd.toArray⟩) := by simp
  have r4 : ((w.alloc (.cells #[.int .i64 xz, .int .i64 xo, .int .i64 xs, .string ⟨xp.toArray⟩, .string ⟨xd.toArray⟩, .int .i64 xv, .int .i64 xw] 47)).alloc (.cells #[.int .i64 0, .int .i64 0, .int .i64 0, .string ⟨#[]⟩, .string ⟨#[]⟩, .int .i64 0, .int .i64 0] 47)).cell? ⟨w.heap.size + 1, 4, none⟩ = some (.string ⟨#[]⟩) := by simp
  have p5 : ((w.alloc (.cells #[.int .i64 xz, .int .i64 xo, .int .i64 xs, .string ⟨xp.toArray⟩, .string ⟨xd.toArray⟩, .int .i64 xv, .int .i64 xw] 47)).alloc (.cells #[.int .i64 0, .int .i64 0, .int .i64 0, .string ⟨#[]⟩, .string ⟨#[]⟩, .int .i64 0, .int .i64 0] 47)).cell? ⟨w.heap.size, 5, none⟩ = some (.int .i64 xv) := by simp
  have r5 : ((w.alloc (.cells #[.int .i64 xz, .int .i64 xo, .int .i64 xs, .string ⟨xp.toArray⟩, .string ⟨xd.toArray⟩, .int .i64 xv, .int .i64 xw] 47)).alloc (.cells #[.int .i64 0, .int .i64 0, .int .i64 0, .string ⟨#[]⟩, .string ⟨#[]⟩, .int .i64 0, .int .i64 0] 47)).cell? ⟨w.heap.size + 1, 5, none⟩ = some (.int .i64 0) := by simp
  have p6 : ((w.alloc (.cells #[.int .i64 xz, .int .i64 xo, .int .i64 xs, .string ⟨xp.toArray⟩, .string ⟨xd.toArray⟩, .int .i64 xv, .int .i64 xw] 47)).alloc (.cells #[.int .i64 0, .int .i64 0, .int .i64 0, .string ⟨#[]⟩, .string ⟨#[]⟩, .int .i64 0, .int .i64 0] 47)).cell? ⟨w.heap.size, 6, none⟩ = some (.int .i64 xw) := by simp
  have r6 : ((w.alloc (.cells #[.int .i64 xz, .int .i64 xo, .int .i64 xs, .string ⟨xp.toArray⟩, .string ⟨xd.toArray⟩, .int .i64 xv, .int .i64 xw] 47)).alloc (.cells #[.int .i64 0, .int .i64 0, .int .i64 0, .string ⟨#[]⟩, .string ⟨#[]⟩, .int .i64 0, .int .i64 0] 47)).cell? ⟨w.heap.size + 1, 6, none⟩ = some (.int .i64 0) := by simp
  have pf : ∀ j, ((w.alloc (.cells #[.int .i64 xz, .int .i64 xo, .int .i64 xs, .string ⟨xp.toArray⟩, .string ⟨xd.toArray⟩, .int .i64 xv, .int .i64 xw] 47)).alloc (.cells #[.int .i64 0, .int .i64 0, .int .i64 0, .string ⟨#[]⟩, .string ⟨#[]⟩, .int .i64 0, .int .i64 0] 47)).frozen? ⟨w.heap.size, j, none⟩ = false := by intro j; simp
  have rf : ∀ j, ((w.alloc (.cells #[.int .i64 xz, .int .i64 xo, .int .i64 xs, .string ⟨xp.toArray⟩, .string ⟨xd.toArray⟩, .int .i64 xv, .int .i64 xw] 47)).alloc (.cells #[.int .i64 0, .int .i64 0, .int .i64 0, .string ⟨#[]⟩, .string ⟨#[]⟩, .int .i64 0, .int .i64 0] 47)).frozen? ⟨w.heap.size + 1, j, none⟩ = false := by intro j; simp
  generalize (w.alloc (.cells #[.int .i64 xz, .int .i64 xo, .int .i64 xs, .string ⟨xp.toArray⟩, .string ⟨xd.toArray⟩, .int .i64 xv, .int .i64 xw] 47)).alloc (.cells #[.int .i64 0, .int .i64 0, .int .i64 0, .string ⟨#[]⟩, .string ⟨#[]⟩, .int .i64 0, .int .i64 0] 47) = W0 at *
  have d3 : ∀ d os, (Sort.grow (redrawn W0 d) os).cell? ⟨w.heap.size, 3, none⟩ = some (.string ⟨xp.toArray⟩) := fun d os => cell_regrown p3 d os
  have g3 : ∀ d os, (Sort.grow (redrawn W0 d) os).frozen? ⟨w.heap.size, 3, none⟩ = false := fun d os => by rw [(below_regrown W0 d os).frozen (p := ⟨w.heap.size, 3, none⟩) (by simp only; omega)]; exact pf 3
  have s3 : ∀ d os, (Sort.grow (redrawn W0 d) os).setCell ⟨w.heap.size, 3, none⟩ (.string ⟨xp.toArray⟩) = Sort.grow (redrawn W0 d) os := fun d os => nset_same (d3 d os)
  have c3 := fun d os => Calls.regrown_of (w := W0) (d := d) (os := os) (Kp _)
  have d4 : ∀ d os, (Sort.grow (redrawn W0 d) os).cell? ⟨w.heap.size, 4, none⟩ = some (.string ⟨xd.toArray⟩) := fun d os => cell_regrown p4 d os
  have g4 : ∀ d os, (Sort.grow (redrawn W0 d) os).frozen? ⟨w.heap.size, 4, none⟩ = false := fun d os => by rw [(below_regrown W0 d os).frozen (p := ⟨w.heap.size, 4, none⟩) (by simp only; omega)]; exact pf 4
  have s4 : ∀ d os, (Sort.grow (redrawn W0 d) os).setCell ⟨w.heap.size, 4, none⟩ (.string ⟨xd.toArray⟩) = Sort.grow (redrawn W0 d) os := fun d os => nset_same (d4 d os)
  have c4 := fun d os => Calls.regrown_of (w := W0) (d := d) (os := os) (Kd _)
  refine wp_region_quiet_below (by kernel_rfl) (by kernel_rfl) ?_
  repeat (first | go_big_quiet_step (first | with_reducible exact c3 _ _ | with_reducible exact c4 _ _) | quiet_step (first | with_reducible exact c3 _ _ | with_reducible exact c4 _ _))
  refine wpQuiet_nil ?_
  intro _ hw'
  obtain ⟨⟨dq, osq⟩, hw''⟩ := hw'
  subst hw''
  have hb1 := below_regrown W0 dq osq
  have hB := nnext hB0 hb1
  have e0 := (hb1.cell (p := ⟨w.heap.size, 0, none⟩) (by simp only; omega)).trans p0
  have u0 := (hb1.cell (p := ⟨w.heap.size + 1, 0, none⟩) (by simp only; omega)).trans r0
  have v0 := (hb1.frozen (p := ⟨w.heap.size + 1, 0, none⟩) (by simp only; omega)).trans (rf 0)
  have e1 := (hb1.cell (p := ⟨w.heap.size, 1, none⟩) (by simp only; omega)).trans p1
  have u1 := (hb1.cell (p := ⟨w.heap.size + 1, 1, none⟩) (by simp only; omega)).trans r1
  have v1 := (hb1.frozen (p := ⟨w.heap.size + 1, 1, none⟩) (by simp only; omega)).trans (rf 1)
  have e2 := (hb1.cell (p := ⟨w.heap.size, 2, none⟩) (by simp only; omega)).trans p2
  have u2 := (hb1.cell (p := ⟨w.heap.size + 1, 2, none⟩) (by simp only; omega)).trans r2
  have v2 := (hb1.frozen (p := ⟨w.heap.size + 1, 2, none⟩) (by simp only; omega)).trans (rf 2)
  have e3 := (hb1.cell (p := ⟨w.heap.size, 3, none⟩) (by simp only; omega)).trans p3
  have u3 := (hb1.cell (p := ⟨w.heap.size + 1, 3, none⟩) (by simp only; omega)).trans r3
  have v3 := (hb1.frozen (p := ⟨w.heap.size + 1, 3, none⟩) (by simp only; omega)).trans (rf 3)
  have e4 := (hb1.cell (p := ⟨w.heap.size, 4, none⟩) (by simp only; omega)).trans p4
  have u4 := (hb1.cell (p := ⟨w.heap.size + 1, 4, none⟩) (by simp only; omega)).trans r4
  have v4 := (hb1.frozen (p := ⟨w.heap.size + 1, 4, none⟩) (by simp only; omega)).trans (rf 4)
  have e5 := (hb1.cell (p := ⟨w.heap.size, 5, none⟩) (by simp only; omega)).trans p5
  have u5 := (hb1.cell (p := ⟨w.heap.size + 1, 5, none⟩) (by simp only; omega)).trans r5
  have v5 := (hb1.frozen (p := ⟨w.heap.size + 1, 5, none⟩) (by simp only; omega)).trans (rf 5)
  have e6 := (hb1.cell (p := ⟨w.heap.size, 6, none⟩) (by simp only; omega)).trans p6
  have u6 := (hb1.cell (p := ⟨w.heap.size + 1, 6, none⟩) (by simp only; omega)).trans r6
  have v6 := (hb1.frozen (p := ⟨w.heap.size + 1, 6, none⟩) (by simp only; omega)).trans (rf 6)
  generalize Sort.grow (redrawn W0 dq) osq = w1 at *
  clear hb1 hB0 hz0 pf rf p0 r0 p1 r1 p2 r2 p3 r3 p4 r4 p5 r5 p6 r6 d3 g3 s3 c3 Kp d4 g4 s4 c4 Kd
  go_wp2_with fail
  refine bodyPost_ret (v := .agg #[.int .i64 xz, .int .i64 xo, .int .i64 xs, .string ⟨xp.toArray⟩, .string ⟨xd.toArray⟩, .int .i64 xv, .int .i64 xw]) (by simp [results, Tryz.results98, go_sem, u0, u1, u2, u3, u4, u5, u6]) rfl ⟨rfl, ?_⟩
  exact (((((((hB.setCell (by simp) _).setCell (by simp) _).setCell (by simp) _).setCell (by simp) _).setCell (by simp) _).setCell (by simp) _).setCell (by simp) _)

set_option maxRecDepth 10000 in
set_option maxHeartbeats 2000000 in
theorem clN_some (a : Addr) (cap : Nat) (xs : List Nd) (w : World) (hl : xs.length * 88 ≤ 140737488355328) (hc : ∀ j u, (cellsL xs)[j]? = some u → w.cell? (a.add j) = some u) :
    Calls Tryz.prog 142 #[.slice (some a) xs.length cap] w fun e w' => ∃ v', e = .returned v' ∧ OwnS w' w.heap.size v' xs ∧ Below w.heap.size w w' := by
  have q22 : ∀ (w : World) (a : Option Addr) (n c n' c' : Nat), (binOp .eql 28 (.slice a n c) (.slice none n' c')).run Tryz.prog w = .ok (.bool a.isNone) w := fun w a n c n' c' => Lib.run_eql_slice_nil w _ _ a n c n' c' Tryz.underlying28
  have H := hide hc
  clear hc
  obtain ⟨i0, hi0, hz0, hz1, hz2⟩ := ninfo
  go_enter Tryz.func142, Tryz.ntmps142
  go_wp2_with (at_builtin; refine wpList_append_own _ rfl _ _ 28 rfl w.heap.size 97 i0 _ 9 88 Tryz.underlying28 hi0 hz0 hz1 hz2 rfl (by decide) _ _ _ rfl (World.ownsRow_made w #[] 0 (Nat.le_refl _) (Nat.zero_le _) (by simp)) a xs.length cap (cellsL xs) rfl ?qc1 ?qc2 ?qc3 ?qc4 ?qc5 ?qc6 ?_)
  case qc1 => exact cellsL_length xs
  case qc2 =>
    intro j u hj
    exact Lib.cell?_alloc_some _ (unhide H j u hj)
  case qc3 => exact cellsL_one xs
  case qc4 => simp only [maxLen]; omega
  case qc5 => omega
  case qc6 => simp
  intro v' w1 hown hgrow hnil
  go_wp2
  go_ret
  refine ⟨v', rfl, OwnS.of_row (by first | exact hown | (simp only [List.nil_append, Nat.zero_add] at hown; exact hown) | simpa using hown), ?_⟩
  exact ((Below.refl _ w).alloc (Nat.le_refl _) _).grown hgrow (by simp) (by intro k hk; simp [Value.ownBlock] at hk; omega)

set_option maxRecDepth 10000 in
set_option maxHeartbeats 400000 in
theorem clN_nil (n c : Nat) (w : World) :
    Calls Tryz.prog 142 #[.slice none n c] w fun e w' => e = .returned (.slice none 0 0) ∧ w' = w := by
  have q22 : ∀ (w : World) (a : Option Addr) (n c n' c' : Nat), (binOp .eql 28 (.slice a n c) (.slice none n' c')).run Tryz.prog w = .ok (.bool a.isNone) w := fun w a n c n' c' => Lib.run_eql_slice_nil w _ _ a n c n' c' Tryz.underlying28
  go_enter Tryz.func142, Tryz.ntmps142
  go_wp2
  go_ret
  exact ⟨rfl, rfl⟩

theorem clN_any (v : Value) (xs : List Nd) (w : World) (hv : SeqV w v xs) (hl : xs.length * 88 ≤ 140737488355328) :
    Calls Tryz.prog 142 #[v] w fun e w' => ∃ v', e = .returned v' ∧ OwnS w' w.heap.size v' xs ∧ Below w.heap.size w w' := by
  rcases hv with ⟨a, cap, rfl, rfl, _⟩ | ⟨b, off, cap, rfl, _, _, hb, _, hr⟩
  · cases a with
    | none => exact (clN_nil 0 cap w).mono fun e w' ⟨he, hw⟩ => ⟨_, he, .inl ⟨rfl, rfl⟩, by rw [hw]; exact Below.refl _ _⟩
    | some a => exact clN_some a cap [] w (by simp) (fun j u h => by simp [cellsL] at h)
  · exact clN_some ⟨b, off, none⟩ cap xs w hl (fun j u h => by rw [Addr.add_lit]; exact hr j u h)

set_option maxRecDepth 10000 in
set_option maxHeartbeats 2000000 in
theorem ownN_any (x : Nd) (w : World) (hp : x.p.length ≤ 140737488355328) (hd : x.d.length ≤ 140737488355328) :
    Calls Tryz.prog 103 #[.agg #[.string ⟨x.p.toArray⟩, .string ⟨x.d.toArray⟩, .int .i64 x.c, .int .i64 x.m, .int .i64 x.q, .int .i64 x.v, .int .i64 x.k, .int .i64 x.o, .int .i64 x.n]] w fun e w' => e = .returned (.agg #[.string ⟨x.p.toArray⟩, .string ⟨x.d.toArray⟩, .int .i64 x.c, .int .i64 x.m, .int .i64 x.q, .int .i64 x.v, .int .i64 x.k, .int .i64 x.o, .int .i64 x.n]) ∧ Below w.heap.size w w' := by
  obtain ⟨xp, xd, xc, xm, xq, xv, xk, xo, xn⟩ := x
  simp only at *
  have Kp := fun W => sclone1_any xp W (by omega)
  have Kd := fun W => sclone1_any xd W (by omega)
  go_enter Tryz.func103, Tryz.ntmps103
  go_wp2_with fail
  have hB0 : Below w.heap.size w ((w.alloc (.cells #[.string ⟨xp.toArray⟩, .string ⟨xd.toArray⟩, .int .i64 xc, .int .i64 xm, .int .i64 xq, .int .i64 xv, .int .i64 xk, .int .i64 xo, .int .i64 xn] 97)).alloc (.cells #[.string ⟨#[]⟩, .string ⟨#[]⟩, .int .i64 0, .int .i64 0, .int .i64 0, .int .i64 0, .int .i64 0, .int .i64 0, .int .i64 0] 97)) := nnext (allocB _ _) (allocB _ _)
  have hz0 : ((w.alloc (.cells #[.string ⟨xp.toArray⟩, .string ⟨xd.toArray⟩, .int .i64 xc, .int .i64 xm, .int .i64 xq, .int .i64 xv, .int .i64 xk, .int .i64 xo, .int .i64 xn] 97)).alloc (.cells #[.string ⟨#[]⟩, .string ⟨#[]⟩, .int .i64 0, .int .i64 0, .int .i64 0, .int .i64 0, .int .i64 0, .int .i64 0, .int .i64 0] 97)).heap.size = w.heap.size + 2 := by simp
  have p0 : ((w.alloc (.cells #[.string ⟨xp.toArray⟩, .string ⟨xd.toArray⟩, .int .i64 xc, .int .i64 xm, .int .i64 xq, .int .i64 xv, .int .i64 xk, .int .i64 xo, .int .i64 xn] 97)).alloc (.cells #[.string ⟨#[]⟩, .string ⟨#[]⟩, .int .i64 0, .int .i64 0, .int .i64 0, .int .i64 0, .int .i64 0, .int .i64 0, .int .i64 0] 97)).cell? ⟨w.heap.size, 0, none⟩ = some (.string ⟨xp.toArray⟩) := by simp
  have r0 : ((w.alloc (.cells #[.string ⟨xp.toArray⟩, .string ⟨xd.toArray⟩, .int .i64 xc, .int .i64 xm, .int .i64 xq, .int .i64 xv, .int .i64 xk, .int .i64 xo, .int .i64 xn] 97)).alloc (.cells #[.string ⟨#[]⟩, .string ⟨#[]⟩, .int .i64 0, .int .i64 0, .int .i64 0, .int .i64 0, .int .i64 0, .int .i64 0, .int .i64 0] 97)).cell? ⟨w.heap.size + 1, 0, none⟩ = some (.string ⟨#[]⟩) := by simp
  have p1 : ((w.alloc (.cells #[.string ⟨xp.toArray⟩, .string ⟨xd.toArray⟩, .int .i64 xc, .int .i64 xm, .int .i64 xq, .int .i64 xv, .int .i64 xk, .int .i64 xo, .int .i64 xn] 97)).alloc (.cells #[.string ⟨#[]⟩, .string ⟨#[]⟩, .int .i64 0, .int .i64 0, .int .i64 0, .int .i64 0, .int .i64 0, .int .i64 0, .int .i64 0] 97)).cell? ⟨w.heap.size, 1, none⟩ = some (.string ⟨xd.toArray⟩) := by simp
  have r1 : ((w.alloc (.cells #[.string ⟨xp.toArray⟩, .string ⟨xd.toArray⟩, .int .i64 xc, .int .i64 xm, .int .i64 xq, .int .i64 xv, .int .i64 xk, .int .i64 xo, .int .i64 xn] 97)).alloc (.cells #[.string ⟨#[]⟩, .string ⟨#[]⟩, .int .i64 0, .int .i64 0, .int .i64 0, .int .i64 0, .int .i64 0, .int .i64 0, .int .i64 0] 97)).cell? ⟨w.heap.size + 1, 1, none⟩ = some (.string ⟨#[]⟩) := by simp
  have p2 : ((w.alloc (.cells #[.string ⟨xp.toArray⟩, .string ⟨xd.toArray⟩, .int .i64 xc, .int .i64 xm, .int .i64 xq, .int .i64 xv, .int .i64 xk, .int .i64 xo, .int .i64 xn] 97)).alloc (.cells #[.string ⟨#[]⟩, .string ⟨#[]⟩, .int .i64 0, .int .i64 0, .int .i64 0, .int .i64 0, .int .i64 0, .int .i64 0, .int .i64 0] 97)).cell? ⟨w.heap.size, 2, none⟩ = some (.int .i64 xc) := by simp
  have r2 : ((w.alloc (.cells #[.string ⟨xp.toArray⟩, .string ⟨xd.toArray⟩, .int .i64 xc, .int .i64 xm, .int .i64 xq, .int .i64 xv, .int .i64 xk, .int .i64 xo, .int .i64 xn] 97)).alloc (.cells #[.string ⟨#[]⟩, .string ⟨#[]⟩, .int .i64 0, .int .i64 0, .int .i64 0, .int .i64 0, .int .i64 0, .int .i64 0, .int .i64 0] 97)).cell? ⟨w.heap.size + 1, 2, none⟩ = some (.int .i64 0) := by simp
  have p3 : ((w.alloc (.cells #[.string ⟨xp.toArray⟩, .string ⟨xd.toArray⟩, .int .i64 xc, .int .i64 xm, .int .i64 xq, .int .i64 xv, .int .i64 xk, .int .i64 xo, .int .i64 xn] 97)).alloc (.cells #[.string ⟨#[]⟩, .string ⟨#[]⟩, .int .i64 0, .int .i64 0, .int .i64 0, .int .i64 0, .int .i64 0, .int .i64 0, .int .i64 0] 97)).cell? ⟨w.heap.size, 3, none⟩ = some (.int .i64 xm) := by simp
  have r3 : ((w.alloc (.cells #[.string ⟨xp.toArray⟩, .string ⟨xd.toArray⟩, .int .i64 xc, .int .i64 xm, .int .i64 xq, .int .i64 xv, .int .i64 xk, .int .i64 xo, .int .i64 xn] 97)).alloc (.cells #[.string ⟨#[]⟩, .string ⟨#[]⟩, .int .i64 0, .int .i64 0, .int .i64 0, .int .i64 0, .int .i64 0, .int .i64 0, .int .i64 0] 97)).cell? ⟨w.heap.size + 1, 3, none⟩ = some (.int .i64 0) := by simp
  have p4 : ((w.alloc (.cells #[.string ⟨xp.toArray⟩, .string ⟨xd.toArray⟩, .int .i64 xc, .int .i64 xm, .int .i64 xq, .int .i64 xv, .int .i64 xk, .int .i64 xo, .int .i64 xn] 97)).alloc (.cells #[.string ⟨#[]⟩, .string ⟨#[]⟩, .int .i64 0, .int .i64 0, .int .i64 0, .int .i64 0, .int .i64 0, .int .i64 0, .int .i64 0] 97)).cell? ⟨w.heap.size, 4, none⟩ = some (.int .i64 xq) := by simp
  have r4 : ((w.alloc (.cells #[.string ⟨xp.toArray⟩, .string ⟨xd.toArray⟩, .int .i64 xc, .int .i64 xm, .int .i64 xq, .int .i64 xv, .int .i64 xk, .int .i64 xo, .int .i64 xn] 97)).alloc (.cells #[.string ⟨#[]⟩, .string ⟨#[]⟩, .int .i64 0, .int .i64 0, .int .i64 0, .int .i64 0, .int .i64 0, .int .i64 0, .int .i64 0] 97)).cell? ⟨w.heap.size + 1, 4, none⟩ = some (.int .i64 0) := by simp
  have p5 : ((w.alloc (.cells #[.string ⟨xp.toArray⟩, .string ⟨xd.toArray⟩, .int .i64 xc, .int .i64 xm, .int .i64 xq, .int .i64 xv, .int .i64 xk, .int .i64 xo, .int .i64 xn] 97)).alloc (.cells #[.string ⟨#[]⟩, .string ⟨#[]⟩, .int .i64 0, .int .i64 0, .int .i64 0, .int .i64 0, .int .i64 0, .int .i64 0, .int .i64 0] 97)).cell? ⟨w.heap.size, 5, none⟩ = some (.int .i64 xv) := by simp
  have r5 : ((w.alloc (.cells #[.string ⟨xp.toArray⟩, .string ⟨xd.toArray⟩, .int .i64 xc, .int .i64 xm, .int .i64 xq, .int .i64 xv, .int .i64 xk, .int .i64 xo, .int .i64 xn] 97)).alloc (.cells #[.string ⟨#[]⟩, .string ⟨#[]⟩, .int .i64 0, .int .i64 0, .int .i64 0, .int .i64 0, .int .i64 0, .int .i64 0, .int .i64 0] 97)).cell? ⟨w.heap.size + 1, 5, none⟩ = some (.int .i64 0) := by simp
  have p6 : ((w.alloc (.cells #[.string ⟨xp.toArray⟩, .string ⟨xd.toArray⟩, .int .i64 xc, .int .i64 xm, .int .i64 xq, .int .i64 xv, .int .i64 xk, .int .i64 xo, .int .i64 xn] 97)).alloc (.cells #[.string ⟨#[]⟩, .string ⟨#[]⟩, .int .i64 0, .int .i64 0, .int .i64 0, .int .i64 0, .int .i64 0, .int .i64 0, .int .i64 0] 97)).cell? ⟨w.heap.size, 6, none⟩ = some (.int .i64 xk) := by simp
  have r6 : ((w.alloc (.cells #[.string ⟨xp.toArray⟩, .string ⟨xd.toArray⟩, .int .i64 xc, .int .i64 xm, .int .i64 xq, .int .i64 xv, .int .i64 xk, .int .i64 xo, .int .i64 xn] 97)).alloc (.cells #[.string ⟨#[]⟩, .string ⟨#[]⟩, .int .i64 0, .int .i64 0, .int .i64 0, .int .i64 0, .int .i64 0, .int .i64 0, .int .i64 0] 97)).cell? ⟨w.heap.size + 1, 6, none⟩ = some (.int .i64 0) := by simp
  have p7 : ((w.alloc (.cells #[.string ⟨xp.toArray⟩, .string ⟨xd.toArray⟩, .int .i64 xc, .int .i64 xm, .int .i64 xq, .int .i64 xv, .int .i64 xk, .int .i64 xo, .int .i64 xn] 97)).alloc (.cells #[.string ⟨#[]⟩, .string ⟨#[]⟩, .int .i64 0, .int .i64 0, .int .i64 0, .int .i64 0, .int .i64 0, .int .i64 0, .int .i64 0] 97)).cell? ⟨w.heap.size, 7, none⟩ = some (.int .i64 xo) := by simp
  have r7 : ((w.alloc (.cells #[.string ⟨xp.toArray⟩, .string ⟨xd.toArray⟩, .int .i64 xc, .int .i64 xm, .int .i64 xq, .int .i64 xv, .int .i64 xk, .int .i64 xo, .int .i64 xn] 97)).alloc (.cells #[.string ⟨#[]⟩, .string ⟨#[]⟩, .int .i64 0, .int .i64 0, .int .i64 0, .int .i64 0, .int .i64 0, .int .i64 0, .int .i64 0] 97)).cell? ⟨w.heap.size + 1, 7, none⟩ = some (.int .i64 0) := by simp
  have p8 : ((w.alloc (.cells #[.string ⟨xp.toArray⟩, .string ⟨xd.toArray⟩, .int .i64 xc, .int .i64 xm, .int .i64 xq, .int .i64 xv, .int .i64 xk, .int .i64 xo, .int .i64 xn] 97)).alloc (.cells #[.string ⟨#[]⟩, .string ⟨#[]⟩, .int .i64 0, .int .i64 0, .int .i64 0, .int .i64 0, .int .i64 0, .int .i64 0, .int .i64 0] 97)).cell? ⟨w.heap.size, 8, none⟩ = some (.int .i64 xn) := by simp
  have r8 : ((w.alloc (.cells #[.string ⟨xp.toArray⟩, .string ⟨xd.toArray⟩, .int .i64 xc, .int .i64 xm, .int .i64 xq, .int .i64 xv, .int .i64 xk, .int .i64 xo, .int .i64 xn] 97)).alloc (.cells #[.string ⟨#[]⟩, .string ⟨#[]⟩, .int .i64 0, .int .i64 0, .int .i64 0, .int .i64 0, .int .i64 0, .int .i64 0, .int .i64 0] 97)).cell? ⟨w.heap.size + 1, 8, none⟩ = some (.int .i64 0) := by simp
  have pf : ∀ j, ((w.alloc (.cells #[.string ⟨xp.toArray⟩, .string ⟨xd.toArray⟩, .int .i64 xc, .int .i64 xm, .int .i64 xq, .int .i64 xv, .int .i64 xk, .int .i64 xo, .int .i64 xn] 97)).alloc (.cells #[.string ⟨#[]⟩, .string ⟨#[]⟩, .int .i64 0, .int .i64 0, .int .i64 0, .int .i64 0, .int .i64 0, .int .i64 0, .int .i64 0] 97)).frozen? ⟨w.heap.size, j, none⟩ = false := by intro j; simp
  have rf : ∀ j, ((w.alloc (.cells #[.string ⟨xp.toArray⟩, .string ⟨xd.toArray⟩, .int .i64 xc, .int .i64 xm, .int .i64 xq, .int .i64 xv, .int .i64 xk, .int .i64 xo, .int .i64 xn] 97)).alloc (.cells #[.string ⟨#[]⟩, .string ⟨#[]⟩, .int .i64 0, .int .i64 0, .int .i64 0, .int .i64 0, .int .i64 0, .int .i64 0, .int .i64 0] 97)).frozen? ⟨w.heap.size + 1, j, none⟩ = false := by intro j; simp
  generalize (w.alloc (.cells #[.string ⟨xp.toArray⟩, .string ⟨xd.toArray⟩, .int .i64 xc, .int .i64 xm, .int .i64 xq, .int .i64 xv, .int .i64 xk, .int .i64 xo, .int .i64 xn] 97)).alloc (.cells #[.string ⟨#[]⟩, .string ⟨#[]⟩, .int .i64 0, .int .i64 0, .int .i64 0, .int .i64 0, .int .i64 0, .int .i64 0, .int .i64 0] 97) = W0 at *
  have d0 : ∀ d os, (Sort.grow (redrawn W0 d) os).cell? ⟨w.heap.size, 0, none⟩ = some (.string ⟨xp.toArray⟩) := fun d os => cell_regrown p0 d os
  have g0 : ∀ d os, (Sort.grow (redrawn W0 d) os).frozen? ⟨w.heap.size, 0, none⟩ = false := fun d os => by rw [(below_regrown W0 d os).frozen (p := ⟨w.heap.size, 0, none⟩) (by simp only; omega)]; exact pf 0
  have s0 : ∀ d os, (Sort.grow (redrawn W0 d) os).setCell ⟨w.heap.size, 0, none⟩ (.string ⟨xp.toArray⟩) = Sort.grow (redrawn W0 d) os := fun d os => nset_same (d0 d os)
  have c0 := fun d os => Calls.regrown_of (w := W0) (d := d) (os := os) (Kp _)
  have d1 : ∀ d os, (Sort.grow (redrawn W0 d) os).cell? ⟨w.heap.size, 1, none⟩ = some (.string ⟨xd.toArray⟩) := fun d os => cell_regrown p1 d os
  have g1 : ∀ d os, (Sort.grow (redrawn W0 d) os).frozen? ⟨w.heap.size, 1, none⟩ = false := fun d os => by rw [(below_regrown W0 d os).frozen (p := ⟨w.heap.size, 1, none⟩) (by simp only; omega)]; exact pf 1
  have s1 : ∀ d os, (Sort.grow (redrawn W0 d) os).setCell ⟨w.heap.size, 1, none⟩ (.string ⟨xd.toArray⟩) = Sort.grow (redrawn W0 d) os := fun d os => nset_same (d1 d os)
  have c1 := fun d os => Calls.regrown_of (w := W0) (d := d) (os := os) (Kd _)
  refine wp_region_quiet_below (by kernel_rfl) (by kernel_rfl) ?_
  repeat (first | go_big_quiet_step (first | with_reducible exact c0 _ _ | with_reducible exact c1 _ _) | quiet_step (first | with_reducible exact c0 _ _ | with_reducible exact c1 _ _))
  refine wpQuiet_nil ?_
  intro _ hw'
  obtain ⟨⟨dq, osq⟩, hw''⟩ := hw'
  subst hw''
  have hb1 := below_regrown W0 dq osq
  have hB := nnext hB0 hb1
  have e0 := (hb1.cell (p := ⟨w.heap.size, 0, none⟩) (by simp only; omega)).trans p0
  have u0 := (hb1.cell (p := ⟨w.heap.size + 1, 0, none⟩) (by simp only; omega)).trans r0
  have v0 := (hb1.frozen (p := ⟨w.heap.size + 1, 0, none⟩) (by simp only; omega)).trans (rf 0)
  have e1 := (hb1.cell (p := ⟨w.heap.size, 1, none⟩) (by simp only; omega)).trans p1
  have u1 := (hb1.cell (p := ⟨w.heap.size + 1, 1, none⟩) (by simp only; omega)).trans r1
  have v1 := (hb1.frozen (p := ⟨w.heap.size + 1, 1, none⟩) (by simp only; omega)).trans (rf 1)
  have e2 := (hb1.cell (p := ⟨w.heap.size, 2, none⟩) (by simp only; omega)).trans p2
  have u2 := (hb1.cell (p := ⟨w.heap.size + 1, 2, none⟩) (by simp only; omega)).trans r2
  have v2 := (hb1.frozen (p := ⟨w.heap.size + 1, 2, none⟩) (by simp only; omega)).trans (rf 2)
  have e3 := (hb1.cell (p := ⟨w.heap.size, 3, none⟩) (by simp only; omega)).trans p3
  have u3 := (hb1.cell (p := ⟨w.heap.size + 1, 3, none⟩) (by simp only; omega)).trans r3
  have v3 := (hb1.frozen (p := ⟨w.heap.size + 1, 3, none⟩) (by simp only; omega)).trans (rf 3)
  have e4 := (hb1.cell (p := ⟨w.heap.size, 4, none⟩) (by simp only; omega)).trans p4
  have u4 := (hb1.cell (p := ⟨w.heap.size + 1, 4, none⟩) (by simp only; omega)).trans r4
  have v4 := (hb1.frozen (p := ⟨w.heap.size + 1, 4, none⟩) (by simp only; omega)).trans (rf 4)
  have e5 := (hb1.cell (p := ⟨w.heap.size, 5, none⟩) (by simp only; omega)).trans p5
  have u5 := (hb1.cell (p := ⟨w.heap.size + 1, 5, none⟩) (by simp only; omega)).trans r5
  have v5 := (hb1.frozen (p := ⟨w.heap.size + 1, 5, none⟩) (by simp only; omega)).trans (rf 5)
  have e6 := (hb1.cell (p := ⟨w.heap.size, 6, none⟩) (by simp only; omega)).trans p6
  have u6 := (hb1.cell (p := ⟨w.heap.size + 1, 6, none⟩) (by simp only; omega)).trans r6
  have v6 := (hb1.frozen (p := ⟨w.heap.size + 1, 6, none⟩) (by simp only; omega)).trans (rf 6)
  have e7 := (hb1.cell (p := ⟨w.heap.size, 7, none⟩) (by simp only; omega)).trans p7
  have u7 := (hb1.cell (p := ⟨w.heap.size + 1, 7, none⟩) (by simp only; omega)).trans r7
  have v7 := (hb1.frozen (p := ⟨w.heap.size + 1, 7, none⟩) (by simp only; omega)).trans (rf 7)
  have e8 := (hb1.cell (p := ⟨w.heap.size, 8, none⟩) (by simp only; omega)).trans p8
  have u8 := (hb1.cell (p := ⟨w.heap.size + 1, 8, none⟩) (by simp only; omega)).trans r8
  have v8 := (hb1.frozen (p := ⟨w.heap.size + 1, 8, none⟩) (by simp only; omega)).trans (rf 8)
  generalize Sort.grow (redrawn W0 dq) osq = w1 at *
  clear hb1 hB0 hz0 pf rf p0 r0 p1 r1 p2 r2 p3 r3 p4 r4 p5 r5 p6 r6 p7 r7 p8 r8 d0 g0 s0 c0 Kp d1 g1 s1 c1 Kd
  go_wp2_with fail
  refine bodyPost_ret (v := .agg #[.string ⟨xp.toArray⟩, .string ⟨xd.toArray⟩, .int .i64 xc, .int .i64 xm, .int .i64 xq, .int .i64 xv, .int .i64 xk, .int .i64 xo, .int .i64 xn]) (by simp [results, Tryz.results103, go_sem, u0, u1, u2, u3, u4, u5, u6, u7, u8]) rfl ⟨rfl, ?_⟩
  exact (((((((((hB.setCell (by simp) _).setCell (by simp) _).setCell (by simp) _).setCell (by simp) _).setCell (by simp) _).setCell (by simp) _).setCell (by simp) _).setCell (by simp) _).setCell (by simp) _)

set_option maxRecDepth 10000 in
set_option maxHeartbeats 2000000 in
theorem clW_some (a : Addr) (cap : Nat) (xs : List Wa) (w : World) (hl : xs.length * 32 ≤ 140737488355328) (hc : ∀ j u, (cellsL xs)[j]? = some u → w.cell? (a.add j) = some u) :
    Calls Tryz.prog 143 #[.slice (some a) xs.length cap] w fun e w' => ∃ v', e = .returned v' ∧ OwnS w' w.heap.size v' xs ∧ Below w.heap.size w w' := by
  have q22 : ∀ (w : World) (a : Option Addr) (n c n' c' : Nat), (binOp .eql 32 (.slice a n c) (.slice none n' c')).run Tryz.prog w = .ok (.bool a.isNone) w := fun w a n c n' c' => Lib.run_eql_slice_nil w _ _ a n c n' c' Tryz.underlying32
  have H := hide hc
  clear hc
  obtain ⟨i0, hi0, hz0, hz1, hz2⟩ := winfo
  go_enter Tryz.func143, Tryz.ntmps143
  go_wp2_with (at_builtin; refine wpList_append_own _ rfl _ _ 32 rfl w.heap.size 118 i0 _ 3 32 Tryz.underlying32 hi0 hz0 hz1 hz2 rfl (by decide) _ _ _ rfl (World.ownsRow_made w #[] 0 (Nat.le_refl _) (Nat.zero_le _) (by simp)) a xs.length cap (cellsL xs) rfl ?qc1 ?qc2 ?qc3 ?qc4 ?qc5 ?qc6 ?_)
  case qc1 => exact cellsL_length xs
  case qc2 =>
    intro j u hj
    exact Lib.cell?_alloc_some _ (unhide H j u hj)
  case qc3 => exact cellsL_one xs
  case qc4 => simp only [maxLen]; omega
  case qc5 => omega
  case qc6 => simp
  intro v' w1 hown hgrow hnil
  go_wp2
  go_ret
  refine ⟨v', rfl, OwnS.of_row (by first | exact hown | (simp only [List.nil_append, Nat.zero_add] at hown; exact hown) | simpa using hown), ?_⟩
  exact ((Below.refl _ w).alloc (Nat.le_refl _) _).grown hgrow (by simp) (by intro k hk; simp [Value.ownBlock] at hk; omega)

set_option maxRecDepth 10000 in
set_option maxHeartbeats 400000 in
theorem clW_nil (n c : Nat) (w : World) :
    Calls Tryz.prog 143 #[.slice none n c] w fun e w' => e = .returned (.slice none 0 0) ∧ w' = w := by
  have q22 : ∀ (w : World) (a : Option Addr) (n c n' c' : Nat), (binOp .eql 32 (.slice a n c) (.slice none n' c')).run Tryz.prog w = .ok (.bool a.isNone) w := fun w a n c n' c' => Lib.run_eql_slice_nil w _ _ a n c n' c' Tryz.underlying32
  go_enter Tryz.func143, Tryz.ntmps143
  go_wp2
  go_ret
  exact ⟨rfl, rfl⟩

theorem clW_any (v : Value) (xs : List Wa) (w : World) (hv : SeqV w v xs) (hl : xs.length * 32 ≤ 140737488355328) :
    Calls Tryz.prog 143 #[v] w fun e w' => ∃ v', e = .returned v' ∧ OwnS w' w.heap.size v' xs ∧ Below w.heap.size w w' := by
  rcases hv with ⟨a, cap, rfl, rfl, _⟩ | ⟨b, off, cap, rfl, _, _, hb, _, hr⟩
  · cases a with
    | none => exact (clW_nil 0 cap w).mono fun e w' ⟨he, hw⟩ => ⟨_, he, .inl ⟨rfl, rfl⟩, by rw [hw]; exact Below.refl _ _⟩
    | some a => exact clW_some a cap [] w (by simp) (fun j u h => by simp [cellsL] at h)
  · exact clW_some ⟨b, off, none⟩ cap xs w hl (fun j u h => by rw [Addr.add_lit]; exact hr j u h)

set_option maxRecDepth 10000 in
set_option maxHeartbeats 2000000 in
theorem ownW_any (x : Wa) (w : World) (hp : x.p.length ≤ 140737488355328) :
    Calls Tryz.prog 106 #[.agg #[.int .i64 x.s, .int .i64 x.k, .string ⟨x.p.toArray⟩]] w fun e w' => e = .returned (.agg #[.int .i64 x.s, .int .i64 x.k, .string ⟨x.p.toArray⟩]) ∧ Below w.heap.size w w' := by
  obtain ⟨xs, xk, xp⟩ := x
  simp only at *
  have Kp := fun W => sclone1_any xp W (by omega)
  go_enter Tryz.func106, Tryz.ntmps106
  go_wp2_with fail
  have hB0 : Below w.heap.size w ((w.alloc (.cells #[.int .i64 xs, .int .i64 xk, .string ⟨xp.toArray⟩] 118)).alloc (.cells #[.int .i64 0, .int .i64 0, .string ⟨#[]⟩] 118)) := nnext (allocB _ _) (allocB _ _)
  have hz0 : ((w.alloc (.cells #[.int .i64 xs, .int .i64 xk, .string ⟨xp.toArray⟩] 118)).alloc (.cells #[.int .i64 0, .int .i64 0, .string ⟨#[]⟩] 118)).heap.size = w.heap.size + 2 := by simp
  have p0 : ((w.alloc (.cells #[.int .i64 xs, .int .i64 xk, .string ⟨xp.toArray⟩] 118)).alloc (.cells #[.int .i64 0, .int .i64 0, .string ⟨#[]⟩] 118)).cell? ⟨w.heap.size, 0, none⟩ = some (.int .i64 xs) := by simp
  have r0 : ((w.alloc (.cells #[.int .i64 xs, .int .i64 xk, .string ⟨xp.toArray⟩] 118)).alloc (.cells #[.int .i64 0, .int .i64 0, .string ⟨#[]⟩] 118)).cell? ⟨w.heap.size + 1, 0, none⟩ = some (.int .i64 0) := by simp
  have p1 : ((w.alloc (.cells #[.int .i64 xs, .int .i64 xk, .string ⟨xp.toArray⟩] 118)).alloc (.cells #[.int .i64 0, .int .i64 0, .string ⟨#[]⟩] 118)).cell? ⟨w.heap.size, 1, none⟩ = some (.int .i64 xk) := by simp
  have r1 : ((w.alloc (.cells #[.int .i64 xs, .int .i64 xk, .string ⟨xp.toArray⟩] 118)).alloc (.cells #[.int .i64 0, .int .i64 0, .string ⟨#[]⟩] 118)).cell? ⟨w.heap.size + 1, 1, none⟩ = some (.int .i64 0) := by simp
  have p2 : ((w.alloc (.cells #[.int .i64 xs, .int .i64 xk, .string ⟨xp.toArray⟩] 118)).alloc (.cells #[.int .i64 0, .int .i64 0, .string ⟨#[]⟩] 118)).cell? ⟨w.heap.size, 2, none⟩ = some (.string ⟨xp.toArray⟩) := by simp
  have r2 : ((w.alloc (.cells #[.int .i64 xs, .int .i64 xk, .string ⟨xp.toArray⟩] 118)).alloc (.cells #[.int .i64 0, .int .i64 0, .string ⟨#[]⟩] 118)).cell? ⟨w.heap.size + 1, 2, none⟩ = some (.string ⟨#[]⟩) := by simp
  have pf : ∀ j, ((w.alloc (.cells #[.int .i64 xs, .int .i64 xk, .string ⟨xp.toArray⟩] 118)).alloc (.cells #[.int .i64 0, .int .i64 0, .string ⟨#[]⟩] 118)).frozen? ⟨w.heap.size, j, none⟩ = false := by intro j; simp
  have rf : ∀ j, ((w.alloc (.cells #[.int .i64 xs, .int .i64 xk, .string ⟨xp.toArray⟩] 118)).alloc (.cells #[.int .i64 0, .int .i64 0, .string ⟨#[]⟩] 118)).frozen? ⟨w.heap.size + 1, j, none⟩ = false := by intro j; simp
  generalize (w.alloc (.cells #[.int .i64 xs, .int .i64 xk, .string ⟨xp.toArray⟩] 118)).alloc (.cells #[.int .i64 0, .int .i64 0, .string ⟨#[]⟩] 118) = W0 at *
  refine (Kp _).mono ?_
  rintro e w1 ⟨rfl, hb1⟩
  have c0 := (hb1.cell (p := ⟨w.heap.size, 0, none⟩) (by simp only; omega)).trans p0
  have d0 := (hb1.cell (p := ⟨w.heap.size + 1, 0, none⟩) (by simp only; omega)).trans r0
  have g0 := (hb1.frozen (p := ⟨w.heap.size + 1, 0, none⟩) (by simp only; omega)).trans (rf 0)
  have c1 := (hb1.cell (p := ⟨w.heap.size, 1, none⟩) (by simp only; omega)).trans p1
  have d1 := (hb1.cell (p := ⟨w.heap.size + 1, 1, none⟩) (by simp only; omega)).trans r1
  have g1 := (hb1.frozen (p := ⟨w.heap.size + 1, 1, none⟩) (by simp only; omega)).trans (rf 1)
  have c2 := (hb1.cell (p := ⟨w.heap.size, 2, none⟩) (by simp only; omega)).trans p2
  have d2 := (hb1.cell (p := ⟨w.heap.size + 1, 2, none⟩) (by simp only; omega)).trans r2
  have g2 := (hb1.frozen (p := ⟨w.heap.size + 1, 2, none⟩) (by simp only; omega)).trans (rf 2)
  have f2 := (hb1.frozen (p := ⟨w.heap.size, 2, none⟩) (by simp only; omega)).trans (pf 2)
  have s2 := nset_same c2
  have hB := nnext hB0 hb1
  clear hb1 Kp hB0 hz0 pf rf p0 r0 p1 r1 p2 r2
  go_wp2_with fail
  refine bodyPost_ret (v := .agg #[.int .i64 xs, .int .i64 xk, .string ⟨xp.toArray⟩]) (by simp [results, Tryz.results106, go_sem, d0, d1, d2]) rfl ⟨rfl, ?_⟩
  exact (((hB.setCell (by simp) _).setCell (by simp) _).setCell (by simp) _)
end Go.Proofs.YtaoflcmeiaffjaaGreatDoor

namespace Go.Proofs.YtaoflcmeiaffjaaGreatDoor
open Go.RowKit

set_option maxRecDepth 10000 in
set_option maxHeartbeats 2000000 in
theorem eachF_any (v : Value) (xs : List DF) (w : World) (hv : SeqV w v xs) (hl : xs.length * 48 ≤ 140737488355328) (hs : ∀ x ∈ xs, x.n.length ≤ 140737488355328 ∧ x.s.length ≤ 140737488355328 ∧ x.t.length ≤ 140737488355328) :
    Calls Tryz.prog 99 #[v, .func (.func 100) #[] #[]] w fun e w' => ∃ v', e = .returned v' ∧ OwnS w' w.heap.size v' xs ∧ Below w.heap.size w w' := by
  have CC := fun W (hW : Below w.heap.size w W) => clF_any v xs W (hv.next hW) hl
  have HO : Hid (∀ x ∈ xs, ∀ W, Calls Tryz.prog 100 #[.agg #[.string ⟨x.n.toArray⟩, .string ⟨x.s.toArray⟩, .string ⟨x.t.toArray⟩]] W fun e w' => e = .returned (.agg #[.string ⟨x.n.toArray⟩, .string ⟨x.s.toArray⟩, .string ⟨x.t.toArray⟩]) ∧ Below W.heap.size W w') := hide fun x hm W => by
    have hx := hs x hm
    exact ownF_any x W hx.1 hx.2.1 hx.2.2
  obtain ⟨a, c, rfl⟩ := seq_slice hv
  clear hv hs
  go_enter Tryz.func99, Tryz.ntmps99
  go_wp2_with fail
  refine (CC _ (Below.refl _ _)).mono ?_
  rintro e w1 ⟨v', rfl, ho, hb1⟩
  have HB1 := hide hb1
  clear CC hb1
  rcases ho with ⟨rfl, rfl⟩ | ⟨g, cap, rfl, hg, ho⟩
  · go_wp2_with fail
    go_loopg [11] 1 (fun _ s wr => s = .int .i64 0 ∧ wr = w1)
    case atStart => exact ⟨rfl, rfl⟩
    case round =>
      obtain ⟨rfl, rfl⟩ := hrel
      go_wp2_with fail
      go_ret
      exact ⟨_, rfl, .inl ⟨rfl, rfl⟩, unhide HB1⟩
  · have HW := hide ho
    have hgl := ho.lt
    clear ho
    go_wp2_with fail
    go_loopg [11] xs.length (fun kx s wr => ∃ k : Nat, s = .int .i64 k ∧ k ≤ xs.length ∧ xs.length - k ≤ kx ∧ Hid (Below w1.heap.size w1 wr))
    case atStart => exact ⟨0, rfl, Nat.zero_le _, by omega, hide (Below.refl _ _)⟩
    case round =>
      obtain ⟨k, rfl, hk, hkx, hB⟩ := hrel
      by_cases hlt : k < xs.length
      · obtain ⟨x, hx⟩ : ∃ x, xs[k]? = some x := ⟨_, List.getElem?_eq_getElem hlt⟩
        have o := (unhide HW).next (unhide hB)
        have hgl2 := o.lt
        have e0 : wr.cell? ⟨g, k * 3, none⟩ = some (.string ⟨x.n.toArray⟩) := by have := o.row (k * 3 + 0) _ (cellsL_get xs k x hx 0 (by decide)); simpa using this
        have f0 := o.frozen (k * 3)
        have e1 : wr.cell? ⟨g, k * 3 + 1, none⟩ = some (.string ⟨x.s.toArray⟩) := by have := o.row (k * 3 + 1) _ (cellsL_get xs k x hx 1 (by decide)); simpa using this
        have f1 := o.frozen (k * 3 + 1)
        have e2 : wr.cell? ⟨g, k * 3 + 2, none⟩ = some (.string ⟨x.t.toArray⟩) := by have := o.row (k * 3 + 2) _ (cellsL_get xs k x hx 2 (by decide)); simpa using this
        have f2 := o.frozen (k * 3 + 2)
        have CX := unhide HO x (List.mem_of_getElem? hx)
        clear hx o
        obtain ⟨yn, ys, yt⟩ := x
        simp only at e0 e1 e2 CX
        go_wp2_with fail
        refine (CX _).mono ?_
        rintro e w2 ⟨rfl, hb2⟩
        have d0 := (hb2.cell (p := ⟨g, k * 3, none⟩) hgl2).trans e0
        have g0 := (hb2.frozen (p := ⟨g, k * 3, none⟩) hgl2).trans f0
        have s0 := nset_same d0
        have d1 := (hb2.cell (p := ⟨g, k * 3 + 1, none⟩) hgl2).trans e1
        have g1 := (hb2.frozen (p := ⟨g, k * 3 + 1, none⟩) hgl2).trans f1
        have s1 := nset_same d1
        have d2 := (hb2.cell (p := ⟨g, k * 3 + 2, none⟩) hgl2).trans e2
        have g2 := (hb2.frozen (p := ⟨g, k * 3 + 2, none⟩) hgl2).trans f2
        have s2 := nset_same d2
        have hB2 := hide (nnext (unhide hB) hb2)
        clear hb2 CX e0 f0 e1 f1 e2 f2
        go_wp2_with fail
        go_roundg (xs.length - (k + 1))
        case measure => omega
        case rel => exact ⟨k + 1, rfl, by omega, Nat.le_refl _, hB2⟩
      · go_wp2_with fail
        go_ret
        exact ⟨_, rfl, .inr ⟨g, cap, rfl, hg, (unhide HW).next (unhide hB)⟩, nnext (unhide HB1) (unhide hB)⟩

set_option maxRecDepth 10000 in
set_option maxHeartbeats 2000000 in
theorem eachT_any (v : Value) (xs : List WTxn) (w : World) (hv : SeqV w v xs) (hl : xs.length * 72 ≤ 140737488355328) (hs : ∀ x ∈ xs, x.p.length ≤ 140737488355328 ∧ x.d.length ≤ 140737488355328) :
    Calls Tryz.prog 101 #[v, .func (.func 98) #[] #[]] w fun e w' => ∃ v', e = .returned v' ∧ OwnS w' w.heap.size v' xs ∧ Below w.heap.size w w' := by
  have CC := fun W (hW : Below w.heap.size w W) => clT_any v xs W (hv.next hW) hl
  have HO : Hid (∀ x ∈ xs, ∀ W, Calls Tryz.prog 98 #[.agg #[.int .i64 x.z, .int .i64 x.o, .int .i64 x.s, .string ⟨x.p.toArray⟩, .string ⟨x.d.toArray⟩, .int .i64 x.v, .int .i64 x.w]] W fun e w' => e = .returned (.agg #[.int .i64 x.z, .int .i64 x.o, .int .i64 x.s, .string ⟨x.p.toArray⟩, .string ⟨x.d.toArray⟩, .int .i64 x.v, .int .i64 x.w]) ∧ Below W.heap.size W w') := hide fun x hm W => by
    have hx := hs x hm
    exact ownT_any x W hx.1 hx.2
  obtain ⟨a, c, rfl⟩ := seq_slice hv
  clear hv hs
  go_enter Tryz.func101, Tryz.ntmps101
  go_wp2_with fail
  refine (CC _ (Below.refl _ _)).mono ?_
  rintro e w1 ⟨v', rfl, ho, hb1⟩
  have HB1 := hide hb1
  clear CC hb1
  rcases ho with ⟨rfl, rfl⟩ | ⟨g, cap, rfl, hg, ho⟩
  · go_wp2_with fail
    go_loopg [11] 1 (fun _ s wr => s = .int .i64 0 ∧ wr = w1)
    case atStart => exact ⟨rfl, rfl⟩
    case round =>
      obtain ⟨rfl, rfl⟩ := hrel
      go_wp2_with fail
      go_ret
      exact ⟨_, rfl, .inl ⟨rfl, rfl⟩, unhide HB1⟩
  · have HW := hide ho
    have hgl := ho.lt
    clear ho
    go_wp2_with fail
    go_loopg [11] xs.length (fun kx s wr => ∃ k : Nat, s = .int .i64 k ∧ k ≤ xs.length ∧ xs.length - k ≤ kx ∧ Hid (Below w1.heap.size w1 wr))
    case atStart => exact ⟨0, rfl, Nat.zero_le _, by omega, hide (Below.refl _ _)⟩
    case round =>
      obtain ⟨k, rfl, hk, hkx, hB⟩ := hrel
      by_cases hlt : k < xs.length
      · obtain ⟨x, hx⟩ : ∃ x, xs[k]? = some x := ⟨_, List.getElem?_eq_getElem hlt⟩
        have o := (unhide HW).next (unhide hB)
        have hgl2 := o.lt
        have e0 : wr.cell? ⟨g, k * 7, none⟩ = some (.int .i64 x.z) := by have := o.row (k * 7 + 0) _ (cellsL_get xs k x hx 0 (by decide)); simpa using this
        have f0 := o.frozen (k * 7)
        have e1 : wr.cell? ⟨g, k * 7 + 1, none⟩ = some (.int .i64 x.o) := by have := o.row (k * 7 + 1) _ (cellsL_get xs k x hx 1 (by decide)); simpa using this
        have f1 := o.frozen (k * 7 + 1)
        have e2 : wr.cell? ⟨g, k * 7 + 2, none⟩ = some (.int .i64 x.s) := by have := o.row (k * 7 + 2) _ (cellsL_get xs k x hx 2 (by decide)); simpa using this
        have f2 := o.frozen (k * 7 + 2)
        have e3 : wr.cell? ⟨g, k * 7 + 3, none⟩ = some (.string ⟨x.p.toArray⟩) := by have := o.row (k * 7 + 3) _ (cellsL_get xs k x hx 3 (by decide)); simpa using this
        have f3 := o.frozen (k * 7 + 3)
        have e4 : wr.cell? ⟨g, k * 7 + 4, none⟩ = some (.string ⟨x.d.toArray⟩) := by have := o.row (k * 7 + 4) _ (cellsL_get xs k x hx 4 (by decide)); simpa using this
        have f4 := o.frozen (k * 7 + 4)
        have e5 : wr.cell? ⟨g, k * 7 + 5, none⟩ = some (.int .i64 x.v) := by have := o.row (k * 7 + 5) _ (cellsL_get xs k x hx 5 (by decide)); simpa using this
        have f5 := o.frozen (k * 7 + 5)
        have e6 : wr.cell? ⟨g, k * 7 + 6, none⟩ = some (.int .i64 x.w) := by have := o.row (k * 7 + 6) _ (cellsL_get xs k x hx 6 (by decide)); simpa using this
        have f6 := o.frozen (k * 7 + 6)
        have CX := unhide HO x (List.mem_of_getElem? hx)
        clear hx o
        obtain ⟨yz, yo, ys, yp, yd, yv, yw⟩ := x
        simp only at e0 e1 e2 e3 e4 e5 e6 CX
        go_wp2_with fail
        refine (CX _).mono ?_
        rintro e w2 ⟨rfl, hb2⟩
        have d0 := (hb2.cell (p := ⟨g, k * 7, none⟩) hgl2).trans e0
        have g0 := (hb2.frozen (p := ⟨g, k * 7, none⟩) hgl2).trans f0
        have s0 := nset_same d0
        have d1 := (hb2.cell (p := ⟨g, k * 7 + 1, none⟩) hgl2).trans e1
        have g1 := (hb2.frozen (p := ⟨g, k * 7 + 1, none⟩) hgl2).trans f1
        have s1 := nset_same d1
        have d2 := (hb2.cell (p := ⟨g, k * 7 + 2, none⟩) hgl2).trans e2
        have g2 := (hb2.frozen (p := ⟨g, k * 7 + 2, none⟩) hgl2).trans f2
        have s2 := nset_same d2
        have d3 := (hb2.cell (p := ⟨g, k * 7 + 3, none⟩) hgl2).trans e3
        have g3 := (hb2.frozen (p := ⟨g, k * 7 + 3, none⟩) hgl2).trans f3
        have s3 := nset_same d3
        have d4 := (hb2.cell (p := ⟨g, k * 7 + 4, none⟩) hgl2).trans e4
        have g4 := (hb2.frozen (p := ⟨g, k * 7 + 4, none⟩) hgl2).trans f4
        have s4 := nset_same d4
        have d5 := (hb2.cell (p := ⟨g, k * 7 + 5, none⟩) hgl2).trans e5
        have g5 := (hb2.frozen (p := ⟨g, k * 7 + 5, none⟩) hgl2).trans f5
        have s5 := nset_same d5
        have d6 := (hb2.cell (p := ⟨g, k * 7 + 6, none⟩) hgl2).trans e6
        have g6 := (hb2.frozen (p := ⟨g, k * 7 + 6, none⟩) hgl2).trans f6
        have s6 := nset_same d6
        have hB2 := hide (nnext (unhide hB) hb2)
        clear hb2 CX e0 f0 e1 f1 e2 f2 e3 f3 e4 f4 e5 f5 e6 f6
        go_wp2_with fail
        go_roundg (xs.length - (k + 1))
        case measure => omega
        case rel => exact ⟨k + 1, rfl, by omega, Nat.le_refl _, hB2⟩
      · go_wp2_with fail
        go_ret
        exact ⟨_, rfl, .inr ⟨g, cap, rfl, hg, (unhide HW).next (unhide hB)⟩, nnext (unhide HB1) (unhide hB)⟩

set_option maxRecDepth 10000 in
set_option maxHeartbeats 2000000 in
theorem eachN_any (v : Value) (xs : List Nd) (w : World) (hv : SeqV w v xs) (hl : xs.length * 88 ≤ 140737488355328) (hs : ∀ x ∈ xs, x.p.length ≤ 140737488355328 ∧ x.d.length ≤ 140737488355328) :
    Calls Tryz.prog 102 #[v, .func (.func 103) #[] #[]] w fun e w' => ∃ v', e = .returned v' ∧ OwnS w' w.heap.size v' xs ∧ Below w.heap.size w w' := by
  have CC := fun W (hW : Below w.heap.size w W) => clN_any v xs W (hv.next hW) hl
  have HO : Hid (∀ x ∈ xs, ∀ W, Calls Tryz.prog 103 #[.agg #[.string ⟨x.p.toArray⟩, .string ⟨x.d.toArray⟩, .int .i64 x.c, .int .i64 x.m, .int .i64 x.q, .int .i64 x.v, .int .i64 x.k, .int .i64 x.o, .int .i64 x.n]] W fun e w' => e = .returned (.agg #[.string ⟨x.p.toArray⟩, .string ⟨x.d.toArray⟩, .int .i64 x.c, .int .i64 x.m, .int .i64 x.q, .int .i64 x.v, .int .i64 x.k, .int .i64 x.o, .int .i64 x.n]) ∧ Below W.heap.size W w') := hide fun x hm W => by
    have hx := hs x hm
    exact ownN_any x W hx.1 hx.2
  obtain ⟨a, c, rfl⟩ := seq_slice hv
  clear hv hs
  go_enter Tryz.func102, Tryz.ntmps102
  go_wp2_with fail
  refine (CC _ (Below.refl _ _)).mono ?_
  rintro e w1 ⟨v', rfl, ho, hb1⟩
  have HB1 := hide hb1
  clear CC hb1
  rcases ho with ⟨rfl, rfl⟩ | ⟨g, cap, rfl, hg, ho⟩
  · go_wp2_with fail
    go_loopg [11] 1 (fun _ s wr => s = .int .i64 0 ∧ wr = w1)
    case atStart => exact ⟨rfl, rfl⟩
    case round =>
      obtain ⟨rfl, rfl⟩ := hrel
      go_wp2_with fail
      go_ret
      exact ⟨_, rfl, .inl ⟨rfl, rfl⟩, unhide HB1⟩
  · have HW := hide ho
    have hgl := ho.lt
    clear ho
    go_wp2_with fail
    go_loopg [11] xs.length (fun kx s wr => ∃ k : Nat, s = .int .i64 k ∧ k ≤ xs.length ∧ xs.length - k ≤ kx ∧ Hid (Below w1.heap.size w1 wr))
    case atStart => exact ⟨0, rfl, Nat.zero_le _, by omega, hide (Below.refl _ _)⟩
    case round =>
      obtain ⟨k, rfl, hk, hkx, hB⟩ := hrel
      by_cases hlt : k < xs.length
      · obtain ⟨x, hx⟩ : ∃ x, xs[k]? = some x := ⟨_, List.getElem?_eq_getElem hlt⟩
        have o := (unhide HW).next (unhide hB)
        have hgl2 := o.lt
        have e0 : wr.cell? ⟨g, k * 9, none⟩ = some (.string ⟨x.p.toArray⟩) := by have := o.row (k * 9 + 0) _ (cellsL_get xs k x hx 0 (by decide)); simpa using this
        have f0 := o.frozen (k * 9)
        have e1 : wr.cell? ⟨g, k * 9 + 1, none⟩ = some (.string ⟨x.d.toArray⟩) := by have := o.row (k * 9 + 1) _ (cellsL_get xs k x hx 1 (by decide)); simpa using this
        have f1 := o.frozen (k * 9 + 1)
        have e2 : wr.cell? ⟨g, k * 9 + 2, none⟩ = some (.int .i64 x.c) := by have := o.row (k * 9 + 2) _ (cellsL_get xs k x hx 2 (by decide)); simpa using this
        have f2 := o.frozen (k * 9 + 2)
        have e3 : wr.cell? ⟨g, k * 9 + 3, none⟩ = some (.int .i64 x.m) := by have := o.row (k * 9 + 3) _ (cellsL_get xs k x hx 3 (by decide)); simpa using this
        have f3 := o.frozen (k * 9 + 3)
        have e4 : wr.cell? ⟨g, k * 9 + 4, none⟩ = some (.int .i64 x.q) := by have := o.row (k * 9 + 4) _ (cellsL_get xs k x hx 4 (by decide)); simpa using this
        have f4 := o.frozen (k * 9 + 4)
        have e5 : wr.cell? ⟨g, k * 9 + 5, none⟩ = some (.int .i64 x.v) := by have := o.row (k * 9 + 5) _ (cellsL_get xs k x hx 5 (by decide)); simpa using this
        have f5 := o.frozen (k * 9 + 5)
        have e6 : wr.cell? ⟨g, k * 9 + 6, none⟩ = some (.int .i64 x.k) := by have := o.row (k * 9 + 6) _ (cellsL_get xs k x hx 6 (by decide)); simpa using this
        have f6 := o.frozen (k * 9 + 6)
        have e7 : wr.cell? ⟨g, k * 9 + 7, none⟩ = some (.int .i64 x.o) := by have := o.row (k * 9 + 7) _ (cellsL_get xs k x hx 7 (by decide)); simpa using this
        have f7 := o.frozen (k * 9 + 7)
        have e8 : wr.cell? ⟨g, k * 9 + 8, none⟩ = some (.int .i64 x.n) := by have := o.row (k * 9 + 8) _ (cellsL_get xs k x hx 8 (by decide)); simpa using this
        have f8 := o.frozen (k * 9 + 8)
        have CX := unhide HO x (List.mem_of_getElem? hx)
        clear hx o
        obtain ⟨yp, yd, yc, ym, yq, yv, yk, yo, yn⟩ := x
        simp only at e0 e1 e2 e3 e4 e5 e6 e7 e8 CX
        go_wp2_with fail
        refine (CX _).mono ?_
        rintro e w2 ⟨rfl, hb2⟩
        have d0 := (hb2.cell (p := ⟨g, k * 9, none⟩) hgl2).trans e0
        have g0 := (hb2.frozen (p := ⟨g, k * 9, none⟩) hgl2).trans f0
        have s0 := nset_same d0
        have d1 := (hb2.cell (p := ⟨g, k * 9 + 1, none⟩) hgl2).trans e1
        have g1 := (hb2.frozen (p := ⟨g, k * 9 + 1, none⟩) hgl2).trans f1
        have s1 := nset_same d1
        have d2 := (hb2.cell (p := ⟨g, k * 9 + 2, none⟩) hgl2).trans e2
        have g2 := (hb2.frozen (p := ⟨g, k * 9 + 2, none⟩) hgl2).trans f2
        have s2 := nset_same d2
        have d3 := (hb2.cell (p := ⟨g, k * 9 + 3, none⟩) hgl2).trans e3
        have g3 := (hb2.frozen (p := ⟨g, k * 9 + 3, none⟩) hgl2).trans f3
        have s3 := nset_same d3
        have d4 := (hb2.cell (p := ⟨g, k * 9 + 4, none⟩) hgl2).trans e4
        have g4 := (hb2.frozen (p := ⟨g, k * 9 + 4, none⟩) hgl2).trans f4
        have s4 := nset_same d4
        have d5 := (hb2.cell (p := ⟨g, k * 9 + 5, none⟩) hgl2).trans e5
        have g5 := (hb2.frozen (p := ⟨g, k * 9 + 5, none⟩) hgl2).trans f5
        have s5 := nset_same d5
        have d6 := (hb2.cell (p := ⟨g, k * 9 + 6, none⟩) hgl2).trans e6
        have g6 := (hb2.frozen (p := ⟨g, k * 9 + 6, none⟩) hgl2).trans f6
        have s6 := nset_same d6
        have d7 := (hb2.cell (p := ⟨g, k * 9 + 7, none⟩) hgl2).trans e7
        have g7 := (hb2.frozen (p := ⟨g, k * 9 + 7, none⟩) hgl2).trans f7
        have s7 := nset_same d7
        have d8 := (hb2.cell (p := ⟨g, k * 9 + 8, none⟩) hgl2).trans e8
        have g8 := (hb2.frozen (p := ⟨g, k * 9 + 8, none⟩) hgl2).trans f8
        have s8 := nset_same d8
        have hB2 := hide (nnext (unhide hB) hb2)
        clear hb2 CX e0 f0 e1 f1 e2 f2 e3 f3 e4 f4 e5 f5 e6 f6 e7 f7 e8 f8
        go_wp2_with fail
        go_roundg (xs.length - (k + 1))
        case measure => omega
        case rel => exact ⟨k + 1, rfl, by omega, Nat.le_refl _, hB2⟩
      · go_wp2_with fail
        go_ret
        exact ⟨_, rfl, .inr ⟨g, cap, rfl, hg, (unhide HW).next (unhide hB)⟩, nnext (unhide HB1) (unhide hB)⟩

set_option maxRecDepth 10000 in
set_option maxHeartbeats 2000000 in
theorem eachW_any (v : Value) (xs : List Wa) (w : World) (hv : SeqV w v xs) (hl : xs.length * 32 ≤ 140737488355328) (hs : ∀ x ∈ xs, x.p.length ≤ 140737488355328) :
    Calls Tryz.prog 105 #[v, .func (.func 106) #[] #[]] w fun e w' => ∃ v', e = .returned v' ∧ OwnS w' w.heap.size v' xs ∧ Below w.heap.size w w' := by
  have CC := fun W (hW : Below w.heap.size w W) => clW_any v xs W (hv.next hW) hl
  have HO : Hid (∀ x ∈ xs, ∀ W, Calls Tryz.prog 106 #[.agg #[.int .i64 x.s, .int .i64 x.k, .string ⟨x.p.toArray⟩]] W fun e w' => e = .returned (.agg #[.int .i64 x.s, .int .i64 x.k, .string ⟨x.p.toArray⟩]) ∧ Below W.heap.size W w') := hide fun x hm W => by
    have hx := hs x hm
    exact ownW_any x W hx
  obtain ⟨a, c, rfl⟩ := seq_slice hv
  clear hv hs
  go_enter Tryz.func105, Tryz.ntmps105
  go_wp2_with fail
  refine (CC _ (Below.refl _ _)).mono ?_
  rintro e w1 ⟨v', rfl, ho, hb1⟩
  have HB1 := hide hb1
  clear CC hb1
  rcases ho with ⟨rfl, rfl⟩ | ⟨g, cap, rfl, hg, ho⟩
  · go_wp2_with fail
    go_loopg [11] 1 (fun _ s wr => s = .int .i64 0 ∧ wr = w1)
    case atStart => exact ⟨rfl, rfl⟩
    case round =>
      obtain ⟨rfl, rfl⟩ := hrel
      go_wp2_with fail
      go_ret
      exact ⟨_, rfl, .inl ⟨rfl, rfl⟩, unhide HB1⟩
  · have HW := hide ho
    have hgl := ho.lt
    clear ho
    go_wp2_with fail
    go_loopg [11] xs.length (fun kx s wr => ∃ k : Nat, s = .int .i64 k ∧ k ≤ xs.length ∧ xs.length - k ≤ kx ∧ Hid (Below w1.heap.size w1 wr))
    case atStart => exact ⟨0, rfl, Nat.zero_le _, by omega, hide (Below.refl _ _)⟩
    case round =>
      obtain ⟨k, rfl, hk, hkx, hB⟩ := hrel
      by_cases hlt : k < xs.length
      · obtain ⟨x, hx⟩ : ∃ x, xs[k]? = some x := ⟨_, List.getElem?_eq_getElem hlt⟩
        have o := (unhide HW).next (unhide hB)
        have hgl2 := o.lt
        have e0 : wr.cell? ⟨g, k * 3, none⟩ = some (.int .i64 x.s) := by have := o.row (k * 3 + 0) _ (cellsL_get xs k x hx 0 (by decide)); simpa using this
        have f0 := o.frozen (k * 3)
        have e1 : wr.cell? ⟨g, k * 3 + 1, none⟩ = some (.int .i64 x.k) := by have := o.row (k * 3 + 1) _ (cellsL_get xs k x hx 1 (by decide)); simpa using this
        have f1 := o.frozen (k * 3 + 1)
        have e2 : wr.cell? ⟨g, k * 3 + 2, none⟩ = some (.string ⟨x.p.toArray⟩) := by have := o.row (k * 3 + 2) _ (cellsL_get xs k x hx 2 (by decide)); simpa using this
        have f2 := o.frozen (k * 3 + 2)
        have CX := unhide HO x (List.mem_of_getElem? hx)
        clear hx o
        obtain ⟨ys, yk, yp⟩ := x
        simp only at e0 e1 e2 CX
        go_wp2_with fail
        refine (CX _).mono ?_
        rintro e w2 ⟨rfl, hb2⟩
        have d0 := (hb2.cell (p := ⟨g, k * 3, none⟩) hgl2).trans e0
        have g0 := (hb2.frozen (p := ⟨g, k * 3, none⟩) hgl2).trans f0
        have s0 := nset_same d0
        have d1 := (hb2.cell (p := ⟨g, k * 3 + 1, none⟩) hgl2).trans e1
        have g1 := (hb2.frozen (p := ⟨g, k * 3 + 1, none⟩) hgl2).trans f1
        have s1 := nset_same d1
        have d2 := (hb2.cell (p := ⟨g, k * 3 + 2, none⟩) hgl2).trans e2
        have g2 := (hb2.frozen (p := ⟨g, k * 3 + 2, none⟩) hgl2).trans f2
        have s2 := nset_same d2
        have hB2 := hide (nnext (unhide hB) hb2)
        clear hb2 CX e0 f0 e1 f1 e2 f2
        go_wp2_with fail
        go_roundg (xs.length - (k + 1))
        case measure => omega
        case rel => exact ⟨k + 1, rfl, by omega, Nat.le_refl _, hB2⟩
      · go_wp2_with fail
        go_ret
        exact ⟨_, rfl, .inr ⟨g, cap, rfl, hg, (unhide HW).next (unhide hB)⟩, nnext (unhide HB1) (unhide hB)⟩
end Go.Proofs.YtaoflcmeiaffjaaGreatDoor

namespace Go.Proofs.YtaoflcmeiaffjaaGreatDoor
open Go.RowKit

/-- nothing of it is longer than memory bears -/
structure Fits (s : Sv) : Prop where
  d : s.fs.length * 48 ≤ 140737488355328
  df : Slim s.fs
  l : s.ts.length * 72 ≤ 140737488355328
  lf : ∀ x ∈ s.ts, x.p.length ≤ 140737488355328 ∧ x.d.length ≤ 140737488355328
  n : s.tr.ns.length * 88 ≤ 140737488355328
  nf : ∀ x ∈ s.tr.ns, x.p.length ≤ 140737488355328 ∧ x.d.length ≤ 140737488355328
  si : s.tr.ss.length ≤ 2147483647
  wa : s.ws.length * 32 ≤ 140737488355328
  wf : ∀ x ∈ s.ws, x.p.length ≤ 140737488355328
/-- the box of a server that is handed in, the result's behind it -/
structure CB (w W : World) (up : Bool) (vd : Value) (id ep : Int) (vl : Value) (dn z : Int) (vn vs vw : Value) : Prop where
  below : Below w.heap.size w W
  s : Box10 W w.heap.size up vd id ep vl dn z vn vs vw
  r : Box10 W (w.heap.size + 1) false (.slice none 0 0) 0 0 (.slice none 0 0) 0 0 (.slice none 0 0) (.slice none 0 0) (.slice none 0 0)
section
variable {w W V : World} {up : Bool} {id ep dn z : Int} {vd vl vn vs vw : Value}
theorem CB.next (h : CB w W up vd id ep vl dn z vn vs vw) (hb : Below W.heap.size W V) : CB w V up vd id ep vl dn z vn vs vw := ⟨nnext h.below hb, h.s.next hb, h.r.next hb⟩
theorem CB.lt (h : CB w W up vd id ep vl dn z vn vs vw) : w.heap.size + 2 ≤ W.heap.size := h.r.lt
theorem CB.put (h : CB w W up vd id ep vl dn z vn vs vw) (j : Nat) (u : Value) {vd' vl' vn' vs' vw' : Value} (e : (#[.bool up, vd, .int .i64 id, .int .i64 ep, vl, .int .i64 dn, .int .i64 z, vn, vs, vw] : Array Value).setIfInBounds j u = #[.bool up, vd', .int .i64 id, .int .i64 ep, vl', .int .i64 dn, .int .i64 z, vn', vs', vw']) : CB w (W.setCell ⟨w.heap.size, j, none⟩ u) up vd' id ep vl' dn z vn' vs' vw' := by
  refine ⟨h.below.setCell (by simp) u, ?_, h.r.other (by omega)⟩
  unfold Box10
  rw [block_set u h.s, e]
theorem CB.start (w : World) (up : Bool) (id ep dn z : Int) (vd vl vn vs vw : Value) : CB w ((w.alloc (.cells #[.bool up, vd, .int .i64 id, .int .i64 ep, vl, .int .i64 dn, .int .i64 z, vn, vs, vw] 34)).alloc (.cells #[.bool false, .slice none 0 0, .int .i64 0, .int .i64 0, .slice none 0 0, .int .i64 0, .int .i64 0, .slice none 0 0, .slice none 0 0, .slice none 0 0] 34)) up vd id ep vl dn z vn vs vw := by
  refine ⟨nnext (allocB _ _) (allocB _ _), (Box10.new w up id ep dn z vd vl vn vs vw).next (allocB _ _), ?_⟩
  have h := Box10.new (w.alloc (.cells #[.bool up, vd, .int .i64 id, .int .i64 ep, vl, .int .i64 dn, .int .i64 z, vn, vs, vw] 34)) false 0 0 0 0 (.slice none 0 0) (.slice none 0 0) (.slice none 0 0) (.slice none 0 0) (.slice none 0 0)
  rw [show (w.alloc (.cells #[.bool up, vd, .int .i64 id, .int .i64 ep, vl, .int .i64 dn, .int .i64 z, vn, vs, vw] 34)).heap.size = w.heap.size + 1 by simp] at h
  exact h
end
theorem own_ne {α : Type} [Lay α] {W : World} {B k : Nat} {v : Value} {xs : List α} (h : OwnS W B v xs) (hk : k < B) : v.ownBlock ≠ some k := by
  rcases h with ⟨rfl, _⟩ | ⟨g, cap, rfl, hB, _⟩
  · simp [Value.ownBlock]
  · simp [Value.ownBlock]; omega
theorem own_set {α : Type} [Lay α] {W : World} {B k j : Nat} {v u : Value} {xs : List α} (h : OwnS W B v xs) (hk : k < B) : OwnS (W.setCell ⟨k, j, none⟩ u) B v xs := h.other (own_ne h hk) u
theorem own_put10 {α : Type} [Lay α] {W : World} {B k : Nat} {v : Value} {xs : List α} (h : OwnS W B v xs) (hk : k < B) (x0 x1 x2 x3 x4 x5 x6 x7 x8 x9 : Value) : OwnS (put10 W k x0 x1 x2 x3 x4 x5 x6 x7 x8 x9) B v xs :=
  own_set (own_set (own_set (own_set (own_set (own_set (own_set (own_set (own_set (own_set h hk) hk) hk) hk) hk) hk) hk) hk) hk) hk
/-- what a copy of a server gives: rows of its own, the log's apart from the others' -/
def GivesC (w : World) (s : Sv) (e : Ending) (w' : World) : Prop :=
  ∃ ad nd cd al cl an cn ai ci aw cw B1 B2, e = .returned (.agg #[.bool s.up, .slice ad nd cd, .int .i64 s.id, .int .i64 s.ep, .slice al s.ts.length cl, .int .i64 s.dn, .int .i64 s.tr.z, .slice an s.tr.ns.length cn, .slice ai s.tr.ss.length ci, .slice aw s.ws.length cw]) ∧
    w.heap.size ≤ B1 ∧ B1 ≤ B2 ∧ OwnS w' w.heap.size (.slice ad nd cd) s.fs ∧ (∀ k, (Value.slice ad nd cd).ownBlock = some k → k < B1) ∧ OwnS w' B1 (.slice al s.ts.length cl) s.ts ∧ (∀ k, (Value.slice al s.ts.length cl).ownBlock = some k → k < B2) ∧
    OwnS w' B2 (.slice an s.tr.ns.length cn) s.tr.ns ∧ OwnS w' B2 (.slice ai s.tr.ss.length ci) s.tr.ss ∧ OwnS w' B2 (.slice aw s.ws.length cw) s.ws ∧ Below w.heap.size w w'

set_option maxRecDepth 10000 in
set_option maxHeartbeats 4000000 in
theorem scopied_any (s : Sv) (v : Value) (w : World) (hv : SvV w v s) (hf : Fits s) :
    Calls Tryz.prog 51 #[v] w (GivesC w s) := by
  obtain ⟨ad, nd, cd, al, cl, an, cn, ai, ci, aw, cw, rfl, d1, l1, n1, s1, k1⟩ := hv.five
  have CD := fun W (hW : Below w.heap.size w W) => eachF_any _ s.fs W (seq_disk.2 (d1.next hW)) hf.d hf.df
  have CL := fun W (hW : Below w.heap.size w W) => eachT_any _ s.ts W (seq_log.2 (l1.next hW)) hf.l hf.lf
  have CN := fun W (hW : Below w.heap.size w W) => eachN_any _ s.tr.ns W (n1.next hW) hf.n hf.nf
  have CI := fun W (hW : Below w.heap.size w W) => iclone_any _ s.tr.ss W (s1.next hW) (hf.si)
  have CW := fun W (hW : Below w.heap.size w W) => eachW_any _ s.ws W (k1.next hW) hf.wa hf.wf
  have HD := hide CD
  have HL := hide CL
  have HN := hide CN
  have HI := hide CI
  have HW := hide CW
  clear CD CL CN CI CW hv d1 l1 n1 s1 k1 hf
  obtain ⟨up, fs, id, ep, ts, dn, ⟨tz, tns, tss⟩, ws⟩ := s
  simp only at *
  go_enter Tryz.func51, Tryz.ntmps51
  go_wp2_with fail
  have X0 := CB.start w up id ep dn tz (.slice ad nd cd) (.slice al ts.length cl) (.slice an tns.length cn) (.slice ai tss.length ci) (.slice aw ws.length cw)
  generalize (w.alloc (.cells #[.bool up, .slice ad nd cd, .int .i64 id, .int .i64 ep, .slice al ts.length cl, .int .i64 dn, .int .i64 tz, .slice an tns.length cn, .slice ai tss.length ci, .slice aw ws.length cw] 34)).alloc (.cells #[.bool false, .slice none 0 0, .int .i64 0, .int .i64 0, .slice none 0 0, .int .i64 0, .int .i64 0, .slice none 0 0, .slice none 0 0, .slice none 0 0] 34) = W0 at *
  have HX0 := hide X0
  obtain ⟨x0, x1, x2, x3, x4, x5, x6, x7, x8, x9⟩ := X0.s.cells
  clear X0
  refine (unhide HD _ (unhide HX0).below).mono ?_
  rintro e w1 ⟨v1, rfl, o1, hb1⟩
  obtain ⟨a1, c1, rfl, _⟩ := o1.slice
  have z1 := (unhide HX0).lt
  have X1 := (unhide HX0).next hb1
  have Y1 := X1.put 1 (.slice a1 fs.length c1) rfl
  obtain ⟨y0, y1, y2, y3, y4, y5, y6, y7, y8, y9⟩ := X1.s.cells
  have g1 := X1.s.froz 1
  have O1 := hide (own_set (j := 1) (u := .slice a1 fs.length c1) o1 (by omega : w.heap.size < _))
  have b1 := hide (fun k hk => OwnS.low o1 k hk)
  have S1 := hide (show w.heap.size + 1 < W0.heap.size by omega)
  have Z1 := hide (show w.heap.size ≤ W0.heap.size by omega)
  have K1 := hide (show W0.heap.size ≤ (w1.setCell ⟨w.heap.size, 1, none⟩ (.slice a1 fs.length c1)).heap.size by have := hb1.size; simp [World.setCell] at *; omega)
  have L1 := hide (show w1.heap.size = (w1.setCell ⟨w.heap.size, 1, none⟩ (.slice a1 fs.length c1)).heap.size by simp [World.setCell])
  clear X1 o1 hb1 z1 HX0 HD x0 x1 x2 x3 x4 x5 x6 x7 x8 x9
  have HX1 := hide Y1
  obtain ⟨x0, x1, x2, x3, x4, x5, x6, x7, x8, x9⟩ := Y1.s.cells
  clear Y1
  go_wp2_with fail
  generalize w1.setCell ⟨w.heap.size, 1, none⟩ (.slice a1 fs.length c1) = V1 at *
  clear y0 y1 y2 y3 y4 y5 y6 y7 y8 y9 g1
  refine (unhide HL _ (unhide HX1).below).mono ?_
  rintro e w2 ⟨v2, rfl, o2, hb2⟩
  obtain ⟨a2, c2, rfl, _⟩ := o2.slice
  have z2 := (unhide HX1).lt
  have X2 := (unhide HX1).next hb2
  have Y2 := X2.put 4 (.slice a2 ts.length c2) rfl
  obtain ⟨y0, y1, y2, y3, y4, y5, y6, y7, y8, y9⟩ := X2.s.cells
  have g2 := X2.s.froz 4
  have O2 := hide (own_set (j := 4) (u := .slice a2 ts.length c2) o2 (by omega : w.heap.size < _))
  have b2 := hide (fun k hk => OwnS.low o2 k hk)
  have P1 := hide (own_set (j := 4) (u := .slice a2 ts.length c2) ((unhide O1).next hb2) (Nat.lt_of_succ_lt (unhide S1)))
  have S2 := hide (show w.heap.size + 1 < V1.heap.size by omega)
  have K2 := hide (show V1.heap.size ≤ (w2.setCell ⟨w.heap.size, 4, none⟩ (.slice a2 ts.length c2)).heap.size by have := hb2.size; simp [World.setCell] at *; omega)
  have L2 := hide (show w2.heap.size = (w2.setCell ⟨w.heap.size, 4, none⟩ (.slice a2 ts.length c2)).heap.size by simp [World.setCell])
  clear X2 o2 hb2 z2 HX1 HL x0 x1 x2 x3 x4 x5 x6 x7 x8 x9 O1
  have O1 := P1
  clear P1
  have HX2 := hide Y2
  obtain ⟨x0, x1, x2, x3, x4, x5, x6, x7, x8, x9⟩ := Y2.s.cells
  clear Y2
  go_wp2_with fail
  generalize w2.setCell ⟨w.heap.size, 4, none⟩ (.slice a2 ts.length c2) = V2 at *
  clear y0 y1 y2 y3 y4 y5 y6 y7 y8 y9 g2
  refine (unhide HN _ (unhide HX2).below).mono ?_
  rintro e w3 ⟨v3, rfl, o3, hb3⟩
  obtain ⟨a3, c3, rfl, _⟩ := o3.slice
  have z3 := (unhide HX2).lt
  have X3 := (unhide HX2).next hb3
  have Y3 := X3.put 7 (.slice a3 tns.length c3) rfl
  obtain ⟨y0, y1, y2, y3, y4, y5, y6, y7, y8, y9⟩ := X3.s.cells
  have g3 := X3.s.froz 7
  have O3 := hide (own_set (j := 7) (u := .slice a3 tns.length c3) o3 (by omega : w.heap.size < _))
  have P1 := hide (own_set (j := 7) (u := .slice a3 tns.length c3) ((unhide O1).next hb3) (Nat.lt_of_succ_lt (unhide S1)))
  have P2 := hide (own_set (j := 7) (u := .slice a3 tns.length c3) ((unhide O2).next hb3) (Nat.lt_of_succ_lt (unhide S2)))
  have S3 := hide (show w.heap.size + 1 < V2.heap.size by omega)
  have K3 := hide (show V2.heap.size ≤ (w3.setCell ⟨w.heap.size, 7, none⟩ (.slice a3 tns.length c3)).heap.size by have := hb3.size; simp [World.setCell] at *; omega)
  have L3 := hide (show w3.heap.size = (w3.setCell ⟨w.heap.size, 7, none⟩ (.slice a3 tns.length c3)).heap.size by simp [World.setCell])
  clear X3 o3 hb3 z3 HX2 HN x0 x1 x2 x3 x4 x5 x6 x7 x8 x9 O1 O2
  have O1 := P1
  have O2 := P2
  clear P1 P2
  have HX3 := hide Y3
  obtain ⟨x0, x1, x2, x3, x4, x5, x6, x7, x8, x9⟩ := Y3.s.cells
  clear Y3
  go_wp2_with fail
  generalize w3.setCell ⟨w.heap.size, 7, none⟩ (.slice a3 tns.length c3) = V3 at *
  clear y0 y1 y2 y3 y4 y5 y6 y7 y8 y9 g3
  refine (unhide HI _ (unhide HX3).below).mono ?_
  rintro e w4 ⟨v4, rfl, o4, hb4⟩
  obtain ⟨a4, c4, rfl, _⟩ := o4.slice
  have z4 := (unhide HX3).lt
  have X4 := (unhide HX3).next hb4
  have Y4 := X4.put 8 (.slice a4 tss.length c4) rfl
  obtain ⟨y0, y1, y2, y3, y4, y5, y6, y7, y8, y9⟩ := X4.s.cells
  have g4 := X4.s.froz 8
  have O4 := hide (own_set (j := 8) (u := .slice a4 tss.length c4) o4 (by omega : w.heap.size < _))
  have P1 := hide (own_set (j := 8) (u := .slice a4 tss.length c4) ((unhide O1).next hb4) (Nat.lt_of_succ_lt (unhide S1)))
  have P2 := hide (own_set (j := 8) (u := .slice a4 tss.length c4) ((unhide O2).next hb4) (Nat.lt_of_succ_lt (unhide S2)))
  have P3 := hide (own_set (j := 8) (u := .slice a4 tss.length c4) ((unhide O3).next hb4) (Nat.lt_of_succ_lt (unhide S3)))
  have S4 := hide (show w.heap.size + 1 < V3.heap.size by omega)
  have K4 := hide (show V3.heap.size ≤ (w4.setCell ⟨w.heap.size, 8, none⟩ (.slice a4 tss.length c4)).heap.size by have := hb4.size; simp [World.setCell] at *; omega)
  have L4 := hide (show w4.heap.size = (w4.setCell ⟨w.heap.size, 8, none⟩ (.slice a4 tss.length c4)).heap.size by simp [World.setCell])
  clear X4 o4 hb4 z4 HX3 HI x0 x1 x2 x3 x4 x5 x6 x7 x8 x9 O1 O2 O3
  have O1 := P1
  have O2 := P2
  have O3 := P3
  clear P1 P2 P3
  have HX4 := hide Y4
  obtain ⟨x0, x1, x2, x3, x4, x5, x6, x7, x8, x9⟩ := Y4.s.cells
  clear Y4
  go_wp2_with fail
  generalize w4.setCell ⟨w.heap.size, 8, none⟩ (.slice a4 tss.length c4) = V4 at *
  clear y0 y1 y2 y3 y4 y5 y6 y7 y8 y9 g4
  refine (unhide HW _ (unhide HX4).below).mono ?_
  rintro e w5 ⟨v5, rfl, o5, hb5⟩
  obtain ⟨a5, c5, rfl, _⟩ := o5.slice
  have z5 := (unhide HX4).lt
  have X5 := (unhide HX4).next hb5
  have Y5 := X5.put 9 (.slice a5 ws.length c5) rfl
  obtain ⟨y0, y1, y2, y3, y4, y5, y6, y7, y8, y9⟩ := X5.s.cells
  have g5 := X5.s.froz 9
  have O5 := hide (own_set (j := 9) (u := .slice a5 ws.length c5) o5 (by omega : w.heap.size < _))
  have P1 := hide (own_set (j := 9) (u := .slice a5 ws.length c5) ((unhide O1).next hb5) (Nat.lt_of_succ_lt (unhide S1)))
  have P2 := hide (own_set (j := 9) (u := .slice a5 ws.length c5) ((unhide O2).next hb5) (Nat.lt_of_succ_lt (unhide S2)))
  have P3 := hide (own_set (j := 9) (u := .slice a5 ws.length c5) ((unhide O3).next hb5) (Nat.lt_of_succ_lt (unhide S3)))
  have P4 := hide (own_set (j := 9) (u := .slice a5 ws.length c5) ((unhide O4).next hb5) (Nat.lt_of_succ_lt (unhide S4)))
  have S5 := hide (show w.heap.size + 1 < V4.heap.size by omega)
  have K5 := hide (show V4.heap.size ≤ (w5.setCell ⟨w.heap.size, 9, none⟩ (.slice a5 ws.length c5)).heap.size by have := hb5.size; simp [World.setCell] at *; omega)
  have L5 := hide (show w5.heap.size = (w5.setCell ⟨w.heap.size, 9, none⟩ (.slice a5 ws.length c5)).heap.size by simp [World.setCell])
  clear X5 o5 hb5 z5 HX4 HW x0 x1 x2 x3 x4 x5 x6 x7 x8 x9 O1 O2 O3 O4
  have O1 := P1
  have O2 := P2
  have O3 := P3
  have O4 := P4
  clear P1 P2 P3 P4
  have HX5 := hide Y5
  obtain ⟨x0, x1, x2, x3, x4, x5, x6, x7, x8, x9⟩ := Y5.s.cells
  obtain ⟨r0, r1, r2, r3, r4, r5, r6, r7, r8, r9⟩ := Y5.r.cells
  have rf0 := Y5.r.froz 0
  have rf1 := Y5.r.froz 1
  have rf2 := Y5.r.froz 2
  have rf3 := Y5.r.froz 3
  have rf4 := Y5.r.froz 4
  have rf5 := Y5.r.froz 5
  have rf6 := Y5.r.froz 6
  have rf7 := Y5.r.froz 7
  have rf8 := Y5.r.froz 8
  have rf9 := Y5.r.froz 9
  have Y5b := Y5.below
  clear Y5
  have HF := hide (put10_below Y5b (by omega : w.heap.size ≤ w.heap.size + 1) (.bool up) (.slice a1 fs.length c1) (.int .i64 id) (.int .i64 ep) (.slice a2 ts.length c2) (.int .i64 dn) (.int .i64 tz) (.slice a3 tns.length c3) (.slice a4 tss.length c4) (.slice a5 ws.length c5))
  have Q1 := hide (own_put10 (unhide O1) (unhide S1) (.bool up) (.slice a1 fs.length c1) (.int .i64 id) (.int .i64 ep) (.slice a2 ts.length c2) (.int .i64 dn) (.int .i64 tz) (.slice a3 tns.length c3) (.slice a4 tss.length c4) (.slice a5 ws.length c5))
  have Q2 := hide (own_put10 (unhide O2) (unhide S2) (.bool up) (.slice a1 fs.length c1) (.int .i64 id) (.int .i64 ep) (.slice a2 ts.length c2) (.int .i64 dn) (.int .i64 tz) (.slice a3 tns.length c3) (.slice a4 tss.length c4) (.slice a5 ws.length c5))
  have Q3 := hide (own_put10 (unhide O3) (unhide S3) (.bool up) (.slice a1 fs.length c1) (.int .i64 id) (.int .i64 ep) (.slice a2 ts.length c2) (.int .i64 dn) (.int .i64 tz) (.slice a3 tns.length c3) (.slice a4 tss.length c4) (.slice a5 ws.length c5))
  have Q4 := hide (own_put10 (unhide O4) (unhide S4) (.bool up) (.slice a1 fs.length c1) (.int .i64 id) (.int .i64 ep) (.slice a2 ts.length c2) (.int .i64 dn) (.int .i64 tz) (.slice a3 tns.length c3) (.slice a4 tss.length c4) (.slice a5 ws.length c5))
  have Q5 := hide (own_put10 (unhide O5) (unhide S5) (.bool up) (.slice a1 fs.length c1) (.int .i64 id) (.int .i64 ep) (.slice a2 ts.length c2) (.int .i64 dn) (.int .i64 tz) (.slice a3 tns.length c3) (.slice a4 tss.length c4) (.slice a5 ws.length c5))
  clear Y5b O1 O2 O3 O4 O5
  go_wp2_with fail
  refine bodyPost_ret (v := .agg #[.bool up, .slice a1 fs.length c1, .int .i64 id, .int .i64 ep, .slice a2 ts.length c2, .int .i64 dn, .int .i64 tz, .slice a3 tns.length c3, .slice a4 tss.length c4, .slice a5 ws.length c5]) (by simp [results, Tryz.results51, go_sem, r0, r1, r2, r3, r4, r5, r6, r7, r8, r9]) rfl ?_
  have k1 := unhide K1
  have k2 := unhide K2
  have k3 := unhide K3
  have k4 := unhide K4
  have z1 := unhide Z1
  exact ⟨a1, fs.length, c1, a2, c2, a3, c3, a4, c4, a5, c5, V1.heap.size, V2.heap.size, rfl, by omega, k2, (unhide Q1).lower z1, fun k hk => (unhide L1) ▸ unhide b1 k hk, unhide Q2, fun k hk => (unhide L2) ▸ unhide b2 k hk, unhide Q3, (unhide Q4).lower k3, (unhide Q5).lower (Nat.le_trans k3 k4), unhide HF⟩

end Go.Proofs.YtaoflcmeiaffjaaGreatDoor
