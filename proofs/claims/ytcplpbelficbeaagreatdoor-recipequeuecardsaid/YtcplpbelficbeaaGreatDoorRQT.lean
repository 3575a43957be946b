/-
  What tree.admitted answers: the walks.
  Locks, lines, barriers, as plain data: what a fence answers, where a node below another lies. No program is named here.
-/
import Derived.Test.YtcplpbelficbeaaGreatDoorRQS
import Derived.Test.YtcplpbelficbeaaGreatDoorRQN
import Derived.Test.YtcplpbelficbeaaGreatDoorRQK
import Derived.Test.YtcplpbelficbeaaGreatDoorRQI
import Derived.Test.YtcplpbelficbeaaGreatDoorRQA
namespace Go.Proofs.YtcplpbelficbeaaGreatDoor
open Go.RowKit

theorem adm_range {t : Tr} {x : WTxn} (h : goodT t = false) : admE t x = 3 := by rw [admE, if_pos h]
theorem adm_txn {t : Tr} {x : WTxn} (h : goodT t = true) (h1 : gdE x ≠ 0) : admE t x = gdE x := by rw [admE, if_neg (by simp [h]), if_pos h1]
theorem adm_rest {t : Tr} {x : WTxn} (h : goodT t = true) (h1 : gdE x = 0) : admE t x = (if x.z ≤ t.z then 13 else if x.o = 1 ∧ x.s ∈ t.ss then 8 else if x.o ≠ 1 ∧ x.s ∉ t.ss then 12 else 0) := by
  rw [admE, if_neg (by simp [h]), if_neg (by omega)]

set_option maxRecDepth 20000 in
set_option maxHeartbeats 2000000 in
theorem admit_range (t : Tr) (vn vs : Value) (x : WTxn) (w : World) (hn : SeqV w vn t.ns) (hs : SeqV w vs t.ss) (hw : WfT t) (hg : goodT t = false) :
    Calls Tryz.prog 17 #[.agg #[.int .i64 t.z, vn, vs], txnV x] w fun e w' => e = .returned (.int .i64 3) ∧ Below w.heap.size w w' := by
  have CG := hide (fun W (hW : Below w.heap.size w W) => tgood_any t vn vs W (hn.next hW) (hs.next hW) hw)
  rw [hg] at CG
  obtain ⟨na, nc, rfl⟩ := seq_slice hn
  obtain ⟨sa, sc, rfl⟩ := seq_slice hs
  clear hn hs hw hg
  obtain ⟨xz, xo, xs, xp, xd, xv, xw⟩ := x
  unfold txnV
  go_enter Tryz.func17, Tryz.ntmps17
  go_wp2_with fail
  refine (unhide CG _ (nnext (allocB _ _) (allocB _ _))).mono ?_
  rintro e w1 ⟨rfl, hb1⟩
  have HB := hide (nnext (nnext (allocB _ _) (allocB _ _)) hb1)
  clear hb1
  go_wp2_with fail
  go_ret
  exact ⟨rfl, unhide HB⟩

set_option maxRecDepth 20000 in
set_option maxHeartbeats 2000000 in
theorem admit_txn (t : Tr) (vn vs : Value) (x : WTxn) (w : World) (hn : SeqV w vn t.ns) (hs : SeqV w vs t.ss) (hw : WfT t) (hd : x.d.length ≤ 140737488355328) (hg : goodT t = true) (hx : gdE x ≠ 0) :
    Calls Tryz.prog 17 #[.agg #[.int .i64 t.z, vn, vs], txnV x] w fun e w' => e = .returned (.int .i64 (gdE x)) ∧ Below w.heap.size w w' := by
  have CG := hide (fun W (hW : Below w.heap.size w W) => tgood_any t vn vs W (hn.next hW) (hs.next hW) hw)
  rw [hg] at CG
  have CW := hide (fun W => wgood_any x W hd)
  obtain ⟨na, nc, rfl⟩ := seq_slice hn
  obtain ⟨sa, sc, rfl⟩ := seq_slice hs
  have hxb : (gdE x != 0) = true := by simpa using hx
  clear hn hs hw hg hx
  have KX : ∀ W : World, Below (w.alloc (.cells #[.int .i64 t.z, .slice na t.ns.length nc, .slice sa t.ss.length sc] 26)).heap.size (w.alloc (.cells #[.int .i64 t.z, .slice na t.ns.length nc, .slice sa t.ss.length sc] 26)) W → Below w.heap.size w W := fun W h => nbox_then h
  have HKX := hide KX
  generalize gdE x = E at hxb CW ⊢
  obtain ⟨xz, xo, xs, xp, xd, xv, xw⟩ := x
  unfold txnV at CW ⊢
  simp only at CW ⊢
  have KT : ∀ w1, Below ((w.alloc (.cells #[.int .i64 t.z, .slice na t.ns.length nc, .slice sa t.ss.length sc] 26)).alloc (.cells #[.int .i64 xz, .int .i64 xo, .int .i64 xs, .string ⟨xp.toArray⟩, .string ⟨xd.toArray⟩, .int .i64 xv, .int .i64 xw] 32)).heap.size ((w.alloc (.cells #[.int .i64 t.z, .slice na t.ns.length nc, .slice sa t.ss.length sc] 26)).alloc (.cells #[.int .i64 xz, .int .i64 xo, .int .i64 xs, .string ⟨xp.toArray⟩, .string ⟨xd.toArray⟩, .int .i64 xv, .int .i64 xw] 32)) w1 → TAt w1 (w.heap.size + 1) ⟨xz, xo, xs, xp, xd, xv, xw⟩ := fun w1 h1 => by
    have := (TAt.new (w.alloc (.cells #[.int .i64 t.z, .slice na t.ns.length nc, .slice sa t.ss.length sc] 26)) ⟨xz, xo, xs, xp, xd, xv, xw⟩).next h1
    simpa using this
  have HKT := hide KT
  clear KX KT
  go_enter Tryz.func17, Tryz.ntmps17
  go_wp2_with fail
  refine (unhide CG _ (nnext (allocB _ _) (allocB _ _))).mono ?_
  rintro e w1 ⟨rfl, hb1⟩
  have HB := hide (nnext (nnext (allocB _ _) (allocB _ _)) hb1)
  have tx := unhide HKT w1 hb1
  have y0 := tx.c0
  have y1 := tx.c1
  have y2 := tx.c2
  have y3 := tx.c3
  have y4 := tx.c4
  have y5 := tx.c5
  have y6 := tx.c6
  clear hb1 tx
  go_wp2_with fail
  refine (unhide CW _).mono ?_
  rintro e w2 ⟨rfl, hb2⟩
  have HB2 := hide (nnext (unhide HB) hb2)
  clear hb2
  go_wp2_with fail
  go_ret
  exact ⟨rfl, unhide HB2⟩

set_option maxRecDepth 20000 in
set_option maxHeartbeats 2000000 in
theorem admit_ord (t : Tr) (vn vs : Value) (x : WTxn) (w : World) (hn : SeqV w vn t.ns) (hs : SeqV w vs t.ss) (hw : WfT t) (hd : x.d.length ≤ 140737488355328) (hg : goodT t = true) (hx : gdE x = 0) (h1 : x.z ≤ t.z) :
    Calls Tryz.prog 17 #[.agg #[.int .i64 t.z, vn, vs], txnV x] w fun e w' => e = .returned (.int .i64 13) ∧ Below w.heap.size w w' := by
  have CG := hide (fun W (hW : Below w.heap.size w W) => tgood_any t vn vs W (hn.next hW) (hs.next hW) hw)
  have CO := fun W (hW : Below w.heap.size w W) => topen_any t.z vn vs t.ss x.s W (hs.next hW) (goodT_true.1 hg).ses
  rw [hg] at CG
  have CW := hide (fun W => wgood_any x W hd)
  rw [hx] at CW
  have q1 : decide (x.z ≤ t.z) = true := decide_eq_true h1
  clear h1
  generalize decide (x.s ∈ t.ss) = op at CO
  have HCO := hide CO
  obtain ⟨na, nc, rfl⟩ := seq_slice hn
  obtain ⟨sa, sc, rfl⟩ := seq_slice hs
  clear hn hs hw hg hx CO
  obtain ⟨xz, xo, xs, xp, xd, xv, xw⟩ := x
  unfold txnV at CW ⊢
  simp only at *
  have KT : ∀ w1, Below ((w.alloc (.cells #[.int .i64 t.z, .slice na t.ns.length nc, .slice sa t.ss.length sc] 26)).alloc (.cells #[.int .i64 xz, .int .i64 xo, .int .i64 xs, .string ⟨xp.toArray⟩, .string ⟨xd.toArray⟩, .int .i64 xv, .int .i64 xw] 32)).heap.size ((w.alloc (.cells #[.int .i64 t.z, .slice na t.ns.length nc, .slice sa t.ss.length sc] 26)).alloc (.cells #[.int .i64 xz, .int .i64 xo, .int .i64 xs, .string ⟨xp.toArray⟩, .string ⟨xd.toArray⟩, .int .i64 xv, .int .i64 xw] 32)) w1 → TAt w1 (w.heap.size + 1) ⟨xz, xo, xs, xp, xd, xv, xw⟩ ∧ w1.heap[w.heap.size]? = some (.cells #[.int .i64 t.z, .slice na t.ns.length nc, .slice sa t.ss.length sc] 26 (0, 0)) := fun w1 h1 => by
    have := (TAt.new (w.alloc (.cells #[.int .i64 t.z, .slice na t.ns.length nc, .slice sa t.ss.length sc] 26)) ⟨xz, xo, xs, xp, xd, xv, xw⟩).next h1
    refine ⟨by simpa using this, ?_⟩
    rw [h1.block _ (by simp; omega)]
    rw [(allocB (w.alloc (.cells #[.int .i64 t.z, .slice na t.ns.length nc, .slice sa t.ss.length sc] 26)) (.cells #[.int .i64 xz, .int .i64 xo, .int .i64 xs, .string ⟨xp.toArray⟩, .string ⟨xd.toArray⟩, .int .i64 xv, .int .i64 xw] 32)).block _ (by simp)]
    exact heap_alloc_new w _
  have HKT := hide KT
  clear KT
  go_enter Tryz.func17, Tryz.ntmps17
  go_wp2_with fail
  refine (unhide CG _ (nnext (allocB _ _) (allocB _ _))).mono ?_
  rintro e w1 ⟨rfl, hb1⟩
  have HB := hide (nnext (nnext (allocB _ _) (allocB _ _)) hb1)
  obtain ⟨tx, tt⟩ := unhide HKT w1 hb1
  have y0 := tx.c0
  have y1 := tx.c1
  have y2 := tx.c2
  have y3 := tx.c3
  have y4 := tx.c4
  have y5 := tx.c5
  have y6 := tx.c6
  have HTX := hide tx
  have HTT := hide tt
  clear hb1 tx tt
  go_wp2_with fail
  refine (unhide CW _).mono ?_
  rintro e w2 ⟨rfl, hb2⟩
  have HB2 := hide (nnext (unhide HB) hb2)
  have tx2 := (unhide HTX).next hb2
  have tt2 := (hb2.block _ (Array.getElem?_eq_some_iff.1 (unhide HTT)).1).trans (unhide HTT)
  have u0 := tx2.c0
  have u1 := tx2.c1
  have u2 := tx2.c2
  have v0 : w2.cell? ⟨w.heap.size, 0, none⟩ = some (.int .i64 t.z) := by simp [World.cell?, tt2]
  have v1 : w2.cell? ⟨w.heap.size, 1, none⟩ = some (.slice na t.ns.length nc) := by simp [World.cell?, tt2]
  have v2 : w2.cell? ⟨w.heap.size, 2, none⟩ = some (.slice sa t.ss.length sc) := by simp [World.cell?, tt2]
  have HTX2 := hide tx2
  have HTT2 := hide tt2
  clear hb2 y0 y1 y2 y3 y4 y5 y6 tx2 tt2
  go_wp2_with fail
  refine (unhide HCO _ (unhide HB2)).mono ?_
  rintro e w3 ⟨rfl, hb3⟩
  have HB3 := hide (nnext (unhide HB2) hb3)
  have tx3 := (unhide HTX2).next hb3
  have tt3 := (hb3.block _ (Array.getElem?_eq_some_iff.1 (unhide HTT2)).1).trans (unhide HTT2)
  have z0 := tx3.c0
  have z1 := tx3.c1
  have r0 : w3.cell? ⟨w.heap.size, 0, none⟩ = some (.int .i64 t.z) := by simp [World.cell?, tt3]
  clear hb3 u0 u1 u2 v0 v1 v2 tx3 tt3
  go_wp2_with fail
  go_ret
  exact ⟨rfl, unhide HB3⟩

set_option maxRecDepth 20000 in
set_option maxHeartbeats 2000000 in
theorem admit_twice (t : Tr) (vn vs : Value) (x : WTxn) (w : World) (hn : SeqV w vn t.ns) (hs : SeqV w vs t.ss) (hw : WfT t) (hd : x.d.length ≤ 140737488355328) (hg : goodT t = true) (hx : gdE x = 0) (h1 : t.z < x.z) (h2 : x.o = 1) (h3 : x.s ∈ t.ss) :
    Calls Tryz.prog 17 #[.agg #[.int .i64 t.z, vn, vs], txnV x] w fun e w' => e = .returned (.int .i64 8) ∧ Below w.heap.size w w' := by
  have CG := hide (fun W (hW : Below w.heap.size w W) => tgood_any t vn vs W (hn.next hW) (hs.next hW) hw)
  have CO := fun W (hW : Below w.heap.size w W) => topen_any t.z vn vs t.ss x.s W (hs.next hW) (goodT_true.1 hg).ses
  rw [hg] at CG
  have CW := hide (fun W => wgood_any x W hd)
  rw [hx] at CW
  have q1 : decide (x.z ≤ t.z) = false := decide_eq_false (by omega)
  rw [decide_eq_true h3] at CO
  have q2 : (x.o == 1) = true := by simpa using h2
  have q3 : (x.o != 1) = false := by simpa using h2
  clear h1 h2 h3
  have HCO := hide CO
  obtain ⟨na, nc, rfl⟩ := seq_slice hn
  obtain ⟨sa, sc, rfl⟩ := seq_slice hs
  clear hn hs hw hg hx CO
  obtain ⟨xz, xo, xs, xp, xd, xv, xw⟩ := x
  unfold txnV at CW ⊢
  simp only at *
  have KT : ∀ w1, Below ((w.alloc (.cells #[.int .i64 t.z, .slice na t.ns.length nc, .slice sa t.ss.length sc] 26)).alloc (.cells #[.int .i64 xz, .int .i64 xo, .int .i64 xs, .string ⟨xp.toArray⟩, .string ⟨xd.toArray⟩, .int .i64 xv, .int .i64 xw] 32)).heap.size ((w.alloc (.cells #[.int .i64 t.z, .slice na t.ns.length nc, .slice sa t.ss.length sc] 26)).alloc (.cells #[.int .i64 xz, .int .i64 xo, .int .i64 xs, .string ⟨xp.toArray⟩, .string ⟨xd.toArray⟩, .int .i64 xv, .int .i64 xw] 32)) w1 → TAt w1 (w.heap.size + 1) ⟨xz, xo, xs, xp, xd, xv, xw⟩ ∧ w1.heap[w.heap.size]? = some (.cells #[.int .i64 t.z, .slice na t.ns.length nc, .slice sa t.ss.length sc] 26 (0, 0)) := fun w1 h1 => by
    have := (TAt.new (w.alloc (.cells #[.int .i64 t.z, .slice na t.ns.length nc, .slice sa t.ss.length sc] 26)) ⟨xz, xo, xs, xp, xd, xv, xw⟩).next h1
    refine ⟨by simpa using this, ?_⟩
    rw [h1.block _ (by simp; omega)]
    rw [(allocB (w.alloc (.cells #[.int .i64 t.z, .slice na t.ns.length nc, .slice sa t.ss.length sc] 26)) (.cells #[.int .i64 xz, .int .i64 xo, .int .i64 xs, .string ⟨xp.toArray⟩, .string ⟨xd.toArray⟩, .int .i64 xv, .int .i64 xw] 32)).block _ (by simp)]
    exact heap_alloc_new w _
  have HKT := hide KT
  clear KT
  go_enter Tryz.func17, Tryz.ntmps17
  go_wp2_with fail
  refine (unhide CG _ (nnext (allocB _ _) (allocB _ _))).mono ?_
  rintro e w1 ⟨rfl, hb1⟩
  have HB := hide (nnext (nnext (allocB _ _) (allocB _ _)) hb1)
  obtain ⟨tx, tt⟩ := unhide HKT w1 hb1
  have y0 := tx.c0
  have y1 := tx.c1
  have y2 := tx.c2
  have y3 := tx.c3
  have y4 := tx.c4
  have y5 := tx.c5
  have y6 := tx.c6
  have HTX := hide tx
  have HTT := hide tt
  clear hb1 tx tt
  go_wp2_with fail
  refine (unhide CW _).mono ?_
  rintro e w2 ⟨rfl, hb2⟩
  have HB2 := hide (nnext (unhide HB) hb2)
  have tx2 := (unhide HTX).next hb2
  have tt2 := (hb2.block _ (Array.getElem?_eq_some_iff.1 (unhide HTT)).1).trans (unhide HTT)
  have u0 := tx2.c0
  have u1 := tx2.c1
  have u2 := tx2.c2
  have v0 : w2.cell? ⟨w.heap.size, 0, none⟩ = some (.int .i64 t.z) := by simp [World.cell?, tt2]
  have v1 : w2.cell? ⟨w.heap.size, 1, none⟩ = some (.slice na t.ns.length nc) := by simp [World.cell?, tt2]
  have v2 : w2.cell? ⟨w.heap.size, 2, none⟩ = some (.slice sa t.ss.length sc) := by simp [World.cell?, tt2]
  have HTX2 := hide tx2
  have HTT2 := hide tt2
  clear hb2 y0 y1 y2 y3 y4 y5 y6 tx2 tt2
  go_wp2_with fail
  refine (unhide HCO _ (unhide HB2)).mono ?_
  rintro e w3 ⟨rfl, hb3⟩
  have HB3 := hide (nnext (unhide HB2) hb3)
  have tx3 := (unhide HTX2).next hb3
  have tt3 := (hb3.block _ (Array.getElem?_eq_some_iff.1 (unhide HTT2)).1).trans (unhide HTT2)
  have z0 := tx3.c0
  have z1 := tx3.c1
  have r0 : w3.cell? ⟨w.heap.size, 0, none⟩ = some (.int .i64 t.z) := by simp [World.cell?, tt3]
  clear hb3 u0 u1 u2 v0 v1 v2 tx3 tt3
  go_wp2_with fail
  go_ret
  exact ⟨rfl, unhide HB3⟩

set_option maxRecDepth 20000 in
set_option maxHeartbeats 2000000 in
theorem admit_ses (t : Tr) (vn vs : Value) (x : WTxn) (w : World) (hn : SeqV w vn t.ns) (hs : SeqV w vs t.ss) (hw : WfT t) (hd : x.d.length ≤ 140737488355328) (hg : goodT t = true) (hx : gdE x = 0) (h1 : t.z < x.z) (h2 : x.o ≠ 1) (h3 : x.s ∉ t.ss) :
    Calls Tryz.prog 17 #[.agg #[.int .i64 t.z, vn, vs], txnV x] w fun e w' => e = .returned (.int .i64 12) ∧ Below w.heap.size w w' := by
  have CG := hide (fun W (hW : Below w.heap.size w W) => tgood_any t vn vs W (hn.next hW) (hs.next hW) hw)
  have CO := fun W (hW : Below w.heap.size w W) => topen_any t.z vn vs t.ss x.s W (hs.next hW) (goodT_true.1 hg).ses
  rw [hg] at CG
  have CW := hide (fun W => wgood_any x W hd)
  rw [hx] at CW
  have q1 : decide (x.z ≤ t.z) = false := decide_eq_false (by omega)
  rw [decide_eq_false h3] at CO
  have q2 : (x.o == 1) = false := by simpa using h2
  have q3 : (x.o != 1) = true := by simpa using h2
  clear h1 h2 h3
  have HCO := hide CO
  obtain ⟨na, nc, rfl⟩ := seq_slice hn
  obtain ⟨sa, sc, rfl⟩ := seq_slice hs
  clear hn hs hw hg hx CO
  obtain ⟨xz, xo, xs, xp, xd, xv, xw⟩ := x
  unfold txnV at CW ⊢
  simp only at *
  have KT : ∀ w1, Below ((w.alloc (.cells #[.int .i64 t.z, .slice na t.ns.length nc, .slice sa t.ss.length sc] 26)).alloc (.cells #[.int .i64 xz, .int .i64 xo, .int .i64 xs, .string ⟨xp.toArray⟩, .string ⟨xd.toArray⟩, .int .i64 xv, .int .i64 xw] 32)).heap.size ((w.alloc (.cells #[.int .i64 t.z, .slice na t.ns.length nc, .slice sa t.ss.length sc] 26)).alloc (.cells #[.int .i64 xz, .int .i64 xo, .int .i64 xs, .string ⟨xp.toArray⟩, .string ⟨xd.toArray⟩, .int .i64 xv, .int .i64 xw] 32)) w1 → TAt w1 (w.heap.size + 1) ⟨xz, xo, xs, xp, xd, xv, xw⟩ ∧ w1.heap[w.heap.size]? = some (.cells #[.int .i64 t.z, .slice na t.ns.length nc, .slice sa t.ss.length sc] 26 (0, 0)) := fun w1 h1 => by
    have := (TAt.new (w.alloc (.cells #[.int .i64 t.z, .slice na t.ns.length nc, .slice sa t.ss.length sc] 26)) ⟨xz, xo, xs, xp, xd, xv, xw⟩).next h1
    refine ⟨by simpa using this, ?_⟩
    rw [h1.block _ (by simp; omega)]
    rw [(allocB (w.alloc (.cells #[.int .i64 t.z, .slice na t.ns.length nc, .slice sa t.ss.length sc] 26)) (.cells #[.int .i64 xz, .int .i64 xo, .int .i64 xs, .string ⟨xp.toArray⟩, .string ⟨xd.toArray⟩, .int .i64 xv, .int .i64 xw] 32)).block _ (by simp)]
    exact heap_alloc_new w _
  have HKT := hide KT
  clear KT
  go_enter Tryz.func17, Tryz.ntmps17
  go_wp2_with fail
  refine (unhide CG _ (nnext (allocB _ _) (allocB _ _))).mono ?_
  rintro e w1 ⟨rfl, hb1⟩
  have HB := hide (nnext (nnext (allocB _ _) (allocB _ _)) hb1)
  obtain ⟨tx, tt⟩ := unhide HKT w1 hb1
  have y0 := tx.c0
  have y1 := tx.c1
  have y2 := tx.c2
  have y3 := tx.c3
  have y4 := tx.c4
  have y5 := tx.c5
  have y6 := tx.c6
  have HTX := hide tx
  have HTT := hide tt
  clear hb1 tx tt
  go_wp2_with fail
  refine (unhide CW _).mono ?_
  rintro e w2 ⟨rfl, hb2⟩
  have HB2 := hide (nnext (unhide HB) hb2)
  have tx2 := (unhide HTX).next hb2
  have tt2 := (hb2.block _ (Array.getElem?_eq_some_iff.1 (unhide HTT)).1).trans (unhide HTT)
  have u0 := tx2.c0
  have u1 := tx2.c1
  have u2 := tx2.c2
  have v0 : w2.cell? ⟨w.heap.size, 0, none⟩ = some (.int .i64 t.z) := by simp [World.cell?, tt2]
  have v1 : w2.cell? ⟨w.heap.size, 1, none⟩ = some (.slice na t.ns.length nc) := by simp [World.cell?, tt2]
  have v2 : w2.cell? ⟨w.heap.size, 2, none⟩ = some (.slice sa t.ss.length sc) := by simp [World.cell?, tt2]
  have HTX2 := hide tx2
  have HTT2 := hide tt2
  clear hb2 y0 y1 y2 y3 y4 y5 y6 tx2 tt2
  go_wp2_with fail
  refine (unhide HCO _ (unhide HB2)).mono ?_
  rintro e w3 ⟨rfl, hb3⟩
  have HB3 := hide (nnext (unhide HB2) hb3)
  have tx3 := (unhide HTX2).next hb3
  have tt3 := (hb3.block _ (Array.getElem?_eq_some_iff.1 (unhide HTT2)).1).trans (unhide HTT2)
  have z0 := tx3.c0
  have z1 := tx3.c1
  have r0 : w3.cell? ⟨w.heap.size, 0, none⟩ = some (.int .i64 t.z) := by simp [World.cell?, tt3]
  clear hb3 u0 u1 u2 v0 v1 v2 tx3 tt3
  go_wp2_with fail
  go_ret
  exact ⟨rfl, unhide HB3⟩

set_option maxRecDepth 20000 in
set_option maxHeartbeats 2000000 in
theorem admit_new (t : Tr) (vn vs : Value) (x : WTxn) (w : World) (hn : SeqV w vn t.ns) (hs : SeqV w vs t.ss) (hw : WfT t) (hd : x.d.length ≤ 140737488355328) (hg : goodT t = true) (hx : gdE x = 0) (h1 : t.z < x.z) (h2 : x.o = 1) (h3 : x.s ∉ t.ss) :
    Calls Tryz.prog 17 #[.agg #[.int .i64 t.z, vn, vs], txnV x] w fun e w' => e = .returned (.int .i64 0) ∧ Below w.heap.size w w' := by
  have CG := hide (fun W (hW : Below w.heap.size w W) => tgood_any t vn vs W (hn.next hW) (hs.next hW) hw)
  have CO := fun W (hW : Below w.heap.size w W) => topen_any t.z vn vs t.ss x.s W (hs.next hW) (goodT_true.1 hg).ses
  rw [hg] at CG
  have CW := hide (fun W => wgood_any x W hd)
  rw [hx] at CW
  have q1 : decide (x.z ≤ t.z) = false := decide_eq_false (by omega)
  rw [decide_eq_false h3] at CO
  have q2 : (x.o == 1) = true := by simpa using h2
  have q3 : (x.o != 1) = false := by simpa using h2
  clear h1 h2 h3
  have HCO := hide CO
  obtain ⟨na, nc, rfl⟩ := seq_slice hn
  obtain ⟨sa, sc, rfl⟩ := seq_slice hs
  clear hn hs hw hg hx CO
  obtain ⟨xz, xo, xs, xp, xd, xv, xw⟩ := x
  unfold txnV at CW ⊢
  simp only at *
  have KT : ∀ w1, Below ((w.alloc (.cells #[.int .i64 t.z, .slice na t.ns.length nc, .slice sa t.ss.length sc] 26)).alloc (.cells #[.int .i64 xz, .int .i64 xo, .int .i64 xs, .string ⟨xp.toArray⟩, .string ⟨xd.toArray⟩, .int .i64 xv, .int .i64 xw] 32)).heap.size ((w.alloc (.cells #[.int .i64 t.z, .slice na t.ns.length nc, .slice sa t.ss.length sc] 26)).alloc (.cells #[.int .i64 xz, .int .i64 xo, .int .i64 xs, .string ⟨xp.toArray⟩, .string ⟨xd.toArray⟩, .int .i64 xv, .int .i64 xw] 32)) w1 → TAt w1 (w.heap.size + 1) ⟨xz, xo, xs, xp, xd, xv, xw⟩ ∧ w1.heap[w.heap.size]? = some (.cells #[.int .i64 t.z, .slice na t.ns.length nc, .slice sa t.ss.length sc] 26 (0, 0)) := fun w1 h1 => by
    have := (TAt.new (w.alloc (.cells #[.int .i64 t.z, .slice na t.ns.length nc, .slice sa t.ss.length sc] 26)) ⟨xz, xo, xs, xp, xd, xv, xw⟩).next h1
    refine ⟨by simpa using this, ?_⟩
    rw [h1.block _ (by simp; omega)]
    rw [(allocB (w.alloc (.cells #[.int .i64 t.z, .slice na t.ns.length nc, .slice sa t.ss.length sc] 26)) (.cells #[.int .i64 xz, .int .i64 xo, .int .i64 xs, .string ⟨xp.toArray⟩, .string ⟨xd.toArray⟩, .int .i64 xv, .int .i64 xw] 32)).block _ (by simp)]
    exact heap_alloc_new w _
  have HKT := hide KT
  clear KT
  go_enter Tryz.func17, Tryz.ntmps17
  go_wp2_with fail
  refine (unhide CG _ (nnext (allocB _ _) (allocB _ _))).mono ?_
  rintro e w1 ⟨rfl, hb1⟩
  have HB := hide (nnext (nnext (allocB _ _) (allocB _ _)) hb1)
  obtain ⟨tx, tt⟩ := unhide HKT w1 hb1
  have y0 := tx.c0
  have y1 := tx.c1
  have y2 := tx.c2
  have y3 := tx.c3
  have y4 := tx.c4
  have y5 := tx.c5
  have y6 := tx.c6
  have HTX := hide tx
  have HTT := hide tt
  clear hb1 tx tt
  go_wp2_with fail
  refine (unhide CW _).mono ?_
  rintro e w2 ⟨rfl, hb2⟩
  have HB2 := hide (nnext (unhide HB) hb2)
  have tx2 := (unhide HTX).next hb2
  have tt2 := (hb2.block _ (Array.getElem?_eq_some_iff.1 (unhide HTT)).1).trans (unhide HTT)
  have u0 := tx2.c0
  have u1 := tx2.c1
  have u2 := tx2.c2
  have v0 : w2.cell? ⟨w.heap.size, 0, none⟩ = some (.int .i64 t.z) := by simp [World.cell?, tt2]
  have v1 : w2.cell? ⟨w.heap.size, 1, none⟩ = some (.slice na t.ns.length nc) := by simp [World.cell?, tt2]
  have v2 : w2.cell? ⟨w.heap.size, 2, none⟩ = some (.slice sa t.ss.length sc) := by simp [World.cell?, tt2]
  have HTX2 := hide tx2
  have HTT2 := hide tt2
  clear hb2 y0 y1 y2 y3 y4 y5 y6 tx2 tt2
  go_wp2_with fail
  refine (unhide HCO _ (unhide HB2)).mono ?_
  rintro e w3 ⟨rfl, hb3⟩
  have HB3 := hide (nnext (unhide HB2) hb3)
  have tx3 := (unhide HTX2).next hb3
  have tt3 := (hb3.block _ (Array.getElem?_eq_some_iff.1 (unhide HTT2)).1).trans (unhide HTT2)
  have z0 := tx3.c0
  have z1 := tx3.c1
  have r0 : w3.cell? ⟨w.heap.size, 0, none⟩ = some (.int .i64 t.z) := by simp [World.cell?, tt3]
  clear hb3 u0 u1 u2 v0 v1 v2 tx3 tt3
  go_wp2_with fail
  go_ret
  exact ⟨rfl, unhide HB3⟩

set_option maxRecDepth 20000 in
set_option maxHeartbeats 2000000 in
theorem admit_fit (t : Tr) (vn vs : Value) (x : WTxn) (w : World) (hn : SeqV w vn t.ns) (hs : SeqV w vs t.ss) (hw : WfT t) (hd : x.d.length ≤ 140737488355328) (hg : goodT t = true) (hx : gdE x = 0) (h1 : t.z < x.z) (h2 : x.o ≠ 1) (h3 : x.s ∈ t.ss) :
    Calls Tryz.prog 17 #[.agg #[.int .i64 t.z, vn, vs], txnV x] w fun e w' => e = .returned (.int .i64 0) ∧ Below w.heap.size w w' := by
  have CG := hide (fun W (hW : Below w.heap.size w W) => tgood_any t vn vs W (hn.next hW) (hs.next hW) hw)
  have CO := fun W (hW : Below w.heap.size w W) => topen_any t.z vn vs t.ss x.s W (hs.next hW) (goodT_true.1 hg).ses
  rw [hg] at CG
  have CW := hide (fun W => wgood_any x W hd)
  rw [hx] at CW
  have q1 : decide (x.z ≤ t.z) = false := decide_eq_false (by omega)
  rw [decide_eq_true h3] at CO
  have q2 : (x.o == 1) = false := by simpa using h2
  have q3 : (x.o != 1) = true := by simpa using h2
  clear h1 h2 h3
  have HCO := hide CO
  obtain ⟨na, nc, rfl⟩ := seq_slice hn
  obtain ⟨sa, sc, rfl⟩ := seq_slice hs
  clear hn hs hw hg hx CO
  obtain ⟨xz, xo, xs, xp, xd, xv, xw⟩ := x
  unfold txnV at CW ⊢
  simp only at *
  have KT : ∀ w1, Below ((w.alloc (.cells #[.int .i64 t.z, .slice na t.ns.length nc, .slice sa t.ss.length sc] 26)).alloc (.cells #[.int .i64 xz, .int .i64 xo, .int .i64 xs, .string ⟨xp.toArray⟩, .string ⟨xd.toArray⟩, .int .i64 xv, .int .i64 xw] 32)).heap.size ((w.alloc (.cells #[.int .i64 t.z, .slice na t.ns.length nc, .slice sa t.ss.length sc] 26)).alloc (.cells #[.int .i64 xz, .int .i64 xo, .int .i64 xs, .string ⟨xp.toArray⟩, .string ⟨xd.toArray⟩, .int .i64 xv, .int .i64 xw] 32)) w1 → TAt w1 (w.heap.size + 1) ⟨xz, xo, xs, xp, xd, xv, xw⟩ ∧ w1.heap[w.heap.size]? = some (.cells #[.int .i64 t.z, .slice na t.ns.length nc, .slice sa t.ss.length sc] 26 (0, 0)) := fun w1 h1 => by
    have := (TAt.new (w.alloc (.cells #[.int .i64 t.z, .slice na t.ns.length nc, .slice sa t.ss.length sc] 26)) ⟨xz, xo, xs, xp, xd, xv, xw⟩).next h1
    refine ⟨by simpa using this, ?_⟩
    rw [h1.block _ (by simp; omega)]
    rw [(allocB (w.alloc (.cells #[.int .i64 t.z, .slice na t.ns.length nc, .slice sa t.ss.length sc] 26)) (.cells #[.int .i64 xz, .int .i64 xo, .int .i64 xs, .string ⟨xp.toArray⟩, .string ⟨xd.toArray⟩, .int .i64 xv, .int .i64 xw] 32)).block _ (by simp)]
    exact heap_alloc_new w _
  have HKT := hide KT
  clear KT
  go_enter Tryz.func17, Tryz.ntmps17
  go_wp2_with fail
  refine (unhide CG _ (nnext (allocB _ _) (allocB _ _))).mono ?_
  rintro e w1 ⟨rfl, hb1⟩
  have HB := hide (nnext (nnext (allocB _ _) (allocB _ _)) hb1)
  obtain ⟨tx, tt⟩ := unhide HKT w1 hb1
  have y0 := tx.c0
  have y1 := tx.c1
  have y2 := tx.c2
  have y3 := tx.c3
  have y4 := tx.c4
  have y5 := tx.c5
  have y6 := tx.c6
  have HTX := hide tx
  have HTT := hide tt
  clear hb1 tx tt
  go_wp2_with fail
  refine (unhide CW _).mono ?_
  rintro e w2 ⟨rfl, hb2⟩
  have HB2 := hide (nnext (unhide HB) hb2)
  have tx2 := (unhide HTX).next hb2
  have tt2 := (hb2.block _ (Array.getElem?_eq_some_iff.1 (unhide HTT)).1).trans (unhide HTT)
  have u0 := tx2.c0
  have u1 := tx2.c1
  have u2 := tx2.c2
  have v0 : w2.cell? ⟨w.heap.size, 0, none⟩ = some (.int .i64 t.z) := by simp [World.cell?, tt2]
  have v1 : w2.cell? ⟨w.heap.size, 1, none⟩ = some (.slice na t.ns.length nc) := by simp [World.cell?, tt2]
  have v2 : w2.cell? ⟨w.heap.size, 2, none⟩ = some (.slice sa t.ss.length sc) := by simp [World.cell?, tt2]
  have HTX2 := hide tx2
  have HTT2 := hide tt2
  clear hb2 y0 y1 y2 y3 y4 y5 y6 tx2 tt2
  go_wp2_with fail
  refine (unhide HCO _ (unhide HB2)).mono ?_
  rintro e w3 ⟨rfl, hb3⟩
  have HB3 := hide (nnext (unhide HB2) hb3)
  have tx3 := (unhide HTX2).next hb3
  have tt3 := (hb3.block _ (Array.getElem?_eq_some_iff.1 (unhide HTT2)).1).trans (unhide HTT2)
  have z0 := tx3.c0
  have z1 := tx3.c1
  have r0 : w3.cell? ⟨w.heap.size, 0, none⟩ = some (.int .i64 t.z) := by simp [World.cell?, tt3]
  clear hb3 u0 u1 u2 v0 v1 v2 tx3 tt3
  go_wp2_with fail
  go_ret
  exact ⟨rfl, unhide HB3⟩

theorem admit_any (t : Tr) (vn vs : Value) (x : WTxn) (w : World) (hn : SeqV w vn t.ns) (hs : SeqV w vs t.ss) (hw : WfT t) (hd : x.d.length ≤ 140737488355328) :
    Calls Tryz.prog 17 #[.agg #[.int .i64 t.z, vn, vs], txnV x] w fun e w' => e = .returned (.int .i64 (admE t x)) ∧ Below w.heap.size w w' := by
  cases hg : goodT t with
  | false => rw [adm_range hg]; exact admit_range t vn vs x w hn hs hw hg
  | true =>
    by_cases hx : gdE x = 0
    · rw [adm_rest hg hx]
      by_cases h1 : x.z ≤ t.z
      · rw [if_pos h1]; exact admit_ord t vn vs x w hn hs hw hd hg hx h1
      · rw [if_neg h1]
        by_cases h2 : x.o = 1
        · by_cases h3 : x.s ∈ t.ss
          · rw [if_pos ⟨h2, h3⟩]; exact admit_twice t vn vs x w hn hs hw hd hg hx (by omega) h2 h3
          · rw [if_neg (fun h => h3 h.2), if_neg (fun h => h.1 h2)]; exact admit_new t vn vs x w hn hs hw hd hg hx (by omega) h2 h3
        · rw [if_neg (fun h => h2 h.1)]
          by_cases h3 : x.s ∈ t.ss
          · rw [if_neg (fun h => h.2 h3)]; exact admit_fit t vn vs x w hn hs hw hd hg hx (by omega) h2 h3
          · rw [if_pos ⟨h2, h3⟩]; exact admit_ses t vn vs x w hn hs hw hd hg hx (by omega) h2 h3
    · rw [adm_txn hg hx]; exact admit_txn t vn vs x w hn hs hw hd hg hx

end Go.Proofs.YtcplpbelficbeaaGreatDoor

namespace Go.Proofs.YtcplpbelficbeaaGreatDoor
open Go.RowKit

/-- the greater one -/
def fenN (a b : Int) : Int := if a ≤ b then b else a
/-- the path of a step below a node -/
def belL (d m : List UInt8) : List UInt8 := if d = [47] then 47 :: m else d ++ 47 :: m
theorem belL_root (m : List UInt8) : belL [47] m = 47 :: m := by rw [belL, if_pos rfl]
theorem belL_other {d : List UInt8} (h : d ≠ [47]) (m : List UInt8) : belL d m = d ++ 47 :: m := by rw [belL, if_neg h]
theorem rcat (l m : List UInt8) : (ByteArray.mk l.toArray) ++ (ByteArray.mk m.toArray) = ⟨(l ++ m).toArray⟩ := by
  have h : ((ByteArray.mk l.toArray) ++ (ByteArray.mk m.toArray)).data.toList = l ++ m := by simp [ByteArray.data_append]
  exact congrArg (fun l : List UInt8 => ByteArray.mk l.toArray) h
theorem rret_str {a b : ByteArray} (h : a = b) : Ending.returned (.string a) = .returned (.string b) := by rw [h]
end Go.Proofs.YtcplpbelficbeaaGreatDoor
