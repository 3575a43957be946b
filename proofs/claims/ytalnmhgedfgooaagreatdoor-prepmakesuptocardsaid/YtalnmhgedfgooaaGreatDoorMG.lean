/-
  What growth's create does: the walks.
  What tree.admitted answers: the walks.
-/
import Derived.Test.YtalnmhgedfgooaaGreatDoorMF
import Derived.Test.YtalnmhgedfgooaaGreatDoorMD
import Derived.Test.YtalnmhgedfgooaaGreatDoorMC
import Derived.Test.YtalnmhgedfgooaaGreatDoorMB
namespace Go.Proofs.YtalnmhgedfgooaaGreatDoor
open Go.RowKit

set_option maxRecDepth 20000 in
set_option maxHeartbeats 4000000 in
theorem cre_full0 (F : Nat → Prop) (b : Nat) (z : Int) (vn vs ve : Value) (ns : List Nd) (A B A' B' : List Nd) (u : Nd) (ss : List Int) (es : List Ev) (x : WTxn) (w : World)
    (h : Grow w F b z vn vs ve ns ss es) (G : NGap ns A B x.p) (U : NThere ns A' u B' (dirOf x.p)) (ho : u.o = 0) (hw1 : x.w = 0) (hf : ns.length = 400) :
    Calls Tryz.prog 61 #[.pointer (some ⟨b, 0, none⟩), txnV x] w fun e w' => e = .returned (.int .i64 6) ∧ Touch F w w' := by
  obtain ⟨xz, xo, xs, xp, xd, xv, xw⟩ := x
  simp only at G U hw1
  have CF := fun W (hW : Below w.heap.size w W) => nfind_gap vn ns A B xp W (h.n.next hW).seq (by omega) G
  have HCS := hide (fun W => split_any xp W)
  have HCG := hide (fun W (hW : Below w.heap.size w W) => nfind_there vn ns A' B' u (dirOf xp) W (h.n.next hW).seq (by omega) U)
  have KX : ∀ w1, Below (w.alloc (.cells #[.int .i64 xz, .int .i64 xo, .int .i64 xs, .string ⟨xp.toArray⟩, .string ⟨xd.toArray⟩, .int .i64 xv, .int .i64 xw] 29)).heap.size (w.alloc (.cells #[.int .i64 xz, .int .i64 xo, .int .i64 xs, .string ⟨xp.toArray⟩, .string ⟨xd.toArray⟩, .int .i64 xv, .int .i64 xw] 29)) w1 → TAt w1 w.heap.size ⟨xz, xo, xs, xp, xd, xv, xw⟩ := fun w1 h1 => (TAt.new w ⟨xz, xo, xs, xp, xd, xv, xw⟩).next h1
  have HKX := hide KX
  have c1 := h.c1
  have hbl := h.lt
  obtain ⟨g, cap, rfl, hr, hgb, hFg⟩ := h.nrow (by rw [U.eq]; simp)
  have HG := hide h
  have HE := hide U.eq
  have hlt : A'.length < ns.length := by rw [U.eq]; simp
  have hb1 : (xw != 0) = false := by simpa using hw1
  have hfb : ((ns.length : Int) == 400) = true := by rw [hf]; rfl
  have HO := hide ho
  clear h G U KX ho hr hf hw1
  unfold txnV
  go_enter Tryz.func61, Tryz.ntmps61
  go_wp2_with fail
  go_region_law (first
    | (go_simp; refine (CF _ (by first | exact ((Below.refl w.heap.size w).alloc (Nat.le_refl _) _).drew | exact (Below.refl w.heap.size w).alloc (Nat.le_refl _) _)).mono ?_; rintro e w1 ⟨rfl, hb1⟩; have HBd := hide hb1; clear hb1))
  all_goals
    have HB0 := hide (nbelow_drew (unhide HBd))
    clear CF
    have HB1 := hide (nbox_then (unhide HB0))
    have tx := unhide HKX w1 (unhide HB0)
    have t3 := tx.c3
    have HTX := hide tx
    have g1 := (unhide HG).next (unhide HB1)
    have HG1 := hide g1
    clear g1 tx c1
    go_wp2_with fail
    refine (unhide HCS _).mono ?_
    rintro e w2 ⟨rfl, hb2⟩
    have HB2 := hide (nnext (unhide HB1) hb2)
    have tx2 := (unhide HTX).next hb2
    have g2 := (unhide HG1).next hb2
    have e1 := g2.c1
    have HTX2 := hide tx2
    have HG2 := hide g2
    clear tx2 g2 hb2 t3
    go_wp2_with fail
    refine (unhide HCG _ (unhide HB2)).mono ?_
    rintro e w3 ⟨rfl, hb3⟩
    have HB3 := hide (nnext (unhide HB2) hb3)
    have tx3 := (unhide HTX2).next hb3
    have g3 := (unhide HG2).next hb3
    have f1 := g3.c1
    have y0 := tx3.c0
    have y2 := tx3.c2
    have y3 := tx3.c3
    have y4 := tx3.c4
    have y6 := tx3.c6
    obtain ⟨g', cap', he, hr, _, _⟩ := g3.nrow (by rw [unhide HE]; simp)
    simp only [Value.slice.injEq, Option.some.injEq, Addr.mk.injEq, and_true] at he
    obtain ⟨rfl, _, rfl⟩ := he
    have r7 := hr.row.n7 (i := A'.length) (x := u) (by rw [unhide HE]; exact nat_at A' u B')
    rw [Nat.zero_add] at r7
    have HTX3 := hide tx3
    have HG3 := hide g3
    clear g3 tx3 hr e1 hb3
    rw [unhide HO] at r7
    go_wp2_with fail
    go_ret
    exact ⟨rfl, Touch.of_below (unhide HB3)⟩

set_option maxRecDepth 20000 in
set_option maxHeartbeats 4000000 in
theorem cre_full1 (F : Nat → Prop) (b : Nat) (z : Int) (vn vs ve : Value) (ns : List Nd) (A B A' B' : List Nd) (u : Nd) (ss : List Int) (es : List Ev) (x : WTxn) (w : World)
    (h : Grow w F b z vn vs ve ns ss es) (G : NGap ns A B x.p) (U : NThere ns A' u B' (dirOf x.p)) (ho : u.o = 0) (hw1 : x.w ≠ 0) (hw2 : x.w = x.s) (hf : ns.length = 400) :
    Calls Tryz.prog 61 #[.pointer (some ⟨b, 0, none⟩), txnV x] w fun e w' => e = .returned (.int .i64 6) ∧ Touch F w w' := by
  obtain ⟨xz, xo, xs, xp, xd, xv, xw⟩ := x
  simp only at G U hw1 hw2
  have CF := fun W (hW : Below w.heap.size w W) => nfind_gap vn ns A B xp W (h.n.next hW).seq (by omega) G
  have HCS := hide (fun W => split_any xp W)
  have HCG := hide (fun W (hW : Below w.heap.size w W) => nfind_there vn ns A' B' u (dirOf xp) W (h.n.next hW).seq (by omega) U)
  have KX : ∀ w1, Below (w.alloc (.cells #[.int .i64 xz, .int .i64 xo, .int .i64 xs, .string ⟨xp.toArray⟩, .string ⟨xd.toArray⟩, .int .i64 xv, .int .i64 xw] 29)).heap.size (w.alloc (.cells #[.int .i64 xz, .int .i64 xo, .int .i64 xs, .string ⟨xp.toArray⟩, .string ⟨xd.toArray⟩, .int .i64 xv, .int .i64 xw] 29)) w1 → TAt w1 w.heap.size ⟨xz, xo, xs, xp, xd, xv, xw⟩ := fun w1 h1 => (TAt.new w ⟨xz, xo, xs, xp, xd, xv, xw⟩).next h1
  have HKX := hide KX
  have c1 := h.c1
  have hbl := h.lt
  obtain ⟨g, cap, rfl, hr, hgb, hFg⟩ := h.nrow (by rw [U.eq]; simp)
  have HG := hide h
  have HE := hide U.eq
  have hlt : A'.length < ns.length := by rw [U.eq]; simp
  have hb1 : (xw != 0) = true := by simpa using hw1
  have hb2 : (xw != xs) = false := by simpa using hw2
  have hfb : ((ns.length : Int) == 400) = true := by rw [hf]; rfl
  have HO := hide ho
  clear h G U KX ho hr hf hw1 hw2
  unfold txnV
  go_enter Tryz.func61, Tryz.ntmps61
  go_wp2_with fail
  go_region_law (first
    | (go_simp; refine (CF _ (by first | exact ((Below.refl w.heap.size w).alloc (Nat.le_refl _) _).drew | exact (Below.refl w.heap.size w).alloc (Nat.le_refl _) _)).mono ?_; rintro e w1 ⟨rfl, hb1⟩; have HBd := hide hb1; clear hb1))
  all_goals
    have HB0 := hide (nbelow_drew (unhide HBd))
    clear CF
    have HB1 := hide (nbox_then (unhide HB0))
    have tx := unhide HKX w1 (unhide HB0)
    have t3 := tx.c3
    have HTX := hide tx
    have g1 := (unhide HG).next (unhide HB1)
    have HG1 := hide g1
    clear g1 tx c1
    go_wp2_with fail
    refine (unhide HCS _).mono ?_
    rintro e w2 ⟨rfl, hb2⟩
    have HB2 := hide (nnext (unhide HB1) hb2)
    have tx2 := (unhide HTX).next hb2
    have g2 := (unhide HG1).next hb2
    have e1 := g2.c1
    have HTX2 := hide tx2
    have HG2 := hide g2
    clear tx2 g2 hb2 t3
    go_wp2_with fail
    refine (unhide HCG _ (unhide HB2)).mono ?_
    rintro e w3 ⟨rfl, hb3⟩
    have HB3 := hide (nnext (unhide HB2) hb3)
    have tx3 := (unhide HTX2).next hb3
    have g3 := (unhide HG2).next hb3
    have f1 := g3.c1
    have y0 := tx3.c0
    have y2 := tx3.c2
    have y3 := tx3.c3
    have y4 := tx3.c4
    have y6 := tx3.c6
    obtain ⟨g', cap', he, hr, _, _⟩ := g3.nrow (by rw [unhide HE]; simp)
    simp only [Value.slice.injEq, Option.some.injEq, Addr.mk.injEq, and_true] at he
    obtain ⟨rfl, _, rfl⟩ := he
    have r7 := hr.row.n7 (i := A'.length) (x := u) (by rw [unhide HE]; exact nat_at A' u B')
    rw [Nat.zero_add] at r7
    have HTX3 := hide tx3
    have HG3 := hide g3
    clear g3 tx3 hr e1 hb3
    rw [unhide HO] at r7
    go_wp2_with fail
    go_ret
    exact ⟨rfl, Touch.of_below (unhide HB3)⟩

end Go.Proofs.YtalnmhgedfgooaaGreatDoor

namespace Go.Proofs.YtalnmhgedfgooaaGreatDoor
open Go.RowKit

theorem adm_range {t : Tr} {x : WTxn} (h : goodT t = false) : admE t x = 3 := by rw [admE, if_pos h]
theorem adm_txn {t : Tr} {x : WTxn} (h : goodT t = true) (h1 : gdE x ≠ 0) : admE t x = gdE x := by rw [admE, if_neg (by simp [h]), if_pos h1]
theorem adm_rest {t : Tr} {x : WTxn} (h : goodT t = true) (h1 : gdE x = 0) : admE t x = (if x.z ≤ t.z then 13 else if x.o = 1 ∧ x.s ∈ t.ss then 8 else if x.o ≠ 1 ∧ x.s ∉ t.ss then 12 else 0) := by
  rw [admE, if_neg (by simp [h]), if_neg (by omega)]

set_option maxRecDepth 20000 in
set_option maxHeartbeats 2000000 in
theorem admit_range (t : Tr) (vn vs : Value) (x : WTxn) (w : World) (hn : SeqV w vn t.ns) (hs : SeqV w vs t.ss) (hw : WfT t) (hg : goodT t = false) :
    Calls Tryz.prog 33 #[.agg #[.int .i64 t.z, vn, vs], txnV x] w fun e w' => e = .returned (.int .i64 3) ∧ Below w.heap.size w w' := by
  have CG := hide (fun W (hW : Below w.heap.size w W) => tgood_any t vn vs W (hn.next hW) (hs.next hW) hw)
  rw [hg] at CG
  obtain ⟨na, nc, rfl⟩ := seq_slice hn
  obtain ⟨sa, sc, rfl⟩ := seq_slice hs
  clear hn hs hw hg
  obtain ⟨xz, xo, xs, xp, xd, xv, xw⟩ := x
  unfold txnV
  go_enter Tryz.func33, Tryz.ntmps33
  go_wp2_with fail
  refine (unhide CG _ (nnext (allocB _ _) (allocB _ _))).mono ?_
  rintro e w1 ⟨rfl, hb1⟩
  have HB := hide (nnext (nnext (allocB _ _) (allocB _ _)) hb1)
  clear hb1
  go_wp2_with fail
  go_ret
  exact ⟨rfl, unhide HB⟩

set_option maxRecDepth 20000 in
set_option maxHeartbeats 2000000 in
theorem admit_txn (t : Tr) (vn vs : Value) (x : WTxn) (w : World) (hn : SeqV w vn t.ns) (hs : SeqV w vs t.ss) (hw : WfT t) (hd : x.d.length ≤ 140737488355328) (hg : goodT t = true) (hx : gdE x ≠ 0) :
    Calls Tryz.prog 33 #[.agg #[.int .i64 t.z, vn, vs], txnV x] w fun e w' => e = .returned (.int .i64 (gdE x)) ∧ Below w.heap.size w w' := by
  have CG := hide (fun W (hW : Below w.heap.size w W) => tgood_any t vn vs W (hn.next hW) (hs.next hW) hw)
  rw [hg] at CG
  have CW := hide (fun W => wgood_any x W hd)
  obtain ⟨na, nc, rfl⟩ := seq_slice hn
  obtain ⟨sa, sc, rfl⟩ := seq_slice hs
  have hxb : (gdE x != 0) = true := by simpa using hx
  clear hn hs hw hg hx
  have KX : ∀ W : World, Below (w.alloc (.cells #[.int .i64 t.z, .slice na t.ns.length nc, .slice sa t.ss.length sc] 25)).heap.size (w.alloc (.cells #[.int .i64 t.z, .slice na t.ns.length nc, .slice sa t.ss.length sc] 25)) W → Below w.heap.size w W := fun W h => nbox_then h
  have HKX := hide KX
  generalize gdE x = E at hxb CW ⊢
  obtain ⟨xz, xo, xs, xp, xd, xv, xw⟩ := x
  unfold txnV at CW ⊢
  simp only at CW ⊢
  have KT : ∀ w1, Below ((w.alloc (.cells #[.int .i64 t.z, .slice na t.ns.length nc, .slice sa t.ss.length sc] 25)).alloc (.cells #[.int .i64 xz, .int .i64 xo, .int .i64 xs, .string ⟨xp.toArray⟩, .string ⟨xd.toArray⟩, .int .i64 xv, .int .i64 xw] 29)).heap.size ((w.alloc (.cells #[.int .i64 t.z, .slice na t.ns.length nc, .slice sa t.ss.length sc] 25)).alloc (.cells #[.int .i64 xz, .int .i64 xo, .int .i64 xs, .string ⟨xp.toArray⟩, .string ⟨xd.toArray⟩, .int .i64 xv, .int .i64 xw] 29)) w1 → TAt w1 (w.heap.size + 1) ⟨xz, xo, xs, xp, xd, xv, xw⟩ := fun w1 h1 => by
    have := (TAt.new (w.alloc (.cells #[.int .i64 t.z, .slice na t.ns.length nc, .slice sa t.ss.length sc] 25)) ⟨xz, xo, xs, xp, xd, xv, xw⟩).next h1
    simpa using this
  have HKT := hide KT
  clear KX KT
  go_enter Tryz.func33, Tryz.ntmps33
  go_wp2_with fail
  refine (unhide CG _ (nnext (allocB _ _) (allocB _ _))).mono ?_
  rintro e w1 ⟨rfl, hb1⟩
  have HB := hide (nnext (nnext (allocB _ _) (allocB _ _)) hb1)
  have tx := unhide HKT w1 hb1
  have y0 := tx.c0
  have y1 := tx.c1
  have y2 := tx.c2
  have y3 := tx.c3
  have y4 := tx.c4
  have y5 := tx.c5
  have y6 := tx.c6
  clear hb1 tx
  go_wp2_with fail
  refine (unhide CW _).mono ?_
  rintro e w2 ⟨rfl, hb2⟩
  have HB2 := hide (nnext (unhide HB) hb2)
  clear hb2
  go_wp2_with fail
  go_ret
  exact ⟨rfl, unhide HB2⟩

set_option maxRecDepth 20000 in
set_option maxHeartbeats 2000000 in
theorem admit_ord (t : Tr) (vn vs : Value) (x : WTxn) (w : World) (hn : SeqV w vn t.ns) (hs : SeqV w vs t.ss) (hw : WfT t) (hd : x.d.length ≤ 140737488355328) (hg : goodT t = true) (hx : gdE x = 0) (h1 : x.z ≤ t.z) :
    Calls Tryz.prog 33 #[.agg #[.int .i64 t.z, vn, vs], txnV x] w fun e w' => e = .returned (.int .i64 13) ∧ Below w.heap.size w w' := by
  have CG := hide (fun W (hW : Below w.heap.size w W) => tgood_any t vn vs W (hn.next hW) (hs.next hW) hw)
  have CO := fun W (hW : Below w.heap.size w W) => topen_any t.z vn vs t.ss x.s W (hs.next hW) (goodT_true.1 hg).ses
  rw [hg] at CG
  have CW := hide (fun W => wgood_any x W hd)
  rw [hx] at CW
  have q1 : decide (x.z ≤ t.z) = true := decide_eq_true h1
  clear h1
  generalize decide (x.s ∈ t.ss) = op at CO
  have HCO := hide CO
  obtain ⟨na, nc, rfl⟩ := seq_slice hn
  obtain ⟨sa, sc, rfl⟩ := seq_slice hs
  clear hn hs hw hg hx CO
  obtain ⟨xz, xo, xs, xp, xd, xv, xw⟩ := x
  unfold txnV at CW ⊢
  simp only at *
  have KT : ∀ w1, Below ((w.alloc (.cells #[.int .i64 t.z, .slice na t.ns.length nc, .slice sa t.ss.length sc] 25)).alloc (.cells #[.int .i64 xz, .int .i64 xo, .int .i64 xs, .string ⟨xp.toArray⟩, .string ⟨xd.toArray⟩, .int .i64 xv, .int .i64 xw] 29)).heap.size ((w.alloc (.cells #[.int .i64 t.z, .slice na t.ns.length nc, .slice sa t.ss.length sc] 25)).alloc (.cells #[.int .i64 xz, .int .i64 xo, .int .i64 xs, .string ⟨xp.toArray⟩, .string ⟨xd.toArray⟩, .int .i64 xv, .int .i64 xw] 29)) w1 → TAt w1 (w.heap.size + 1) ⟨xz, xo, xs, xp, xd, xv, xw⟩ ∧ w1.heap[w.heap.size]? = some (.cells #[.int .i64 t.z, .slice na t.ns.length nc, .slice sa t.ss.length sc] 25 (0, 0)) := fun w1 h1 => by
    have := (TAt.new (w.alloc (.cells #[.int .i64 t.z, .slice na t.ns.length nc, .slice sa t.ss.length sc] 25)) ⟨xz, xo, xs, xp, xd, xv, xw⟩).next h1
    refine ⟨by simpa using this, ?_⟩
    rw [h1.block _ (by simp; omega)]
    rw [(allocB (w.alloc (.cells #[.int .i64 t.z, .slice na t.ns.length nc, .slice sa t.ss.length sc] 25)) (.cells #[.int .i64 xz, .int .i64 xo, .int .i64 xs, .string ⟨xp.toArray⟩, .string ⟨xd.toArray⟩, .int .i64 xv, .int .i64 xw] 29)).block _ (by simp)]
    exact heap_alloc_new w _
  have HKT := hide KT
  clear KT
  go_enter Tryz.func33, Tryz.ntmps33
  go_wp2_with fail
  refine (unhide CG _ (nnext (allocB _ _) (allocB _ _))).mono ?_
  rintro e w1 ⟨rfl, hb1⟩
  have HB := hide (nnext (nnext (allocB _ _) (allocB _ _)) hb1)
  obtain ⟨tx, tt⟩ := unhide HKT w1 hb1
  have y0 := tx.c0
  have y1 := tx.c1
  have y2 := tx.c2
  have y3 := tx.c3
  have y4 := tx.c4
  have y5 := tx.c5
  have y6 := tx.c6
  have HTX := hide tx
  have HTT := hide tt
  clear hb1 tx tt
  go_wp2_with fail
  refine (unhide CW _).mono ?_
  rintro e w2 ⟨rfl, hb2⟩
  have HB2 := hide (nnext (unhide HB) hb2)
  have tx2 := (unhide HTX).next hb2
  have tt2 := (hb2.block _ (Array.getElem?_eq_some_iff.1 (unhide HTT)).1).trans (unhide HTT)
  have u0 := tx2.c0
  have u1 := tx2.c1
  have u2 := tx2.c2
  have v0 : w2.cell? ⟨w.heap.size, 0, none⟩ = some (.int .i64 t.z) := by simp [World.cell?, tt2]
  have v1 : w2.cell? ⟨w.heap.size, 1, none⟩ = some (.slice na t.ns.length nc) := by simp [World.cell?, tt2]
  have v2 : w2.cell? ⟨w.heap.size, 2, none⟩ = some (.slice sa t.ss.length sc) := by simp [World.cell?, tt2]
  have HTX2 := hide tx2
  have HTT2 := hide tt2
  clear hb2 y0 y1 y2 y3 y4 y5 y6 tx2 tt2
  go_wp2_with fail
  refine (unhide HCO _ (unhide HB2)).mono ?_
  rintro e w3 ⟨rfl, hb3⟩
  have HB3 := hide (nnext (unhide HB2) hb3)
  have tx3 := (unhide HTX2).next hb3
  have tt3 := (hb3.block _ (Array.getElem?_eq_some_iff.1 (unhide HTT2)).1).trans (unhide HTT2)
  have z0 := tx3.c0
  have z1 := tx3.c1
  have r0 : w3.cell? ⟨w.heap.size, 0, none⟩ = some (.int .i64 t.z) := by simp [World.cell?, tt3]
  clear hb3 u0 u1 u2 v0 v1 v2 tx3 tt3
  go_wp2_with fail
  go_ret
  exact ⟨rfl, unhide HB3⟩

set_option maxRecDepth 20000 in
set_option maxHeartbeats 2000000 in
theorem admit_twice (t : Tr) (vn vs : Value) (x : WTxn) (w : World) (hn : SeqV w vn t.ns) (hs : SeqV w vs t.ss) (hw : WfT t) (hd : x.d.length ≤ 140737488355328) (hg : goodT t = true) (hx : gdE x = 0) (h1 : t.z < x.z) (h2 : x.o = 1) (h3 : x.s ∈ t.ss) :
    Calls Tryz.prog 33 #[.agg #[.int .i64 t.z, vn, vs], txnV x] w fun e w' => e = .returned (.int .i64 8) ∧ Below w.heap.size w w' := by
  have CG := hide (fun W (hW : Below w.heap.size w W) => tgood_any t vn vs W (hn.next hW) (hs.next hW) hw)
  have CO := fun W (hW : Below w.heap.size w W) => topen_any t.z vn vs t.ss x.s W (hs.next hW) (goodT_true.1 hg).ses
  rw [hg] at CG
  have CW := hide (fun W => wgood_any x W hd)
  rw [hx] at CW
  have q1 : decide (x.z ≤ t.z) = false := decide_eq_false (by omega)
  rw [decide_eq_true h3] at CO
  have q2 : (x.o == 1) = true := by simpa using h2
  have q3 : (x.o != 1) = false := by simpa using h2
  clear h1 h2 h3
  have HCO := hide CO
  obtain ⟨na, nc, rfl⟩ := seq_slice hn
  obtain ⟨sa, sc, rfl⟩ := seq_slice hs
  clear hn hs hw hg hx CO
  obtain ⟨xz, xo, xs, xp, xd, xv, xw⟩ := x
  unfold txnV at CW ⊢
  simp only at *
  have KT : ∀ w1, Below ((w.alloc (.cells #[.int .i64 t.z, .slice na t.ns.length nc, .slice sa t.ss.length sc] 25)).alloc (.cells #[.int .i64 xz, .int .i64 xo, .int .i64 xs, .string ⟨xp.toArray⟩, .string ⟨xd.toArray⟩, .int .i64 xv, .int .i64 xw] 29)).heap.size ((w.alloc (.cells #[.int .i64 t.z, .slice na t.ns.length nc, .slice sa t.ss.length sc] 25)).alloc (.cells #[.int .i64 xz, .int .i64 xo, .int .i64 xs, .string ⟨xp.toArray⟩, .string ⟨xd.toArray⟩, .int .i64 xv, .int .i64 xw] 29)) w1 → TAt w1 (w.heap.size + 1) ⟨xz, xo, xs, xp, xd, xv, xw⟩ ∧ w1.heap[w.heap.size]? = some (.cells #[.int .i64 t.z, .slice na t.ns.length nc, .slice sa t.ss.length sc] 25 (0, 0)) := fun w1 h1 => by
    have := (TAt.new (w.alloc (.cells #[.int .i64 t.z, .slice na t.ns.length nc, .slice sa t.ss.length sc] 25)) ⟨xz, xo, xs, xp, xd, xv, xw⟩).next h1
    refine ⟨by simpa using this, ?_⟩
    rw [h1.block _ (by simp; omega)]
    rw [(allocB (w.alloc (.cells #[.int .i64 t.z, .slice na t.ns.length nc, .slice sa t.ss.length sc] 25)) (.cells #[.int .i64 xz, .int .i64 xo, .int .i64 xs, .string ⟨xp.toArray⟩, .string ⟨xd.toArray⟩, .int .i64 xv, .int .i64 xw] 29)).block _ (by simp)]
    exact heap_alloc_new w _
  have HKT := hide KT
  clear KT
  go_enter Tryz.func33, Tryz.ntmps33
  go_wp2_with fail
  refine (unhide CG _ (nnext (allocB _ _) (allocB _ _))).mono ?_
  rintro e w1 ⟨rfl, hb1⟩
  have HB := hide (nnext (nnext (allocB _ _) (allocB _ _)) hb1)
  obtain ⟨tx, tt⟩ := unhide HKT w1 hb1
  have y0 := tx.c0
  have y1 := tx.c1
  have y2 := tx.c2
  have y3 := tx.c3
  have y4 := tx.c4
  have y5 := tx.c5
  have y6 := tx.c6
  have HTX := hide tx
  have HTT := hide tt
  clear hb1 tx tt
  go_wp2_with fail
  refine (unhide CW _).mono ?_
  rintro e w2 ⟨rfl, hb2⟩
  have HB2 := hide (nnext (unhide HB) hb2)
  have tx2 := (unhide HTX).next hb2
  have tt2 := (hb2.block _ (Array.getElem?_eq_some_iff.1 (unhide HTT)).1).trans (unhide HTT)
  have u0 := tx2.c0
  have u1 := tx2.c1
  have u2 := tx2.c2
  have v0 : w2.cell? ⟨w.heap.size, 0, none⟩ = some (.int .i64 t.z) := by simp [World.cell?, tt2]
  have v1 : w2.cell? ⟨w.heap.size, 1, none⟩ = some (.slice na t.ns.length nc) := by simp [World.cell?, tt2]
  have v2 : w2.cell? ⟨w.heap.size, 2, none⟩ = some (.slice sa t.ss.length sc) := by simp [World.cell?, tt2]
  have HTX2 := hide tx2
  have HTT2 := hide tt2
  clear hb2 y0 y1 y2 y3 y4 y5 y6 tx2 tt2
  go_wp2_with fail
  refine (unhide HCO _ (unhide HB2)).mono ?_
  rintro e w3 ⟨rfl, hb3⟩
  have HB3 := hide (nnext (unhide HB2) hb3)
  have tx3 := (unhide HTX2).next hb3
  have tt3 := (hb3.block _ (Array.getElem?_eq_some_iff.1 (unhide HTT2)).1).trans (unhide HTT2)
  have z0 := tx3.c0
  have z1 := tx3.c1
  have r0 : w3.cell? ⟨w.heap.size, 0, none⟩ = some (.int .i64 t.z) := by simp [World.cell?, tt3]
  clear hb3 u0 u1 u2 v0 v1 v2 tx3 tt3
  go_wp2_with fail
  go_ret
  exact ⟨rfl, unhide HB3⟩

set_option maxRecDepth 20000 in
set_option maxHeartbeats 2000000 in
theorem admit_ses (t : Tr) (vn vs : Value) (x : WTxn) (w : World) (hn : SeqV w vn t.ns) (hs : SeqV w vs t.ss) (hw : WfT t) (hd : x.d.length ≤ 140737488355328) (hg : goodT t = true) (hx : gdE x = 0) (h1 : t.z < x.z) (h2 : x.o ≠ 1) (h3 : x.s ∉ t.ss) :
    Calls Tryz.prog 33 #[.agg #[.int .i64 t.z, vn, vs], txnV x] w fun e w' => e = .returned (.int .i64 12) ∧ Below w.heap.size w w' := by
  have CG := hide (fun W (hW : Below w.heap.size w W) => tgood_any t vn vs W (hn.next hW) (hs.next hW) hw)
  have CO := fun W (hW : Below w.heap.size w W) => topen_any t.z vn vs t.ss x.s W (hs.next hW) (goodT_true.1 hg).ses
  rw [hg] at CG
  have CW := hide (fun W => wgood_any x W hd)
  rw [hx] at CW
  have q1 : decide (x.z ≤ t.z) = false := decide_eq_false (by omega)
  rw [decide_eq_false h3] at CO
  have q2 : (x.o == 1) = false := by simpa using h2
  have q3 : (x.o != 1) = true := by simpa using h2
  clear h1 h2 h3
  have HCO := hide CO
  obtain ⟨na, nc, rfl⟩ := seq_slice hn
  obtain ⟨sa, sc, rfl⟩ := seq_slice hs
  clear hn hs hw hg hx CO
  obtain ⟨xz, xo, xs, xp, xd, xv, xw⟩ := x
  unfold txnV at CW ⊢
  simp only at *
  have KT : ∀ w1, Below ((w.alloc (.cells #[.int .i64 t.z, .slice na t.ns.length nc, .slice sa t.ss.length sc] 25)).alloc (.cells #[.int .i64 xz, .int .i64 xo, .int .i64 xs, .string ⟨xp.toArray⟩, .string ⟨xd.toArray⟩, .int .i64 xv, .int .i64 xw] 29)).heap.size ((w.alloc (.cells #[.int .i64 t.z, .slice na t.ns.length nc, .slice sa t.ss.length sc] 25)).alloc (.cells #[.int .i64 xz, .int .i64 xo, .int .i64 xs, .string ⟨xp.toArray⟩, .string ⟨xd.toArray⟩, .int .i64 xv, .int .i64 xw] 29)) w1 → TAt w1 (w.heap.size + 1) ⟨xz, xo, xs, xp, xd, xv, xw⟩ ∧ w1.heap[w.heap.size]? = some (.cells #[.int .i64 t.z, .slice na t.ns.length nc, .slice sa t.ss.length sc] 25 (0, 0)) := fun w1 h1 => by
    have := (TAt.new (w.alloc (.cells #[.int .i64 t.z, .slice na t.ns.length nc, .slice sa t.ss.length sc] 25)) ⟨xz, xo, xs, xp, xd, xv, xw⟩).next h1
    refine ⟨by simpa using this, ?_⟩
    rw [h1.block _ (by simp; omega)]
    rw [(allocB (w.alloc (.cells #[.int .i64 t.z, .slice na t.ns.length nc, .slice sa t.ss.length sc] 25)) (.cells #[.int .i64 xz, .int .i64 xo, .int .i64 xs, .string ⟨xp.toArray⟩, .string ⟨xd.toArray⟩, .int .i64 xv, .int .i64 xw] 29)).block _ (by simp)]
    exact heap_alloc_new w _
  have HKT := hide KT
  clear KT
  go_enter Tryz.func33, Tryz.ntmps33
  go_wp2_with fail
  refine (unhide CG _ (nnext (allocB _ _) (allocB _ _))).mono ?_
  rintro e w1 ⟨rfl, hb1⟩
  have HB := hide (nnext (nnext (allocB _ _) (allocB _ _)) hb1)
  obtain ⟨tx, tt⟩ := unhide HKT w1 hb1
  have y0 := tx.c0
  have y1 := tx.c1
  have y2 := tx.c2
  have y3 := tx.c3
  have y4 := tx.c4
  have y5 := tx.c5
  have y6 := tx.c6
  have HTX := hide tx
  have HTT := hide tt
  clear hb1 tx tt
  go_wp2_with fail
  refine (unhide CW _).mono ?_
  rintro e w2 ⟨rfl, hb2⟩
  have HB2 := hide (nnext (unhide HB) hb2)
  have tx2 := (unhide HTX).next hb2
  have tt2 := (hb2.block _ (Array.getElem?_eq_some_iff.1 (unhide HTT)).1).trans (unhide HTT)
  have u0 := tx2.c0
  have u1 := tx2.c1
  have u2 := tx2.c2
  have v0 : w2.cell? ⟨w.heap.size, 0, none⟩ = some (.int .i64 t.z) := by simp [World.cell?, tt2]
  have v1 : w2.cell? ⟨w.heap.size, 1, none⟩ = some (.slice na t.ns.length nc) := by simp [World.cell?, tt2]
  have v2 : w2.cell? ⟨w.heap.size, 2, none⟩ = some (.slice sa t.ss.length sc) := by simp [World.cell?, tt2]
  have HTX2 := hide tx2
  have HTT2 := hide tt2
  clear hb2 y0 y1 y2 y3 y4 y5 y6 tx2 tt2
  go_wp2_with fail
  refine (unhide HCO _ (unhide HB2)).mono ?_
  rintro e w3 ⟨rfl, hb3⟩
  have HB3 := hide (nnext (unhide HB2) hb3)
  have tx3 := (unhide HTX2).next hb3
  have tt3 := (hb3.block _ (Array.getElem?_eq_some_iff.1 (unhide HTT2)).1).trans (unhide HTT2)
  have z0 := tx3.c0
  have z1 := tx3.c1
  have r0 : w3.cell? ⟨w.heap.size, 0, none⟩ = some (.int .i64 t.z) := by simp [World.cell?, tt3]
  clear hb3 u0 u1 u2 v0 v1 v2 tx3 tt3
  go_wp2_with fail
  go_ret
  exact ⟨rfl, unhide HB3⟩

set_option maxRecDepth 20000 in
set_option maxHeartbeats 2000000 in
theorem admit_new (t : Tr) (vn vs : Value) (x : WTxn) (w : World) (hn : SeqV w vn t.ns) (hs : SeqV w vs t.ss) (hw : WfT t) (hd : x.d.length ≤ 140737488355328) (hg : goodT t = true) (hx : gdE x = 0) (h1 : t.z < x.z) (h2 : x.o = 1) (h3 : x.s ∉ t.ss) :
    Calls Tryz.prog 33 #[.agg #[.int .i64 t.z, vn, vs], txnV x] w fun e w' => e = .returned (.int .i64 0) ∧ Below w.heap.size w w' := by
  have CG := hide (fun W (hW : Below w.heap.size w W) => tgood_any t vn vs W (hn.next hW) (hs.next hW) hw)
  have CO := fun W (hW : Below w.heap.size w W) => topen_any t.z vn vs t.ss x.s W (hs.next hW) (goodT_true.1 hg).ses
  rw [hg] at CG
  have CW := hide (fun W => wgood_any x W hd)
  rw [hx] at CW
  have q1 : decide (x.z ≤ t.z) = false := decide_eq_false (by omega)
  rw [decide_eq_false h3] at CO
  have q2 : (x.o == 1) = true := by simpa using h2
  have q3 : (x.o != 1) = false := by simpa using h2
  clear h1 h2 h3
  have HCO := hide CO
  obtain ⟨na, nc, rfl⟩ := seq_slice hn
  obtain ⟨sa, sc, rfl⟩ := seq_slice hs
  clear hn hs hw hg hx CO
  obtain ⟨xz, xo, xs, xp, xd, xv, xw⟩ := x
  unfold txnV at CW ⊢
  simp only at *
  have KT : ∀ w1, Below ((w.alloc (.cells #[.int .i64 t.z, .slice na t.ns.length nc, .slice sa t.ss.length sc] 25)).alloc (.cells #[.int .i64 xz, .int .i64 xo, .int .i64 xs, .string ⟨xp.toArray⟩, .string ⟨xd.toArray⟩, .int .i64 xv, .int .i64 xw] 29)).heap.size ((w.alloc (.cells #[.int .i64 t.z, .slice na t.ns.length nc, .slice sa t.ss.length sc] 25)).alloc (.cells #[.int .i64 xz, .int .i64 xo, .int .i64 xs, .string ⟨xp.toArray⟩, .string ⟨xd.toArray⟩, .int .i64 xv, .int .i64 xw] 29)) w1 → TAt w1 (w.heap.size + 1) ⟨xz, xo, xs, xp, xd, xv, xw⟩ ∧ w1.heap[w.heap.size]? = some (.cells #[.int .i64 t.z, .slice na t.ns.length nc, .slice sa t.ss.length sc] 25 (0, 0)) := fun w1 h1 => by
    have := (TAt.new (w.alloc (.cells #[.int .i64 t.z, .slice na t.ns.length nc, .slice sa t.ss.length sc] 25)) ⟨xz, xo, xs, xp, xd, xv, xw⟩).next h1
    refine ⟨by simpa using this, ?_⟩
    rw [h1.block _ (by simp; omega)]
    rw [(allocB (w.alloc (.cells #[.int .i64 t.z, .slice na t.ns.length nc, .slice sa t.ss.length sc] 25)) (.cells #[.int .i64 xz, .int .i64 xo, .int .i64 xs, .string ⟨xp.toArray⟩, .string ⟨xd.toArray⟩, .int .i64 xv, .int .i64 xw] 29)).block _ (by simp)]
    exact heap_alloc_new w _
  have HKT := hide KT
  clear KT
  go_enter Tryz.func33, Tryz.ntmps33
  go_wp2_with fail
  refine (unhide CG _ (nnext (allocB _ _) (allocB _ _))).mono ?_
  rintro e w1 ⟨rfl, hb1⟩
  have HB := hide (nnext (nnext (allocB _ _) (allocB _ _)) hb1)
  obtain ⟨tx, tt⟩ := unhide HKT w1 hb1
  have y0 := tx.c0
  have y1 := tx.c1
  have y2 := tx.c2
  have y3 := tx.c3
  have y4 := tx.c4
  have y5 := tx.c5
  have y6 := tx.c6
  have HTX := hide tx
  have HTT := hide tt
  clear hb1 tx tt
  go_wp2_with fail
  refine (unhide CW _).mono ?_
  rintro e w2 ⟨rfl, hb2⟩
  have HB2 := hide (nnext (unhide HB) hb2)
  have tx2 := (unhide HTX).next hb2
  have tt2 := (hb2.block _ (Array.getElem?_eq_some_iff.1 (unhide HTT)).1).trans (unhide HTT)
  have u0 := tx2.c0
  have u1 := tx2.c1
  have u2 := tx2.c2
  have v0 : w2.cell? ⟨w.heap.size, 0, none⟩ = some (.int .i64 t.z) := by simp [World.cell?, tt2]
  have v1 : w2.cell? ⟨w.heap.size, 1, none⟩ = some (.slice na t.ns.length nc) := by simp [World.cell?, tt2]
  have v2 : w2.cell? ⟨w.heap.size, 2, none⟩ = some (.slice sa t.ss.length sc) := by simp [World.cell?, tt2]
  have HTX2 := hide tx2
  have HTT2 := hide tt2
  clear hb2 y0 y1 y2 y3 y4 y5 y6 tx2 tt2
  go_wp2_with fail
  refine (unhide HCO _ (unhide HB2)).mono ?_
  rintro e w3 ⟨rfl, hb3⟩
  have HB3 := hide (nnext (unhide HB2) hb3)
  have tx3 := (unhide HTX2).next hb3
  have tt3 := (hb3.block _ (Array.getElem?_eq_some_iff.1 (unhide HTT2)).1).trans (unhide HTT2)
  have z0 := tx3.c0
  have z1 := tx3.c1
  have r0 : w3.cell? ⟨w.heap.size, 0, none⟩ = some (.int .i64 t.z) := by simp [World.cell?, tt3]
  clear hb3 u0 u1 u2 v0 v1 v2 tx3 tt3
  go_wp2_with fail
  go_ret
  exact ⟨rfl, unhide HB3⟩

set_option maxRecDepth 20000 in
set_option maxHeartbeats 2000000 in
theorem admit_fit (t : Tr) (vn vs : Value) (x : WTxn) (w : World) (hn : SeqV w vn t.ns) (hs : SeqV w vs t.ss) (hw : WfT t) (hd : x.d.length ≤ 140737488355328) (hg : goodT t = true) (hx : gdE x = 0) (h1 : t.z < x.z) (h2 : x.o ≠ 1) (h3 : x.s ∈ t.ss) :
    Calls Tryz.prog 33 #[.agg #[.int .i64 t.z, vn, vs], txnV x] w fun e w' => e = .returned (.int .i64 0) ∧ Below w.heap.size w w' := by
  have CG := hide (fun W (hW : Below w.heap.size w W) => tgood_any t vn vs W (hn.next hW) (hs.next hW) hw)
  have CO := fun W (hW : Below w.heap.size w W) => topen_any t.z vn vs t.ss x.s W (hs.next hW) (goodT_true.1 hg).ses
  rw [hg] at CG
  have CW := hide (fun W => wgood_any x W hd)
  rw [hx] at CW
  have q1 : decide (x.z ≤ t.z) = false := decide_eq_false (by omega)
  rw [decide_eq_true h3] at CO
  have q2 : (x.o == 1) = false := by simpa using h2
  have q3 : (x.o != 1) = true := by simpa using h2
  clear h1 h2 h3
  have HCO := hide CO
  obtain ⟨na, nc, rfl⟩ := seq_slice hn
  obtain ⟨sa, sc, rfl⟩ := seq_slice hs
  clear hn hs hw hg hx CO
  obtain ⟨xz, xo, xs, xp, xd, xv, xw⟩ := x
  unfold txnV at CW ⊢
  simp only at *
  have KT : ∀ w1, Below ((w.alloc (.cells #[.int .i64 t.z, .slice na t.ns.length nc, .slice sa t.ss.length sc] 25)).alloc (.cells #[.int .i64 xz, .int .i64 xo, .int .i64 xs, .string ⟨xp.toArray⟩, .string ⟨xd.toArray⟩, .int .i64 xv, .int .i64 xw] 29)).heap.size ((w.alloc (.cells #[.int .i64 t.z, .slice na t.ns.length nc, .slice sa t.ss.length sc] 25)).alloc (.cells #[.int .i64 xz, .int .i64 xo, .int .i64 xs, .string ⟨xp.toArray⟩, .string ⟨xd.toArray⟩, .int .i64 xv, .int .i64 xw] 29)) w1 → TAt w1 (w.heap.size + 1) ⟨xz, xo, xs, xp, xd, xv, xw⟩ ∧ w1.heap[w.heap.size]? = some (.cells #[.int .i64 t.z, .slice na t.ns.length nc, .slice sa t.ss.length sc] 25 (0, 0)) := fun w1 h1 => by
    have := (TAt.new (w.alloc (.cells #[.int .i64 t.z, .slice na t.ns.length nc, .slice sa t.ss.length sc] 25)) ⟨xz, xo, xs, xp, xd, xv, xw⟩).next h1
    refine ⟨by simpa using this, ?_⟩
    rw [h1.block _ (by simp; omega)]
    rw [(allocB (w.alloc (.cells #[.int .i64 t.z, .slice na t.ns.length nc, .slice sa t.ss.length sc] 25)) (.cells #[.int .i64 xz, .int .i64 xo, .int .i64 xs, .string ⟨xp.toArray⟩, .string ⟨xd.toArray⟩, .int .i64 xv, .int .i64 xw] 29)).block _ (by simp)]
    exact heap_alloc_new w _
  have HKT := hide KT
  clear KT
  go_enter Tryz.func33, Tryz.ntmps33
  go_wp2_with fail
  refine (unhide CG _ (nnext (allocB _ _) (allocB _ _))).mono ?_
  rintro e w1 ⟨rfl, hb1⟩
  have HB := hide (nnext (nnext (allocB _ _) (allocB _ _)) hb1)
  obtain ⟨tx, tt⟩ := unhide HKT w1 hb1
  have y0 := tx.c0
  have y1 := tx.c1
  have y2 := tx.c2
  have y3 := tx.c3
  have y4 := tx.c4
  have y5 := tx.c5
  have y6 := tx.c6
  have HTX := hide tx
  have HTT := hide tt
  clear hb1 tx tt
  go_wp2_with fail
  refine (unhide CW _).mono ?_
  rintro e w2 ⟨rfl, hb2⟩
  have HB2 := hide (nnext (unhide HB) hb2)
  have tx2 := (unhide HTX).next hb2
  have tt2 := (hb2.block _ (Array.getElem?_eq_some_iff.1 (unhide HTT)).1).trans (unhide HTT)
  have u0 := tx2.c0
  have u1 := tx2.c1
  have u2 := tx2.c2
  have v0 : w2.cell? ⟨w.heap.size, 0, none⟩ = some (.int .i64 t.z) := by simp [World.cell?, tt2]
  have v1 : w2.cell? ⟨w.heap.size, 1, none⟩ = some (.slice na t.ns.length nc) := by simp [World.cell?, tt2]
  have v2 : w2.cell? ⟨w.heap.size, 2, none⟩ = some (.slice sa t.ss.length sc) := by simp [World.cell?, tt2]
  have HTX2 := hide tx2
  have HTT2 := hide tt2
  clear hb2 y0 y1 y2 y3 y4 y5 y6 tx2 tt2
  go_wp2_with fail
  refine (unhide HCO _ (unhide HB2)).mono ?_
  rintro e w3 ⟨rfl, hb3⟩
  have HB3 := hide (nnext (unhide HB2) hb3)
  have tx3 := (unhide HTX2).next hb3
  have tt3 := (hb3.block _ (Array.getElem?_eq_some_iff.1 (unhide HTT2)).1).trans (unhide HTT2)
  have z0 := tx3.c0
  have z1 := tx3.c1
  have r0 : w3.cell? ⟨w.heap.size, 0, none⟩ = some (.int .i64 t.z) := by simp [World.cell?, tt3]
  clear hb3 u0 u1 u2 v0 v1 v2 tx3 tt3
  go_wp2_with fail
  go_ret
  exact ⟨rfl, unhide HB3⟩

theorem admit_any (t : Tr) (vn vs : Value) (x : WTxn) (w : World) (hn : SeqV w vn t.ns) (hs : SeqV w vs t.ss) (hw : WfT t) (hd : x.d.length ≤ 140737488355328) :
    Calls Tryz.prog 33 #[.agg #[.int .i64 t.z, vn, vs], txnV x] w fun e w' => e = .returned (.int .i64 (admE t x)) ∧ Below w.heap.size w w' := by
  cases hg : goodT t with
  | false => rw [adm_range hg]; exact admit_range t vn vs x w hn hs hw hg
  | true =>
    by_cases hx : gdE x = 0
    · rw [adm_rest hg hx]
      by_cases h1 : x.z ≤ t.z
      · rw [if_pos h1]; exact admit_ord t vn vs x w hn hs hw hd hg hx h1
      · rw [if_neg h1]
        by_cases h2 : x.o = 1
        · by_cases h3 : x.s ∈ t.ss
          · rw [if_pos ⟨h2, h3⟩]; exact admit_twice t vn vs x w hn hs hw hd hg hx (by omega) h2 h3
          · rw [if_neg (fun h => h3 h.2), if_neg (fun h => h.1 h2)]; exact admit_new t vn vs x w hn hs hw hd hg hx (by omega) h2 h3
        · rw [if_neg (fun h => h2 h.1)]
          by_cases h3 : x.s ∈ t.ss
          · rw [if_neg (fun h => h.2 h3)]; exact admit_fit t vn vs x w hn hs hw hd hg hx (by omega) h2 h3
          · rw [if_pos ⟨h2, h3⟩]; exact admit_ses t vn vs x w hn hs hw hd hg hx (by omega) h2 h3
    · rw [adm_txn hg hx]; exact admit_txn t vn vs x w hn hs hw hd hg hx

end Go.Proofs.YtalnmhgedfgooaaGreatDoor
