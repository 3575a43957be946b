/-
  What growth's create does: the walks.
  What growth's create does: the walks.
-/
import Derived.Test.YtcplpbelficbeaaGreatDoorRQJ
import Derived.Test.YtcplpbelficbeaaGreatDoorRQK
namespace Go.Proofs.YtcplpbelficbeaaGreatDoor
open Go.RowKit

set_option maxRecDepth 20000 in
set_option maxHeartbeats 4000000 in
theorem cre_twice (F : Nat → Prop) (b : Nat) (z : Int) (vn vs ve : Value) (ns : List Nd) (A B : List Nd) (n : Nd) (ss : List Int) (es : List Ev) (x : WTxn) (w : World)
    (h : Grow w F b z vn vs ve ns ss es) (T : NThere ns A n B x.p) (hl : ns.length ≤ 400) (ha : NAsc ns) :
    Calls Tryz.prog 40 #[.pointer (some ⟨b, 0, none⟩), txnV x] w fun e w' => e = .returned (.int .i64 8) ∧ Touch F w w' := by
  obtain ⟨xz, xo, xs, xp, xd, xv, xw⟩ := x
  simp only at T
  have CF := fun W (hW : Below w.heap.size w W) => nfind_there vn ns A B n xp W (h.n.next hW).seq (by omega) T
  have HCS := hide (fun W => split_any xp W)
  have HCG := hide (fun W (hW : Below w.heap.size w W) => nfind_any vn ns (dirOf xp) W (h.n.next hW).seq (by omega) ha)
  have KX : ∀ w1, Below (w.alloc (.cells #[.int .i64 xz, .int .i64 xo, .int .i64 xs, .string ⟨xp.toArray⟩, .string ⟨xd.toArray⟩, .int .i64 xv, .int .i64 xw] 32)).heap.size (w.alloc (.cells #[.int .i64 xz, .int .i64 xo, .int .i64 xs, .string ⟨xp.toArray⟩, .string ⟨xd.toArray⟩, .int .i64 xv, .int .i64 xw] 32)) w1 → TAt w1 w.heap.size ⟨xz, xo, xs, xp, xd, xv, xw⟩ := fun w1 h1 => (TAt.new w ⟨xz, xo, xs, xp, xd, xv, xw⟩).next h1
  have HKX := hide KX
  have c1 := h.c1
  have hbl := h.lt
  obtain ⟨na, nc, rfl, _⟩ := h.n.slice
  have HG := hide h
  clear h T ha KX
  unfold txnV
  go_enter Tryz.func40, Tryz.ntmps40
  go_wp2_with fail
  go_region_law (first
    | (go_simp; refine (CF _ (by first | exact ((Below.refl w.heap.size w).alloc (Nat.le_refl _) _).drew | exact (Below.refl w.heap.size w).alloc (Nat.le_refl _) _)).mono ?_; rintro e w1 ⟨rfl, hb1⟩; have HBd := hide hb1; clear hb1))
  all_goals
    have HB0 := hide (nbelow_drew (unhide HBd))
    clear CF
    have HB1 := hide (nbox_then (unhide HB0))
    have tx := unhide HKX w1 (unhide HB0)
    have t3 := tx.c3
    have HTX := hide tx
    have g1 := (unhide HG).next (unhide HB1)
    have HG1 := hide g1
    clear g1 tx c1
    go_wp2_with fail
    refine (unhide HCS _).mono ?_
    rintro e w2 ⟨rfl, hb2⟩
    have HB2 := hide (nnext (unhide HB1) hb2)
    have tx2 := (unhide HTX).next hb2
    have g2 := (unhide HG1).next hb2
    have e1 := g2.c1
    have HTX2 := hide tx2
    have HG2 := hide g2
    clear tx2 g2 hb2 t3
    go_wp2_with fail
    obtain ⟨j, _, C2⟩ := unhide HCG _ (unhide HB2)
    refine C2.mono ?_
    rintro e w3 ⟨rfl, hb3⟩
    have HB3 := hide (nnext (unhide HB2) hb3)
    go_wp2_with fail
    go_ret
    exact ⟨rfl, Touch.of_below (unhide HB3)⟩

set_option maxRecDepth 20000 in
set_option maxHeartbeats 4000000 in
theorem cre_none (F : Nat → Prop) (b : Nat) (z : Int) (vn vs ve : Value) (ns : List Nd) (A B A' B' : List Nd) (ss : List Int) (es : List Ev) (x : WTxn) (w : World)
    (h : Grow w F b z vn vs ve ns ss es) (G : NGap ns A B x.p) (U : NGap ns A' B' (dirOf x.p)) (hl : ns.length ≤ 400) :
    Calls Tryz.prog 40 #[.pointer (some ⟨b, 0, none⟩), txnV x] w fun e w' => e = .returned (.int .i64 7) ∧ Touch F w w' := by
  obtain ⟨xz, xo, xs, xp, xd, xv, xw⟩ := x
  simp only at G U
  have CF := fun W (hW : Below w.heap.size w W) => nfind_gap vn ns A B xp W (h.n.next hW).seq (by omega) G
  have HCS := hide (fun W => split_any xp W)
  have HCG := hide (fun W (hW : Below w.heap.size w W) => nfind_gap vn ns A' B' (dirOf xp) W (h.n.next hW).seq (by omega) U)
  have KX : ∀ w1, Below (w.alloc (.cells #[.int .i64 xz, .int .i64 xo, .int .i64 xs, .string ⟨xp.toArray⟩, .string ⟨xd.toArray⟩, .int .i64 xv, .int .i64 xw] 32)).heap.size (w.alloc (.cells #[.int .i64 xz, .int .i64 xo, .int .i64 xs, .string ⟨xp.toArray⟩, .string ⟨xd.toArray⟩, .int .i64 xv, .int .i64 xw] 32)) w1 → TAt w1 w.heap.size ⟨xz, xo, xs, xp, xd, xv, xw⟩ := fun w1 h1 => (TAt.new w ⟨xz, xo, xs, xp, xd, xv, xw⟩).next h1
  have HKX := hide KX
  have c1 := h.c1
  have hbl := h.lt
  obtain ⟨na, nc, rfl, _⟩ := h.n.slice
  have HG := hide h
  clear h G U KX
  unfold txnV
  go_enter Tryz.func40, Tryz.ntmps40
  go_wp2_with fail
  go_region_law (first
    | (go_simp; refine (CF _ (by first | exact ((Below.refl w.heap.size w).alloc (Nat.le_refl _) _).drew | exact (Below.refl w.heap.size w).alloc (Nat.le_refl _) _)).mono ?_; rintro e w1 ⟨rfl, hb1⟩; have HBd := hide hb1; clear hb1))
  all_goals
    have HB0 := hide (nbelow_drew (unhide HBd))
    clear CF
    have HB1 := hide (nbox_then (unhide HB0))
    have tx := unhide HKX w1 (unhide HB0)
    have t3 := tx.c3
    have HTX := hide tx
    have g1 := (unhide HG).next (unhide HB1)
    have HG1 := hide g1
    clear g1 tx c1
    go_wp2_with fail
    refine (unhide HCS _).mono ?_
    rintro e w2 ⟨rfl, hb2⟩
    have HB2 := hide (nnext (unhide HB1) hb2)
    have tx2 := (unhide HTX).next hb2
    have g2 := (unhide HG1).next hb2
    have e1 := g2.c1
    have HTX2 := hide tx2
    have HG2 := hide g2
    clear tx2 g2 hb2 t3
    go_wp2_with fail
    refine (unhide HCG _ (unhide HB2)).mono ?_
    rintro e w3 ⟨rfl, hb3⟩
    have HB3 := hide (nnext (unhide HB2) hb3)
    go_wp2_with fail
    go_ret
    exact ⟨rfl, Touch.of_below (unhide HB3)⟩

set_option maxRecDepth 20000 in
set_option maxHeartbeats 4000000 in
theorem cre_owned (F : Nat → Prop) (b : Nat) (z : Int) (vn vs ve : Value) (ns : List Nd) (A B A' B' : List Nd) (u : Nd) (ss : List Int) (es : List Ev) (x : WTxn) (w : World)
    (h : Grow w F b z vn vs ve ns ss es) (G : NGap ns A B x.p) (U : NThere ns A' u B' (dirOf x.p)) (hl : ns.length ≤ 400) (ho : u.o ≠ 0) :
    Calls Tryz.prog 40 #[.pointer (some ⟨b, 0, none⟩), txnV x] w fun e w' => e = .returned (.int .i64 11) ∧ Touch F w w' := by
  obtain ⟨xz, xo, xs, xp, xd, xv, xw⟩ := x
  simp only at G U
  have CF := fun W (hW : Below w.heap.size w W) => nfind_gap vn ns A B xp W (h.n.next hW).seq (by omega) G
  have HCS := hide (fun W => split_any xp W)
  have HCG := hide (fun W (hW : Below w.heap.size w W) => nfind_there vn ns A' B' u (dirOf xp) W (h.n.next hW).seq (by omega) U)
  have KX : ∀ w1, Below (w.alloc (.cells #[.int .i64 xz, .int .i64 xo, .int .i64 xs, .string ⟨xp.toArray⟩, .string ⟨xd.toArray⟩, .int .i64 xv, .int .i64 xw] 32)).heap.size (w.alloc (.cells #[.int .i64 xz, .int .i64 xo, .int .i64 xs, .string ⟨xp.toArray⟩, .string ⟨xd.toArray⟩, .int .i64 xv, .int .i64 xw] 32)) w1 → TAt w1 w.heap.size ⟨xz, xo, xs, xp, xd, xv, xw⟩ := fun w1 h1 => (TAt.new w ⟨xz, xo, xs, xp, xd, xv, xw⟩).next h1
  have HKX := hide KX
  have c1 := h.c1
  have hbl := h.lt
  obtain ⟨g, cap, rfl, hr, hgb, hFg⟩ := h.nrow (by rw [U.eq]; simp)
  have HG := hide h
  have HE := hide U.eq
  have hlt : A'.length < ns.length := by rw [U.eq]; simp
  have hob : (u.o != 0) = true := by simpa using ho
  clear h G U KX ho hr
  unfold txnV
  go_enter Tryz.func40, Tryz.ntmps40
  go_wp2_with fail
  go_region_law (first
    | (go_simp; refine (CF _ (by first | exact ((Below.refl w.heap.size w).alloc (Nat.le_refl _) _).drew | exact (Below.refl w.heap.size w).alloc (Nat.le_refl _) _)).mono ?_; rintro e w1 ⟨rfl, hb1⟩; have HBd := hide hb1; clear hb1))
  all_goals
    have HB0 := hide (nbelow_drew (unhide HBd))
    clear CF
    have HB1 := hide (nbox_then (unhide HB0))
    have tx := unhide HKX w1 (unhide HB0)
    have t3 := tx.c3
    have HTX := hide tx
    have g1 := (unhide HG).next (unhide HB1)
    have HG1 := hide g1
    clear g1 tx c1
    go_wp2_with fail
    refine (unhide HCS _).mono ?_
    rintro e w2 ⟨rfl, hb2⟩
    have HB2 := hide (nnext (unhide HB1) hb2)
    have tx2 := (unhide HTX).next hb2
    have g2 := (unhide HG1).next hb2
    have e1 := g2.c1
    have HTX2 := hide tx2
    have HG2 := hide g2
    clear tx2 g2 hb2 t3
    go_wp2_with fail
    refine (unhide HCG _ (unhide HB2)).mono ?_
    rintro e w3 ⟨rfl, hb3⟩
    have HB3 := hide (nnext (unhide HB2) hb3)
    have tx3 := (unhide HTX2).next hb3
    have g3 := (unhide HG2).next hb3
    have f1 := g3.c1
    have y0 := tx3.c0
    have y2 := tx3.c2
    have y3 := tx3.c3
    have y4 := tx3.c4
    have y6 := tx3.c6
    obtain ⟨g', cap', he, hr, _, _⟩ := g3.nrow (by rw [unhide HE]; simp)
    simp only [Value.slice.injEq, Option.some.injEq, Addr.mk.injEq, and_true] at he
    obtain ⟨rfl, _, rfl⟩ := he
    have r7 := hr.row.n7 (i := A'.length) (x := u) (by rw [unhide HE]; exact nat_at A' u B')
    rw [Nat.zero_add] at r7
    have HTX3 := hide tx3
    have HG3 := hide g3
    clear g3 tx3 hr e1 hb3
    go_wp2_with fail
    go_ret
    exact ⟨rfl, Touch.of_below (unhide HB3)⟩

set_option maxRecDepth 20000 in
set_option maxHeartbeats 4000000 in
theorem cre_ses (F : Nat → Prop) (b : Nat) (z : Int) (vn vs ve : Value) (ns : List Nd) (A B A' B' : List Nd) (u : Nd) (ss : List Int) (es : List Ev) (x : WTxn) (w : World)
    (h : Grow w F b z vn vs ve ns ss es) (G : NGap ns A B x.p) (U : NThere ns A' u B' (dirOf x.p)) (hl : ns.length ≤ 400) (ho : u.o = 0) (hw1 : x.w ≠ 0) (hw2 : x.w ≠ x.s) :
    Calls Tryz.prog 40 #[.pointer (some ⟨b, 0, none⟩), txnV x] w fun e w' => e = .returned (.int .i64 12) ∧ Touch F w w' := by
  obtain ⟨xz, xo, xs, xp, xd, xv, xw⟩ := x
  simp only at G U hw1 hw2
  have CF := fun W (hW : Below w.heap.size w W) => nfind_gap vn ns A B xp W (h.n.next hW).seq (by omega) G
  have HCS := hide (fun W => split_any xp W)
  have HCG := hide (fun W (hW : Below w.heap.size w W) => nfind_there vn ns A' B' u (dirOf xp) W (h.n.next hW).seq (by omega) U)
  have KX : ∀ w1, Below (w.alloc (.cells #[.int .i64 xz, .int .i64 xo, .int .i64 xs, .string ⟨xp.toArray⟩, .string ⟨xd.toArray⟩, .int .i64 xv, .int .i64 xw] 32)).heap.size (w.alloc (.cells #[.int .i64 xz, .int .i64 xo, .int .i64 xs, .string ⟨xp.toArray⟩, .string ⟨xd.toArray⟩, .int .i64 xv, .int .i64 xw] 32)) w1 → TAt w1 w.heap.size ⟨xz, xo, xs, xp, xd, xv, xw⟩ := fun w1 h1 => (TAt.new w ⟨xz, xo, xs, xp, xd, xv, xw⟩).next h1
  have HKX := hide KX
  have c1 := h.c1
  have hbl := h.lt
  obtain ⟨g, cap, rfl, hr, hgb, hFg⟩ := h.nrow (by rw [U.eq]; simp)
  have HG := hide h
  have HE := hide U.eq
  have hlt : A'.length < ns.length := by rw [U.eq]; simp
  have hb1 : (xw != 0) = true := by simpa using hw1
  have hb2 : (xw != xs) = true := by simpa using hw2
  have HO := hide ho
  clear h G U KX ho hr hw1 hw2
  unfold txnV
  go_enter Tryz.func40, Tryz.ntmps40
  go_wp2_with fail
  go_region_law (first
    | (go_simp; refine (CF _ (by first | exact ((Below.refl w.heap.size w).alloc (Nat.le_refl _) _).drew | exact (Below.refl w.heap.size w).alloc (Nat.le_refl _) _)).mono ?_; rintro e w1 ⟨rfl, hb1⟩; have HBd := hide hb1; clear hb1))
  all_goals
    have HB0 := hide (nbelow_drew (unhide HBd))
    clear CF
    have HB1 := hide (nbox_then (unhide HB0))
    have tx := unhide HKX w1 (unhide HB0)
    have t3 := tx.c3
    have HTX := hide tx
    have g1 := (unhide HG).next (unhide HB1)
    have HG1 := hide g1
    clear g1 tx c1
    go_wp2_with fail
    refine (unhide HCS _).mono ?_
    rintro e w2 ⟨rfl, hb2⟩
    have HB2 := hide (nnext (unhide HB1) hb2)
    have tx2 := (unhide HTX).next hb2
    have g2 := (unhide HG1).next hb2
    have e1 := g2.c1
    have HTX2 := hide tx2
    have HG2 := hide g2
    clear tx2 g2 hb2 t3
    go_wp2_with fail
    refine (unhide HCG _ (unhide HB2)).mono ?_
    rintro e w3 ⟨rfl, hb3⟩
    have HB3 := hide (nnext (unhide HB2) hb3)
    have tx3 := (unhide HTX2).next hb3
    have g3 := (unhide HG2).next hb3
    have f1 := g3.c1
    have y0 := tx3.c0
    have y2 := tx3.c2
    have y3 := tx3.c3
    have y4 := tx3.c4
    have y6 := tx3.c6
    obtain ⟨g', cap', he, hr, _, _⟩ := g3.nrow (by rw [unhide HE]; simp)
    simp only [Value.slice.injEq, Option.some.injEq, Addr.mk.injEq, and_true] at he
    obtain ⟨rfl, _, rfl⟩ := he
    have r7 := hr.row.n7 (i := A'.length) (x := u) (by rw [unhide HE]; exact nat_at A' u B')
    rw [Nat.zero_add] at r7
    have HTX3 := hide tx3
    have HG3 := hide g3
    clear g3 tx3 hr e1 hb3
    rw [unhide HO] at r7
    go_wp2_with fail
    go_ret
    exact ⟨rfl, Touch.of_below (unhide HB3)⟩

end Go.Proofs.YtcplpbelficbeaaGreatDoor

namespace Go.Proofs.YtcplpbelficbeaaGreatDoor
open Go.RowKit

set_option maxRecDepth 20000 in
set_option maxHeartbeats 4000000 in
theorem cre_full0 (F : Nat → Prop) (b : Nat) (z : Int) (vn vs ve : Value) (ns : List Nd) (A B A' B' : List Nd) (u : Nd) (ss : List Int) (es : List Ev) (x : WTxn) (w : World)
    (h : Grow w F b z vn vs ve ns ss es) (G : NGap ns A B x.p) (U : NThere ns A' u B' (dirOf x.p)) (ho : u.o = 0) (hw1 : x.w = 0) (hf : ns.length = 400) :
    Calls Tryz.prog 40 #[.pointer (some ⟨b, 0, none⟩), txnV x] w fun e w' => e = .returned (.int .i64 6) ∧ Touch F w w' := by
  obtain ⟨xz, xo, xs, xp, xd, xv, xw⟩ := x
  simp only at G U hw1
  have CF := fun W (hW : Below w.heap.size w W) => nfind_gap vn ns A B xp W (h.n.next hW).seq (by omega) G
  have HCS := hide (fun W => split_any xp W)
  have HCG := hide (fun W (hW : Below w.heap.size w W) => nfind_there vn ns A' B' u (dirOf xp) W (h.n.next hW).seq (by omega) U)
  have KX : ∀ w1, Below (w.alloc (.cells #[.int .i64 xz, .int .i64 xo, .int .i64 xs, .string ⟨xp.toArray⟩, .string ⟨xd.toArray⟩, .int .i64 xv, .int .i64 xw] 32)).heap.size (w.alloc (.cells #[.int .i64 xz, .int .i64 xo, .int .i64 xs, .string ⟨xp.toArray⟩, .string ⟨xd.toArray⟩, .int .i64 xv, .int .i64 xw] 32)) w1 → TAt w1 w.heap.size ⟨xz, xo, xs, xp, xd, xv, xw⟩ := fun w1 h1 => (TAt.new w ⟨xz, xo, xs, xp, xd, xv, xw⟩).next h1
  have HKX := hide KX
  have c1 := h.c1
  have hbl := h.lt
  obtain ⟨g, cap, rfl, hr, hgb, hFg⟩ := h.nrow (by rw [U.eq]; simp)
  have HG := hide h
  have HE := hide U.eq
  have hlt : A'.length < ns.length := by rw [U.eq]; simp
  have hb1 : (xw != 0) = false := by simpa using hw1
  have hfb : ((ns.length : Int) == 400) = true := by rw [hf]; rfl
  have HO := hide ho
  clear h G U KX ho hr hf hw1
  unfold txnV
  go_enter Tryz.func40, Tryz.ntmps40
  go_wp2_with fail
  go_region_law (first
    | (go_simp; refine (CF _ (by first | exact ((Below.refl w.heap.size w).alloc (Nat.le_refl _) _).drew | exact (Below.refl w.heap.size w).alloc (Nat.le_refl _) _)).mono ?_; rintro e w1 ⟨rfl, hb1⟩; have HBd := hide hb1; clear hb1))
  all_goals
    have HB0 := hide (nbelow_drew (unhide HBd))
    clear CF
    have HB1 := hide (nbox_then (unhide HB0))
    have tx := unhide HKX w1 (unhide HB0)
    have t3 := tx.c3
    have HTX := hide tx
    have g1 := (unhide HG).next (unhide HB1)
    have HG1 := hide g1
    clear g1 tx c1
    go_wp2_with fail
    refine (unhide HCS _).mono ?_
    rintro e w2 ⟨rfl, hb2⟩
    have HB2 := hide (nnext (unhide HB1) hb2)
    have tx2 := (unhide HTX).next hb2
    have g2 := (unhide HG1).next hb2
    have e1 := g2.c1
    have HTX2 := hide tx2
    have HG2 := hide g2
    clear tx2 g2 hb2 t3
    go_wp2_with fail
    refine (unhide HCG _ (unhide HB2)).mono ?_
    rintro e w3 ⟨rfl, hb3⟩
    have HB3 := hide (nnext (unhide HB2) hb3)
    have tx3 := (unhide HTX2).next hb3
    have g3 := (unhide HG2).next hb3
    have f1 := g3.c1
    have y0 := tx3.c0
    have y2 := tx3.c2
    have y3 := tx3.c3
    have y4 := tx3.c4
    have y6 := tx3.c6
    obtain ⟨g', cap', he, hr, _, _⟩ := g3.nrow (by rw [unhide HE]; simp)
    simp only [Value.slice.injEq, Option.some.injEq, Addr.mk.injEq, and_true] at he
    obtain ⟨rfl, _, rfl⟩ := he
    have r7 := hr.row.n7 (i := A'.length) (x := u) (by rw [unhide HE]; exact nat_at A' u B')
    rw [Nat.zero_add] at r7
    have HTX3 := hide tx3
    have HG3 := hide g3
    clear g3 tx3 hr e1 hb3
    rw [unhide HO] at r7
    go_wp2_with fail
    go_ret
    exact ⟨rfl, Touch.of_below (unhide HB3)⟩

set_option maxRecDepth 20000 in
set_option maxHeartbeats 4000000 in
theorem cre_full1 (F : Nat → Prop) (b : Nat) (z : Int) (vn vs ve : Value) (ns : List Nd) (A B A' B' : List Nd) (u : Nd) (ss : List Int) (es : List Ev) (x : WTxn) (w : World)
    (h : Grow w F b z vn vs ve ns ss es) (G : NGap ns A B x.p) (U : NThere ns A' u B' (dirOf x.p)) (ho : u.o = 0) (hw1 : x.w ≠ 0) (hw2 : x.w = x.s) (hf : ns.length = 400) :
    Calls Tryz.prog 40 #[.pointer (some ⟨b, 0, none⟩), txnV x] w fun e w' => e = .returned (.int .i64 6) ∧ Touch F w w' := by
  obtain ⟨xz, xo, xs, xp, xd, xv, xw⟩ := x
  simp only at G U hw1 hw2
  have CF := fun W (hW : Below w.heap.size w W) => nfind_gap vn ns A B xp W (h.n.next hW).seq (by omega) G
  have HCS := hide (fun W => split_any xp W)
  have HCG := hide (fun W (hW : Below w.heap.size w W) => nfind_there vn ns A' B' u (dirOf xp) W (h.n.next hW).seq (by omega) U)
  have KX : ∀ w1, Below (w.alloc (.cells #[.int .i64 xz, .int .i64 xo, .int .i64 xs, .string ⟨xp.toArray⟩, .string ⟨xd.toArray⟩, .int .i64 xv, .int .i64 xw] 32)).heap.size (w.alloc (.cells #[.int .i64 xz, .int .i64 xo, .int .i64 xs, .string ⟨xp.toArray⟩, .string ⟨xd.toArray⟩, .int .i64 xv, .int .i64 xw] 32)) w1 → TAt w1 w.heap.size ⟨xz, xo, xs, xp, xd, xv, xw⟩ := fun w1 h1 => (TAt.new w ⟨xz, xo, xs, xp, xd, xv, xw⟩).next h1
  have HKX := hide KX
  have c1 := h.c1
  have hbl := h.lt
  obtain ⟨g, cap, rfl, hr, hgb, hFg⟩ := h.nrow (by rw [U.eq]; simp)
  have HG := hide h
  have HE := hide U.eq
  have hlt : A'.length < ns.length := by rw [U.eq]; simp
  have hb1 : (xw != 0) = true := by simpa using hw1
  have hb2 : (xw != xs) = false := by simpa using hw2
  have hfb : ((ns.length : Int) == 400) = true := by rw [hf]; rfl
  have HO := hide ho
  clear h G U KX ho hr hf hw1 hw2
  unfold txnV
  go_enter Tryz.func40, Tryz.ntmps40
  go_wp2_with fail
  go_region_law (first
    | (go_simp; refine (CF _ (by first | exact ((Below.refl w.heap.size w).alloc (Nat.le_refl _) _).drew | exact (Below.refl w.heap.size w).alloc (Nat.le_refl _) _)).mono ?_; rintro e w1 ⟨rfl, hb1⟩; have HBd := hide hb1; clear hb1))
  all_goals
    have HB0 := hide (nbelow_drew (unhide HBd))
    clear CF
    have HB1 := hide (nbox_then (unhide HB0))
    have tx := unhide HKX w1 (unhide HB0)
    have t3 := tx.c3
    have HTX := hide tx
    have g1 := (unhide HG).next (unhide HB1)
    have HG1 := hide g1
    clear g1 tx c1
    go_wp2_with fail
    refine (unhide HCS _).mono ?_
    rintro e w2 ⟨rfl, hb2⟩
    have HB2 := hide (nnext (unhide HB1) hb2)
    have tx2 := (unhide HTX).next hb2
    have g2 := (unhide HG1).next hb2
    have e1 := g2.c1
    have HTX2 := hide tx2
    have HG2 := hide g2
    clear tx2 g2 hb2 t3
    go_wp2_with fail
    refine (unhide HCG _ (unhide HB2)).mono ?_
    rintro e w3 ⟨rfl, hb3⟩
    have HB3 := hide (nnext (unhide HB2) hb3)
    have tx3 := (unhide HTX2).next hb3
    have g3 := (unhide HG2).next hb3
    have f1 := g3.c1
    have y0 := tx3.c0
    have y2 := tx3.c2
    have y3 := tx3.c3
    have y4 := tx3.c4
    have y6 := tx3.c6
    obtain ⟨g', cap', he, hr, _, _⟩ := g3.nrow (by rw [unhide HE]; simp)
    simp only [Value.slice.injEq, Option.some.injEq, Addr.mk.injEq, and_true] at he
    obtain ⟨rfl, _, rfl⟩ := he
    have r7 := hr.row.n7 (i := A'.length) (x := u) (by rw [unhide HE]; exact nat_at A' u B')
    rw [Nat.zero_add] at r7
    have HTX3 := hide tx3
    have HG3 := hide g3
    clear g3 tx3 hr e1 hb3
    rw [unhide HO] at r7
    go_wp2_with fail
    go_ret
    exact ⟨rfl, Touch.of_below (unhide HB3)⟩

end Go.Proofs.YtcplpbelficbeaaGreatDoor
