/-
  What growth's create does: the walks.
  What growth's create does where it makes a node: the walks.
-/
import Derived.Test.YtoacignhobchbaaGreatDoorSUN
import Derived.Deep.CutRange
import Derived.Deep.CutBlock
namespace Go.Proofs.YtoacignhobchbaaGreatDoor
open Go.RowKit

set_option maxRecDepth 20000 in
set_option maxHeartbeats 4000000 in
theorem cre_full0 (F : Nat → Prop) (b : Nat) (z : Int) (vn vs ve : Value) (ns : List Nd) (A B A' B' : List Nd) (u : Nd) (ss : List Int) (es : List Ev) (x : WTxn) (w : World)
    (h : Grow w F b z vn vs ve ns ss es) (G : NGap ns A B x.p) (U : NThere ns A' u B' (dirOf x.p)) (ho : u.o = 0) (hw1 : x.w = 0) (hf : ns.length = 400) :
    Calls Tryz.prog 50 #[.pointer (some ⟨b, 0, none⟩), txnV x] w fun e w' => e = .returned (.int .i64 6) ∧ Touch F w w' := by
  obtain ⟨xz, xo, xs, xp, xd, xv, xw⟩ := x
  simp only at G U hw1
  have CF := fun W (hW : Below w.heap.size w W) => nfind_gap vn ns A B xp W (h.n.next hW).seq (by omega) G
  have HCS := hide (fun W => split_any xp W)
  have HCG := hide (fun W (hW : Below w.heap.size w W) => nfind_there vn ns A' B' u (dirOf xp) W (h.n.next hW).seq (by omega) U)
  have KX : ∀ w1, Below (w.alloc (.cells #[.int .i64 xz, .int .i64 xo, .int .i64 xs, .string ⟨xp.toArray⟩, .string ⟨xd.toArray⟩, .int .i64 xv, .int .i64 xw] 53)).heap.size (w.alloc (.cells #[.int .i64 xz, .int .i64 xo, .int .i64 xs, .string ⟨xp.toArray⟩, .string ⟨xd.toArray⟩, .int .i64 xv, .int .i64 xw] 53)) w1 → TAt w1 w.heap.size ⟨xz, xo, xs, xp, xd, xv, xw⟩ := fun w1 h1 => (TAt.new w ⟨xz, xo, xs, xp, xd, xv, xw⟩).next h1
  have HKX := hide KX
  have c1 := h.c1
  have hbl := h.lt
  obtain ⟨g, cap, rfl, hr, hgb, hFg⟩ := h.nrow (by rw [U.eq]; simp)
  have HG := hide h
  have HE := hide U.eq
  have hlt : A'.length < ns.length := by rw [U.eq]; simp
  have hb1 : (xw != 0) = false := by simpa using hw1
  have hfb : ((ns.length : Int) == 400) = true := by rw [hf]; rfl
  have HO := hide ho
  clear h G U KX ho hr hf hw1
  unfold txnV
  go_enter Tryz.func50, Tryz.ntmps50
  go_wp2_with fail
  go_region_law (first
    | (go_simp; refine (CF _ (by first | exact ((Below.refl w.heap.size w).alloc (Nat.le_refl _) _).drew | exact (Below.refl w.heap.size w).alloc (Nat.le_refl _) _)).mono ?_; rintro e w1 ⟨rfl, hb1⟩; have HBd := hide hb1; clear hb1))
  all_goals
    have HB0 := hide (nbelow_drew (unhide HBd))
    clear CF
    have HB1 := hide (nbox_then (unhide HB0))
    have tx := unhide HKX w1 (unhide HB0)
    have t3 := tx.c3
    have HTX := hide tx
    have g1 := (unhide HG).next (unhide HB1)
    have HG1 := hide g1
    clear g1 tx c1
    go_wp2_with fail
    refine (unhide HCS _).mono ?_
    rintro e w2 ⟨rfl, hb2⟩
    have HB2 := hide (nnext (unhide HB1) hb2)
    have tx2 := (unhide HTX).next hb2
    have g2 := (unhide HG1).next hb2
    have e1 := g2.c1
    have HTX2 := hide tx2
    have HG2 := hide g2
    clear tx2 g2 hb2 t3
    go_wp2_with fail
    refine (unhide HCG _ (unhide HB2)).mono ?_
    rintro e w3 ⟨rfl, hb3⟩
    have HB3 := hide (nnext (unhide HB2) hb3)
    have tx3 := (unhide HTX2).next hb3
    have g3 := (unhide HG2).next hb3
    have f1 := g3.c1
    have y0 := tx3.c0
    have y2 := tx3.c2
    have y3 := tx3.c3
    have y4 := tx3.c4
    have y6 := tx3.c6
    obtain ⟨g', cap', he, hr, _, _⟩ := g3.nrow (by rw [unhide HE]; simp)
    simp only [Value.slice.injEq, Option.some.injEq, Addr.mk.injEq, and_true] at he
    obtain ⟨rfl, _, rfl⟩ := he
    have r7 := hr.row.n7 (i := A'.length) (x := u) (by rw [unhide HE]; exact nat_at A' u B')
    rw [Nat.zero_add] at r7
    have HTX3 := hide tx3
    have HG3 := hide g3
    clear g3 tx3 hr e1 hb3
    rw [unhide HO] at r7
    go_wp2_with fail
    go_ret
    exact ⟨rfl, Touch.of_below (unhide HB3)⟩

set_option maxRecDepth 20000 in
set_option maxHeartbeats 4000000 in
theorem cre_full1 (F : Nat → Prop) (b : Nat) (z : Int) (vn vs ve : Value) (ns : List Nd) (A B A' B' : List Nd) (u : Nd) (ss : List Int) (es : List Ev) (x : WTxn) (w : World)
    (h : Grow w F b z vn vs ve ns ss es) (G : NGap ns A B x.p) (U : NThere ns A' u B' (dirOf x.p)) (ho : u.o = 0) (hw1 : x.w ≠ 0) (hw2 : x.w = x.s) (hf : ns.length = 400) :
    Calls Tryz.prog 50 #[.pointer (some ⟨b, 0, none⟩), txnV x] w fun e w' => e = .returned (.int .i64 6) ∧ Touch F w w' := by
  obtain ⟨xz, xo, xs, xp, xd, xv, xw⟩ := x
  simp only at G U hw1 hw2
  have CF := fun W (hW : Below w.heap.size w W) => nfind_gap vn ns A B xp W (h.n.next hW).seq (by omega) G
  have HCS := hide (fun W => split_any xp W)
  have HCG := hide (fun W (hW : Below w.heap.size w W) => nfind_there vn ns A' B' u (dirOf xp) W (h.n.next hW).seq (by omega) U)
  have KX : ∀ w1, Below (w.alloc (.cells #[.int .i64 xz, .int .i64 xo, .int .i64 xs, .string ⟨xp.toArray⟩, .string ⟨xd.toArray⟩, .int .i64 xv, .int .i64 xw] 53)).heap.size (w.alloc (.cells #[.int .i64 xz, .int .i64 xo, .int .i64 xs, .string ⟨xp.toArray⟩, .string ⟨xd.toArray⟩, .int .i64 xv, .int .i64 xw] 53)) w1 → TAt w1 w.heap.size ⟨xz, xo, xs, xp, xd, xv, xw⟩ := fun w1 h1 => (TAt.new w ⟨xz, xo, xs, xp, xd, xv, xw⟩).next h1
  have HKX := hide KX
  have c1 := h.c1
  have hbl := h.lt
  obtain ⟨g, cap, rfl, hr, hgb, hFg⟩ := h.nrow (by rw [U.eq]; simp)
  have HG := hide h
  have HE := hide U.eq
  have hlt : A'.length < ns.length := by rw [U.eq]; simp
  have hb1 : (xw != 0) = true := by simpa using hw1
  have hb2 : (xw != xs) = false := by simpa using hw2
  have hfb : ((ns.length : Int) == 400) = true := by rw [hf]; rfl
  have HO := hide ho
  clear h G U KX ho hr hf hw1 hw2
  unfold txnV
  go_enter Tryz.func50, Tryz.ntmps50
  go_wp2_with fail
  go_region_law (first
    | (go_simp; refine (CF _ (by first | exact ((Below.refl w.heap.size w).alloc (Nat.le_refl _) _).drew | exact (Below.refl w.heap.size w).alloc (Nat.le_refl _) _)).mono ?_; rintro e w1 ⟨rfl, hb1⟩; have HBd := hide hb1; clear hb1))
  all_goals
    have HB0 := hide (nbelow_drew (unhide HBd))
    clear CF
    have HB1 := hide (nbox_then (unhide HB0))
    have tx := unhide HKX w1 (unhide HB0)
    have t3 := tx.c3
    have HTX := hide tx
    have g1 := (unhide HG).next (unhide HB1)
    have HG1 := hide g1
    clear g1 tx c1
    go_wp2_with fail
    refine (unhide HCS _).mono ?_
    rintro e w2 ⟨rfl, hb2⟩
    have HB2 := hide (nnext (unhide HB1) hb2)
    have tx2 := (unhide HTX).next hb2
    have g2 := (unhide HG1).next hb2
    have e1 := g2.c1
    have HTX2 := hide tx2
    have HG2 := hide g2
    clear tx2 g2 hb2 t3
    go_wp2_with fail
    refine (unhide HCG _ (unhide HB2)).mono ?_
    rintro e w3 ⟨rfl, hb3⟩
    have HB3 := hide (nnext (unhide HB2) hb3)
    have tx3 := (unhide HTX2).next hb3
    have g3 := (unhide HG2).next hb3
    have f1 := g3.c1
    have y0 := tx3.c0
    have y2 := tx3.c2
    have y3 := tx3.c3
    have y4 := tx3.c4
    have y6 := tx3.c6
    obtain ⟨g', cap', he, hr, _, _⟩ := g3.nrow (by rw [unhide HE]; simp)
    simp only [Value.slice.injEq, Option.some.injEq, Addr.mk.injEq, and_true] at he
    obtain ⟨rfl, _, rfl⟩ := he
    have r7 := hr.row.n7 (i := A'.length) (x := u) (by rw [unhide HE]; exact nat_at A' u B')
    rw [Nat.zero_add] at r7
    have HTX3 := hide tx3
    have HG3 := hide g3
    clear g3 tx3 hr e1 hb3
    rw [unhide HO] at r7
    go_wp2_with fail
    go_ret
    exact ⟨rfl, Touch.of_below (unhide HB3)⟩

end Go.Proofs.YtoacignhobchbaaGreatDoor
namespace Go.Proofs.YtoacignhobchbaaGreatDoor
open Go.RowKit

/-- behind the store of the new nodes -/
def CreQ (F : Nat → Prop) (b : Nat) (z : Int) (vs ve : Value) (ns : List Nd) (ss : List Int) (es : List Ev) (w : World) (xp : List UInt8) (wx : World) : Prop :=
  ∃ v5, Grow wx F b z v5 vs ve ns ss es ∧ Touch F w wx ∧ wx.cell? ⟨w.heap.size, 3, none⟩ = some (.string ⟨xp.toArray⟩)

set_option maxRecDepth 20000 in
set_option maxHeartbeats 8000000 in
theorem cre_main (F : Nat → Prop) (b : Nat) (z : Int) (vn vs ve : Value) (ns : List Nd) (A B A' B' : List Nd) (u : Nd) (E : Int) (Post : World → Prop) (ss : List Int) (es : List Ev) (x : WTxn) (w : World)
    (h : Grow w F b z vn vs ve ns ss es) (hF : ∀ k, w.heap.size ≤ k → F k) (G : NGap ns A B x.p) (U : NThere ns A' u B' (dirOf x.p)) (hl : ns.length ≤ 400) (ho : u.o = 0) (hw : x.w = 0 ∨ x.w = x.s) (hf : ns.length < 400) (hp : x.p.length ≤ 140737488355328) (hd : x.d.length ≤ 140737488355328) (hes : es.length ≤ 99998)
    (hpar : ∀ W vn' ve', Grow W F b z vn' vs ve' (A ++ newN x :: B) ss (es ++ [⟨1, x.p⟩]) → w.heap.size ≤ W.heap.size → Touch F w W → Calls Tryz.prog 85 #[.pointer (some ⟨b, 0, none⟩), .string ⟨(dirOf x.p).toArray⟩, .int .i64 1] W fun e w' => e = .returned (.int .i64 E) ∧ Post w') :
    Calls Tryz.prog 50 #[.pointer (some ⟨b, 0, none⟩), txnV x] w fun e w' => e = .returned (.int .i64 E) ∧ Post w' := by
  obtain ⟨xz, xo, xs, xp, xd, xv, xw⟩ := x
  simp only at G U hp hd hpar hw
  have CF := fun W (hW : Below w.heap.size w W) => nfind_gap vn ns A B xp W (h.n.next hW).seq (by omega) G
  have HCS := hide (fun W => split_any xp W)
  have HCG := hide (fun W (hW : Below w.heap.size w W) => nfind_there vn ns A' B' u (dirOf xp) W (h.n.next hW).seq (by omega) U)
  have KX : ∀ w1, Below (w.alloc (.cells #[.int .i64 xz, .int .i64 xo, .int .i64 xs, .string ⟨xp.toArray⟩, .string ⟨xd.toArray⟩, .int .i64 xv, .int .i64 xw] 53)).heap.size (w.alloc (.cells #[.int .i64 xz, .int .i64 xo, .int .i64 xs, .string ⟨xp.toArray⟩, .string ⟨xd.toArray⟩, .int .i64 xv, .int .i64 xw] 53)) w1 → TAt w1 w.heap.size ⟨xz, xo, xs, xp, xd, xv, xw⟩ := fun w1 h1 => (TAt.new w ⟨xz, xo, xs, xp, xd, xv, xw⟩).next h1
  have HKX := hide KX
  have c1 := h.c1
  have hbl := h.lt
  obtain ⟨g, cap, rfl, hr, hgb, hFg⟩ := h.nrow (by rw [U.eq]; simp)
  have HG := hide h
  have HE := hide U.eq
  have hlt : A'.length < ns.length := by rw [U.eq]; simp
  have hfb : ((ns.length : Int) == 400) = false := by simp; omega
  have HO := hide ho
  have HGE := hide G.eq
  have HF := hide hF
  have HP := hide hpar
  have hgl := hr.lt
  have CCp := fun W => tcopied_any (⟨xp, xd, xz, xz, xz, 0, 0, xw, 0⟩ : Nd) W hp hd
  unfold nodeV at CCp
  simp only at CCp
  clear h G U KX ho hr hF hpar hf
  unfold txnV
  go_enter Tryz.func50, Tryz.ntmps50
  go_upto_region 1 with fail
  go_cut [5, 6] from 13 (fun t5 t6 wx => t5 = .int .i64 A.length ∧ t6 = .bool false ∧ Hid (Below (w.alloc (.cells #[.int .i64 xz, .int .i64 xo, .int .i64 xs, .string ⟨xp.toArray⟩, .string ⟨xd.toArray⟩, .int .i64 xv, .int .i64 xw] 53)).heap.size (w.alloc (.cells #[.int .i64 xz, .int .i64 xo, .int .i64 xs, .string ⟨xp.toArray⟩, .string ⟨xd.toArray⟩, .int .i64 xv, .int .i64 xw] 53)) wx))
  case first =>
    clear HCS HCG HKX HG HP HF CCp
    go_region_law (first
      | (go_simp; refine (CF _ (by first | exact ((Below.refl w.heap.size w).alloc (Nat.le_refl _) _).drew | exact (Below.refl w.heap.size w).alloc (Nat.le_refl _) _)).mono ?_; rintro e w1 ⟨rfl, hb1⟩; have HBd := hide hb1; clear hb1))
    all_goals go_wp2_with fail
    all_goals go_meet
    all_goals exact ⟨rfl, rfl, hide (nbelow_drew (unhide HBd))⟩
  case rest =>
    obtain ⟨rfl, rfl, HB0⟩ := hcut
    clear CF
    have HB1 := hide (nbox_then (unhide HB0))
    have tx := unhide HKX wc (unhide HB0)
    have t3 := tx.c3
    have HTX := hide tx
    have g1 := (unhide HG).next (unhide HB1)
    have HG1 := hide g1
    clear g1 tx c1
    go_wp2_with fail
    refine (unhide HCS _).mono ?_
    rintro e w2 ⟨rfl, hb2⟩
    have HB2 := hide (nnext (unhide HB1) hb2)
    have tx2 := (unhide HTX).next hb2
    have g2 := (unhide HG1).next hb2
    have e1 := g2.c1
    have HTX2 := hide tx2
    have HG2 := hide g2
    clear tx2 g2 hb2 t3
    go_wp2_with fail
    refine (unhide HCG _ (unhide HB2)).mono ?_
    rintro e w3 ⟨rfl, hb3⟩
    have HB3 := hide (nnext (unhide HB2) hb3)
    have tx3 := (unhide HTX2).next hb3
    have g3 := (unhide HG2).next hb3
    have f1 := g3.c1
    have y0 := tx3.c0
    have y2 := tx3.c2
    have y3 := tx3.c3
    have y4 := tx3.c4
    have y6 := tx3.c6
    obtain ⟨g', cap', he, hr, _, _⟩ := g3.nrow (by rw [unhide HE]; simp)
    simp only [Value.slice.injEq, Option.some.injEq, Addr.mk.injEq, and_true] at he
    obtain ⟨rfl, _, rfl⟩ := he
    have r7 := hr.row.n7 (i := A'.length) (x := u) (by rw [unhide HE]; exact nat_at A' u B')
    rw [Nat.zero_add] at r7
    have HTX3 := hide tx3
    have HG3 := hide g3
    clear g3 tx3 hr e1 hb3
    rw [unhide HO] at r7
    have hgz : g ≠ w.heap.size := by omega
    have hsz3 := (unhide HB3).size
    have hszx := (unhide HTX3).lt
    have HGS := hide ((unhide HG3).next (allocB w3 (.cells #[.int .i64 xz, .int .i64 xz, .int .i64 xz, .int .i64 0, .int .i64 0, .int .i64 xw, .int .i64 0] 68)))
    have HTS := hide ((unhide HTX3).next (allocB w3 (.cells #[.int .i64 xz, .int .i64 xz, .int .i64 xz, .int .i64 0, .int .i64 0, .int .i64 xw, .int .i64 0] 68)))
    have f1s := (unhide HGS).c1
    have y3s := (unhide HTS).c3
    have y4s := (unhide HTS).c4
    have hbs := (unhide HGS).lt
    have HB3s := hide (nnext (unhide HB3) (allocB w3 (.cells #[.int .i64 xz, .int .i64 xz, .int .i64 xz, .int .i64 0, .int .i64 0, .int .i64 xw, .int .i64 0] 68)))
    have K1 := hide (fun w4 (hb4 : Below (w3.alloc (.cells #[.int .i64 xz, .int .i64 xz, .int .i64 xz, .int .i64 0, .int .i64 0, .int .i64 xw, .int .i64 0] 68)).heap.size (w3.alloc (.cells #[.int .i64 xz, .int .i64 xz, .int .i64 xz, .int .i64 0, .int .i64 0, .int .i64 xw, .int .i64 0] 68)) w4) => (⟨((unhide HGS).next hb4).c1, (((unhide HGS).next hb4).next (allocB w4 (.cells #[.string ⟨xp.toArray⟩, .string ⟨xd.toArray⟩, .int .i64 xz, .int .i64 xz, .int .i64 xz, .int .i64 0, .int .i64 0, .int .i64 xw, .int .i64 0] 70))).c1⟩ : w4.cell? ⟨b, 1, none⟩ = some (.slice (some ⟨g, 0, none⟩) ns.length cap) ∧ (w4.alloc (.cells #[.string ⟨xp.toArray⟩, .string ⟨xd.toArray⟩, .int .i64 xz, .int .i64 xz, .int .i64 xz, .int .i64 0, .int .i64 0, .int .i64 xw, .int .i64 0] 70)).cell? ⟨b, 1, none⟩ = some (.slice (some ⟨g, 0, none⟩) ns.length cap)))
    have KI := hide (fun w4 (hb4 : Below (w3.alloc (.cells #[.int .i64 xz, .int .i64 xz, .int .i64 xz, .int .i64 0, .int .i64 0, .int .i64 xw, .int .i64 0] 68)).heap.size (w3.alloc (.cells #[.int .i64 xz, .int .i64 xz, .int .i64 xz, .int .i64 0, .int .i64 0, .int .i64 xw, .int .i64 0] 68)) w4) => ninsert_any (.slice (some ⟨g, 0, none⟩) ns.length cap) A B (⟨xp, xd, xz, xz, xz, 0, 0, xw, 0⟩ : Nd) w4.heap.size (w4.alloc (.cells #[.string ⟨xp.toArray⟩, .string ⟨xd.toArray⟩, .int .i64 xz, .int .i64 xz, .int .i64 xz, .int .i64 0, .int .i64 0, .int .i64 xw, .int .i64 0] 70)) (by have := (((unhide HGS).next hb4).next (allocB w4 (.cells #[.string ⟨xp.toArray⟩, .string ⟨xd.toArray⟩, .int .i64 xz, .int .i64 xz, .int .i64 xz, .int .i64 0, .int .i64 0, .int .i64 xw, .int .i64 0] 70))).n; rw [unhide HGE] at this ⊢; exact this) (by rw [← unhide HGE]; exact hl) (one_newN w4 (⟨xp, xd, xz, xz, xz, 0, 0, xw, 0⟩ : Nd)) (by intro e; have h1 := Option.some.inj e; have h2 := hb4.size; have h3 := (unhide HB3s).size; simp only at h1; omega))
    have K2 : ∀ (w4 w5 : World) (v' : Value), Below (w3.alloc (.cells #[.int .i64 xz, .int .i64 xz, .int .i64 xz, .int .i64 0, .int .i64 0, .int .i64 xw, .int .i64 0] 68)).heap.size (w3.alloc (.cells #[.int .i64 xz, .int .i64 xz, .int .i64 xz, .int .i64 0, .int .i64 0, .int .i64 xw, .int .i64 0] 68)) w4 → OwnS w5 0 v' (A ++ (⟨xp, xd, xz, xz, xz, 0, 0, xw, 0⟩ : Nd) :: B) → (w4.alloc (.cells #[.string ⟨xp.toArray⟩, .string ⟨xd.toArray⟩, .int .i64 xz, .int .i64 xz, .int .i64 xz, .int .i64 0, .int .i64 0, .int .i64 xw, .int .i64 0] 70)).grownBy w5 (some g) → (v'.ownBlock = some g ∨ ∃ k, (w4.alloc (.cells #[.string ⟨xp.toArray⟩, .string ⟨xd.toArray⟩, .int .i64 xz, .int .i64 xz, .int .i64 xz, .int .i64 0, .int .i64 0, .int .i64 xw, .int .i64 0] 70)).heap.size ≤ k ∧ v'.ownBlock = some k) →
        w5.cell? ⟨b, 1, none⟩ = some (.slice (some ⟨g, 0, none⟩) ns.length cap) ∧ w5.frozen? ⟨b, 1, none⟩ = false ∧ CreQ F b z vs ve (A ++ (⟨xp, xd, xz, xz, xz, 0, 0, xw, 0⟩ : Nd) :: B) ss es w xp (w5.setCell ⟨b, 1, none⟩ v') := by
      intro w4 w5 v' hb4 ho5 hg5 hl5
      have q4 := ((unhide HGS).next hb4).next (allocB w4 (.cells #[.string ⟨xp.toArray⟩, .string ⟨xd.toArray⟩, .int .i64 xz, .int .i64 xz, .int .i64 xz, .int .i64 0, .int .i64 0, .int .i64 xw, .int .i64 0] 70))
      have tx5 := ((unhide HTS).next hb4).next (allocB w4 (.cells #[.string ⟨xp.toArray⟩, .string ⟨xd.toArray⟩, .int .i64 xz, .int .i64 xz, .int .i64 xz, .int .i64 0, .int .i64 0, .int .i64 xw, .int .i64 0] 70))
      have nb : ¬ some b = some g := fun e => hgb (Option.some.inj e).symm
      have tx6 : TAt w5 w.heap.size ⟨xz, xo, xs, xp, xd, xv, xw⟩ := (hg5.block _ tx5.lt (fun e => hgz (Option.some.inj e).symm)).trans tx5
      have hbz : w.heap.size ≠ b := by omega
      have tx7 : TAt (w5.setCell ⟨b, 1, none⟩ v') w.heap.size ⟨xz, xo, xs, xp, xd, xv, xw⟩ := (Below.heap_setCell w5 ⟨b, 1, none⟩ v' _ hbz).trans tx6
      refine ⟨hg5.cell q4.c1 nb, (World.frozen?_of_block (hg5.block b q4.lt nb)).trans (q4.fz 1), v', q4.nd (fun k hk => unhide HF k (by have := hb4.size; have := (unhide HB3s).size; have hk2 : w4.heap.size + 1 ≤ k := (by simpa using hk); omega)) hg5 ho5 hl5, ?_, tx7.c3⟩
      exact ((((Touch.of_below (unhide HB3s)).trans (Touch.of_below hb4)).trans (Touch.of_below (allocB _ _))).trans (Touch.of_grown hg5 (fun k e => by cases e; exact hFg))).trans (Touch.set q4.fb _)
    have HK2 := hide K2
    have HRP := hide (fun W (hs : w.heap.size ≤ W.heap.size) v5 (g5 : Grow W F b z v5 vs ve (A ++ (⟨xp, xd, xz, xz, xz, 0, 0, xw, 0⟩ : Nd) :: B) ss es) => tell_any F b z v5 vs ve _ ss es 1 xp W g5 (fun k hk => unhide HF k (by omega)) hp (by omega))
    clear K2
    go_upto_block 0 with fail
    go_cut [11] from 12 (fun t11 wx => t11 = .bool true ∧ w3 = wx)
    case first =>
      clear CCp KI HK2 K1 HRP HP HCS HCG HKX HTX HTX2 HG HG1 HG2 HF HB0 HB1 HB2
      rcases hw with hw | hw
      · have hb1 : (xw != 0) = false := by simpa using hw
        clear hw
        go_wp2_with fail
        go_meet
        exact ⟨rfl, rfl⟩
      · by_cases hw0 : xw = 0
        · have hb1 : (xw != 0) = false := by simpa using hw0
          clear hw hw0
          go_wp2_with fail
          go_meet
          exact ⟨rfl, rfl⟩
        · have hb1 : (xw != 0) = true := by simpa using hw0
          have hb2 : (xw != xs) = false := by simpa using hw
          clear hw hw0
          go_wp2_with fail
          go_meet
          exact ⟨rfl, rfl⟩
    case rest =>
      obtain ⟨rfl, h33⟩ := hcut
      subst h33
      clear hw r7 hfb
      go_upto_region 14 with fail
      go_cut [12] from 13 (fun t12 wx => t12 = .pointer (some ⟨w3.heap.size, 0, none⟩) ∧ wx = w3.alloc (.cells #[.int .i64 xz, .int .i64 xz, .int .i64 xz, .int .i64 0, .int .i64 0, .int .i64 xw, .int .i64 0] 68))
      case first =>
        clear CCp KI HK2 K1 HRP
        go_wp2_with fail
        go_meet
        exact ⟨rfl, rfl⟩
      case rest =>
        obtain ⟨rfl, rfl⟩ := hcut
        clear f1 y0 y2 y3 y4 y6
        go_upto_region 15 with fail
        go_cut [12] from 13 (fun t12 wx => t12 = .pointer (some ⟨w3.heap.size, 0, none⟩) ∧ Hid (CreQ F b z vs ve (A ++ (⟨xp, xd, xz, xz, xz, 0, 0, xw, 0⟩ : Nd) :: B) ss es w xp wx))
        case first =>
          clear HRP HP HCS HCG HKX HTX HTX2 HG HG1 HG2 HE HO HF HB0 HB1 HB2
          go_region_law (first
            | (go_simp; refine (CCp _).mono ?_; rintro e w4 ⟨rfl, hb4⟩; have HB4 : Hid (Below (w3.alloc (.cells #[.int .i64 xz, .int .i64 xz, .int .i64 xz, .int .i64 0, .int .i64 0, .int .i64 xw, .int .i64 0] 68)).heap.size (w3.alloc (.cells #[.int .i64 xz, .int .i64 xz, .int .i64 xz, .int .i64 0, .int .i64 0, .int .i64 xw, .int .i64 0] 68)) w4) := (by exact nbelow_drew hb4); obtain ⟨d3, d3a⟩ := unhide K1 w4 (unhide HB4); clear hb4)
            | (go_simp; refine (unhide KI w4 (unhide HB4)).mono ?_; rintro e w5 ⟨v5, rfl, ho5, hg5, hl5⟩; obtain ⟨m1, l1, q5⟩ := unhide HK2 w4 w5 v5 (unhide HB4) ho5 hg5 hl5; have HQ5 := hide q5; obtain ⟨va, vL, vc, rfl⟩ : ∃ va vL vc, v5 = .slice va vL vc := (by obtain ⟨va, vc, h, _⟩ := ho5.slice; exact ⟨_, _, _, h⟩); clear ho5 hg5 hl5 q5))
          all_goals go_wp2_with fail
          all_goals go_meet
          all_goals exact ⟨rfl, HQ5⟩
        case rest =>
          obtain ⟨rfl, hq⟩ := hcut
          obtain ⟨v5, g5, t5, m3⟩ := unhide hq
          have HG5 := hide g5
          have HT5 := hide t5
          clear g5 t5 hq CCp KI HK2 K1
          go_wp2_with fail
          refine (unhide HRP _ (unhide HT5).size _ (unhide HG5)).mono ?_
          rintro e w6 ⟨rfl, ve', g6, t6⟩
          have HG6 := hide g6
          have HT6 := hide ((unhide HT5).trans t6)
          clear g6 t6 m3
          go_wp2_with fail
          refine (unhide HP _ _ _ (unhide HG6) (unhide HT6).size (unhide HT6)).mono ?_
          rintro e w7 ⟨rfl, hp7⟩
          have HP7 := hide hp7
          clear hp7
          go_wp2_with fail
          go_ret
          exact ⟨rfl, unhide HP7⟩

end Go.Proofs.YtoacignhobchbaaGreatDoor
