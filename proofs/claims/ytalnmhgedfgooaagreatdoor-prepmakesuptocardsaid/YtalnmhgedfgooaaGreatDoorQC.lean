/-
  prep.Prepare: the walk.
  What the laws of prep share: makes.
-/
import Derived.Test.YtalnmhgedfgooaaGreatDoorQB
import Derived.Test.YtalnmhgedfgooaaGreatDoorMI
import Derived.Test.YtalnmhgedfgooaaGreatDoorMD
import Derived.Test.YtalnmhgedfgooaaGreatDoorMB
import Derived.Deep.CutRange
import Derived.Deep.RegionHeld3
namespace Go.Proofs.YtalnmhgedfgooaaGreatDoor
open Go.RowKit

/-- what Prepare gives -/
def GivesP (w : World) (t : Tr) (z : Int) (r : Rq) (e : Ending) (w' : World) : Prop :=
  e = .returned (.tuple #[txnV (prpX t z r), .int .i64 (prpE t z r)]) ∧ Below w.heap.size w w'
theorem givesP_no {w w' : World} {t : Tr} {z : Int} {r : Rq} {E : Int} {e : Ending} (hE : prpE t z r = E) (h0 : E ≠ 0) (he : e = .returned (.tuple #[txnV t0, .int .i64 E])) (hb : Below w.heap.size w w') : GivesP w t z r e w' := by
  refine ⟨?_, hb⟩
  rw [prpX_no (by rw [hE]; exact h0), hE]
  exact he

theorem givesP_ok {w w' : World} {t : Tr} {z : Int} {r : Rq} {x : WTxn} {e : Ending} (hE : prpE t z r = 0) (hX : prpX t z r = x) (he : e = .returned (.tuple #[txnV x, .int .i64 0])) (hb : Below w.heap.size w w') : GivesP w t z r e w' := by
  refine ⟨?_, hb⟩
  rw [hE, hX]
  exact he

/-- the boxes of the tree, of the request, of the answer -/
structure PB (w W : World) (z : Int) (vn vs : Value) (r : Rq) : Prop where
  t : TR W w.heap.size z vn vs r
  a : TAt W (w.heap.size + 2) t0
  b : Below w.heap.size w W
section
variable {w W V : World} {z : Int} {vn vs : Value} {r : Rq}
theorem PB.next (h : PB w W z vn vs r) (hb : Below W.heap.size W V) : PB w V z vn vs r := ⟨h.t.next hb, h.a.next hb, nnext h.b hb⟩
theorem PB.new (w : World) (z : Int) (vn vs : Value) (r : Rq) : PB w (((w.alloc (.cells #[.int .i64 z, vn, vs] 25)).alloc (.cells #[.int .i64 r.o, .int .i64 r.s, .string ⟨r.p.toArray⟩, .string ⟨r.d.toArray⟩, .int .i64 r.v, .int .i64 r.f] 27)).alloc (.cells #[.int .i64 0, .int .i64 0, .int .i64 0, .string ⟨#[]⟩, .string ⟨#[]⟩, .int .i64 0, .int .i64 0] 29)) z vn vs r := by
  refine ⟨(TR.new w z vn vs r).next (allocB _ _), ?_, nnext (nnext (allocB _ _) (allocB _ _)) (allocB _ _)⟩
  have h := TAt.new ((w.alloc (.cells #[.int .i64 z, vn, vs] 25)).alloc (.cells #[.int .i64 r.o, .int .i64 r.s, .string ⟨r.p.toArray⟩, .string ⟨r.d.toArray⟩, .int .i64 r.v, .int .i64 r.f] 27)) t0
  rw [show ((w.alloc (.cells #[.int .i64 z, vn, vs] 25)).alloc (.cells #[.int .i64 r.o, .int .i64 r.s, .string ⟨r.p.toArray⟩, .string ⟨r.d.toArray⟩, .int .i64 r.v, .int .i64 r.f] 27)).heap.size = w.heap.size + 2 by simp] at h
  exact h
theorem PB.cells (h : PB w W z vn vs r) : (W.cell? ⟨w.heap.size + 2, 0, none⟩ = some (.int .i64 0) ∧ W.cell? ⟨w.heap.size + 2, 1, none⟩ = some (.int .i64 0) ∧ W.cell? ⟨w.heap.size + 2, 2, none⟩ = some (.int .i64 0) ∧ W.cell? ⟨w.heap.size + 2, 3, none⟩ = some (.string ⟨#[]⟩) ∧ W.cell? ⟨w.heap.size + 2, 4, none⟩ = some (.string ⟨#[]⟩) ∧ W.cell? ⟨w.heap.size + 2, 5, none⟩ = some (.int .i64 0) ∧ W.cell? ⟨w.heap.size + 2, 6, none⟩ = some (.int .i64 0)) := ⟨h.a.c0, h.a.c1, h.a.c2, h.a.c3, h.a.c4, h.a.c5, h.a.c6⟩
end
/-- a transaction stored whole -/
def put7 (W : World) (g : Nat) (t : WTxn) : World :=
  ((((((W.setCell ⟨g, 0, none⟩ (.int .i64 t.z)).setCell ⟨g, 1, none⟩ (.int .i64 t.o)).setCell ⟨g, 2, none⟩ (.int .i64 t.s)).setCell ⟨g, 3, none⟩ (.string ⟨t.p.toArray⟩)).setCell ⟨g, 4, none⟩ (.string ⟨t.d.toArray⟩)).setCell ⟨g, 5, none⟩ (.int .i64 t.v)).setCell ⟨g, 6, none⟩ (.int .i64 t.w)
theorem put7_below {w W : World} {g : Nat} (t : WTxn) (hb : Below w.heap.size w W) (hg : w.heap.size ≤ g) : Below w.heap.size w (put7 W g t) :=
  ((((((hb.setCell hg _).setCell hg _).setCell hg _).setCell hg _).setCell hg _).setCell hg _).setCell hg _

set_option maxRecDepth 20000 in
set_option maxHeartbeats 4000000 in
theorem prepare_any (t : Tr) (z : Int) (vn vs : Value) (r : Rq) (w : World) (hn : SeqV w vn t.ns) (hs : SeqV w vs t.ss) (hw : WfT t) (hp : r.p.length ≤ 140737488355328) (hd : r.d.length ≤ 140737488355328) (htab : Lib.TabIs Tryz.prog w "internal/strconv.uint64pow10" .u64 Lib.pow10Tab) :
    Calls Tryz.prog 7 #[.agg #[.int .i64 t.z, vn, vs], .int .i64 z, rqV r] w (GivesP w t z r) := by
  have CG := hide (fun W (hW : Below w.heap.size w W) => tgood_any t vn vs W (hn.next hW) (hs.next hW) hw)
  have CZ := hide (fun W => zgood_any z W)
  have CF := hide (fun (gt : GoodT t) g u (hu : Below w.heap.size w u) W hW hg hx => pfill_any t z vn vs r g u W gt (hn.next hu) (hs.next hu) hW hg hx hp hd (tab_kept htab hu))
  have CA := hide (fun W (hW : Below w.heap.size w W) => apply_any t vn vs (filX t z r) W (hn.next hW) (hs.next hW) hw (by have := filX_d t z r; omega))
  obtain ⟨na, nc, rfl⟩ := seq_slice hn
  obtain ⟨sa, sc, rfl⟩ := seq_slice hs
  obtain ⟨ro, rs, rp, rd, rv, rf⟩ := r
  unfold rqV at *
  simp only at *
  have P0 := hide (PB.new w t.z (.slice na t.ns.length nc) (.slice sa t.ss.length sc) ⟨ro, rs, rp, rd, rv, rf⟩)
  simp only at P0
  clear hn hs htab
  go_enter Tryz.func7, Tryz.ntmps7
  go_wp2_with fail
  refine (unhide CG _ (unhide P0).b).mono ?_
  rintro e w1 ⟨rfl, hb1⟩
  have P1 := hide ((unhide P0).next hb1)
  obtain ⟨b0, b1, b2, b3, b4, b5, b6, b7, b8⟩ := (unhide P1).t.nine
  obtain ⟨c0, c1, c2, c3, c4, c5, c6⟩ := (unhide P1).cells
  have f := (unhide P1).a.f
  have f0 := f 0
  have f1 := f 1
  have f2 := f 2
  have f3 := f 3
  have f4 := f 4
  have f5 := f 5
  have f6 := f 6
  simp only at b0 b1 b2 b3 b4 b5 b6 b7 b8
  clear hb1 P0 CG f
  cases hgd : goodT t with
  | false =>
    have HE : Hid (prpE t z ⟨ro, rs, rp, rd, rv, rf⟩ = 3) := hide (prp_head (by simp [headB, hgd]))
    clear hgd
    go_wp2_with fail
    exact bodyPost_ret (v := .tuple #[txnV t0, .int .i64 3]) (by simp [results, Tryz.results7, go_sem, txnV, t0, c0, c1, c2, c3, c4, c5, c6]) rfl (givesP_no (unhide HE) (by decide) rfl (put7_below t0 (unhide P1).b (by omega)))
  | true =>
    have HG := hide (goodT_true.1 hgd)
    have HGB := hide hgd
    clear hgd
    go_wp2_with fail
    refine (unhide CZ _).mono ?_
    rintro e w2 ⟨rfl, rfl⟩
    clear CZ
    cases hzd : zGood z with
    | false =>
      have HE : Hid (prpE t z ⟨ro, rs, rp, rd, rv, rf⟩ = 3) := hide (prp_head (by simp [headB, hzd]))
      clear hzd
      go_wp2_with fail
      exact bodyPost_ret (v := .tuple #[txnV t0, .int .i64 3]) (by simp [results, Tryz.results7, go_sem, txnV, t0, c0, c1, c2, c3, c4, c5, c6]) rfl (givesP_no (unhide HE) (by decide) rfl (put7_below t0 (unhide P1).b (by omega)))
    | true =>
      by_cases h1 : rs < 1
      · have HE : Hid (prpE t z ⟨ro, rs, rp, rd, rv, rf⟩ = 3) := hide (prp_head (by simp [headB]; intros; omega))
        have hd1 : decide (rs < 1) = true := decide_eq_true h1
        clear hzd h1
        go_wp2_with fail
        exact bodyPost_ret (v := .tuple #[txnV t0, .int .i64 3]) (by simp [results, Tryz.results7, go_sem, txnV, t0, c0, c1, c2, c3, c4, c5, c6]) rfl (givesP_no (unhide HE) (by decide) rfl (put7_below t0 (unhide P1).b (by omega)))
      · by_cases h2 : 2147483647 < rs
        · have HE : Hid (prpE t z ⟨ro, rs, rp, rd, rv, rf⟩ = 3) := hide (prp_head (by simp [headB]; intros; omega))
          have hd1 : decide (rs < 1) = false := decide_eq_false h1
          have hd2 : decide (2147483647 < rs) = true := decide_eq_true h2
          clear hzd h1 h2
          go_wp2_with fail
          exact bodyPost_ret (v := .tuple #[txnV t0, .int .i64 3]) (by simp [results, Tryz.results7, go_sem, txnV, t0, c0, c1, c2, c3, c4, c5, c6]) rfl (givesP_no (unhide HE) (by decide) rfl (put7_below t0 (unhide P1).b (by omega)))
        · have HH : Hid (headB t z ⟨ro, rs, rp, rd, rv, rf⟩ = true) := hide (headB_true.2 ⟨unhide HG, hzd, by simp only; omega, by simp only; omega⟩)
          have hd1 : decide (rs < 1) = false := decide_eq_false h1
          have hd2 : decide (2147483647 < rs) = false := decide_eq_false h2
          clear hzd h1 h2
          have X2 := hide (TAt.new w2 ⟨z, ro, rs, [], [], 0, 0⟩)
          have P2 := hide ((unhide P1).next (allocB w2 (.cells #[.int .i64 z, .int .i64 ro, .int .i64 rs, .string ⟨#[]⟩, .string ⟨#[]⟩, .int .i64 0, .int .i64 0] 29)))
          obtain ⟨d0, d1, d2, d3, d4, d5, d6, d7, d8⟩ := (unhide P2).t.nine
          simp only at d0 d1 d2 d3 d4 d5 d6 d7 d8
          clear c0 c1 c2 c3 c4 c5 c6 f0 f1 f2 f3 f4 f5 f6
          go_wp2_with fail
          refine (unhide CF (unhide HG) w2.heap.size w2 (unhide P1).b _ (allocB _ _) (Nat.le_refl _) (unhide X2)).mono ?_
          rintro e w3 ⟨rfl, hb3, hx3⟩
          have P3 := hide ((unhide P1).next hb3)
          have HX3 := hide hx3
          have PF : Hid (filE t ⟨ro, rs, rp, rd, rv, rf⟩ ≠ 0 → prpE t z ⟨ro, rs, rp, rd, rv, rf⟩ = filE t ⟨ro, rs, rp, rd, rv, rf⟩) := hide (fun h => prp_fill (unhide HH) h)
          have PA : Hid (filE t ⟨ro, rs, rp, rd, rv, rf⟩ = 0 → prpE t z ⟨ro, rs, rp, rd, rv, rf⟩ = appE t (filX t z ⟨ro, rs, rp, rd, rv, rf⟩)) := hide (fun h => prp_app (unhide HH) h)
          clear d0 d1 d2 d3 d4 d5 d6 d7 d8 b0 b1 b2 b3 b4 b5 b6 b7 b8 P2 X2 CF HG HGB HH hb3 hx3
          generalize filE t ⟨ro, rs, rp, rd, rv, rf⟩ = F at *
          by_cases hF : F = 0
          · have PE := hide (unhide PA hF)
            have X3 := hide (unhide HX3 hF)
            subst hF
            have KX : Hid (prpE t z ⟨ro, rs, rp, rd, rv, rf⟩ = 0 → prpX t z ⟨ro, rs, rp, rd, rv, rf⟩ = filX t z ⟨ro, rs, rp, rd, rv, rf⟩) := hide (fun h => prpX_ok h)
            unfold GivesA at CA
            clear PF PA HX3
            generalize appT t (filX t z ⟨ro, rs, rp, rd, rv, rf⟩) = T at *
            generalize appV t (filX t z ⟨ro, rs, rp, rd, rv, rf⟩) = V at *
            generalize appE t (filX t z ⟨ro, rs, rp, rd, rv, rf⟩) = E at *
            generalize filX t z ⟨ro, rs, rp, rd, rv, rf⟩ = x at *
            obtain ⟨xz, xo, xs, xp, xd, xv, xw⟩ := x
            unfold txnV at CA
            simp only at CA
            have x0 := (unhide X3).c0
            have x1 := (unhide X3).c1
            have x2 := (unhide X3).c2
            have x3 := (unhide X3).c3
            have x4 := (unhide X3).c4
            have x5 := (unhide X3).c5
            have x6 := (unhide X3).c6
            simp only at x0 x1 x2 x3 x4 x5 x6
            obtain ⟨e0, e1, e2, e3, e4, e5, e6, e7, e8⟩ := (unhide P3).t.nine
            obtain ⟨c0, c1, c2, c3, c4, c5, c6⟩ := (unhide P3).cells
            have f := (unhide P3).a.f
            have f0 := f 0
            have f1 := f 1
            have f2 := f 2
            have f3 := f 3
            have f4 := f 4
            have f5 := f 5
            have f6 := f 6
            simp only at e0 e1 e2 e3 e4 e5 e6 e7 e8
            clear f
            go_wp2_with fail
            refine (unhide CA _ (unhide P3).b).mono ?_
            rintro e w4 ⟨vn4, vs4, ve4, rfl, n4, s4, e4, hb4⟩
            obtain ⟨an, cn, rfl, _⟩ := n4.slice
            obtain ⟨ai, ci, rfl, _⟩ := s4.slice
            obtain ⟨ae, ce, rfl, _⟩ := e4.slice
            have P5 := hide ((unhide P3).next (nnext hb4 (allocB w4 (.cells #[.int .i64 T.z, .slice an T.ns.length cn, .slice ai T.ss.length ci] 25))))
            have X5 := hide ((unhide X3).next (nnext hb4 (allocB w4 (.cells #[.int .i64 T.z, .slice an T.ns.length cn, .slice ai T.ss.length ci] 25))))
            clear c0 c1 c2 c3 c4 c5 c6 f0 f1 f2 f3 f4 f5 f6 x0 x1 x2 x3 x4 x5 x6 e0 e1 e2 e3 e5 e6 e7 e8 hb4 n4 s4 e4 P3 X3 CA
            obtain ⟨c0, c1, c2, c3, c4, c5, c6⟩ := (unhide P5).cells
            have f := (unhide P5).a.f
            have f0 := f 0
            have f1 := f 1
            have f2 := f 2
            have f3 := f 3
            have f4 := f 4
            have f5 := f 5
            have f6 := f 6
            have x0 := (unhide X5).c0
            have x1 := (unhide X5).c1
            have x2 := (unhide X5).c2
            have x3 := (unhide X5).c3
            have x4 := (unhide X5).c4
            have x5 := (unhide X5).c5
            have x6 := (unhide X5).c6
            simp only at x0 x1 x2 x3 x4 x5 x6
            clear f
            by_cases hE : E = 0
            · subst hE
              have HX := hide (unhide KX (unhide PE))
              go_wp2_with fail
              exact bodyPost_ret (v := .tuple #[txnV ⟨xz, xo, xs, xp, xd, xv, xw⟩, .int .i64 0]) (by simp [results, Tryz.results7, go_sem, txnV, c0, c1, c2, c3, c4, c5, c6]) rfl (givesP_ok (unhide PE) (unhide HX) rfl (put7_below ⟨xz, xo, xs, xp, xd, xv, xw⟩ (unhide P5).b (by omega)))
            · have hEb : (E != 0) = true := by simpa using hE
              have HE := hide hE
              clear hE
              go_wp2_with fail
              exact bodyPost_ret (v := .tuple #[txnV t0, .int .i64 E]) (by simp [results, Tryz.results7, go_sem, txnV, t0, c0, c1, c2, c3, c4, c5, c6]) rfl (givesP_no (unhide PE) (unhide HE) rfl (put7_below t0 (unhide P5).b (by omega)))
          · have PE := hide (unhide PF hF)
            have hFb : (F != 0) = true := by simpa using hF
            have HF := hide hF
            clear PF PA HX3 hF CA
            obtain ⟨e0, e1, e2, e3, e4, e5, e6, e7, e8⟩ := (unhide P3).t.nine
            obtain ⟨c0, c1, c2, c3, c4, c5, c6⟩ := (unhide P3).cells
            have f := (unhide P3).a.f
            have f0 := f 0
            have f1 := f 1
            have f2 := f 2
            have f3 := f 3
            have f4 := f 4
            have f5 := f 5
            have f6 := f 6
            simp only at e0 e1 e2 e3 e4 e5 e6 e7 e8
            clear f
            go_wp2_with fail
            exact bodyPost_ret (v := .tuple #[txnV t0, .int .i64 F]) (by simp [results, Tryz.results7, go_sem, txnV, t0, c0, c1, c2, c3, c4, c5, c6]) rfl (givesP_no (unhide PE) (unhide HF) rfl (put7_below t0 (unhide P3).b (by omega)))

end Go.Proofs.YtalnmhgedfgooaaGreatDoor

namespace Go.Proofs.YtalnmhgedfgooaaGreatDoor
open Go.RowKit

theorem TAt.drew {W : World} {g : Nat} {x : WTxn} (h : TAt W g x) : TAt W.drew g x := h.next (Below.refl _ _).drew
theorem TAt.seven {W : World} {g : Nat} {x : WTxn} (h : TAt W g x) : W.cell? ⟨g, 0, none⟩ = some (.int .i64 x.z) ∧ W.cell? ⟨g, 1, none⟩ = some (.int .i64 x.o) ∧ W.cell? ⟨g, 2, none⟩ = some (.int .i64 x.s) ∧ W.cell? ⟨g, 3, none⟩ = some (.string ⟨x.p.toArray⟩) ∧ W.cell? ⟨g, 4, none⟩ = some (.string ⟨x.d.toArray⟩) ∧ W.cell? ⟨g, 5, none⟩ = some (.int .i64 x.v) ∧ W.cell? ⟨g, 6, none⟩ = some (.int .i64 x.w) := ⟨h.c0, h.c1, h.c2, h.c3, h.c4, h.c5, h.c6⟩
/-- a transaction in a box q of the call's own -/
structure PrX (W wx : World) (q : Nat) (x : WTxn) : Prop where
  box : TAt wx q x
  qb : W.heap.size ≤ q
  b : Below W.heap.size W wx
theorem PrX.next {W wx wy : World} {q : Nat} {x : WTxn} (h : PrX W wx q x) (hb : Below wx.heap.size wx wy) : PrX W wy q x := ⟨h.box.next hb, h.qb, nnext h.b hb⟩
theorem px_new {W w2 : World} (x : WTxn) (hb : Below W.heap.size W w2) : PrX W (w2.alloc (.cells #[.int .i64 x.z, .int .i64 x.o, .int .i64 x.s, .string ⟨x.p.toArray⟩, .string ⟨x.d.toArray⟩, .int .i64 x.v, .int .i64 x.w] 29)) w2.heap.size x :=
  ⟨TAt.new w2 x, hb.size, nnext hb (allocB _ _)⟩
theorem px_put {W w2 : World} {q : Nat} (x : WTxn) {y : WTxn} (hb : Below W.heap.size W w2) (hq : W.heap.size ≤ q) (hz : TAt w2 q y) : PrX W (put7 w2 q x) q x := by
  refine ⟨?_, hq, put7_below x hb hq⟩
  unfold TAt at hz ⊢
  unfold put7
  rw [block_set _ (block_set _ (block_set _ (block_set _ (block_set _ (block_set _ (block_set _ hz))))))]
  simp
theorem px_newF {W w2 : World} (z o s : Int) (p d : List UInt8) (v u : Int) (hb : Below W.heap.size W w2) : PrX W (w2.alloc (.cells #[.int .i64 z, .int .i64 o, .int .i64 s, .string ⟨p.toArray⟩, .string ⟨d.toArray⟩, .int .i64 v, .int .i64 u] 29)) w2.heap.size ⟨z, o, s, p, d, v, u⟩ := px_new ⟨z, o, s, p, d, v, u⟩ hb
theorem px_putF {W w2 : World} {q : Nat} (z o s : Int) (p d : List UInt8) (v u : Int) {y : WTxn} (hb : Below W.heap.size W w2) (hq : W.heap.size ≤ q) (hz : TAt w2 q y) :
    PrX W (((((((w2.setCell ⟨q, 0, none⟩ (.int .i64 z)).setCell ⟨q, 1, none⟩ (.int .i64 o)).setCell ⟨q, 2, none⟩ (.int .i64 s)).setCell ⟨q, 3, none⟩ (.string ⟨p.toArray⟩)).setCell ⟨q, 4, none⟩ (.string ⟨d.toArray⟩)).setCell ⟨q, 5, none⟩ (.int .i64 v)).setCell ⟨q, 6, none⟩ (.int .i64 u)) q ⟨z, o, s, p, d, v, u⟩ := px_put ⟨z, o, s, p, d, v, u⟩ hb hq hz
theorem zcells7 {W : World} {q : Nat} (h : TAt W q t0) : (W.cell? ⟨q, 0, none⟩ = some (.int .i64 0) ∧ W.cell? ⟨q, 1, none⟩ = some (.int .i64 0) ∧ W.cell? ⟨q, 2, none⟩ = some (.int .i64 0) ∧ W.cell? ⟨q, 3, none⟩ = some (.string ⟨#[]⟩) ∧ W.cell? ⟨q, 4, none⟩ = some (.string ⟨#[]⟩) ∧ W.cell? ⟨q, 5, none⟩ = some (.int .i64 0) ∧ W.cell? ⟨q, 6, none⟩ = some (.int .i64 0)) ∧ W.frozen? ⟨q, 0, none⟩ = false ∧ W.frozen? ⟨q, 1, none⟩ = false ∧ W.frozen? ⟨q, 2, none⟩ = false ∧ W.frozen? ⟨q, 3, none⟩ = false ∧ W.frozen? ⟨q, 4, none⟩ = false ∧ W.frozen? ⟨q, 5, none⟩ = false ∧ W.frozen? ⟨q, 6, none⟩ = false :=
  ⟨⟨h.c0, h.c1, h.c2, h.c3, h.c4, h.c5, h.c6⟩, h.f 0, h.f 1, h.f 2, h.f 3, h.f 4, h.f 5, h.f 6⟩
theorem TR.drew {W : World} {q : Nat} {z : Int} {vn vs : Value} {r : Rq} (h : TR W q z vn vs r) : TR W.drew q z vn vs r := h.next (Below.refl _ _).drew
theorem TR.setv {W : World} {q : Nat} {z : Int} {vn vs : Value} {r : Rq} (h : TR W q z vn vs r) (v : Int) : TR (W.setCell ⟨q + 1, 4, none⟩ (.int .i64 v)) q z vn vs { r with v := v } :=
  ⟨(Below.heap_setCell W _ _ q (by simp)).trans h.t, by rw [block_set _ h.r]; simp⟩
theorem TR.seto {W : World} {q : Nat} {z : Int} {vn vs : Value} {r : Rq} (h : TR W q z vn vs r) (v : Int) : TR (W.setCell ⟨q + 1, 0, none⟩ (.int .i64 v)) q z vn vs { r with o := v } :=
  ⟨(Below.heap_setCell W _ _ q (by simp)).trans h.t, by rw [block_set _ h.r]; simp⟩
theorem TR.setf {W : World} {q : Nat} {z : Int} {vn vs : Value} {r : Rq} (h : TR W q z vn vs r) (v : Int) : TR (W.setCell ⟨q + 1, 5, none⟩ (.int .i64 v)) q z vn vs { r with f := v } :=
  ⟨(Below.heap_setCell W _ _ q (by simp)).trans h.t, by rw [block_set _ h.r]; simp⟩
theorem TR.fr {W : World} {q : Nat} {z : Int} {vn vs : Value} {r : Rq} (h : TR W q z vn vs r) (j : Nat) : W.frozen? ⟨q + 1, j, none⟩ = false := by
  have h1 := h.r
  simp [World.frozen?, h1]
def rqo : Rq := ⟨1, 1, [], [], 0, 0⟩
theorem prp_open : prpE trNew 1 rqo = 0 ∧ prpX trNew 1 rqo = topn := by
  have h1 : headB trNew 1 rqo = true := headB_true.2 ⟨good_new, by decide, by decide, by decide⟩
  obtain ⟨h2, h3⟩ := fil_end (t := trNew) (z := 1) (r := rqo) (.inl rfl)
  have h4 : prpE trNew 1 rqo = 0 := by rw [prp_app h1 h2, h3]; exact app_open.1
  exact ⟨h4, by rw [prpX_ok h4, h3]; rfl⟩

set_option maxRecDepth 20000 in
set_option maxHeartbeats 4000000 in
theorem makes_true (w : World) (htab : Lib.TabIs Tryz.prog w "internal/strconv.uint64pow10" .u64 Lib.pow10Tab) : Calls Tryz.prog 13 #[] w fun e w' => e = .returned (.bool true) ∧ Below w.heap.size w w' := by
  have CP := hide (fun W (hW : Below w.heap.size w W) vn vs (hn : SeqV W vn trNew.ns) (hs : SeqV W vs trNew.ss) => prepare_any trNew 1 vn vs rqo W hn hs good_new.wf (by decide) (by decide) (tab_kept htab hW))
  unfold GivesP at CP
  rw [prp_open.1, prp_open.2] at CP
  unfold rqV rqo txnV topn at CP
  simp only at CP
  clear htab
  go_enter Tryz.func13, Tryz.ntmps13
  go_wp2_with fail
  refine (tnew_any _).mono ?_
  rintro e w1 ⟨vn1, vs1, rfl, n1, s1, hb1⟩
  have N1 := hide n1.seq
  have S1 := hide s1.seq
  have B1 := hide hb1
  clear n1 s1 hb1
  go_wp2_with fail
  refine (unhide CP _ (unhide B1) _ _ (unhide N1) (unhide S1)).mono ?_
  rintro e w2 ⟨rfl, hb2⟩
  have B2 := hide (nnext (unhide B1) hb2)
  clear hb2 N1 S1 B1 CP
  go_wp2_with fail
  have X2 := hide (TAt.new w2 ⟨1, 1, 1, [], [], 0, 0⟩)
  simp only at X2
  obtain ⟨w3, hw3⟩ : ∃ w3, w2.alloc (.cells #[.int .i64 1, .int .i64 1, .int .i64 1, .string ⟨#[]⟩, .string ⟨#[]⟩, .int .i64 0, .int .i64 0] 29) = w3 := ⟨_, rfl⟩
  have B3 : Hid (Below w.heap.size w w3) := hide (by rw [← hw3]; exact nnext (unhide B2) (allocB _ _))
  rw [hw3] at X2 ⊢
  clear hw3 B2
  have CK := hide kopening_any
  unfold txnV topn at CK
  simp only at CK
  go_region_held3 (fun w' => w'.cell? ⟨w2.heap.size, 0, none⟩ = some (.int .i64 1) ∧ w'.cell? ⟨w2.heap.size, 1, none⟩ = some (.int .i64 1) ∧ w'.cell? ⟨w2.heap.size, 2, none⟩ = some (.int .i64 1) ∧ w'.cell? ⟨w2.heap.size, 3, none⟩ = some (.string ⟨#[]⟩) ∧ w'.cell? ⟨w2.heap.size, 4, none⟩ = some (.string ⟨#[]⟩) ∧ w'.cell? ⟨w2.heap.size, 5, none⟩ = some (.int .i64 0) ∧ w'.cell? ⟨w2.heap.size, 6, none⟩ = some (.int .i64 0)) (first | with_reducible exact (unhide X2).seven | with_reducible exact (unhide X2).drew.seven | with_reducible exact (unhide aX1).seven) (first
    | (go_at_call 32; refine (unhide CK _).mono ?_; rintro e aw1 ⟨rfl, hb1⟩; have aB1 : Hid (Below w3.heap.size w3 aw1) := hide (nbelow_drew hb1); have aX1 := hide ((unhide X2).next (unhide aB1)); clear hb1))
  all_goals go_wp2_with fail
  all_goals go_ret
  all_goals exact ⟨rfl, nnext (unhide B3) (unhide aB1)⟩

end Go.Proofs.YtalnmhgedfgooaaGreatDoor
