/-
  aviaryref.Prepare, OpDelete: the walk.
-/
import Derived.Test.YtalnmhgedfgooaaGreatDoorRA
namespace Go.Proofs.YtalnmhgedfgooaaGreatDoor
open Go.RowKit

set_option maxRecDepth 20000 in
set_option maxHeartbeats 8000000 in
theorem rprepare_4 (t : Tr) (z : Int) (vn vs : Value) (r : Rq) (w : World) (hn : SeqV w vn t.ns) (hs : SeqV w vs t.ss) (hw : WfT t) (hz : t.z ≤ 9223372036854775807) (hzz : z ≤ 9223372036854775807) (hlong : ∀ n ∈ t.ns, n.p.length ≤ 1048576) (hls : t.ss.length * 8 ≤ 140737488351232) (hp : r.p.length ≤ 1048576) (hd : r.d.length ≤ 140737488355328) (hh : headB t z r = true) (ho : r.o = 4) :
    Calls Tryz.prog 9 #[.agg #[.int .i64 t.z, vn, vs], .int .i64 z, rqV r] w (GivesP w t z r) := by
  have CG := hide (fun W (hW : Below w.heap.size w W) => rgoodT_any t vn vs W (hn.next hW) (hs.next hW) hw hz hlong (by omega))
  have CZ := hide (fun W => rgood_any z hzz W)
  obtain ⟨gt, hzg, hr1, hr2⟩ := headB_true.1 hh
  have CO := hide (fun W (hW : Below w.heap.size w W) => risopen_any t.z vn vs t.ss r.s W (hs.next hW) (by omega))
  have CN := hide (fun (p : List UInt8) W (hW : Below w.heap.size w W) => rget_any t vn vs p W gt (hn.next hW))
  have CP := hide (fun W => refGood_any r.p W (by omega))
  have CS := hide (fun W => rsplit_any r.p W (by omega))
  have CA := hide (fun W (hW : Below w.heap.size w W) => rapply_any t (filX t z r) vn vs W (hn.next hW) (hs.next hW) ⟨hw, hz, hlong, by omega, by rw [(filX_heads t z r).1]; exact hzz, filX_p2 t z r hp, by have := filX_d t z r; omega⟩ hls)
  rw [goodT_true.2 gt] at CG
  rw [hzg] at CZ
  obtain ⟨na, nc, rfl⟩ := seq_slice hn
  obtain ⟨sa, sc, rfl⟩ := seq_slice hs
  have PF : Hid (filE t r ≠ 0 → prpE t z r = filE t r) := hide (fun h => prp_fill hh h)
  have PA : Hid (filE t r = 0 → prpE t z r = appE t (filX t z r)) := hide (fun h => prp_app hh h)
  have PX : Hid (prpE t z r = 0 → prpX t z r = filX t z r) := hide (fun h => prpX_ok h)
  unfold GivesR at CA
  unfold nodeV at CN
  obtain ⟨ro, rs, rp, rd, rv, rf⟩ := r
  unfold rqV at *
  simp only at *
  have hd1 : decide (rs < 1) = false := decide_eq_false (by omega)
  have hd2 : decide (2147483648 ≤ rs) = false := decide_eq_false (by omega)
  have P0 := hide (PB.new w t.z (.slice na t.ns.length nc) (.slice sa t.ss.length sc) ⟨ro, rs, rp, rd, rv, rf⟩)
  simp only at P0
  have GT := hide gt
  clear hn hs hw hh hzg gt hr1 hr2
  subst ho
  have HC := hide (fil_chg (t := t) (z := z) (r := ⟨4, rs, rp, rd, rv, rf⟩) (by simp))
  rw [(unhide HC).1] at PF PA
  rw [(unhide HC).2] at PA PX CA
  clear CS
  go_enter Tryz.func9, Tryz.ntmps9
  go_wp2_with fail
  refine (unhide CG _ (unhide P0).b).mono ?_
  rintro e w1 ⟨rfl, hb1⟩
  have P1 := hide ((unhide P0).next hb1)
  obtain ⟨b0, b1, b2, b3, b4, b5, b6, b7, b8⟩ := (unhide P1).t.nine
  simp only at b0 b1 b2 b3 b4 b5 b6 b7 b8
  clear hb1 P0 CG
  go_wp2_with fail
  refine (unhide CZ _).mono ?_
  rintro e w2 ⟨rfl, rfl⟩
  clear CZ
  have X2 := hide (TAt.new w2 ⟨z, 4, rs, [], [], 0, 0⟩)
  have P2 := hide ((unhide P1).next (allocB w2 (.cells #[.int .i64 z, .int .i64 4, .int .i64 rs, .string ⟨#[]⟩, .string ⟨#[]⟩, .int .i64 0, .int .i64 0] 29)))
  simp only at X2
  obtain ⟨d0, d1, d2, d3, d4, d5, d6, d7, d8⟩ := (unhide P2).t.nine
  simp only at d0 d1 d2 d3 d4 d5 d6 d7 d8
  go_wp2_with fail
  refine (unhide CP _).mono ?_
  rintro e w3 ⟨rfl, hb3⟩
  have P3 := hide ((unhide P2).next hb3)
  have X3 := hide ((unhide X2).next hb3)
  clear hb3 P2 X2 CP d0 d1 d2 d3 d4 d5 d6 d7 d8 b0 b1 b2 b3 b4 b5 b6 b7 b8
  cases hgd : goodB rp with
  | false =>
    have HE := hide (unhide PF (by rw [fch_form (t := t) (r := ⟨4, rs, rp, rd, rv, rf⟩) hgd]; decide))
    rw [fch_form (t := t) (r := ⟨4, rs, rp, rd, rv, rf⟩) hgd] at HE
    clear hgd PF PA PX CA CO CN
    obtain ⟨e0, e1, e2, e3, e4, e5, e6, e7, e8⟩ := (unhide P3).t.nine
    obtain ⟨c0, c1, c2, c3, c4, c5, c6⟩ := (unhide P3).cells
    have f := (unhide P3).a.f
    have f0 := f 0
    have f1 := f 1
    have f2 := f 2
    have f3 := f 3
    have f4 := f 4
    have f5 := f 5
    have f6 := f 6
    simp only at e0 e1 e2 e3 e4 e5 e6 e7 e8
    clear f
    go_wp2_with fail
    exact bodyPost_ret (v := .tuple #[txnV t0, .int .i64 2]) (by simp [results, Tryz.results9, go_sem, txnV, t0, c0, c1, c2, c3, c4, c5, c6]) rfl (givesP_no (unhide HE) (by decide) rfl (put7_below t0 (unhide P3).b (by omega)))
  | true =>
    have HG := hide hgd
    clear hgd
    obtain ⟨e0, e1, e2, e3, e4, e5, e6, e7, e8⟩ := (unhide P3).t.nine
    obtain ⟨c0, c1, c2, c3, c4, c5, c6⟩ := (unhide P3).cells
    have f := (unhide P3).a.f
    have f0 := f 0
    have f1 := f 1
    have f2 := f 2
    have f3 := f 3
    have f4 := f 4
    have f5 := f 5
    have f6 := f 6
    simp only at e0 e1 e2 e3 e4 e5 e6 e7 e8
    clear f
    go_wp2_with fail
    refine (unhide CO _ (unhide P3).b).mono ?_
    rintro e w4 ⟨rfl, hb4⟩
    have P4 := hide ((unhide P3).next hb4)
    have X4 := hide ((unhide X3).next hb4)
    clear hb4 P3 X3 CO e0 e1 e2 e3 e4 e5 e6 e7 e8 c0 c1 c2 c3 c4 c5 c6 f0 f1 f2 f3 f4 f5 f6
    by_cases hm : rs ∈ t.ss
    · rw [show decide (rs ∈ t.ss) = true from decide_eq_true hm]
      have HM := hide hm
      clear hm
      obtain ⟨e0, e1, e2, e3, e4, e5, e6, e7, e8⟩ := (unhide P4).t.nine
      obtain ⟨c0, c1, c2, c3, c4, c5, c6⟩ := (unhide P4).cells
      have f := (unhide P4).a.f
      have f0 := f 0
      have f1 := f 1
      have f2 := f 2
      have f3 := f 3
      have f4 := f 4
      have f5 := f 5
      have f6 := f 6
      simp only at e0 e1 e2 e3 e4 e5 e6 e7 e8
      clear f
      go_wp2_with fail
      refine (unhide CN rp _ (unhide P4).b).mono ?_
      rintro e w5 ⟨rfl, hb5⟩
      cases hl : lookN t.ns rp with
      | none =>
        obtain ⟨h1, h2⟩ := get_none hl
        have HE := hide (unhide PF (by rw [fch_none (t := t) (r := ⟨4, rs, rp, rd, rv, rf⟩) (unhide HG) (unhide HM) hl]; decide))
        rw [fch_none (t := t) (r := ⟨4, rs, rp, rd, rv, rf⟩) (unhide HG) (unhide HM) hl] at HE
        rw [h1, h2]
        unfold nzero
        have P5 := hide ((unhide P4).next (nnext hb5 (allocB w5 (.cells #[.string ⟨#[]⟩, .string ⟨#[]⟩, .int .i64 0, .int .i64 0, .int .i64 0, .int .i64 0, .int .i64 0, .int .i64 0, .int .i64 0] 46))))
        clear hl h1 h2 PF PA PX CA CN hb5 P4 X4 e0 e1 e2 e3 e4 e5 e6 e7 e8 c0 c1 c2 c3 c4 c5 c6 f0 f1 f2 f3 f4 f5 f6
        simp only
        obtain ⟨e0, e1, e2, e3, e4, e5, e6, e7, e8⟩ := (unhide P5).t.nine
        obtain ⟨c0, c1, c2, c3, c4, c5, c6⟩ := (unhide P5).cells
        have f := (unhide P5).a.f
        have f0 := f 0
        have f1 := f 1
        have f2 := f 2
        have f3 := f 3
        have f4 := f 4
        have f5 := f 5
        have f6 := f 6
        simp only at e0 e1 e2 e3 e4 e5 e6 e7 e8
        clear f
        go_wp2_with fail
        exact bodyPost_ret (v := .tuple #[txnV t0, .int .i64 7]) (by simp [results, Tryz.results9, go_sem, txnV, t0, c0, c1, c2, c3, c4, c5, c6]) rfl (givesP_no (unhide HE) (by decide) rfl (put7_below t0 (unhide P5).b (by omega)))
      | some n =>
        obtain ⟨h1, h2⟩ := get_some hl
        have hko := (unhide GT).nod.ok n (lookN_some hl).1
        have hv0 := hko.v0
        have hv1 := hko.v1
        have KF := hide (fch_some (t := t) (r := ⟨4, rs, rp, rd, rv, rf⟩) (unhide HG) (unhide HM) hl)
        have KV := hide (ver_some (t := t) (r := ⟨4, rs, rp, rd, rv, rf⟩) hl)
        rw [h1, h2]
        obtain ⟨np, nd, nc', nm, nq, nv, nk, no, nn⟩ := n
        simp only at hv0 hv1 KF KV
        clear hl h1 h2 hko HG HM CN
        have P5 := hide ((unhide P4).next (nnext hb5 (allocB w5 (.cells #[.string ⟨np.toArray⟩, .string ⟨nd.toArray⟩, .int .i64 nc', .int .i64 nm, .int .i64 nq, .int .i64 nv, .int .i64 nk, .int .i64 no, .int .i64 nn] 46))))
        have X5 := hide ((unhide X4).next (nnext hb5 (allocB w5 (.cells #[.string ⟨np.toArray⟩, .string ⟨nd.toArray⟩, .int .i64 nc', .int .i64 nm, .int .i64 nq, .int .i64 nv, .int .i64 nk, .int .i64 no, .int .i64 nn] 46))))
        have N5 : (w5.alloc (.cells #[.string ⟨np.toArray⟩, .string ⟨nd.toArray⟩, .int .i64 nc', .int .i64 nm, .int .i64 nq, .int .i64 nv, .int .i64 nk, .int .i64 no, .int .i64 nn] 46)).cell? ⟨w5.heap.size, 5, none⟩ = some (.int .i64 nv) := by simp
        have hg5 : w2.heap.size < w5.heap.size := by have h6 := (unhide X4).lt; have h7 := hb5.size; omega
        clear hb5 P4 X4 e0 e1 e2 e3 e4 e5 e6 e7 e8 c0 c1 c2 c3 c4 c5 c6 f0 f1 f2 f3 f4 f5 f6
        simp only
        go_upto_region 15 with fail
        obtain ⟨w6, hw6⟩ : ∃ w6, w5.alloc (.cells #[.string ⟨np.toArray⟩, .string ⟨nd.toArray⟩, .int .i64 nc', .int .i64 nm, .int .i64 nq, .int .i64 nv, .int .i64 nk, .int .i64 no, .int .i64 nn] 46) = w6 := ⟨_, rfl⟩
        rw [hw6] at P5 X5 N5 ⊢
        clear hw6
        obtain ⟨e0, e1, e2, e3, e4, e5, e6, e7, e8⟩ := (unhide P5).t.nine
        obtain ⟨c0, c1, c2, c3, c4, c5, c6⟩ := (unhide P5).cells
        have f := (unhide P5).a.f
        have f0 := f 0
        have f1 := f 1
        have f2 := f 2
        have f3 := f 3
        have f4 := f 4
        have f5 := f 5
        have f6 := f 6
        simp only at e0 e1 e2 e3 e4 e5 e6 e7 e8
        clear f
        obtain ⟨x0, x1, x2, x3, x4, x5, x6⟩ := (unhide X5).seven
        simp only at x0 x1 x2 x3 x4 x5 x6
        have fx3 := (unhide X5).f 3
        have fx4 := (unhide X5).f 4
        have fx5 := (unhide X5).f 5
        have hq5 := (unhide P5).t.lt
        have hq6 := (unhide P1).t.lt
        have hq7 := (unhide P1).a.lt
        have hne0 : w.heap.size ≠ w2.heap.size := by omega
        have hne1 : w.heap.size + 1 ≠ w2.heap.size := by omega
        have hne2 : w.heap.size + 1 + 1 ≠ w2.heap.size := by omega
        have hne5 : w5.heap.size ≠ w2.heap.size := by omega
        by_cases hv : rv = -1 ∨ rv = nv
        · rw [if_pos hv] at KF
          have hc : (rv != -1) = false ∨ ((rv != -1) = true ∧ (rv != nv) = false) := by
            rcases hv with h | h
            · exact .inl (by simp [h])
            · by_cases h1 : rv = -1
              · exact .inl (by simp [h1])
              · exact .inr ⟨by simp [h1], by simp [h]⟩
          clear hv
          have HX : Hid (fchX t z ⟨4, rs, rp, rd, rv, rf⟩ = ⟨z, 4, rs, rp, [], 0, 0⟩) := hide (by rfl)
          rcases hc with hc1 | ⟨hc1, hc2⟩
          · have X6 : Hid (TAt (w6.setCell ⟨w2.heap.size, 3, none⟩ (.string ⟨rp.toArray⟩)) w2.heap.size ⟨z, 4, rs, rp, [], 0, 0⟩) := hide ((unhide X5).p rp)
            have P6 : Hid (PB w (w6.setCell ⟨w2.heap.size, 3, none⟩ (.string ⟨rp.toArray⟩)) t.z (.slice na t.ns.length nc) (.slice sa t.ss.length sc) ⟨4, rs, rp, rd, rv, rf⟩) := hide ⟨(unhide P5).t.other _ (.inr (by simp only; omega)), (Below.heap_setCell _ _ _ (w.heap.size + 2) (by simp only; omega)).trans (unhide P5).a, (unhide P5).b.setCell (by simp only; omega) _⟩
            have PE := hide (unhide PA (unhide KF))
            rw [unhide HX] at CA PX PE
            clear PF PA
            generalize appT t _ = T at CA
            generalize appV t _ = V at CA
            generalize appE t _ = A at CA PE
            unfold txnV at CA
            simp only at CA
            obtain ⟨i0, i1, i2, i3, i4, i5, i6, i7, i8⟩ := (unhide P6).t.nine
            clear c0 c1 c2 c3 c4 c5 c6 f0 f1 f2 f3 f4 f5 f6
            obtain ⟨c0, c1, c2, c3, c4, c5, c6⟩ := (unhide P6).cells
            have f := (unhide P6).a.f
            have f0 := f 0
            have f1 := f 1
            have f2 := f 2
            have f3 := f 3
            have f4 := f 4
            have f5 := f 5
            have f6 := f 6
            simp only at i0 i1 i2 i3 i4 i5 i6 i7 i8
            clear f
            obtain ⟨z0, z1, z2, z3, z4, z5, z6⟩ := (unhide X6).seven
            simp only at z0 z1 z2 z3 z4 z5 z6
            go_wp2_with fail
            refine (unhide CA _ (unhide P6).b).mono ?_
            rintro e wA ⟨vnA, vsA, veA, rfl, nA, sA, eA, hbA⟩
            obtain ⟨an, cn, rfl, _⟩ := nA.slice
            obtain ⟨ai, ci, rfl, _⟩ := sA.slice
            obtain ⟨ae, ce, rfl, _⟩ := eA.slice
            have PB5 := hide ((unhide P6).next (nnext hbA (allocB wA (.cells #[.int .i64 T.z, .slice an T.ns.length cn, .slice ai T.ss.length ci] 25))))
            have XB5 := hide ((unhide X6).next (nnext hbA (allocB wA (.cells #[.int .i64 T.z, .slice an T.ns.length cn, .slice ai T.ss.length ci] 25))))
            clear c0 c1 c2 c3 c4 c5 c6 f0 f1 f2 f3 f4 f5 f6 x0 x1 x2 x3 x4 x5 x6 z0 z1 z2 z3 z4 z5 z6 i0 i1 i2 i3 i4 i5 i6 i7 i8 hbA nA sA eA CA
            obtain ⟨o0, o1, o2, o3, o4, o5, o6, o7, o8⟩ := (unhide PB5).t.nine
            obtain ⟨c0, c1, c2, c3, c4, c5, c6⟩ := (unhide PB5).cells
            have f := (unhide PB5).a.f
            have f0 := f 0
            have f1 := f 1
            have f2 := f 2
            have f3 := f 3
            have f4 := f 4
            have f5 := f 5
            have f6 := f 6
            simp only at o0 o1 o2 o3 o4 o5 o6 o7 o8
            clear f
            obtain ⟨x0, x1, x2, x3, x4, x5, x6⟩ := (unhide XB5).seven
            simp only at x0 x1 x2 x3 x4 x5 x6
            by_cases hA : A = 0
            · subst hA
              have HXX := hide (unhide PX (unhide PE))
              go_wp2_with fail
              exact bodyPost_ret (v := .tuple #[txnV ⟨z, 4, rs, rp, [], 0, 0⟩, .int .i64 0]) (by simp [results, Tryz.results9, go_sem, txnV, c0, c1, c2, c3, c4, c5, c6]) rfl (givesP_ok (unhide PE) (unhide HXX) rfl (put7_below ⟨z, 4, rs, rp, [], 0, 0⟩ (unhide PB5).b (by omega)))
            · have hAb : (A != 0) = true := by simpa using hA
              have HA := hide hA
              clear hA
              go_wp2_with fail
              exact bodyPost_ret (v := .tuple #[txnV t0, .int .i64 A]) (by simp [results, Tryz.results9, go_sem, txnV, t0, c0, c1, c2, c3, c4, c5, c6]) rfl (givesP_no (unhide PE) (unhide HA) rfl (put7_below t0 (unhide PB5).b (by omega)))
          · have X6 : Hid (TAt (w6.setCell ⟨w2.heap.size, 3, none⟩ (.string ⟨rp.toArray⟩)) w2.heap.size ⟨z, 4, rs, rp, [], 0, 0⟩) := hide ((unhide X5).p rp)
            have P6 : Hid (PB w (w6.setCell ⟨w2.heap.size, 3, none⟩ (.string ⟨rp.toArray⟩)) t.z (.slice na t.ns.length nc) (.slice sa t.ss.length sc) ⟨4, rs, rp, rd, rv, rf⟩) := hide ⟨(unhide P5).t.other _ (.inr (by simp only; omega)), (Below.heap_setCell _ _ _ (w.heap.size + 2) (by simp only; omega)).trans (unhide P5).a, (unhide P5).b.setCell (by simp only; omega) _⟩
            have PE := hide (unhide PA (unhide KF))
            rw [unhide HX] at CA PX PE
            clear PF PA
            generalize appT t _ = T at CA
            generalize appV t _ = V at CA
            generalize appE t _ = A at CA PE
            unfold txnV at CA
            simp only at CA
            obtain ⟨i0, i1, i2, i3, i4, i5, i6, i7, i8⟩ := (unhide P6).t.nine
            clear c0 c1 c2 c3 c4 c5 c6 f0 f1 f2 f3 f4 f5 f6
            obtain ⟨c0, c1, c2, c3, c4, c5, c6⟩ := (unhide P6).cells
            have f := (unhide P6).a.f
            have f0 := f 0
            have f1 := f 1
            have f2 := f 2
            have f3 := f 3
            have f4 := f 4
            have f5 := f 5
            have f6 := f 6
            simp only at i0 i1 i2 i3 i4 i5 i6 i7 i8
            clear f
            obtain ⟨z0, z1, z2, z3, z4, z5, z6⟩ := (unhide X6).seven
            simp only at z0 z1 z2 z3 z4 z5 z6
            go_wp2_with fail
            refine (unhide CA _ (unhide P6).b).mono ?_
            rintro e wA ⟨vnA, vsA, veA, rfl, nA, sA, eA, hbA⟩
            obtain ⟨an, cn, rfl, _⟩ := nA.slice
            obtain ⟨ai, ci, rfl, _⟩ := sA.slice
            obtain ⟨ae, ce, rfl, _⟩ := eA.slice
            have PB5 := hide ((unhide P6).next (nnext hbA (allocB wA (.cells #[.int .i64 T.z, .slice an T.ns.length cn, .slice ai T.ss.length ci] 25))))
            have XB5 := hide ((unhide X6).next (nnext hbA (allocB wA (.cells #[.int .i64 T.z, .slice an T.ns.length cn, .slice ai T.ss.length ci] 25))))
            clear c0 c1 c2 c3 c4 c5 c6 f0 f1 f2 f3 f4 f5 f6 x0 x1 x2 x3 x4 x5 x6 z0 z1 z2 z3 z4 z5 z6 i0 i1 i2 i3 i4 i5 i6 i7 i8 hbA nA sA eA CA
            obtain ⟨o0, o1, o2, o3, o4, o5, o6, o7, o8⟩ := (unhide PB5).t.nine
            obtain ⟨c0, c1, c2, c3, c4, c5, c6⟩ := (unhide PB5).cells
            have f := (unhide PB5).a.f
            have f0 := f 0
            have f1 := f 1
            have f2 := f 2
            have f3 := f 3
            have f4 := f 4
            have f5 := f 5
            have f6 := f 6
            simp only at o0 o1 o2 o3 o4 o5 o6 o7 o8
            clear f
            obtain ⟨x0, x1, x2, x3, x4, x5, x6⟩ := (unhide XB5).seven
            simp only at x0 x1 x2 x3 x4 x5 x6
            by_cases hA : A = 0
            · subst hA
              have HXX := hide (unhide PX (unhide PE))
              go_wp2_with fail
              exact bodyPost_ret (v := .tuple #[txnV ⟨z, 4, rs, rp, [], 0, 0⟩, .int .i64 0]) (by simp [results, Tryz.results9, go_sem, txnV, c0, c1, c2, c3, c4, c5, c6]) rfl (givesP_ok (unhide PE) (unhide HXX) rfl (put7_below ⟨z, 4, rs, rp, [], 0, 0⟩ (unhide PB5).b (by omega)))
            · have hAb : (A != 0) = true := by simpa using hA
              have HA := hide hA
              clear hA
              go_wp2_with fail
              exact bodyPost_ret (v := .tuple #[txnV t0, .int .i64 A]) (by simp [results, Tryz.results9, go_sem, txnV, t0, c0, c1, c2, c3, c4, c5, c6]) rfl (givesP_no (unhide PE) (unhide HA) rfl (put7_below t0 (unhide PB5).b (by omega)))
        · rw [if_neg hv] at KF
          have HE := hide (unhide PF (by rw [unhide KF]; decide))
          rw [unhide KF] at HE
          have hb1 : (rv != -1) = true := by simp; omega
          have hb2 : (rv != nv) = true := by simp; omega
          clear hv PF PA PX CA
          go_wp2_with fail
          exact bodyPost_ret (v := .tuple #[txnV t0, .int .i64 9]) (by simp [results, Tryz.results9, go_sem, txnV, t0, c0, c1, c2, c3, c4, c5, c6]) rfl (givesP_no (unhide HE) (by decide) rfl (put7_below t0 (unhide P5).b (by omega)))
    · rw [show decide (rs ∈ t.ss) = false from decide_eq_false hm]
      have HE := hide (unhide PF (by rw [fch_shut (t := t) (r := ⟨4, rs, rp, rd, rv, rf⟩) (unhide HG) hm]; decide))
      rw [fch_shut (t := t) (r := ⟨4, rs, rp, rd, rv, rf⟩) (unhide HG) hm] at HE
      clear hm PF PA PX CA CN
      obtain ⟨e0, e1, e2, e3, e4, e5, e6, e7, e8⟩ := (unhide P4).t.nine
      obtain ⟨c0, c1, c2, c3, c4, c5, c6⟩ := (unhide P4).cells
      have f := (unhide P4).a.f
      have f0 := f 0
      have f1 := f 1
      have f2 := f 2
      have f3 := f 3
      have f4 := f 4
      have f5 := f 5
      have f6 := f 6
      simp only at e0 e1 e2 e3 e4 e5 e6 e7 e8
      clear f
      go_wp2_with fail
      exact bodyPost_ret (v := .tuple #[txnV t0, .int .i64 12]) (by simp [results, Tryz.results9, go_sem, txnV, t0, c0, c1, c2, c3, c4, c5, c6]) rfl (givesP_no (unhide HE) (by decide) rfl (put7_below t0 (unhide P4).b (by omega)))

end Go.Proofs.YtalnmhgedfgooaaGreatDoor
