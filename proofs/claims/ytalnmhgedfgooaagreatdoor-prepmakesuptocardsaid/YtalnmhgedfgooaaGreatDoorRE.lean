/-
  aviaryref.Prepare, OpCreate with a number (flags 2): the walk.
-/
import Derived.Test.YtalnmhgedfgooaaGreatDoorRA
namespace Go.Proofs.YtalnmhgedfgooaaGreatDoor
open Go.RowKit

set_option maxRecDepth 20000 in
set_option maxHeartbeats 8000000 in
theorem rprepare_3fn (t : Tr) (z : Int) (vn vs : Value) (r : Rq) (w : World) (hn : SeqV w vn t.ns) (hs : SeqV w vs t.ss) (hw : WfT t) (hz : t.z ≤ 9223372036854775807) (hzz : z ≤ 9223372036854775807) (hlong : ∀ n ∈ t.ns, n.p.length ≤ 1048576) (hls : t.ss.length * 8 ≤ 140737488351232) (hp : r.p.length ≤ 1048576) (hd : r.d.length ≤ 140737488355328) (hh : headB t z r = true) (ho : r.o = 3) (hf : r.f = 2) (hg : goodB r.p = true ∧ r.p ≠ [47]) (hm : r.s ∈ t.ss) :
    Calls Tryz.prog 9 #[.agg #[.int .i64 t.z, vn, vs], .int .i64 z, rqV r] w (GivesP w t z r) := by
  have CG := hide (fun W (hW : Below w.heap.size w W) => rgoodT_any t vn vs W (hn.next hW) (hs.next hW) hw hz hlong (by omega))
  have CZ := hide (fun W => rgood_any z hzz W)
  obtain ⟨gt, hzg, hr1, hr2⟩ := headB_true.1 hh
  have CO := hide (fun W (hW : Below w.heap.size w W) => risopen_any t.z vn vs t.ss r.s W (hs.next hW) (by omega))
  have CN := hide (fun (p : List UInt8) W (hW : Below w.heap.size w W) => rget_any t vn vs p W gt (hn.next hW))
  have CP := hide (fun W => refGood_any r.p W (by omega))
  have CS := hide (fun W => rsplit_any r.p W (by omega))
  have CA := hide (fun W (hW : Below w.heap.size w W) => rapply_any t (filX t z r) vn vs W (hn.next hW) (hs.next hW) ⟨hw, hz, hlong, by omega, by rw [(filX_heads t z r).1]; exact hzz, filX_p2 t z r hp, by have := filX_d t z r; omega⟩ hls)
  have hsl := stepOf_len r.p
  have CR := hide (fun (n : Int) W => rserial_any (stepOf r.p) n W (by omega))
  have CJ := hide (fun (m : List UInt8) (hm : m.length ≤ 1048576) W => refJoin_any (dirOf r.p) m W (by have := dirOf_len r.p; omega) hm)
  rw [goodT_true.2 gt] at CG
  rw [hzg] at CZ
  obtain ⟨na, nc, rfl⟩ := seq_slice hn
  obtain ⟨sa, sc, rfl⟩ := seq_slice hs
  have PF : Hid (filE t r ≠ 0 → prpE t z r = filE t r) := hide (fun h => prp_fill hh h)
  have PA : Hid (filE t r = 0 → prpE t z r = appE t (filX t z r)) := hide (fun h => prp_app hh h)
  have PX : Hid (prpE t z r = 0 → prpX t z r = filX t z r) := hide (fun h => prpX_ok h)
  unfold GivesR at CA
  unfold nodeV at CN
  obtain ⟨ro, rs, rp, rd, rv, rf⟩ := r
  unfold rqV at *
  simp only at *
  have hd1 : decide (rs < 1) = false := decide_eq_false (by omega)
  have hd2 : decide (2147483648 ≤ rs) = false := decide_eq_false (by omega)
  have P0 := hide (PB.new w t.z (.slice na t.ns.length nc) (.slice sa t.ss.length sc) ⟨ro, rs, rp, rd, rv, rf⟩)
  simp only at P0
  have GT := hide gt
  clear hn hs hw hh hzg gt hr1 hr2
  subst ho
  subst hf
  rw [splE_ok hg.1 hg.2] at CS
  rw [show decide (rs ∈ t.ss) = true from decide_eq_true hm] at CO
  have HC := hide (fil_cre (t := t) (z := z) (r := ⟨3, rs, rp, rd, rv, 2⟩) rfl)
  rw [(unhide HC).1] at PF PA
  rw [(unhide HC).2] at PA PX CA
  have HM := hide (fcr_num (t := t) (r := ⟨3, rs, rp, rd, rv, 2⟩) (by simp) hg hm (by simp))
  rw [unhide HM] at PF PA
  have HX : Hid (fcrX t z ⟨3, rs, rp, rd, rv, 2⟩ = ⟨z, 3, rs, numP t ⟨3, rs, rp, rd, rv, 2⟩, rd, 0, 0⟩) := hide rfl
  clear hg hm CP HM
  go_enter Tryz.func9, Tryz.ntmps9
  go_wp2_with fail
  refine (unhide CG _ (unhide P0).b).mono ?_
  rintro e w1 ⟨rfl, hb1⟩
  have P1 := hide ((unhide P0).next hb1)
  obtain ⟨b0, b1, b2, b3, b4, b5, b6, b7, b8⟩ := (unhide P1).t.nine
  simp only at b0 b1 b2 b3 b4 b5 b6 b7 b8
  clear hb1 P0 CG
  go_wp2_with fail
  refine (unhide CZ _).mono ?_
  rintro e w2 ⟨rfl, rfl⟩
  clear CZ
  have X2 := hide (TAt.new w2 ⟨z, 3, rs, [], [], 0, 0⟩)
  have P2 := hide ((unhide P1).next (allocB w2 (.cells #[.int .i64 z, .int .i64 3, .int .i64 rs, .string ⟨#[]⟩, .string ⟨#[]⟩, .int .i64 0, .int .i64 0] 29)))
  simp only at X2
  obtain ⟨d0, d1, d2, d3, d4, d5, d6, d7, d8⟩ := (unhide P2).t.nine
  simp only at d0 d1 d2 d3 d4 d5 d6 d7 d8
  go_wp2_with fail
  refine (unhide CS _).mono ?_
  rintro e w3 ⟨rfl, hb3⟩
  have P3 := hide ((unhide P2).next hb3)
  have X3 := hide ((unhide X2).next hb3)
  clear hb3 P2 X2 CS d0 d1 d2 d3 d4 d5 d6 d7 d8 b0 b1 b2 b3 b4 b5 b6 b7 b8
  obtain ⟨e0, e1, e2, e3, e4, e5, e6, e7, e8⟩ := (unhide P3).t.nine
  obtain ⟨c0, c1, c2, c3, c4, c5, c6⟩ := (unhide P3).cells
  have f := (unhide P3).a.f
  have f0 := f 0
  have f1 := f 1
  have f2 := f 2
  have f3 := f 3
  have f4 := f 4
  have f5 := f 5
  have f6 := f 6
  simp only at e0 e1 e2 e3 e4 e5 e6 e7 e8
  clear f
  go_wp2_with fail
  refine (unhide CO _ (unhide P3).b).mono ?_
  rintro e w4 ⟨rfl, hb4⟩
  have P4 := hide ((unhide P3).next hb4)
  have X4 := hide ((unhide X3).next hb4)
  clear hb4 P3 X3 CO e0 e1 e2 e3 e4 e5 e6 e7 e8 c0 c1 c2 c3 c4 c5 c6 f0 f1 f2 f3 f4 f5 f6
  have hq7 := (unhide P1).a.lt
  have hg4 := (unhide X4).lt
  have hne0 : w.heap.size ≠ w2.heap.size := by omega
  have hne1 : w.heap.size + 1 ≠ w2.heap.size := by omega
  have hne2 : w.heap.size + 1 + 1 ≠ w2.heap.size := by omega
  go_upto_region 30 with fail
  obtain ⟨e0, e1, e2, e3, e4, e5, e6, e7, e8⟩ := (unhide P4).t.nine
  obtain ⟨x0, x1, x2, x3, x4, x5, x6⟩ := (unhide X4).seven
  simp only at e0 e1 e2 e3 e4 e5 e6 e7 e8 x0 x1 x2 x3 x4 x5 x6
  have fx3 := (unhide X4).f 3
  have fx4 := (unhide X4).f 4
  have fx6 := (unhide X4).f 6
  go_region
  have X5 : Hid (TAt (((w4.setCell ⟨w2.heap.size, 3, none⟩ (.string ⟨rp.toArray⟩)).setCell ⟨w2.heap.size, 4, none⟩ (.string ⟨rd.toArray⟩)).drew) w2.heap.size ⟨z, 3, rs, rp, rd, 0, 0⟩) := hide (((unhide X4).p rp).d rd).drew
  have P5 : Hid (PB w (((w4.setCell ⟨w2.heap.size, 3, none⟩ (.string ⟨rp.toArray⟩)).setCell ⟨w2.heap.size, 4, none⟩ (.string ⟨rd.toArray⟩)).drew) t.z (.slice na t.ns.length nc) (.slice sa t.ss.length sc) ⟨3, rs, rp, rd, rv, 2⟩) := hide (PB.next ⟨(((unhide P4).t.other _ (.inr (by simp only; omega))).other _ (.inr (by simp only; omega))), ((Below.heap_setCell _ _ _ (w.heap.size + 2) (by simp only; omega)).trans ((Below.heap_setCell _ _ _ (w.heap.size + 2) (by simp only; omega)).trans (unhide P4).a)), (((unhide P4).b.setCell (by simp only; omega) _).setCell (by simp only; omega) _)⟩ (Below.refl _ _).drew)
  obtain ⟨w5, hw5⟩ : ∃ w5, ((w4.setCell ⟨w2.heap.size, 3, none⟩ (.string ⟨rp.toArray⟩)).setCell ⟨w2.heap.size, 4, none⟩ (.string ⟨rd.toArray⟩)).drew = w5 := ⟨_, rfl⟩
  rw [hw5] at P5 X5 ⊢
  clear hw5 fx3 fx4 fx6 e0 e1 e2 e3 e4 e5 e6 e7 e8 x0 x1 x2 x3 x4 x5 x6 P4 X4
  have CN1 := hide (unhide CN (dirOf rp))
  obtain ⟨D, hD⟩ : ∃ D, dirOf rp = D := ⟨_, rfl⟩
  obtain ⟨S, hS⟩ : ∃ S, stepOf rp = S := ⟨_, rfl⟩
  have KE : Hid (lookN t.ns D = none → numE t ⟨3, rs, rp, rd, rv, 2⟩ = 7) := hide (fun h => num_none (by rw [hD]; exact h))
  have KS : Hid (∀ u, lookN t.ns D = some u → serE S u.k ≠ 0 → numE t ⟨3, rs, rp, rd, rv, 2⟩ = serE S u.k) := hide (fun u h h0 => by rw [num_ser (u := u) (by rw [hD]; exact h) (by rw [hS]; exact h0), hS])
  have KJ : Hid (∀ u, lookN t.ns D = some u → serE S u.k = 0 → numE t ⟨3, rs, rp, rd, rv, 2⟩ = joinE D (serL S u.k)) := hide (fun u h h0 => by rw [num_join (u := u) (by rw [hD]; exact h) (by rw [hS]; exact h0), hS, hD])
  have KP : Hid (∀ u, lookN t.ns D = some u → numP t ⟨3, rs, rp, rd, rv, 2⟩ = joinS D (serL S u.k)) := hide (fun u h => by rw [numP, cv_some (u := u) (by rw [hD]; exact h), hS, hD])
  rw [hD] at CN1 CJ ⊢
  rw [hS] at CR ⊢
  clear hD hS CN
  obtain ⟨e0, e1, e2, e3, e4, e5, e6, e7, e8⟩ := (unhide P5).t.nine
  obtain ⟨c0, c1, c2, c3, c4, c5, c6⟩ := (unhide P5).cells
  have f := (unhide P5).a.f
  have f0 := f 0
  have f1 := f 1
  have f2 := f 2
  have f3 := f 3
  have f4 := f 4
  have f5 := f 5
  have f6 := f 6
  simp only at e0 e1 e2 e3 e4 e5 e6 e7 e8
  clear f
  obtain ⟨x0, x1, x2, x3, x4, x5, x6⟩ := (unhide X5).seven
  simp only at x0 x1 x2 x3 x4 x5 x6
  go_wp2_with fail
  refine (unhide CN1 _ (unhide P5).b).mono ?_
  rintro e w6 ⟨rfl, hb6⟩
  clear e0 e1 e2 e3 e4 e5 e6 e7 e8 c0 c1 c2 c3 c4 c5 c6 f0 f1 f2 f3 f4 f5 f6 x0 x1 x2 x3 x4 x5 x6
  cases hl : lookN t.ns D with
  | none =>
    obtain ⟨h1, h2⟩ := get_none hl
    have HE := hide (unhide PF (by rw [unhide KE hl]; decide))
    rw [unhide KE hl] at HE
    rw [h1, h2]
    unfold nzero
    have P7 := hide ((unhide P5).next (nnext hb6 (allocB w6 (.cells #[.string ⟨#[]⟩, .string ⟨#[]⟩, .int .i64 0, .int .i64 0, .int .i64 0, .int .i64 0, .int .i64 0, .int .i64 0, .int .i64 0] 46))))
    clear hl h1 h2 PF PA PX CA KE KS KJ KP CR CJ CN1 hb6 P5 X5
    simp only
    obtain ⟨e0, e1, e2, e3, e4, e5, e6, e7, e8⟩ := (unhide P7).t.nine
    obtain ⟨c0, c1, c2, c3, c4, c5, c6⟩ := (unhide P7).cells
    have f := (unhide P7).a.f
    have f0 := f 0
    have f1 := f 1
    have f2 := f 2
    have f3 := f 3
    have f4 := f 4
    have f5 := f 5
    have f6 := f 6
    simp only at e0 e1 e2 e3 e4 e5 e6 e7 e8
    clear f
    go_wp2_with fail
    exact bodyPost_ret (v := .tuple #[txnV t0, .int .i64 7]) (by simp [results, Tryz.results9, go_sem, txnV, t0, c0, c1, c2, c3, c4, c5, c6]) rfl (givesP_no (unhide HE) (by decide) rfl (put7_below t0 (unhide P7).b (by omega)))
  | some n =>
    obtain ⟨h1, h2⟩ := get_some hl
    have KS1 := hide (unhide KS n hl)
    have KJ1 := hide (unhide KJ n hl)
    have KP1 := hide (unhide KP n hl)
    rw [h1, h2]
    obtain ⟨np, nd, nc', nm, nq, nv, nk, no, nn⟩ := n
    simp only at KS1 KJ1 KP1
    clear hl h1 h2 KE KS KJ KP CN1
    have P7 := hide ((unhide P5).next (nnext hb6 (allocB w6 (.cells #[.string ⟨np.toArray⟩, .string ⟨nd.toArray⟩, .int .i64 nc', .int .i64 nm, .int .i64 nq, .int .i64 nv, .int .i64 nk, .int .i64 no, .int .i64 nn] 46))))
    have X7 := hide ((unhide X5).next (nnext hb6 (allocB w6 (.cells #[.string ⟨np.toArray⟩, .string ⟨nd.toArray⟩, .int .i64 nc', .int .i64 nm, .int .i64 nq, .int .i64 nv, .int .i64 nk, .int .i64 no, .int .i64 nn] 46))))
    have N7 : (w6.alloc (.cells #[.string ⟨np.toArray⟩, .string ⟨nd.toArray⟩, .int .i64 nc', .int .i64 nm, .int .i64 nq, .int .i64 nv, .int .i64 nk, .int .i64 no, .int .i64 nn] 46)).cell? ⟨w6.heap.size, 6, none⟩ = some (.int .i64 nk) := by simp
    have hg6 : w2.heap.size < w6.heap.size := by have h6 := (unhide X5).lt; have h7 := hb6.size; omega
    clear hb6 P5 X5
    simp only
    go_upto_region 33 with fail
    obtain ⟨w7, hw7⟩ : ∃ w7, w6.alloc (.cells #[.string ⟨np.toArray⟩, .string ⟨nd.toArray⟩, .int .i64 nc', .int .i64 nm, .int .i64 nq, .int .i64 nv, .int .i64 nk, .int .i64 no, .int .i64 nn] 46) = w7 := ⟨_, rfl⟩
    rw [hw7] at P7 X7 N7 ⊢
    clear hw7
    obtain ⟨e0, e1, e2, e3, e4, e5, e6, e7, e8⟩ := (unhide P7).t.nine
    obtain ⟨c0, c1, c2, c3, c4, c5, c6⟩ := (unhide P7).cells
    have f := (unhide P7).a.f
    have f0 := f 0
    have f1 := f 1
    have f2 := f 2
    have f3 := f 3
    have f4 := f 4
    have f5 := f 5
    have f6 := f 6
    simp only at e0 e1 e2 e3 e4 e5 e6 e7 e8
    clear f
    obtain ⟨x0, x1, x2, x3, x4, x5, x6⟩ := (unhide X7).seven
    simp only at x0 x1 x2 x3 x4 x5 x6
    go_wp2_with fail
    refine (unhide CR nk _).mono ?_
    rintro e w8 ⟨rfl, hb8⟩
    have P8 := hide ((unhide P7).next hb8)
    have X8 := hide ((unhide X7).next hb8)
    have hml := serL_len S nk
    have CJ1 := hide (unhide CJ (serL S nk) (by omega))
    clear hb8 P7 X7 N7 CR CJ e0 e1 e2 e3 e4 e5 e6 e7 e8 c0 c1 c2 c3 c4 c5 c6 f0 f1 f2 f3 f4 f5 f6 x0 x1 x2 x3 x4 x5 x6
    generalize serL S nk = M at *
    generalize serE S nk = F at *
    by_cases hF : F = 0
    · have HJ := hide (unhide KJ1 hF)
      rw [unhide HJ] at PF PA
      rw [unhide KP1] at HX
      subst hF
      clear KS1 KJ1 KP1 HJ
      obtain ⟨e0, e1, e2, e3, e4, e5, e6, e7, e8⟩ := (unhide P8).t.nine
      obtain ⟨c0, c1, c2, c3, c4, c5, c6⟩ := (unhide P8).cells
      have f := (unhide P8).a.f
      have f0 := f 0
      have f1 := f 1
      have f2 := f 2
      have f3 := f 3
      have f4 := f 4
      have f5 := f 5
      have f6 := f 6
      simp only at e0 e1 e2 e3 e4 e5 e6 e7 e8
      clear f
      obtain ⟨x0, x1, x2, x3, x4, x5, x6⟩ := (unhide X8).seven
      simp only at x0 x1 x2 x3 x4 x5 x6
      have fx3 := (unhide X8).f 3
      have fx6 := (unhide X8).f 6
      go_wp2_with fail
      refine (unhide CJ1 _).mono ?_
      rintro e w9 ⟨rfl, hb9⟩
      generalize joinS D M = J at *
      generalize joinE D M = G at *
      have P9 := hide ((unhide P8).next hb9)
      have X9 := hide ((unhide X8).next hb9)
      clear hb9 P8 X8 CJ1 fx3 fx6 e0 e1 e2 e3 e4 e5 e6 e7 e8 c0 c1 c2 c3 c4 c5 c6 f0 f1 f2 f3 f4 f5 f6 x0 x1 x2 x3 x4 x5 x6
      obtain ⟨e0, e1, e2, e3, e4, e5, e6, e7, e8⟩ := (unhide P9).t.nine
      obtain ⟨c0, c1, c2, c3, c4, c5, c6⟩ := (unhide P9).cells
      have f := (unhide P9).a.f
      have f0 := f 0
      have f1 := f 1
      have f2 := f 2
      have f3 := f 3
      have f4 := f 4
      have f5 := f 5
      have f6 := f 6
      simp only at e0 e1 e2 e3 e4 e5 e6 e7 e8
      clear f
      obtain ⟨x0, x1, x2, x3, x4, x5, x6⟩ := (unhide X9).seven
      simp only at x0 x1 x2 x3 x4 x5 x6
      have fx3 := (unhide X9).f 3
      have fx6 := (unhide X9).f 6
      have Xa : Hid (TAt (w9.setCell ⟨w2.heap.size, 3, none⟩ (.string ⟨J.toArray⟩)) w2.heap.size ⟨z, 3, rs, J, rd, 0, 0⟩) := hide ((unhide X9).p J)
      have Pa : Hid (PB w (w9.setCell ⟨w2.heap.size, 3, none⟩ (.string ⟨J.toArray⟩)) t.z (.slice na t.ns.length nc) (.slice sa t.ss.length sc) ⟨3, rs, rp, rd, rv, 2⟩) := hide ⟨((unhide P9).t.other _ (.inr (by simp only; omega))), ((Below.heap_setCell _ _ _ (w.heap.size + 2) (by simp only; omega)).trans (unhide P9).a), ((unhide P9).b.setCell (by simp only; omega) _)⟩
      by_cases hG : G = 0
      · have HF := hide hG
        subst hG
        go_upto_region 39 with fail
        obtain ⟨wa, hwa⟩ : ∃ wa, w9.setCell ⟨w2.heap.size, 3, none⟩ (.string ⟨J.toArray⟩) = wa := ⟨_, rfl⟩
        rw [hwa] at Pa Xa ⊢
        clear hwa fx3 fx6 e0 e1 e2 e3 e4 e5 e6 e7 e8 c0 c1 c2 c3 c4 c5 c6 f0 f1 f2 f3 f4 f5 f6 x0 x1 x2 x3 x4 x5 x6 P9 X9
        have PE := hide (unhide PA (unhide HF))
        rw [unhide HX] at CA PX PE
        clear PF PA
        generalize appT t _ = T at CA
        generalize appV t _ = V at CA
        generalize appE t _ = A at CA PE
        unfold txnV at CA
        simp only at CA
        obtain ⟨i0, i1, i2, i3, i4, i5, i6, i7, i8⟩ := (unhide Pa).t.nine
        obtain ⟨c0, c1, c2, c3, c4, c5, c6⟩ := (unhide Pa).cells
        have f := (unhide Pa).a.f
        have f0 := f 0
        have f1 := f 1
        have f2 := f 2
        have f3 := f 3
        have f4 := f 4
        have f5 := f 5
        have f6 := f 6
        simp only at i0 i1 i2 i3 i4 i5 i6 i7 i8
        clear f
        obtain ⟨x0, x1, x2, x3, x4, x5, x6⟩ := (unhide Xa).seven
        simp only at x0 x1 x2 x3 x4 x5 x6
        go_wp2_with fail
        refine (unhide CA _ (unhide Pa).b).mono ?_
        rintro e wA ⟨vnA, vsA, veA, rfl, nA, sA, eA, hbA⟩
        obtain ⟨an, cn, rfl, _⟩ := nA.slice
        obtain ⟨ai, ci, rfl, _⟩ := sA.slice
        obtain ⟨ae, ce, rfl, _⟩ := eA.slice
        have PB5 := hide ((unhide Pa).next (nnext hbA (allocB wA (.cells #[.int .i64 T.z, .slice an T.ns.length cn, .slice ai T.ss.length ci] 25))))
        have XB5 := hide ((unhide Xa).next (nnext hbA (allocB wA (.cells #[.int .i64 T.z, .slice an T.ns.length cn, .slice ai T.ss.length ci] 25))))
        clear c0 c1 c2 c3 c4 c5 c6 f0 f1 f2 f3 f4 f5 f6 x0 x1 x2 x3 x4 x5 x6 i0 i1 i2 i3 i4 i5 i6 i7 i8 hbA nA sA eA CA
        obtain ⟨o0, o1, o2, o3, o4, o5, o6, o7, o8⟩ := (unhide PB5).t.nine
        obtain ⟨c0, c1, c2, c3, c4, c5, c6⟩ := (unhide PB5).cells
        have f := (unhide PB5).a.f
        have f0 := f 0
        have f1 := f 1
        have f2 := f 2
        have f3 := f 3
        have f4 := f 4
        have f5 := f 5
        have f6 := f 6
        simp only at o0 o1 o2 o3 o4 o5 o6 o7 o8
        clear f
        obtain ⟨x0, x1, x2, x3, x4, x5, x6⟩ := (unhide XB5).seven
        simp only at x0 x1 x2 x3 x4 x5 x6
        by_cases hA : A = 0
        · subst hA
          have HXX := hide (unhide PX (unhide PE))
          go_wp2_with fail
          exact bodyPost_ret (v := .tuple #[txnV ⟨z, 3, rs, J, rd, 0, 0⟩, .int .i64 0]) (by simp [results, Tryz.results9, go_sem, txnV, c0, c1, c2, c3, c4, c5, c6]) rfl (givesP_ok (unhide PE) (unhide HXX) rfl (put7_below ⟨z, 3, rs, J, rd, 0, 0⟩ (unhide PB5).b (by omega)))
        · have hAb : (A != 0) = true := by simpa using hA
          have HA := hide hA
          clear hA
          go_wp2_with fail
          exact bodyPost_ret (v := .tuple #[txnV t0, .int .i64 A]) (by simp [results, Tryz.results9, go_sem, txnV, t0, c0, c1, c2, c3, c4, c5, c6]) rfl (givesP_no (unhide PE) (unhide HA) rfl (put7_below t0 (unhide PB5).b (by omega)))
      · have HE := hide (unhide PF hG)
        have hGb : (G != 0) = true := by simpa using hG
        have HG := hide hG
        clear hG PF PA PX CA
        go_upto_region 39 with fail
        obtain ⟨wa, hwa⟩ : ∃ wa, w9.setCell ⟨w2.heap.size, 3, none⟩ (.string ⟨J.toArray⟩) = wa := ⟨_, rfl⟩
        rw [hwa] at Pa Xa ⊢
        clear hwa fx3 fx6 e0 e1 e2 e3 e4 e5 e6 e7 e8 c0 c1 c2 c3 c4 c5 c6 f0 f1 f2 f3 f4 f5 f6 x0 x1 x2 x3 x4 x5 x6 P9 X9
        obtain ⟨e0, e1, e2, e3, e4, e5, e6, e7, e8⟩ := (unhide Pa).t.nine
        obtain ⟨c0, c1, c2, c3, c4, c5, c6⟩ := (unhide Pa).cells
        have f := (unhide Pa).a.f
        have f0 := f 0
        have f1 := f 1
        have f2 := f 2
        have f3 := f 3
        have f4 := f 4
        have f5 := f 5
        have f6 := f 6
        simp only at e0 e1 e2 e3 e4 e5 e6 e7 e8
        clear f
        go_wp2_with fail
        exact bodyPost_ret (v := .tuple #[txnV t0, .int .i64 G]) (by simp [results, Tryz.results9, go_sem, txnV, t0, c0, c1, c2, c3, c4, c5, c6]) rfl (givesP_no (unhide HE) (unhide HG) rfl (put7_below t0 (unhide Pa).b (by omega)))
    · have HS := hide (unhide KS1 hF)
      have HE := hide (unhide PF (by rw [unhide HS]; exact hF))
      rw [unhide HS] at HE
      have hFb : (F != 0) = true := by simpa using hF
      have HF0 := hide hF
      clear hF PF PA PX CA KS1 KJ1 KP1 HS CJ1
      obtain ⟨e0, e1, e2, e3, e4, e5, e6, e7, e8⟩ := (unhide P8).t.nine
      obtain ⟨c0, c1, c2, c3, c4, c5, c6⟩ := (unhide P8).cells
      have f := (unhide P8).a.f
      have f0 := f 0
      have f1 := f 1
      have f2 := f 2
      have f3 := f 3
      have f4 := f 4
      have f5 := f 5
      have f6 := f 6
      simp only at e0 e1 e2 e3 e4 e5 e6 e7 e8
      clear f
      go_wp2_with fail
      exact bodyPost_ret (v := .tuple #[txnV t0, .int .i64 F]) (by simp [results, Tryz.results9, go_sem, txnV, t0, c0, c1, c2, c3, c4, c5, c6]) rfl (givesP_no (unhide HE) (unhide HF0) rfl (put7_below t0 (unhide P8).b (by omega)))

end Go.Proofs.YtalnmhgedfgooaaGreatDoor
