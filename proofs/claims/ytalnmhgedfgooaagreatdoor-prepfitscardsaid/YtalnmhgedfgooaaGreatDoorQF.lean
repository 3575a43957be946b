/-
  PrepFits: the walk.
-/
import Derived.Test.YtalnmhgedfgooaaGreatDoorQC
namespace Go.Proofs.YtalnmhgedfgooaaGreatDoor
open Go.RowKit

set_option maxRecDepth 20000 in
set_option maxHeartbeats 8000000 in
theorem prepFits_walk (t : Tr) (vn vs : Value) (z : Int) (r : Rq) (w : World) (hn : SeqV w vn t.ns) (hs : SeqV w vs t.ss) (hw : WfT t) (hl : t.ns.length * 88 ≤ 140737488355328) (hls : t.ss.length * 8 ≤ 140737488355328) (hp : r.p.length ≤ 140737488351232) (hd : r.d.length ≤ 140737488351232) (htab : Lib.TabIs Tryz.prog w "internal/strconv.uint64pow10" .u64 Lib.pow10Tab) :
    Calls Tryz.prog 4 #[.agg #[.int .i64 t.z, vn, vs], .int .i64 z, rqV r] w fun e w' => e = .returned (.bool true) ∧ Below w.heap.size w w' := by
  have CO := hide (fun W1 (h1 : Below w.heap.size w W1) W (hW : Below W1.heap.size W1 W) => own_any t vn vs W (hn.next (nnext h1 hW)) (hs.next (nnext h1 hW)) hl hls)
  have CQ := hide (fun W1 (h1 : Below w.heap.size w W1) W (hW : Below W1.heap.size W1 W) (vn vs : Value) (hn : SeqV W vn t.ns) (hs : SeqV W vs t.ss) => prepare_any t z vn vs r W hn hs hw (by omega) (by omega) (tab_kept htab (nnext h1 hW)))
  have CM := hide (fun W (h1 : Below w.heap.size w W) => makes_true W (tab_kept htab h1))
  have KP := hide (fun h => fits_plain (t := t) (z := z) (r := r) h)
  have KN := hide (fun h => prpX_no (t := t) (z := z) (r := r) h)
  have CA := hide (fun (W : World) (vn vs : Value) (hn : SeqV W vn t.ns) (hs : SeqV W vs t.ss) => apply_any t vn vs (prpX t z r) W hn hs hw (by
    by_cases h : prpE t z r = 0
    · rw [prpX_ok h]; have := filX_d t z r; omega
    · rw [prpX_no h]; decide))
  have CW := hide (fun W => wgood_any (prpX t z r) W (by
    by_cases h : prpE t z r = 0
    · rw [prpX_ok h]; have := filX_d t z r; omega
    · rw [prpX_no h]; decide))
  unfold GivesP at CQ
  unfold GivesA at CA
  generalize hT : appT t (prpX t z r) = T at CA
  generalize hV : appV t (prpX t z r) = V at CA
  generalize hA : appE t (prpX t z r) = A at CA
  have KF : Hid (prpE t z r = 0 → A = 0 ∧ T.z = z) := hide (fun h => by rw [← hA, ← hT]; exact ⟨(unhide KP h).app, (unhide KP h).az⟩)
  clear hT hV hA
  generalize prpE t z r = E at *
  generalize prpX t z r = X at *
  obtain ⟨na, nc, rfl⟩ := seq_slice hn
  obtain ⟨sa, sc, rfl⟩ := seq_slice hs
  clear hn hs hw htab hl hls
  obtain ⟨ro, rs, rp, rd, rv, rf⟩ := r
  obtain ⟨xz, xo, xs, xp, xd, xv, xw⟩ := X
  unfold rqV txnV at *
  simp only at *
  have R00 := hide (TR.new w t.z (.slice na t.ns.length nc) (.slice sa t.ss.length sc) ⟨ro, rs, rp, rd, rv, rf⟩)
  have B00 : Hid (Below w.heap.size w ((w.alloc (.cells #[.int .i64 t.z, .slice na t.ns.length nc, .slice sa t.ss.length sc] 25)).alloc (.cells #[.int .i64 ro, .int .i64 rs, .string ⟨rp.toArray⟩, .string ⟨rd.toArray⟩, .int .i64 rv, .int .i64 rf] 27))) := hide (nnext (allocB _ _) (allocB _ _))
  go_enter Tryz.func4, Tryz.ntmps4
  go_upto_region 1 with fail
  simp only at R00
  obtain ⟨w1, hw1⟩ : ∃ w1, ((w.alloc (.cells #[.int .i64 t.z, .slice na t.ns.length nc, .slice sa t.ss.length sc] 25)).alloc (.cells #[.int .i64 ro, .int .i64 rs, .string ⟨rp.toArray⟩, .string ⟨rd.toArray⟩, .int .i64 rv, .int .i64 rf] 27)) = w1 := ⟨_, rfl⟩
  rw [hw1] at R00 B00 ⊢
  have R0 := R00
  have B1 := B00
  have hq := (unhide R0).lt
  have C1 := hide (unhide CO w1 (unhide B1))
  have C2 := hide (unhide CQ w1 (unhide B1))
  clear hw1 R00 B00 CQ
  go_cut [7, 8] from 12 (fun tx te wx => ∃ q, tx = .pointer (some ⟨q, 0, none⟩) ∧ te = .int .i64 E ∧ Hid (PrX w1 wx q ⟨xz, xo, xs, xp, xd, xv, xw⟩))
  case first =>
    clear CO CM KP KN CA CW KF
    go_region_held3 (fun w' => w'.cell? ⟨w.heap.size, 0, none⟩ = some (.int .i64 t.z) ∧ w'.cell? ⟨w.heap.size, 1, none⟩ = some (.slice na t.ns.length nc) ∧ w'.cell? ⟨w.heap.size, 2, none⟩ = some (.slice sa t.ss.length sc) ∧ w'.cell? ⟨w.heap.size + 1, 0, none⟩ = some (.int .i64 ro) ∧ w'.cell? ⟨w.heap.size + 1, 1, none⟩ = some (.int .i64 rs) ∧ w'.cell? ⟨w.heap.size + 1, 2, none⟩ = some (.string ⟨rp.toArray⟩) ∧ w'.cell? ⟨w.heap.size + 1, 3, none⟩ = some (.string ⟨rd.toArray⟩) ∧ w'.cell? ⟨w.heap.size + 1, 4, none⟩ = some (.int .i64 rv) ∧ w'.cell? ⟨w.heap.size + 1, 5, none⟩ = some (.int .i64 rf)) (first | with_reducible exact (unhide R0).nine | with_reducible exact (unhide R0).drew.nine | with_reducible exact ((unhide R0).next (allocB _ _)).nine | with_reducible exact ((unhide R0).next (allocB _ _)).drew.nine | with_reducible exact ((unhide R0).drew.next (allocB _ _)).nine | with_reducible exact (unhide aX1).nine | with_reducible exact ((unhide aX1).next (allocB _ _)).nine | with_reducible exact (unhide aX2).nine | with_reducible exact ((unhide aX2).next (allocB _ _)).nine | with_reducible exact ((((((((unhide aX2).other _ (by simp only; omega)).other _ (by simp only; omega)).other _ (by simp only; omega)).other _ (by simp only; omega)).other _ (by simp only; omega)).other _ (by simp only; omega)).other _ (by simp only; omega)).nine) (first
      | (go_at_call 12; refine (unhide C1 _ (by first | with_reducible exact (Below.refl _ _).drew | with_reducible exact (allocB _ _).drew | with_reducible exact nnext (Below.refl _ _).drew (allocB _ _))).mono ?_; rintro e aw1 ⟨avn1, avs1, rfl, on1, os1, hb1⟩; have aB1 : Hid (Below w1.heap.size w1 aw1) := hide (nnext (by first | with_reducible exact (Below.refl _ _).drew | with_reducible exact (allocB _ _).drew | with_reducible exact nnext (Below.refl _ _).drew (allocB _ _)) hb1); have aN1 := hide on1.seq; have aS1 := hide os1.seq; have aX1 := hide ((unhide R0).next (unhide aB1)); have ah1 := (unhide aB1).size; (try have aZ1 : Hid (TAt aw1 w1.heap.size t0) := hide ((hb1.block _ (by simp)).trans (heap_alloc_new w1 _))); clear on1 os1 hb1)
      | (go_at_call 7; refine (unhide C2 _ (by first | with_reducible exact unhide aB1 | with_reducible exact nnext (unhide aB1) (allocB _ _)) _ _ (by first | with_reducible exact unhide aN1 | with_reducible exact (unhide aN1).next (allocB _ _)) (by first | with_reducible exact unhide aS1 | with_reducible exact (unhide aS1).next (allocB _ _))).mono ?_; rintro e aw2 ⟨rfl, hb2⟩; have aB2 : Hid (Below w1.heap.size w1 aw2) := (by first | with_reducible exact hide (nnext (unhide aB1) hb2) | with_reducible exact hide (nnext (unhide aB1) (nbox_then hb2))); have aX2 := hide ((unhide R0).next (unhide aB2)); have ah2 := hb2.size; (try (have ak1 := (unhide aZ1).lt; have aZ2 : Hid (TAt aw2 w1.heap.size t0) := hide ((hb2.block _ ak1).trans (unhide aZ1)); obtain ⟨⟨az0, az1, az2, az3, az4, az5, az6⟩, af0, af1, af2, af3, af4, af5, af6⟩ := zcells7 (unhide aZ2))); (try (have aY2 : Hid (TAt aw2 aw1.heap.size t0) := hide ((hb2.block _ (by simp)).trans (heap_alloc_new aw1 _)); obtain ⟨⟨ay0, ay1, ay2, ay3, ay4, ay5, ay6⟩, ag0, ag1, ag2, ag3, ag4, ag5, ag6⟩ := zcells7 (unhide aY2))); clear hb2))
    all_goals go_wp2_with fail
    all_goals go_meet
    all_goals refine ⟨_, rfl, rfl, hide ?_⟩
    all_goals first
      | with_reducible exact px_newF xz xo xs xp xd xv xw (unhide aB2)
      | with_reducible exact px_putF xz xo xs xp xd xv xw (unhide aB2) ah1 (unhide aY2)
      | with_reducible exact px_putF xz xo xs xp xd xv xw (unhide aB2) (Nat.le_refl _) (unhide aZ2)
  case rest =>
    obtain ⟨q, rfl, rfl, A1⟩ := hcut
    have R1 := hide ((unhide R0).next (unhide A1).b)
    have B2 := hide (nnext (unhide B1) (unhide A1).b)
    clear C1 C2
    by_cases hE : E = 0
    · subst hE
      have P := unhide KP rfl
      obtain ⟨rfl, hTz⟩ := unhide KF rfl
      have HTZ := hide hTz
      have HP := hide P
      clear KP KN KF P hTz
      go_wp2_with fail
      refine (unhide CM _ (unhide B2)).mono ?_
      rintro e w2 ⟨rfl, hb2⟩
      have A2 := hide ((unhide A1).next hb2)
      have R2 := hide ((unhide R1).next hb2)
      have B3 := hide (nnext (unhide B2) hb2)
      have X2 : Hid (TX w2 w.heap.size q t.z (.slice na t.ns.length nc) (.slice sa t.ss.length sc) ⟨xz, xo, xs, xp, xd, xv, xw⟩) := hide ⟨(unhide R2).t, (unhide A2).box⟩
      have C3 := hide (unhide CO w2 (unhide B3))
      obtain ⟨hq1, hq2⟩ := (unhide X2).lt
      have hqb := (unhide A2).qb
      clear hb2 A1 R1 B2 CO CM
      go_upto_region 4 with fail
      go_cut [9, 10, 11] from 12 (fun ta tv te wx => ∃ q an cn ai ci ae ce, ta = .pointer (some ⟨q, 0, none⟩) ∧ tv = .slice ae (V).length ce ∧ te = .int .i64 0 ∧ Hid (AppX w2 wx q T V (.slice an (T).ns.length cn) (.slice ai (T).ss.length ci) (.slice ae (V).length ce)))
      case first =>
        clear CW HP HTZ
        go_region_held3 (fun w' => w'.cell? ⟨w.heap.size, 0, none⟩ = some (.int .i64 t.z) ∧ w'.cell? ⟨w.heap.size, 1, none⟩ = some (.slice na t.ns.length nc) ∧ w'.cell? ⟨w.heap.size, 2, none⟩ = some (.slice sa t.ss.length sc) ∧ w'.cell? ⟨q, 0, none⟩ = some (.int .i64 xz) ∧ w'.cell? ⟨q, 1, none⟩ = some (.int .i64 xo) ∧ w'.cell? ⟨q, 2, none⟩ = some (.int .i64 xs) ∧ w'.cell? ⟨q, 3, none⟩ = some (.string ⟨xp.toArray⟩) ∧ w'.cell? ⟨q, 4, none⟩ = some (.string ⟨xd.toArray⟩) ∧ w'.cell? ⟨q, 5, none⟩ = some (.int .i64 xv) ∧ w'.cell? ⟨q, 6, none⟩ = some (.int .i64 xw)) (first | with_reducible exact (unhide X2).ten | with_reducible exact (unhide X2).drew.ten | with_reducible exact ((unhide X2).next (allocB _ _)).ten | with_reducible exact ((unhide X2).next (allocB _ _)).drew.ten | with_reducible exact ((unhide X2).drew.next (allocB _ _)).ten | with_reducible exact (unhide bX1).ten | with_reducible exact ((unhide bX1).next (allocB _ _)).ten | with_reducible exact (unhide bX2).ten | with_reducible exact ((unhide bX2).next (allocB _ _)).ten | with_reducible exact ((((unhide bX2).other _ (by simp only; omega) (by simp only; omega)).other _ (by simp only; omega) (by simp only; omega)).other _ (by simp only; omega) (by simp only; omega)).ten) (first
          | (go_at_call 12; refine (unhide C3 _ (by first | with_reducible exact (Below.refl _ _).drew | with_reducible exact (allocB _ _).drew | with_reducible exact nnext (Below.refl _ _).drew (allocB _ _))).mono ?_; rintro e bw1 ⟨bvn1, bvs1, rfl, on1, os1, hb1⟩; have bB1 : Hid (Below w2.heap.size w2 bw1) := hide (nnext (by first | with_reducible exact (Below.refl _ _).drew | with_reducible exact (allocB _ _).drew | with_reducible exact nnext (Below.refl _ _).drew (allocB _ _)) hb1); have bN1 := hide on1.seq; have bS1 := hide os1.seq; have bX1 := hide ((unhide X2).next (unhide bB1)); have bh1 := (unhide bB1).size; (try have bZ1 : Hid (bw1.heap[w2.heap.size]? = some (.cells #[.int .i64 0, .slice none 0 0, .slice none 0 0] 25 (0, 0))) := hide ((hb1.block _ (by simp)).trans (heap_alloc_new w2 _))); clear on1 os1 hb1)
          | (go_at_call 14; refine (unhide CA _ _ _ (by first | with_reducible exact unhide bN1 | with_reducible exact (unhide bN1).next (allocB _ _)) (by first | with_reducible exact unhide bS1 | with_reducible exact (unhide bS1).next (allocB _ _))).mono ?_; rintro e bw2 ⟨bvn2, bvs2, bve2, rfl, n2, s2, e2, hb2⟩; have bB2 : Hid (Below w2.heap.size w2 bw2) := (by first | with_reducible exact hide (nnext (unhide bB1) hb2) | with_reducible exact hide (nnext (unhide bB1) (nbox_then hb2))); have bX2 := hide ((unhide X2).next (unhide bB2)); have bh2 := hb2.size; (try (have bk1 := (Array.getElem?_eq_some_iff.1 (unhide bZ1)).1; have bZ2 := hide ((hb2.block _ bk1).trans (unhide bZ1)); obtain ⟨bz0, bz1, bz2, bz3, bz4, bz5⟩ := zcells (unhide bZ2))); (try (have bY2 : Hid (bw2.heap[bw1.heap.size]? = some (.cells #[.int .i64 0, .slice none 0 0, .slice none 0 0] 25 (0, 0))) := hide ((hb2.block _ (by simp)).trans (heap_alloc_new bw1 _)); obtain ⟨by0, by1, by2, by3, by4, by5⟩ := zcells (unhide bY2))); obtain ⟨ban, bcn, rfl, _⟩ := n2.slice; obtain ⟨bai, bci, rfl, _⟩ := s2.slice; obtain ⟨bae, bce, rfl, _⟩ := e2.slice; have bn2 := hide n2; have bs2 := hide s2; have be2 := hide e2; clear n2 s2 e2 hb2))
        all_goals go_wp2_with fail
        all_goals go_meet
        all_goals first
          | exact ⟨_, ban, bcn, bai, bci, bae, bce, rfl, rfl, rfl, hide (app_new (unhide bB2) bh1 (unhide bn2) (unhide bs2) (unhide be2))⟩
          | exact ⟨_, ban, bcn, bai, bci, bae, bce, rfl, rfl, rfl, hide (app_put (unhide bB2) bh1 (by simp) (unhide bY2) (unhide bn2) (unhide bs2) (unhide be2))⟩
          | exact ⟨_, ban, bcn, bai, bci, bae, bce, rfl, rfl, rfl, hide (app_put (unhide bB2) (Nat.le_refl _) bk1 (unhide bZ2) (unhide bn2) (unhide bs2) (unhide be2))⟩
      case rest =>
        rename_i wd
        obtain ⟨q2, an2, cn2, ai2, ci2, ae2, ce2, rfl, rfl, rfl, A3⟩ := hcut
        have X3 := hide ((unhide X2).next (unhide A3).b)
        have R3 := hide ((unhide R2).next (unhide A3).b)
        have B4 := hide (nnext (unhide B3) (unhide A3).b)
        obtain ⟨hap, haz, hz, ho, hs, hgd, hxw⟩ := unhide HP
        simp only at hz ho hs hxw
        rw [hgd] at CW
        clear hap haz hgd HP CA C3 R2 X2 B3 A2
        subst hz ho hs
        by_cases h0 : xw = 0
        · subst h0
          clear hxw
          obtain ⟨d0, d1, d2⟩ := (unhide A3).cells
          rw [unhide HTZ] at d0
          obtain ⟨x0, x1, x2, x3, x4, x5, x6, x7, x8, x9⟩ := (unhide X3).ten
          obtain ⟨b0, b1, b2, b3, b4, b5, b6, b7, b8⟩ := (unhide R3).nine
          simp only at x3 x4 x5 x6 x7 x8 x9 b3 b4 b5 b6 b7 b8
          have hlt := (unhide A3).lt
          go_wp2_with fail
          refine (unhide CW _).mono ?_
          rintro e w5 ⟨rfl, hb5⟩
          have X5 := hide ((unhide X3).next hb5)
          have R5 := hide ((unhide R3).next hb5)
          have B5 := hide (nnext (unhide B4) hb5)
          obtain ⟨y0, y1, y2, y3, y4, y5, y6, y7, y8, y9⟩ := (unhide X5).ten
          obtain ⟨e0, e1, e2, e3, e4, e5, e6, e7, e8⟩ := (unhide R5).nine
          simp only at y3 y4 y5 y6 y7 y8 y9 e3 e4 e5 e6 e7 e8
          clear x0 x1 x2 x3 x4 x5 x6 x7 x8 x9 b0 b1 b2 b3 b4 b5 b6 b7 b8 d0 d1 d2 hb5 CW
          go_wp2_with fail
          go_ret
          exact ⟨rfl, unhide B5⟩
        · have h0b : (xw == 0) = false := by simpa using h0
          obtain rfl : xw = xs := by omega
          clear hxw h0
          obtain ⟨d0, d1, d2⟩ := (unhide A3).cells
          rw [unhide HTZ] at d0
          obtain ⟨x0, x1, x2, x3, x4, x5, x6, x7, x8, x9⟩ := (unhide X3).ten
          obtain ⟨b0, b1, b2, b3, b4, b5, b6, b7, b8⟩ := (unhide R3).nine
          simp only at x3 x4 x5 x6 x7 x8 x9 b3 b4 b5 b6 b7 b8
          have hlt := (unhide A3).lt
          go_wp2_with fail
          refine (unhide CW _).mono ?_
          rintro e w5 ⟨rfl, hb5⟩
          have X5 := hide ((unhide X3).next hb5)
          have R5 := hide ((unhide R3).next hb5)
          have B5 := hide (nnext (unhide B4) hb5)
          obtain ⟨y0, y1, y2, y3, y4, y5, y6, y7, y8, y9⟩ := (unhide X5).ten
          obtain ⟨e0, e1, e2, e3, e4, e5, e6, e7, e8⟩ := (unhide R5).nine
          simp only at y3 y4 y5 y6 y7 y8 y9 e3 e4 e5 e6 e7 e8
          clear x0 x1 x2 x3 x4 x5 x6 x7 x8 x9 b0 b1 b2 b3 b4 b5 b6 b7 b8 d0 d1 d2 hb5 CW
          go_wp2_with fail
          go_ret
          exact ⟨rfl, unhide B5⟩
    · have hEb : (E != 0) = true := by simpa using hE
      have HN := unhide KN hE
      simp only [t0, WTxn.mk.injEq] at HN
      obtain ⟨rfl, rfl, rfl, rfl, rfl, rfl, rfl⟩ := HN
      obtain ⟨c0, c1, c2, c3, c4, c5, c6⟩ := (unhide A1).box.seven
      simp only at c0 c1 c2 c3 c4 c5 c6
      clear KP KN KF CA CW CO
      go_wp2_with fail
      refine (unhide CM _ (unhide B2)).mono ?_
      rintro e w2 ⟨rfl, hb2⟩
      have B3 := hide (nnext (unhide B2) hb2)
      clear hb2 B2 CM
      go_wp2_with fail
      go_ret
      exact ⟨rfl, unhide B3⟩

end Go.Proofs.YtalnmhgedfgooaaGreatDoor
