/-
  TreeKeeps: the walk.
-/
import Derived.Test.YtkbnneoapcmfiaaDoorMI
namespace Go.Proofs.YtkbnneoapcmfiaaDoor
open Go.RowKit

theorem keeps_plain {t : Tr} {x : WTxn} (h : appE t x = 0) : GoodT t ∧ GoodT (appT t x) ∧ (appT t x).z = x.z ∧ t.z < x.z ∧ appE (appT t x) x = 13 := by
  obtain ⟨g2, hz, hlt⟩ := app_good h
  obtain ⟨ha, _⟩ := app_zero h
  obtain ⟨g, hg, _⟩ := adm_zero ha
  refine ⟨g, g2, hz, hlt, ?_⟩
  have : admE (appT t x) x = 13 := by rw [adm_rest (goodT_true.2 g2) hg, if_pos (by omega)]
  rw [appE_adm (by omega), this]
theorem app_no {t : Tr} {x : WTxn} (h : appE t x ≠ 0) : appT t x = tr0 ∧ appV t x = [] := by
  exact ⟨by rw [appT, if_neg h], by rw [appV, if_neg h]⟩

set_option maxRecDepth 20000 in
set_option maxHeartbeats 8000000 in
theorem treeKeeps_walk (t : Tr) (vn vs : Value) (x : WTxn) (w : World) (hn : SeqV w vn t.ns) (hs : SeqV w vs t.ss) (hw : WfT t) (hl : t.ns.length * 88 ≤ 140737488355328) (hls : t.ss.length * 8 ≤ 140737488355328) (hd : x.d.length ≤ 140737488355328) :
    Calls Tryd.prog 5 #[.agg #[.int .i64 t.z, vn, vs], txnV x] w fun e w' => e = .returned (.bool true) ∧ Below w.heap.size w w' := by
  have CO := hide (fun W1 (h1 : Below w.heap.size w W1) W (hW : Below W1.heap.size W1 W) => own_any t vn vs W (hn.next (nnext h1 hW)) (hs.next (nnext h1 hW)) hl hls)
  have CA := hide (fun (W : World) (vn vs : Value) (hn : SeqV W vn t.ns) (hs : SeqV W vs t.ss) => apply_any t vn vs x W hn hs hw hd)
  have CG := hide (fun W (hW : Below w.heap.size w W) => tgood_any t vn vs W (hn.next hW) (hs.next hW) hw)
  have KP := hide (fun h => keeps_plain (t := t) (x := x) h)
  have KN := hide (fun h => app_no (t := t) (x := x) h)
  have CO2 := hide (fun (g : GoodT (appT t x)) (vn vs : Value) W1 (hn : SeqV W1 vn (appT t x).ns) (hs : SeqV W1 vs (appT t x).ss) W (hW : Below W1.heap.size W1 W) => own_any (appT t x) vn vs W (hn.next hW) (hs.next hW) (by have := g.nod.few; omega) (by have := sasc_len g.ses; omega))
  have CA2 := hide (fun (g : GoodT (appT t x)) (W : World) (vn vs : Value) (hn : SeqV W vn (appT t x).ns) (hs : SeqV W vs (appT t x).ss) => apply_any (appT t x) vn vs x W hn hs g.wf hd)
  have CG2 := hide (fun (g : GoodT (appT t x)) (vn vs : Value) (W : World) (hn : SeqV W vn (appT t x).ns) (hs : SeqV W vs (appT t x).ss) => tgood_any (appT t x) vn vs W hn hs g.wf)
  unfold GivesA at CA CA2
  obtain ⟨T, hT⟩ : ∃ T, appT t x = T := ⟨_, rfl⟩
  obtain ⟨V, hV⟩ : ∃ V, appV t x = V := ⟨_, rfl⟩
  obtain ⟨E, hE⟩ : ∃ E, appE t x = E := ⟨_, rfl⟩
  rw [hT] at CO2 CA2 CG2
  rw [hT, hV, hE] at CA
  rw [hT, hE] at KP
  rw [hT, hV, hE] at KN
  clear hT hV hE
  obtain ⟨T2, hT2⟩ : ∃ T2, appT T x = T2 := ⟨_, rfl⟩
  obtain ⟨V2, hV2⟩ : ∃ V2, appV T x = V2 := ⟨_, rfl⟩
  obtain ⟨E2, hE2⟩ : ∃ E2, appE T x = E2 := ⟨_, rfl⟩
  rw [hT2, hV2, hE2] at CA2
  rw [hE2] at KP
  clear hT2 hV2 hE2
  obtain ⟨na, nc, rfl⟩ := seq_slice hn
  obtain ⟨sa, sc, rfl⟩ := seq_slice hs
  clear hn hs hw
  obtain ⟨xz, xo, xs, xp, xd, xv, xw⟩ := x
  unfold txnV at *
  simp only at *
  have X00 := hide (TX.new w t.z (.slice na t.ns.length nc) (.slice sa t.ss.length sc) ⟨xz, xo, xs, xp, xd, xv, xw⟩)
  have B00 : Hid (Below w.heap.size w ((w.alloc (.cells #[.int .i64 t.z, .slice na t.ns.length nc, .slice sa t.ss.length sc] 25)).alloc (.cells #[.int .i64 xz, .int .i64 xo, .int .i64 xs, .string ⟨xp.toArray⟩, .string ⟨xd.toArray⟩, .int .i64 xv, .int .i64 xw] 43))) := hide (nnext (allocB _ _) (allocB _ _))
  go_enter Tryd.func5, Tryd.ntmps5
  go_wp2_with fail
  refine (grows_true _).mono ?_
  rintro e w1 ⟨rfl, hb1⟩
  have B1 := hide (nnext (unhide B00) hb1)
  have X0 := hide ((unhide X00).next hb1)
  obtain ⟨hq1, hq2⟩ := (unhide X0).lt
  have C1 := hide (unhide CO w1 (unhide B1))
  clear hb1 X00 B00 CO
  go_upto_region 3 with fail
  go_cut [5, 6, 7] from 11 (fun t5 t6 t7 wx => ∃ q an cn ai ci ae ce, t5 = .pointer (some ⟨q, 0, none⟩) ∧ t6 = .slice ae (V).length ce ∧ t7 = .int .i64 E ∧ Hid (AppX w1 wx q T V (.slice an (T).ns.length cn) (.slice ai (T).ss.length ci) (.slice ae (V).length ce)))
  case first =>
    clear CG KP KN CO2 CA2 CG2
    go_region_held3 (fun w' => w'.cell? ⟨w.heap.size, 0, none⟩ = some (.int .i64 t.z) ∧ w'.cell? ⟨w.heap.size, 1, none⟩ = some (.slice na t.ns.length nc) ∧ w'.cell? ⟨w.heap.size, 2, none⟩ = some (.slice sa t.ss.length sc) ∧ w'.cell? ⟨(w.heap.size + 1), 0, none⟩ = some (.int .i64 xz) ∧ w'.cell? ⟨(w.heap.size + 1), 1, none⟩ = some (.int .i64 xo) ∧ w'.cell? ⟨(w.heap.size + 1), 2, none⟩ = some (.int .i64 xs) ∧ w'.cell? ⟨(w.heap.size + 1), 3, none⟩ = some (.string ⟨xp.toArray⟩) ∧ w'.cell? ⟨(w.heap.size + 1), 4, none⟩ = some (.string ⟨xd.toArray⟩) ∧ w'.cell? ⟨(w.heap.size + 1), 5, none⟩ = some (.int .i64 xv) ∧ w'.cell? ⟨(w.heap.size + 1), 6, none⟩ = some (.int .i64 xw)) (first | with_reducible exact (unhide X0).ten | with_reducible exact (unhide X0).drew.ten | with_reducible exact ((unhide X0).next (allocB _ _)).ten | with_reducible exact ((unhide X0).next (allocB _ _)).drew.ten | with_reducible exact ((unhide X0).drew.next (allocB _ _)).ten | with_reducible exact (unhide aX1).ten | with_reducible exact ((unhide aX1).next (allocB _ _)).ten | with_reducible exact (unhide aX2).ten | with_reducible exact ((unhide aX2).next (allocB _ _)).ten | with_reducible exact ((((unhide aX2).other _ (by simp only; omega) (by simp only; omega)).other _ (by simp only; omega) (by simp only; omega)).other _ (by simp only; omega) (by simp only; omega)).ten) (first
      | (go_at_call 26; refine (unhide C1 _ (by first | with_reducible exact (Below.refl _ _).drew | with_reducible exact (allocB _ _).drew | with_reducible exact nnext (Below.refl _ _).drew (allocB _ _))).mono ?_; rintro e aw1 ⟨avn1, avs1, rfl, on1, os1, hb1⟩; have aB1 : Hid (Below w1.heap.size w1 aw1) := hide (nnext (by first | with_reducible exact (Below.refl _ _).drew | with_reducible exact (allocB _ _).drew | with_reducible exact nnext (Below.refl _ _).drew (allocB _ _)) hb1); have aN1 := hide on1.seq; have aS1 := hide os1.seq; have aX1 := hide ((unhide X0).next (unhide aB1)); have ah1 := (unhide aB1).size; (try have aZ1 : Hid (aw1.heap[w1.heap.size]? = some (.cells #[.int .i64 0, .slice none 0 0, .slice none 0 0] 25 (0, 0))) := hide ((hb1.block _ (by simp)).trans (heap_alloc_new w1 _))); clear on1 os1 hb1)
      | (go_at_call 21; refine (unhide CA _ _ _ (by first | with_reducible exact unhide aN1 | with_reducible exact (unhide aN1).next (allocB _ _)) (by first | with_reducible exact unhide aS1 | with_reducible exact (unhide aS1).next (allocB _ _))).mono ?_; rintro e aw2 ⟨avn2, avs2, ave2, rfl, n2, s2, e2, hb2⟩; have aB2 : Hid (Below w1.heap.size w1 aw2) := (by first | with_reducible exact hide (nnext (unhide aB1) hb2) | with_reducible exact hide (nnext (unhide aB1) (nbox_then hb2))); have aX2 := hide ((unhide X0).next (unhide aB2)); have ah2 := hb2.size; (try (have ak1 := (Array.getElem?_eq_some_iff.1 (unhide aZ1)).1; have aZ2 := hide ((hb2.block _ ak1).trans (unhide aZ1)); obtain ⟨az0, az1, az2, az3, az4, az5⟩ := zcells (unhide aZ2))); (try (have aY2 : Hid (aw2.heap[aw1.heap.size]? = some (.cells #[.int .i64 0, .slice none 0 0, .slice none 0 0] 25 (0, 0))) := hide ((hb2.block _ (by simp)).trans (heap_alloc_new aw1 _)); obtain ⟨ay0, ay1, ay2, ay3, ay4, ay5⟩ := zcells (unhide aY2))); obtain ⟨aan, acn, rfl, _⟩ := n2.slice; obtain ⟨aai, aci, rfl, _⟩ := s2.slice; obtain ⟨aae, ace, rfl, _⟩ := e2.slice; have an2 := hide n2; have as2 := hide s2; have ae2 := hide e2; clear n2 s2 e2 hb2))
    all_goals go_wp2_with fail
    all_goals go_meet
    all_goals first
      | exact ⟨_, aan, acn, aai, aci, aae, ace, rfl, rfl, rfl, hide (app_new (unhide aB2) ah1 (unhide an2) (unhide as2) (unhide ae2))⟩
      | exact ⟨_, aan, acn, aai, aci, aae, ace, rfl, rfl, rfl, hide (app_put (unhide aB2) ah1 (by simp) (unhide aY2) (unhide an2) (unhide as2) (unhide ae2))⟩
      | exact ⟨_, aan, acn, aai, aci, aae, ace, rfl, rfl, rfl, hide (app_put (unhide aB2) (Nat.le_refl _) ak1 (unhide aZ2) (unhide an2) (unhide as2) (unhide ae2))⟩
  case rest =>
    obtain ⟨q, an, cn, ai, ci, ae, ce, rfl, rfl, rfl, A1⟩ := hcut
    obtain ⟨c0, c1, c2⟩ := (unhide A1).cells
    have X1 := hide ((unhide X0).next (unhide A1).b)
    have B2 := hide (nnext (unhide B1) (unhide A1).b)
    obtain ⟨hq3, hq4⟩ := (unhide X1).lt
    have hq5 := (unhide A1).lt
    have hq6 := (unhide A1).qb
    clear CA C1
    by_cases hE : E = 0
    · obtain ⟨g, gT, hz, hlt, hE2⟩ := unhide KP hE
      have HF := hide (unhide CO2 gT _ _ wc (unhide A1).n.seq (unhide A1).s.seq)
      have HA := hide (unhide CA2 gT)
      have HGT := hide (unhide CG2 gT (.slice an T.ns.length cn) (.slice ai T.ss.length ci))
      rw [goodT_true.2 g] at CG
      rw [goodT_true.2 gT] at HGT
      have XX : Hid (TX wc q (w.heap.size + 1) T.z (.slice an T.ns.length cn) (.slice ai T.ss.length ci) ⟨xz, xo, xs, xp, xd, xv, xw⟩) := ⟨(unhide A1).box, (unhide X1).x⟩
      subst hE hE2
      clear KP KN CO2 CA2 CG2 g gT
      have HZ := hide hz
      have HLT := hide (show t.z < T.z by omega)
      clear hz hlt
      go_upto_region 6 with fail
      go_cut [8, 9, 10] from 11 (fun t8 t9 t10 wx => ∃ q an cn ai ci ae ce, t8 = .pointer (some ⟨q, 0, none⟩) ∧ t9 = .slice ae (V2).length ce ∧ t10 = .int .i64 13 ∧ Hid (AppX wc wx q T2 V2 (.slice an (T2).ns.length cn) (.slice ai (T2).ss.length ci) (.slice ae (V2).length ce)))
      case first =>
        clear CG HGT
        go_region_held3 (fun w' => w'.cell? ⟨q, 0, none⟩ = some (.int .i64 T.z) ∧ w'.cell? ⟨q, 1, none⟩ = some (.slice an T.ns.length cn) ∧ w'.cell? ⟨q, 2, none⟩ = some (.slice ai T.ss.length ci) ∧ w'.cell? ⟨(w.heap.size + 1), 0, none⟩ = some (.int .i64 xz) ∧ w'.cell? ⟨(w.heap.size + 1), 1, none⟩ = some (.int .i64 xo) ∧ w'.cell? ⟨(w.heap.size + 1), 2, none⟩ = some (.int .i64 xs) ∧ w'.cell? ⟨(w.heap.size + 1), 3, none⟩ = some (.string ⟨xp.toArray⟩) ∧ w'.cell? ⟨(w.heap.size + 1), 4, none⟩ = some (.string ⟨xd.toArray⟩) ∧ w'.cell? ⟨(w.heap.size + 1), 5, none⟩ = some (.int .i64 xv) ∧ w'.cell? ⟨(w.heap.size + 1), 6, none⟩ = some (.int .i64 xw)) (first | with_reducible exact (unhide XX).ten | with_reducible exact (unhide XX).drew.ten | with_reducible exact ((unhide XX).next (allocB _ _)).ten | with_reducible exact ((unhide XX).next (allocB _ _)).drew.ten | with_reducible exact ((unhide XX).drew.next (allocB _ _)).ten | with_reducible exact (unhide bX1).ten | with_reducible exact ((unhide bX1).next (allocB _ _)).ten | with_reducible exact (unhide bX2).ten | with_reducible exact ((unhide bX2).next (allocB _ _)).ten | with_reducible exact ((((unhide bX2).other _ (by simp only; omega) (by simp only; omega)).other _ (by simp only; omega) (by simp only; omega)).other _ (by simp only; omega) (by simp only; omega)).ten) (first
          | (go_at_call 26; refine (unhide HF _ (by first | with_reducible exact (Below.refl _ _).drew | with_reducible exact (allocB _ _).drew | with_reducible exact nnext (Below.refl _ _).drew (allocB _ _))).mono ?_; rintro e bw1 ⟨bvn1, bvs1, rfl, on1, os1, hb1⟩; have bB1 : Hid (Below wc.heap.size wc bw1) := hide (nnext (by first | with_reducible exact (Below.refl _ _).drew | with_reducible exact (allocB _ _).drew | with_reducible exact nnext (Below.refl _ _).drew (allocB _ _)) hb1); have bN1 := hide on1.seq; have bS1 := hide os1.seq; have bX1 := hide ((unhide XX).next (unhide bB1)); have bh1 := (unhide bB1).size; (try have bZ1 : Hid (bw1.heap[wc.heap.size]? = some (.cells #[.int .i64 0, .slice none 0 0, .slice none 0 0] 25 (0, 0))) := hide ((hb1.block _ (by simp)).trans (heap_alloc_new wc _))); clear on1 os1 hb1)
          | (go_at_call 21; refine (unhide HA _ _ _ (by first | with_reducible exact unhide bN1 | with_reducible exact (unhide bN1).next (allocB _ _)) (by first | with_reducible exact unhide bS1 | with_reducible exact (unhide bS1).next (allocB _ _))).mono ?_; rintro e bw2 ⟨bvn2, bvs2, bve2, rfl, n2, s2, e2, hb2⟩; have bB2 : Hid (Below wc.heap.size wc bw2) := (by first | with_reducible exact hide (nnext (unhide bB1) hb2) | with_reducible exact hide (nnext (unhide bB1) (nbox_then hb2))); have bX2 := hide ((unhide XX).next (unhide bB2)); have bh2 := hb2.size; (try (have bk1 := (Array.getElem?_eq_some_iff.1 (unhide bZ1)).1; have bZ2 := hide ((hb2.block _ bk1).trans (unhide bZ1)); obtain ⟨bz0, bz1, bz2, bz3, bz4, bz5⟩ := zcells (unhide bZ2))); (try (have bY2 : Hid (bw2.heap[bw1.heap.size]? = some (.cells #[.int .i64 0, .slice none 0 0, .slice none 0 0] 25 (0, 0))) := hide ((hb2.block _ (by simp)).trans (heap_alloc_new bw1 _)); obtain ⟨by0, by1, by2, by3, by4, by5⟩ := zcells (unhide bY2))); obtain ⟨ban, bcn, rfl, _⟩ := n2.slice; obtain ⟨bai, bci, rfl, _⟩ := s2.slice; obtain ⟨bae, bce, rfl, _⟩ := e2.slice; have bn2 := hide n2; have bs2 := hide s2; have be2 := hide e2; clear n2 s2 e2 hb2))
        all_goals go_wp2_with fail
        all_goals go_meet
        all_goals first
          | exact ⟨_, ban, bcn, bai, bci, bae, bce, rfl, rfl, rfl, hide (app_new (unhide bB2) bh1 (unhide bn2) (unhide bs2) (unhide be2))⟩
          | exact ⟨_, ban, bcn, bai, bci, bae, bce, rfl, rfl, rfl, hide (app_put (unhide bB2) bh1 (by simp) (unhide bY2) (unhide bn2) (unhide bs2) (unhide be2))⟩
          | exact ⟨_, ban, bcn, bai, bci, bae, bce, rfl, rfl, rfl, hide (app_put (unhide bB2) (Nat.le_refl _) bk1 (unhide bZ2) (unhide bn2) (unhide bs2) (unhide be2))⟩
      case rest =>
        rename_i wd
        obtain ⟨q2, an2, cn2, ai2, ci2, ae2, ce2, rfl, rfl, rfl, A2⟩ := hcut
        have A3 := hide ((unhide A1).next (unhide A2).b)
        have X3 := hide ((unhide X1).next (unhide A2).b)
        have B3 := hide (nnext (unhide B2) (unhide A2).b)
        obtain ⟨d0, d1, d2⟩ := (unhide A3).cells
        obtain ⟨x0, x1, x2, x3, _⟩ := (unhide X3).ten
        clear c0 c1 c2 HF HA
        go_wp2_with fail
        refine (unhide CG _ (unhide B3)).mono ?_
        rintro e w4 ⟨rfl, hb4⟩
        have A4 := hide ((unhide A3).next hb4)
        have X4 := hide ((unhide X3).next hb4)
        have B4 := hide (nnext (unhide B3) hb4)
        obtain ⟨f0, f1, f2⟩ := (unhide A4).cells
        clear hb4 d0 d1 d2 x0 x1 x2 x3
        go_wp2_with fail
        refine (unhide HGT _ (unhide A4).n.seq (unhide A4).s.seq).mono ?_
        rintro e w5 ⟨rfl, hb5⟩
        have A5 := hide ((unhide A4).next hb5)
        have X5 := hide ((unhide X4).next hb5)
        have B5 := hide (nnext (unhide B4) hb5)
        obtain ⟨g0, g1, g2⟩ := (unhide A5).cells
        obtain ⟨y0, y1, y2, y3, _⟩ := (unhide X5).ten
        clear hb5 f0 f1 f2
        have hzb : (T.z == xz) = true := by simpa using unhide HZ
        have hgt2 : decide (t.z < T.z) = true := decide_eq_true (unhide HLT)
        go_wp2_with fail
        go_ret
        exact ⟨rfl, unhide B5⟩
    · have hb : (E != 0) = true := by simpa using hE
      obtain ⟨rfl, rfl⟩ := unhide KN hE
      clear KP KN CO2 CA2 CG2 CG hE
      have z1 : tr0.ns.length = 0 := rfl
      have z2 : tr0.ss.length = 0 := rfl
      rw [z1] at c1
      rw [z2] at c2
      go_wp2_with fail
      go_ret
      exact ⟨rfl, unhide B2⟩

end Go.Proofs.YtkbnneoapcmfiaaDoor
