/-
  TreeSets: the walk.
-/
import Derived.Test.YtkbnneoapcmfiaaDoorMJ
namespace Go.Proofs.YtkbnneoapcmfiaaDoor
open Go.RowKit

structure SetP (t : Tr) (x : WTxn) (T : Tr) (V : List Ev) : Prop where
  few : t.ns.length ≤ 400
  len : T.ns.length = t.ns.length
  ev : V = [⟨3, x.p⟩]
  hit : ∀ (i : Nat) (n : Nd), t.ns[i]? = some n → n.p = x.p → T.ns[i]? = some ⟨n.p, x.d, n.c, x.z, n.q, n.v + 1, n.k, n.o, n.n⟩ ∧ 0 ≤ n.v ∧ n.v ≤ 2147483647
  miss : ∀ (i : Nat) (n : Nd), t.ns[i]? = some n → n.p ≠ x.p → T.ns[i]? = some n
theorem sets_plain {t : Tr} {x : WTxn} (h : appE t x = 0) (ho : x.o = 5) : SetP t x (appT t x) (appV t x) := by
  obtain ⟨ha, hc, _⟩ := app_zero h
  obtain ⟨g, _⟩ := adm_zero ha
  have hN : chgN t x = setAt x.p x.d x.v x.z t.ns := by rw [chgN, if_neg (by omega), if_neg (by omega), if_neg (by omega), if_pos ho]
  have hV : chgV t x = [⟨3, x.p⟩] := by rw [chgV, if_neg (by omega), if_neg (by omega), if_neg (by omega), if_pos ho]
  rw [chgE, if_neg (by omega), if_neg (by omega), if_pos ho] at hc
  obtain ⟨m, hm, hv⟩ := set_zero hc
  have e1 : (appT t x).ns = setAt x.p x.d x.v x.z t.ns := by rw [appT, if_pos h, ← hN]
  have hm2 := lookN_some hm
  refine ⟨g.nod.few, by rw [e1, setAt, List.length_map], by rw [appV, if_pos h, hV], fun i n hn hp => ?_, fun i n hn hp => ?_⟩
  · have : n = m := nasc_uniq g.nod.asc (List.mem_of_getElem? hn) hm2.1 (by rw [hp, hm2.2])
    subst this
    have k := g.nod.ok n hm2.1
    rw [e1, setAt, List.getElem?_map, hn, ← hv]
    exact ⟨by simp [hp], k.v0, k.v1⟩
  · rw [e1, setAt, List.getElem?_map, hn]
    simp [hp]

set_option maxRecDepth 20000 in
set_option maxHeartbeats 8000000 in
theorem treeSets_walk (t : Tr) (vn vs : Value) (x : WTxn) (w : World) (hn : SeqV w vn t.ns) (hs : SeqV w vs t.ss) (hw : WfT t) (hl : t.ns.length * 88 ≤ 140737488355328) (hls : t.ss.length * 8 ≤ 140737488355328) (hd : x.d.length ≤ 140737488355328) :
    Calls Tryd.prog 7 #[.agg #[.int .i64 t.z, vn, vs], txnV x] w fun e w' => e = .returned (.bool true) ∧ Below w.heap.size w w' := by
  have CO := hide (fun W1 (h1 : Below w.heap.size w W1) W (hW : Below W1.heap.size W1 W) => own_any t vn vs W (hn.next (nnext h1 hW)) (hs.next (nnext h1 hW)) hl hls)
  have CA := hide (fun (W : World) (vn vs : Value) (hn : SeqV W vn t.ns) (hs : SeqV W vs t.ss) => apply_any t vn vs ⟨x.z, 5, x.s, x.p, x.d, x.v, x.w⟩ W hn hs hw hd)
  have KP := hide (fun h => sets_plain (t := t) (x := ⟨x.z, 5, x.s, x.p, x.d, x.v, x.w⟩) h rfl)
  have KR := hide (fun W (hW : Below w.heap.size w W) => hn.next hW)
  unfold GivesA at CA
  obtain ⟨T, hT⟩ : ∃ T, appT t ⟨x.z, 5, x.s, x.p, x.d, x.v, x.w⟩ = T := ⟨_, rfl⟩
  obtain ⟨V, hV⟩ : ∃ V, appV t ⟨x.z, 5, x.s, x.p, x.d, x.v, x.w⟩ = V := ⟨_, rfl⟩
  obtain ⟨E, hE⟩ : ∃ E, appE t ⟨x.z, 5, x.s, x.p, x.d, x.v, x.w⟩ = E := ⟨_, rfl⟩
  rw [hT, hV, hE] at CA KP
  clear hT hV hE
  obtain ⟨na, nc, rfl⟩ := seq_slice hn
  obtain ⟨sa, sc, rfl⟩ := seq_slice hs
  clear hn hs hw
  obtain ⟨xz, xo, xs, xp, xd, xv, xw⟩ := x
  unfold txnV at *
  simp only at *
  have X00 := hide (TX.new w t.z (.slice na t.ns.length nc) (.slice sa t.ss.length sc) ⟨xz, 5, xs, xp, xd, xv, xw⟩)
  have B00 : Hid (Below w.heap.size w ((w.alloc (.cells #[.int .i64 t.z, .slice na t.ns.length nc, .slice sa t.ss.length sc] 25)).alloc (.cells #[.int .i64 xz, .int .i64 5, .int .i64 xs, .string ⟨xp.toArray⟩, .string ⟨xd.toArray⟩, .int .i64 xv, .int .i64 xw] 43))) := hide (nnext (allocB _ _) (allocB _ _))
  obtain ⟨W1, hW1⟩ : ∃ W1, (w.alloc (.cells #[.int .i64 t.z, .slice na t.ns.length nc, .slice sa t.ss.length sc] 25)).alloc (.cells #[.int .i64 xz, .int .i64 5, .int .i64 xs, .string ⟨xp.toArray⟩, .string ⟨xd.toArray⟩, .int .i64 xv, .int .i64 xw] 43) = W1 := ⟨_, rfl⟩
  have HW1 := hide hW1
  rw [hW1] at X00 B00
  have C1 := hide (unhide CO W1 (unhide B00))
  obtain ⟨hq1, hq2⟩ := (unhide X00).lt
  clear hW1 CO
  go_enter Tryd.func7, Tryd.ntmps7
  go_upto_region 2 with fail
  simp only [unhide HW1]
  go_cut [5, 6, 7] from 10 (fun t5 t6 t7 wx => ∃ q an cn ai ci ae ce, t5 = .pointer (some ⟨q, 0, none⟩) ∧ t6 = .slice ae (V).length ce ∧ t7 = .int .i64 E ∧ Hid (AppX W1 wx q T V (.slice an (T).ns.length cn) (.slice ai (T).ss.length ci) (.slice ae (V).length ce)))
  case first =>
    clear KP KR HW1 B00
    go_region_held3 (fun w' => w'.cell? ⟨w.heap.size, 0, none⟩ = some (.int .i64 t.z) ∧ w'.cell? ⟨w.heap.size, 1, none⟩ = some (.slice na t.ns.length nc) ∧ w'.cell? ⟨w.heap.size, 2, none⟩ = some (.slice sa t.ss.length sc) ∧ w'.cell? ⟨(w.heap.size + 1), 0, none⟩ = some (.int .i64 xz) ∧ w'.cell? ⟨(w.heap.size + 1), 1, none⟩ = some (.int .i64 5) ∧ w'.cell? ⟨(w.heap.size + 1), 2, none⟩ = some (.int .i64 xs) ∧ w'.cell? ⟨(w.heap.size + 1), 3, none⟩ = some (.string ⟨xp.toArray⟩) ∧ w'.cell? ⟨(w.heap.size + 1), 4, none⟩ = some (.string ⟨xd.toArray⟩) ∧ w'.cell? ⟨(w.heap.size + 1), 5, none⟩ = some (.int .i64 xv) ∧ w'.cell? ⟨(w.heap.size + 1), 6, none⟩ = some (.int .i64 xw)) (first | with_reducible exact (unhide X00).ten | with_reducible exact (unhide X00).drew.ten | with_reducible exact ((unhide X00).next (allocB _ _)).ten | with_reducible exact ((unhide X00).next (allocB _ _)).drew.ten | with_reducible exact ((unhide X00).drew.next (allocB _ _)).ten | with_reducible exact (unhide aX1).ten | with_reducible exact ((unhide aX1).next (allocB _ _)).ten | with_reducible exact (unhide aX2).ten | with_reducible exact ((unhide aX2).next (allocB _ _)).ten | with_reducible exact ((((unhide aX2).other _ (by simp only; omega) (by simp only; omega)).other _ (by simp only; omega) (by simp only; omega)).other _ (by simp only; omega) (by simp only; omega)).ten) (first
      | (go_at_call 26; refine (unhide C1 _ (by first | with_reducible exact (Below.refl _ _).drew | with_reducible exact (allocB _ _).drew | with_reducible exact nnext (Below.refl _ _).drew (allocB _ _))).mono ?_; rintro e aw1 ⟨avn1, avs1, rfl, on1, os1, hb1⟩; have aB1 : Hid (Below W1.heap.size W1 aw1) := hide (nnext (by first | with_reducible exact (Below.refl _ _).drew | with_reducible exact (allocB _ _).drew | with_reducible exact nnext (Below.refl _ _).drew (allocB _ _)) hb1); have aN1 := hide on1.seq; have aS1 := hide os1.seq; have aX1 := hide ((unhide X00).next (unhide aB1)); have ah1 := (unhide aB1).size; (try have aZ1 : Hid (aw1.heap[W1.heap.size]? = some (.cells #[.int .i64 0, .slice none 0 0, .slice none 0 0] 25 (0, 0))) := hide ((hb1.block _ (by simp)).trans (heap_alloc_new W1 _))); clear on1 os1 hb1)
      | (go_at_call 21; refine (unhide CA _ _ _ (by first | with_reducible exact unhide aN1 | with_reducible exact (unhide aN1).next (allocB _ _)) (by first | with_reducible exact unhide aS1 | with_reducible exact (unhide aS1).next (allocB _ _))).mono ?_; rintro e aw2 ⟨avn2, avs2, ave2, rfl, n2, s2, e2, hb2⟩; have aB2 : Hid (Below W1.heap.size W1 aw2) := (by first | with_reducible exact hide (nnext (unhide aB1) hb2) | with_reducible exact hide (nnext (unhide aB1) (nbox_then hb2))); have aX2 := hide ((unhide X00).next (unhide aB2)); have ah2 := hb2.size; (try (have ak1 := (Array.getElem?_eq_some_iff.1 (unhide aZ1)).1; have aZ2 := hide ((hb2.block _ ak1).trans (unhide aZ1)); obtain ⟨az0, az1, az2, az3, az4, az5⟩ := zcells (unhide aZ2))); (try (have aY2 : Hid (aw2.heap[aw1.heap.size]? = some (.cells #[.int .i64 0, .slice none 0 0, .slice none 0 0] 25 (0, 0))) := hide ((hb2.block _ (by simp)).trans (heap_alloc_new aw1 _)); obtain ⟨ay0, ay1, ay2, ay3, ay4, ay5⟩ := zcells (unhide aY2))); obtain ⟨aan, acn, rfl, _⟩ := n2.slice; obtain ⟨aai, aci, rfl, _⟩ := s2.slice; obtain ⟨aae, ace, rfl, _⟩ := e2.slice; have an2 := hide n2; have as2 := hide s2; have ae2 := hide e2; clear n2 s2 e2 hb2))
    all_goals go_wp2_with fail
    all_goals go_meet
    all_goals first
      | exact ⟨_, aan, acn, aai, aci, aae, ace, rfl, rfl, rfl, hide (app_new (unhide aB2) ah1 (unhide an2) (unhide as2) (unhide ae2))⟩
      | exact ⟨_, aan, acn, aai, aci, aae, ace, rfl, rfl, rfl, hide (app_put (unhide aB2) ah1 (by simp) (unhide aY2) (unhide an2) (unhide as2) (unhide ae2))⟩
      | exact ⟨_, aan, acn, aai, aci, aae, ace, rfl, rfl, rfl, hide (app_put (unhide aB2) (Nat.le_refl _) ak1 (unhide aZ2) (unhide an2) (unhide as2) (unhide ae2))⟩
  case rest =>
    obtain ⟨q, an, cn, ai, ci, ae, ce, rfl, rfl, rfl, A1⟩ := hcut
    have B1 := hide (nnext (unhide B00) (unhide A1).b)
    by_cases hE : E = 0
    · subst hE
      have P := unhide KP rfl
      clear CA C1 HW1
      go_wp2_with fail
      refine (grows_true _).mono ?_
      rintro e w2 ⟨rfl, hb2⟩
      have A2 := hide ((unhide A1).next hb2)
      have X2 := hide ((unhide X00).next (unhide A2).b)
      have B2 := hide (nnext (unhide B1) hb2)
      obtain ⟨d0, d1, d2⟩ := (unhide A2).cells
      obtain ⟨x0, x1, x2, x3, x4, x5, x6, x7, x8, x9⟩ := (unhide X2).ten
      obtain ⟨few, hlen, hev, hit, miss⟩ := P
      rw [hlen] at d1
      have A3 := unhide A2
      rw [hev] at A3
      obtain ⟨eb, eo, ec, he, hebl, hrow, _, _⟩ := seq_row A3.e.seq (by simp)
      have r0 := hrow.e0 (i := 0) (x := ⟨3, xp⟩) rfl
      have r1 := hrow.e1 (i := 0) (x := ⟨3, xp⟩) rfl
      simp only [Nat.zero_mul, Nat.add_zero] at r0 r1
      subst hev
      simp only [Value.slice.injEq] at he
      obtain ⟨rfl, _, rfl⟩ := he
      have HI := hide hit
      have HM := hide miss
      have KA : ∀ W, Below w2.heap.size w2 W → ∀ (i : Nat) (m : Nd), T.ns[i]? = some m → ∃ g off, an = some ⟨g, off, none⟩ ∧ g < w2.heap.size ∧ RowAt W g off (cellsL T.ns) := by
        intro W hW i m hm
        obtain ⟨g, off, cap, e, hg, hr, _, _⟩ := seq_row (unhide A2).n.seq (by intro h0; rw [h0] at hm; simp at hm)
        simp only [Value.slice.injEq] at e
        exact ⟨g, off, e.1, hg, hr.kept hW hg⟩
      have KT : ∀ W, Below w2.heap.size w2 W → ∀ (i : Nat) (m : Nd), t.ns[i]? = some m → ∃ g off, na = some ⟨g, off, none⟩ ∧ g < w2.heap.size ∧ RowAt W g off (cellsL t.ns) := by
        intro W hW i m hm
        obtain ⟨g, off, cap, e, hg, hr, _, _⟩ := seq_row (unhide KR w2 (unhide B2)) (by intro h0; rw [h0] at hm; simp at hm)
        simp only [Value.slice.injEq] at e
        exact ⟨g, off, e.1, hg, hr.kept hW hg⟩
      have HKA := hide KA
      have HKT := hide KT
      clear hb2 KP hit miss A3 hrow KA KT KR
      have hl0 : ((t.ns.length : Int) != (t.ns.length : Int)) = false := by simp
      go_wp2_with fail
      go_region
      go_wp2_with fail
      go_loopg [8] t.ns.length (fun kx s8 wr => ∃ k : Nat, s8 = .int .i64 k ∧ k ≤ t.ns.length ∧ t.ns.length - k ≤ kx ∧ Hid (Below w2.heap.size w2 wr))
      case atStart => exact ⟨0, rfl, Nat.zero_le _, Nat.le_refl _, hide (by first | with_reducible exact Below.refl _ _ | with_reducible exact (Below.refl _ _).drew)⟩
      case round =>
        obtain ⟨k, rfl, hk, hg, hB⟩ := hrel
        have X3 := hide ((unhide X2).next (unhide hB))
        have A3 := hide ((unhide A2).next (unhide hB))
        obtain ⟨e0, e1, e2⟩ := (unhide A3).cells
        rw [hlen] at e1
        obtain ⟨y0, y1, y2, y3, y4, y5, y6, y7, y8, y9⟩ := (unhide X3).ten
        have hszr := (unhide hB).size
        have hq7 := (unhide A3).lt
        obtain ⟨hq8, hq9⟩ := (unhide X3).lt
        clear d0 d1 d2 x0 x1 x2 x3 x4 x5 x6 x7 x8 x9 r0 r1
        by_cases hlt : k < t.ns.length
        · obtain ⟨n, hn⟩ : ∃ n, t.ns[k]? = some n := ⟨_, List.getElem?_eq_getElem hlt⟩
          obtain ⟨gt, ot, rfl, hgt, qt⟩ := unhide HKT wr (unhide hB) k n hn
          have d0 := qt.n0 hn
          have d1 := qt.n1 hn
          have d2 := qt.n2 hn
          have d3 := qt.n3 hn
          have d4 := qt.n4 hn
          have d5 := qt.n5 hn
          have d6 := qt.n6 hn
          have d7 := qt.n7 hn
          have d8 := qt.n8 hn
          have hgtw : gt < wr.heap.size := by omega
          by_cases hp : n.p = xp
          · obtain ⟨hm, hv0, hv1⟩ := unhide HI k n hn hp
            obtain ⟨ga, oa, rfl, hga, qa⟩ := unhide HKA wr (unhide hB) k _ hm
            have r0 := qa.n0 hm
            have r1 := qa.n1 hm
            have r2 := qa.n2 hm
            have r3 := qa.n3 hm
            have r4 := qa.n4 hm
            have r5 := qa.n5 hm
            have r6 := qa.n6 hm
            have r7 := qa.n7 hm
            have r8 := qa.n8 hm
            have hgaw : ga < wr.heap.size := by omega
            have hpb : (n.p == xp) = true := by simpa using hp
            clear qt qa hn hm hp
            go_wp2_with fail
            go_region
            go_wp2_with fail
            go_region
            go_wp2_with fail
            go_roundg (t.ns.length - (k + 1))
            case measure => omega
            case rel => exact ⟨k + 1, rfl, by omega, Nat.le_refl _, hide (nnext (unhide hB) (by first | with_reducible exact (allocB _ _).drew.drew | with_reducible exact ((((allocB _ _).drew.setCell (by simp) _).setCell (by simp) _).setCell (by simp) _).drew | with_reducible exact (((((allocB _ _).setCell (by simp) _).setCell (by simp) _).setCell (by simp) _).drew).drew))⟩
          · have hm := unhide HM k n hn hp
            obtain ⟨ga, oa, rfl, hga, qa⟩ := unhide HKA wr (unhide hB) k _ hm
            have r0 := qa.n0 hm
            have r1 := qa.n1 hm
            have r2 := qa.n2 hm
            have r3 := qa.n3 hm
            have r4 := qa.n4 hm
            have r5 := qa.n5 hm
            have r6 := qa.n6 hm
            have r7 := qa.n7 hm
            have r8 := qa.n8 hm
            have hgaw : ga < wr.heap.size := by omega
            have hpb : (n.p == xp) = false := by simpa using hp
            clear qt qa hn hm hp
            go_wp2_with fail
            go_region
            go_wp2_with fail
            go_roundg (t.ns.length - (k + 1))
            case measure => omega
            case rel => exact ⟨k + 1, rfl, by omega, Nat.le_refl _, hide (nnext (unhide hB) (allocB _ _).drew)⟩
        · obtain rfl : k = t.ns.length := by omega
          go_wp2_with fail
          go_ret
          exact ⟨rfl, nnext (unhide B2) (unhide hB)⟩
    · have hb : (E != 0) = true := by simpa using hE
      clear CA C1 HW1 KP KR
      go_wp2_with fail
      refine (grows_true _).mono ?_
      rintro e w2 ⟨rfl, hb2⟩
      have B2 := hide (nnext (unhide B1) hb2)
      clear hb2
      go_wp2_with fail
      go_ret
      exact ⟨rfl, unhide B2⟩

end Go.Proofs.YtkbnneoapcmfiaaDoor
