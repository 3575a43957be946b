/-
  TreeApplies: the walk.
-/
import Derived.Test.YtabmelioindmlaaDoorMW
namespace Go.Proofs.YtabmelioindmlaaDoor
open Go.RowKit

set_option maxRecDepth 20000 in
set_option maxHeartbeats 8000000 in
theorem treeApplies_walk (t : Tr) (vn vs : Value) (x : WTxn) (w : World) (hn : SeqV w vn t.ns) (hs : SeqV w vs t.ss) (ar : Args t x) (hl : t.ns.length * 88 ≤ 140737488355328) (hls : t.ss.length * 8 ≤ 140737488351232) :
    Calls Tryd.prog 3 #[.agg #[.int .i64 t.z, vn, vs], txnV x] w fun e w' => e = .returned (.bool true) ∧ Below w.heap.size w w' := by
  have CO := hide (fun W1 (h1 : Below w.heap.size w W1) W (hW : Below W1.heap.size W1 W) => rcopyT_any t vn vs W (hn.next (nnext h1 hW)) (hs.next (nnext h1 hW)) hl (by omega))
  have CA := hide (fun (W : World) (vn vs : Value) (hn : SeqV W vn t.ns) (hs : SeqV W vs t.ss) => apply_any t vn vs x W hn hs ar.wf ar.xd)
  have CR := hide (fun W1 (h1 : Below w.heap.size w W1) W (hW : Below W1.heap.size W1 W) => rapply_any t x vn vs W (hn.next (nnext h1 hW)) (hs.next (nnext h1 hW)) ar hls)
  have CN := hide (fun (W : World) (vn vs : Value) (hn : SeqV W vn trNew.ns) (hs : SeqV W vs trNew.ss) => apply_any trNew vn vs topn W hn hs good_new.wf (by decide))
  have CS := hide (fun (vn vs un us : Value) W (hn : SeqV W vn (appT t x).ns) (hs : SeqV W vs (appT t x).ss) (gn : SeqV W un (appT t x).ns) (gs : SeqV W us (appT t x).ss) => rsameT_any (appT t x) vn vs un us W hn hs gn gs (app_short t x).1 (app_short t x).2.1)
  have CE := hide (fun (va vb : Value) W (ha : SeqV W va (appV t x)) (hb : SeqV W vb (appV t x)) => rsameE_any (appV t x) va vb W ha hb (app_short t x).2.2)
  unfold GivesA at CA CN
  unfold GivesR at CR
  rw [app_open.1, app_open.2] at CN
  obtain ⟨V3, hV3⟩ : ∃ V3, appV trNew topn = V3 := ⟨_, rfl⟩
  rw [hV3] at CN
  obtain ⟨T, hT⟩ : ∃ T, appT t x = T := ⟨_, rfl⟩
  obtain ⟨V, hV⟩ : ∃ V, appV t x = V := ⟨_, rfl⟩
  obtain ⟨E, hE⟩ : ∃ E, appE t x = E := ⟨_, rfl⟩
  rw [hT, hV, hE] at CA CR
  rw [hT] at CS
  rw [hV] at CE
  clear hT hV hE hV3
  obtain ⟨na, nc, rfl⟩ := seq_slice hn
  obtain ⟨sa, sc, rfl⟩ := seq_slice hs
  clear hn hs ar
  obtain ⟨xz, xo, xs, xp, xd, xv, xw⟩ := x
  unfold txnV at *
  simp only at *
  have X00 := hide (TX.new w t.z (.slice na t.ns.length nc) (.slice sa t.ss.length sc) ⟨xz, xo, xs, xp, xd, xv, xw⟩)
  have B00 : Hid (Below w.heap.size w ((w.alloc (.cells #[.int .i64 t.z, .slice na t.ns.length nc, .slice sa t.ss.length sc] 25)).alloc (.cells #[.int .i64 xz, .int .i64 xo, .int .i64 xs, .string ⟨xp.toArray⟩, .string ⟨xd.toArray⟩, .int .i64 xv, .int .i64 xw] 27))) := hide (nnext (allocB _ _) (allocB _ _))
  go_enter Tryd.func3, Tryd.ntmps3
  go_upto_region 1 with fail
  obtain ⟨w1, hw1⟩ : ∃ w1, (w.alloc (.cells #[.int .i64 t.z, .slice na t.ns.length nc, .slice sa t.ss.length sc] 25)).alloc (.cells #[.int .i64 xz, .int .i64 xo, .int .i64 xs, .string ⟨xp.toArray⟩, .string ⟨xd.toArray⟩, .int .i64 xv, .int .i64 xw] 27) = w1 := ⟨_, rfl⟩
  rw [hw1] at X00 B00 ⊢
  have X0 := X00
  have B1 := B00
  obtain ⟨hq1, hq2⟩ := (unhide X0).lt
  have C1 := hide (unhide CO w1 (unhide B1))
  clear hw1 X00 B00 CO
  go_cut [5, 6, 7] from 14 (fun t5 t6 t7 wx => ∃ q an cn ai ci ae ce, t5 = .pointer (some ⟨q, 0, none⟩) ∧ t6 = .slice ae (V).length ce ∧ t7 = .int .i64 E ∧ Hid (AppX w1 wx q T V (.slice an (T).ns.length cn) (.slice ai (T).ss.length ci) (.slice ae (V).length ce)))
  case first =>
    clear CR CN CS CE
    go_region_held3 (fun w' => w'.cell? ⟨w.heap.size, 0, none⟩ = some (.int .i64 t.z) ∧ w'.cell? ⟨w.heap.size, 1, none⟩ = some (.slice na t.ns.length nc) ∧ w'.cell? ⟨w.heap.size, 2, none⟩ = some (.slice sa t.ss.length sc) ∧ w'.cell? ⟨(w.heap.size + 1), 0, none⟩ = some (.int .i64 xz) ∧ w'.cell? ⟨(w.heap.size + 1), 1, none⟩ = some (.int .i64 xo) ∧ w'.cell? ⟨(w.heap.size + 1), 2, none⟩ = some (.int .i64 xs) ∧ w'.cell? ⟨(w.heap.size + 1), 3, none⟩ = some (.string ⟨xp.toArray⟩) ∧ w'.cell? ⟨(w.heap.size + 1), 4, none⟩ = some (.string ⟨xd.toArray⟩) ∧ w'.cell? ⟨(w.heap.size + 1), 5, none⟩ = some (.int .i64 xv) ∧ w'.cell? ⟨(w.heap.size + 1), 6, none⟩ = some (.int .i64 xw)) (first | with_reducible exact (unhide X0).ten | with_reducible exact (unhide X0).drew.ten | with_reducible exact ((unhide X0).next (allocB _ _)).ten | with_reducible exact ((unhide X0).next (allocB _ _)).drew.ten | with_reducible exact ((unhide X0).drew.next (allocB _ _)).ten | with_reducible exact (unhide aX1).ten | with_reducible exact ((unhide aX1).next (allocB _ _)).ten | with_reducible exact (unhide aX2).ten | with_reducible exact ((unhide aX2).next (allocB _ _)).ten | with_reducible exact ((((unhide aX2).other _ (by simp only; omega) (by simp only; omega)).other _ (by simp only; omega) (by simp only; omega)).other _ (by simp only; omega) (by simp only; omega)).ten) (first
      | (go_at_call 6; refine (unhide C1 _ (by first | with_reducible exact (Below.refl _ _).drew | with_reducible exact (allocB _ _).drew | with_reducible exact nnext (Below.refl _ _).drew (allocB _ _))).mono ?_; rintro e aw1 ⟨avn1, avs1, rfl, on1, os1, hb1⟩; have aB1 : Hid (Below w1.heap.size w1 aw1) := hide (nnext (by first | with_reducible exact (Below.refl _ _).drew | with_reducible exact (allocB _ _).drew | with_reducible exact nnext (Below.refl _ _).drew (allocB _ _)) hb1); have aN1 := hide on1.seq; have aS1 := hide os1.seq; have aX1 := hide ((unhide X0).next (unhide aB1)); have ah1 := (unhide aB1).size; (try have aZ1 : Hid (aw1.heap[w1.heap.size]? = some (.cells #[.int .i64 0, .slice none 0 0, .slice none 0 0] 25 (0, 0))) := hide ((hb1.block _ (by simp)).trans (heap_alloc_new w1 _))); clear on1 os1 hb1)
      | (go_at_call 5; refine (unhide CA _ _ _ (by first | with_reducible exact unhide aN1 | with_reducible exact (unhide aN1).next (allocB _ _)) (by first | with_reducible exact unhide aS1 | with_reducible exact (unhide aS1).next (allocB _ _))).mono ?_; rintro e aw2 ⟨avn2, avs2, ave2, rfl, n2, s2, e2, hb2⟩; have aB2 : Hid (Below w1.heap.size w1 aw2) := (by first | with_reducible exact hide (nnext (unhide aB1) hb2) | with_reducible exact hide (nnext (unhide aB1) (nbox_then hb2))); have aX2 := hide ((unhide X0).next (unhide aB2)); have ah2 := hb2.size; (try (have ak1 := (Array.getElem?_eq_some_iff.1 (unhide aZ1)).1; have aZ2 := hide ((hb2.block _ ak1).trans (unhide aZ1)); obtain ⟨az0, az1, az2, az3, az4, az5⟩ := zcells (unhide aZ2))); (try (have aY2 : Hid (aw2.heap[aw1.heap.size]? = some (.cells #[.int .i64 0, .slice none 0 0, .slice none 0 0] 25 (0, 0))) := hide ((hb2.block _ (by simp)).trans (heap_alloc_new aw1 _)); obtain ⟨ay0, ay1, ay2, ay3, ay4, ay5⟩ := zcells (unhide aY2))); obtain ⟨aan, acn, rfl, _⟩ := n2.slice; obtain ⟨aai, aci, rfl, _⟩ := s2.slice; obtain ⟨aae, ace, rfl, _⟩ := e2.slice; have an2 := hide n2; have as2 := hide s2; have ae2 := hide e2; clear n2 s2 e2 hb2))
    all_goals go_wp2_with fail
    all_goals go_meet
    all_goals first
      | exact ⟨_, aan, acn, aai, aci, aae, ace, rfl, rfl, rfl, hide (app_new (unhide aB2) ah1 (unhide an2) (unhide as2) (unhide ae2))⟩
      | exact ⟨_, aan, acn, aai, aci, aae, ace, rfl, rfl, rfl, hide (app_put (unhide aB2) ah1 (by simp) (unhide aY2) (unhide an2) (unhide as2) (unhide ae2))⟩
      | exact ⟨_, aan, acn, aai, aci, aae, ace, rfl, rfl, rfl, hide (app_put (unhide aB2) (Nat.le_refl _) ak1 (unhide aZ2) (unhide an2) (unhide as2) (unhide ae2))⟩
  case rest =>
    obtain ⟨q, an, cn, ai, ci, ae, ce, rfl, rfl, rfl, A1⟩ := hcut
    have X1 := hide ((unhide X0).next (unhide A1).b)
    have B2 := hide (nnext (unhide B1) (unhide A1).b)
    have C2 := hide (unhide CR wc (unhide B2) wc (Below.refl _ _))
    obtain ⟨hq3, hq4⟩ := (unhide X1).lt
    obtain ⟨x0, x1, x2, x3, x4, x5, x6, x7, x8, x9⟩ := (unhide X1).ten
    clear CA C1 CR hq1 hq2 X0 B1
    go_wp2_with fail
    refine (unhide C2).mono ?_
    rintro e w5 ⟨vn5, vs5, ve5, rfl, n5, s5, e5, hb5⟩
    obtain ⟨bn, dn, rfl, _⟩ := n5.slice
    obtain ⟨bi, di, rfl, _⟩ := s5.slice
    obtain ⟨be, de, rfl, _⟩ := e5.slice
    have A2 := hide (app_new hb5 (Nat.le_refl _) n5 s5 e5)
    have A3 := hide ((unhide A1).next (unhide A2).b)
    have B3 := hide (nnext (unhide B2) (unhide A2).b)
    clear C2 X1 x0 x1 x2 x3 x4 x5 x6 x7 x8 x9 hq3 hq4 B2 A1 n5 s5 e5 hb5
    go_wp2_with fail
    refine (rnew_any _).mono ?_
    rintro e w6 ⟨vn6, vs6, rfl, n6, s6, hb6⟩
    have A4 := hide ((unhide A2).next hb6)
    have A5 := hide ((unhide A3).next hb6)
    have B4 := hide (nnext (unhide B3) hb6)
    have N6 := hide n6.seq
    have S6 := hide s6.seq
    clear n6 s6 hb6 A2 A3 B3
    go_wp2_with fail
    refine (lopened_any _).mono ?_
    rintro e w7 ⟨g, rfl, hg, ht, hb7⟩
    have A6 := hide ((unhide A4).next hb7)
    have A7 := hide ((unhide A5).next hb7)
    have B5 := hide (nnext (unhide B4) hb7)
    have N7 := hide ((unhide N6).next hb7)
    have S7 := hide ((unhide S6).next hb7)
    have t0 := ht.c0
    have t1 := ht.c1
    have t2 := ht.c2
    have t3 := ht.c3
    have t4 := ht.c4
    have t5 := ht.c5
    have t6 := ht.c6
    clear hb7 ht A4 A5 B4 N6 S6 hg
    go_wp2_with fail
    refine (unhide CN _ _ _ (unhide N7) (unhide S7)).mono ?_
    rintro e w8 ⟨vn8, vs8, ve8, rfl, n8, s8, e8, hb8⟩
    obtain ⟨pn, pc, rfl, _⟩ := n8.slice
    obtain ⟨qn, qc, rfl, _⟩ := s8.slice
    obtain ⟨en, ec, rfl, _⟩ := e8.slice
    have A8 := hide ((unhide A6).next (nnext hb8 (allocB w8 (.cells #[.int .i64 1, .slice pn 1 pc, .slice qn 1 qc] 25))))
    have A9 := hide ((unhide A7).next (nnext hb8 (allocB w8 (.cells #[.int .i64 1, .slice pn 1 pc, .slice qn 1 qc] 25))))
    have B6 := hide (nnext (unhide B5) (nnext hb8 (allocB w8 (.cells #[.int .i64 1, .slice pn 1 pc, .slice qn 1 qc] 25))))
    obtain ⟨c0, c1, c2⟩ := (unhide A8).cells
    obtain ⟨d0, d1, d2⟩ := (unhide A9).cells
    clear hb8 n8 s8 e8 A6 A7 B5 N7 S7 t0 t1 t2 t3 t4 t5 t6 CN
    go_wp2_with fail
    refine (unhide CS _ _ _ _ _ (unhide A9).n.seq (unhide A9).s.seq (unhide A8).n.seq (unhide A8).s.seq).mono ?_
    rintro e w9 ⟨rfl, hb9⟩
    have Aa := hide ((unhide A8).next hb9)
    have Ab := hide ((unhide A9).next hb9)
    have B7 := hide (nnext (unhide B6) hb9)
    have k2 : w9.cell? ⟨w8.heap.size, 2, none⟩ = some (.slice qn 1 qc) := by rw [hb9.cell (p := ⟨w8.heap.size, 2, none⟩) (by simp)]; simp
    clear hb9 c0 c1 c2 d0 d1 d2 A8 A9 B6 CS
    go_wp2_with fail
    refine (unhide CE _ _ _ (unhide Ab).e.seq (unhide Aa).e.seq).mono ?_
    rintro e wa ⟨rfl, hba⟩
    have B8 := hide (nnext (unhide B7) hba)
    have k3 : wa.cell? ⟨w8.heap.size, 2, none⟩ = some (.slice qn 1 qc) := by
      rw [hba.cell (p := ⟨w8.heap.size, 2, none⟩) (World.block_lt_of_cell? _ _ k2)]
      exact k2
    clear hba Aa Ab B7 CE k2
    go_wp2_with fail
    go_ret
    exact ⟨rfl, unhide B8⟩
end Go.Proofs.YtabmelioindmlaaDoor
