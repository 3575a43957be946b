/-
  PrepVersions: the walk.
-/
import Derived.Test.YtalnmhgedfgooaaGreatDoorQC
namespace Go.Proofs.YtalnmhgedfgooaaGreatDoor
open Go.RowKit

set_option maxRecDepth 20000 in
set_option maxHeartbeats 8000000 in
theorem prepVersions_walk (t : Tr) (vn vs : Value) (z : Int) (r : Rq) (ver : Int) (w : World) (hn : SeqV w vn t.ns) (hs : SeqV w vs t.ss) (hw : WfT t) (hl : t.ns.length * 88 ≤ 140737488355328) (hls : t.ss.length * 8 ≤ 140737488355328) (hp : r.p.length ≤ 140737488351232) (hd : r.d.length ≤ 140737488351232) (htab : Lib.TabIs Tryz.prog w "internal/strconv.uint64pow10" .u64 Lib.pow10Tab) :
    Calls Tryz.prog 5 #[.agg #[.int .i64 t.z, vn, vs], .int .i64 z, rqV r, .int .i64 ver] w fun e w' => e = .returned (.bool true) ∧ Below w.heap.size w w' := by
  have CO := hide (fun W1 (h1 : Below w.heap.size w W1) W (hW : Below W1.heap.size W1 W) => own_any t vn vs W (hn.next (nnext h1 hW)) (hs.next (nnext h1 hW)) hl hls)
  have CM := hide (fun W (h1 : Below w.heap.size w W) => makes_true W (tab_kept htab h1))
  have CQ := hide (fun (q : Rq) (h1 : q.p.length ≤ 140737488351232) (h2 : q.d.length ≤ 140737488351232) W1 (h1 : Below w.heap.size w W1) W (hW : Below W1.heap.size W1 W) (vn vs : Value) (hn : SeqV W vn t.ns) (hs : SeqV W vs t.ss) => prepare_any t z vn vs q W hn hs hw (by omega) (by omega) (tab_kept htab (nnext h1 hW)))
  have CG := hide (fun (gt : GoodT t) (p : List UInt8) W (hW : Below w.heap.size w W) => tget_any t vn vs p W gt (hn.next hW))
  obtain ⟨na, nc, rfl⟩ := seq_slice hn
  obtain ⟨sa, sc, rfl⟩ := seq_slice hs
  clear hn hs hw htab hl hls
  obtain ⟨ro, rs, rp, rd, rv, rf⟩ := r
  unfold rqV at *
  simp only at *
  have R00 := hide (TR.new w t.z (.slice na t.ns.length nc) (.slice sa t.ss.length sc) ⟨ro, rs, rp, rd, rv, rf⟩)
  have B00 : Hid (Below w.heap.size w ((w.alloc (.cells #[.int .i64 t.z, .slice na t.ns.length nc, .slice sa t.ss.length sc] 25)).alloc (.cells #[.int .i64 ro, .int .i64 rs, .string ⟨rp.toArray⟩, .string ⟨rd.toArray⟩, .int .i64 rv, .int .i64 rf] 27))) := hide (nnext (allocB _ _) (allocB _ _))
  simp only at R00
  obtain ⟨a0, a1, a2, a3, a4, a5, a6, a7, a8⟩ := (unhide R00).nine
  simp only at a0 a1 a2 a3 a4 a5 a6 a7 a8
  have fr := (unhide R00).fr 0
  go_enter Tryz.func5, Tryz.ntmps5
  go_upto_region 1 with fail
  obtain ⟨w0, hw0⟩ : ∃ w0, ((w.alloc (.cells #[.int .i64 t.z, .slice na t.ns.length nc, .slice sa t.ss.length sc] 25)).alloc (.cells #[.int .i64 ro, .int .i64 rs, .string ⟨rp.toArray⟩, .string ⟨rd.toArray⟩, .int .i64 rv, .int .i64 rf] 27)) = w0 := ⟨_, rfl⟩
  rw [hw0] at R00 B00 a0 a1 a2 a3 a4 a5 a6 a7 a8 fr ⊢
  clear hw0
  go_cut [24] from 17 (fun t24 wx => t24 = .bool ((ro != 4) && (ro != 5)) ∧ wx = w0)
  case first =>
    clear CO CM CQ CG
    by_cases h4 : ro = 4
    · subst h4
      go_wp2_with fail
      go_meet
      exact ⟨rfl, rfl⟩
    · have b4 : (ro != 4) = true := by simpa using h4
      go_wp2_with fail
      go_meet
      exact ⟨by rw [b4]; rfl, rfl⟩
  case rest =>
  obtain ⟨rfl, rfl⟩ := hcut
  go_upto_if 24 with fail
  go_cut [8] from 17 (fun t8 wx => t8 = .bool false ∧ ∃ o, (o = 4 ∨ o = 5) ∧ Hid (TR wx w.heap.size t.z (.slice na t.ns.length nc) (.slice sa t.ss.length sc) ⟨o, rs, rp, rd, rv, rf⟩) ∧ Hid (Below w.heap.size w wx))
  case first =>
    clear CO CM CQ CG
    by_cases h : ro = 4 ∨ ro = 5
    · have hb : ((ro != 4) && (ro != 5)) = false := by rcases h with rfl | rfl <;> rfl
      rw [hb]
      go_wp2_with fail
      go_meet
      exact ⟨rfl, ro, h, R00, B00⟩
    · have hb : ((ro != 4) && (ro != 5)) = true := by simp; omega
      rw [hb]
      go_wp2_with fail
      go_meet
      exact ⟨rfl, 5, .inr rfl, hide ((unhide R00).seto 5), hide ((unhide B00).setCell (by simp) _)⟩
  case rest =>
  obtain ⟨rfl, o, ho, R1, B1⟩ := hcut
  obtain ⟨b0, b1, b2, b3, b4, b5, b6, b7, b8⟩ := (unhide R1).nine
  simp only at b0 b1 b2 b3 b4 b5 b6 b7 b8
  have fr4 := (unhide R1).fr 4
  clear a0 a1 a2 a3 a4 a5 a6 a7 a8 fr R00 B00
  go_upto_region 4 with fail
  have R2 := hide ((unhide R1).setv (-1))
  have B2 : Hid (Below w.heap.size w (wc.setCell ⟨w.heap.size + 1, 4, none⟩ (.int .i64 (-1)))) := hide ((unhide B1).setCell (by simp) _)
  simp only at R2
  obtain ⟨w1, hw1⟩ : ∃ w1, wc.setCell ⟨w.heap.size + 1, 4, none⟩ (.int .i64 (-1)) = w1 := ⟨_, rfl⟩
  rw [hw1] at R2 B2 ⊢
  clear hw1 b0 b1 b2 b3 b4 b5 b6 b7 b8 fr4 R1 B1
  have hq := (unhide R2).lt
  have C1 := hide (unhide CO w1 (unhide B2))
  have C2 := hide (unhide CQ ⟨o, rs, rp, rd, -1, rf⟩ hp hd w1 (unhide B2))
  have KV : Hid (prpE t z ⟨o, rs, rp, rd, -1, rf⟩ = 0 → ∃ n : Nd, GoodT t ∧ lookN t.ns rp = some n ∧ prpE t z ⟨o, rs, rp, rd, n.v, rf⟩ = 0 ∧ prpX t z ⟨o, rs, rp, rd, n.v, rf⟩ = prpX t z ⟨o, rs, rp, rd, -1, rf⟩ ∧ ∀ v, v ≠ -1 → v ≠ n.v → prpE t z ⟨o, rs, rp, rd, v, rf⟩ = 9) := hide (fun h => by
    obtain ⟨n, V⟩ := versions_plain h ho
    exact ⟨n, V.g, V.look, V.ok, V.x, V.no⟩)
  unfold GivesP txnV at C2
  generalize prpE t z ⟨o, rs, rp, rd, -1, rf⟩ = E at C2 KV
  generalize prpX t z ⟨o, rs, rp, rd, -1, rf⟩ = X at C2 KV
  obtain ⟨xz, xo, xs, xp, xd, xv, xw⟩ := X
  simp only at C2
  go_cut [9, 10] from 17 (fun tx te wx => ∃ q, tx = .pointer (some ⟨q, 0, none⟩) ∧ te = .int .i64 E ∧ Hid (PrX w1 wx q ⟨xz, xo, xs, xp, xd, xv, xw⟩))
  case first =>
    clear CO CM CQ CG KV ho
    go_region_held3 (fun w' => w'.cell? ⟨w.heap.size, 0, none⟩ = some (.int .i64 t.z) ∧ w'.cell? ⟨w.heap.size, 1, none⟩ = some (.slice na t.ns.length nc) ∧ w'.cell? ⟨w.heap.size, 2, none⟩ = some (.slice sa t.ss.length sc) ∧ w'.cell? ⟨w.heap.size + 1, 0, none⟩ = some (.int .i64 o) ∧ w'.cell? ⟨w.heap.size + 1, 1, none⟩ = some (.int .i64 rs) ∧ w'.cell? ⟨w.heap.size + 1, 2, none⟩ = some (.string ⟨rp.toArray⟩) ∧ w'.cell? ⟨w.heap.size + 1, 3, none⟩ = some (.string ⟨rd.toArray⟩) ∧ w'.cell? ⟨w.heap.size + 1, 4, none⟩ = some (.int .i64 (-1)) ∧ w'.cell? ⟨w.heap.size + 1, 5, none⟩ = some (.int .i64 rf)) (first | with_reducible exact (unhide R2).nine | with_reducible exact (unhide R2).drew.nine | with_reducible exact ((unhide R2).next (allocB _ _)).nine | with_reducible exact ((unhide R2).next (allocB _ _)).drew.nine | with_reducible exact ((unhide R2).drew.next (allocB _ _)).nine | with_reducible exact (unhide aX1).nine | with_reducible exact ((unhide aX1).next (allocB _ _)).nine | with_reducible exact (unhide aX2).nine | with_reducible exact ((unhide aX2).next (allocB _ _)).nine | with_reducible exact ((((((((unhide aX2).other _ (by simp only; omega)).other _ (by simp only; omega)).other _ (by simp only; omega)).other _ (by simp only; omega)).other _ (by simp only; omega)).other _ (by simp only; omega)).other _ (by simp only; omega)).nine) (first
      | (go_at_call 12; refine (unhide C1 _ (by first | with_reducible exact (Below.refl _ _).drew | with_reducible exact (allocB _ _).drew | with_reducible exact nnext (Below.refl _ _).drew (allocB _ _))).mono ?_; rintro e aw1 ⟨avn1, avs1, rfl, on1, os1, hb1⟩; have aB1 : Hid (Below w1.heap.size w1 aw1) := hide (nnext (by first | with_reducible exact (Below.refl _ _).drew | with_reducible exact (allocB _ _).drew | with_reducible exact nnext (Below.refl _ _).drew (allocB _ _)) hb1); have aN1 := hide on1.seq; have aS1 := hide os1.seq; have aX1 := hide ((unhide R2).next (unhide aB1)); have ah1 := (unhide aB1).size; (try have aZ1 : Hid (TAt aw1 w1.heap.size t0) := hide ((hb1.block _ (by simp)).trans (heap_alloc_new w1 _))); clear on1 os1 hb1)
      | (go_at_call 7; refine (unhide C2 _ (by first | with_reducible exact unhide aB1 | with_reducible exact nnext (unhide aB1) (allocB _ _)) _ _ (by first | with_reducible exact unhide aN1 | with_reducible exact (unhide aN1).next (allocB _ _)) (by first | with_reducible exact unhide aS1 | with_reducible exact (unhide aS1).next (allocB _ _))).mono ?_; rintro e aw2 ⟨rfl, hb2⟩; have aB2 : Hid (Below w1.heap.size w1 aw2) := (by first | with_reducible exact hide (nnext (unhide aB1) hb2) | with_reducible exact hide (nnext (unhide aB1) (nbox_then hb2))); have aX2 := hide ((unhide R2).next (unhide aB2)); have ah2 := hb2.size; (try (have ak1 := (unhide aZ1).lt; have aZ2 : Hid (TAt aw2 w1.heap.size t0) := hide ((hb2.block _ ak1).trans (unhide aZ1)); obtain ⟨⟨az0, az1, az2, az3, az4, az5, az6⟩, af0, af1, af2, af3, af4, af5, af6⟩ := zcells7 (unhide aZ2))); (try (have aY2 : Hid (TAt aw2 aw1.heap.size t0) := hide ((hb2.block _ (by simp)).trans (heap_alloc_new aw1 _)); obtain ⟨⟨ay0, ay1, ay2, ay3, ay4, ay5, ay6⟩, ag0, ag1, ag2, ag3, ag4, ag5, ag6⟩ := zcells7 (unhide aY2))); clear hb2))
    all_goals go_wp2_with fail
    all_goals go_meet
    all_goals refine ⟨_, rfl, rfl, hide ?_⟩
    all_goals first
      | with_reducible exact px_newF xz xo xs xp xd xv xw (unhide aB2)
      | with_reducible exact px_putF xz xo xs xp xd xv xw (unhide aB2) ah1 (unhide aY2)
      | with_reducible exact px_putF xz xo xs xp xd xv xw (unhide aB2) (Nat.le_refl _) (unhide aZ2)
  case rest =>
  rename_i wd
  obtain ⟨q, rfl, rfl, A1⟩ := hcut
  have R3 := hide ((unhide R2).next (unhide A1).b)
  have B3 := hide (nnext (unhide B2) (unhide A1).b)
  clear C1 C2 R2 B2
  by_cases hE : E = 0
  · obtain ⟨n, gt, hln, hok, hsame, hno⟩ := unhide KV hE
    subst hE
    obtain ⟨hgn, hge⟩ := get_some hln
    have CG1 := hide (unhide CG gt rp)
    rw [hgn, hge] at CG1
    have C4 := hide (unhide CQ ⟨o, rs, rp, rd, n.v, rf⟩ hp hd)
    unfold GivesP at C4
    rw [hok, hsame] at C4
    have C6 : Hid (ver ≠ -1 → ver ≠ n.v → ∀ W1 (_ : Below w.heap.size w W1) W (_ : Below W1.heap.size W1 W) (vn vs : Value) (_ : SeqV W vn t.ns) (_ : SeqV W vs t.ss), Calls Tryz.prog 7 #[.agg #[.int .i64 t.z, vn, vs], .int .i64 z, .agg #[.int .i64 o, .int .i64 rs, .string ⟨rp.toArray⟩, .string ⟨rd.toArray⟩, .int .i64 ver, .int .i64 rf]] W fun e w' => e = .returned (.tuple #[.agg #[.int .i64 0, .int .i64 0, .int .i64 0, .string ⟨#[]⟩, .string ⟨#[]⟩, .int .i64 0, .int .i64 0], .int .i64 9]) ∧ Below W.heap.size W w') := hide (fun h1 h2 W1 hW1 W hW vn vs hn hs => by
      have h := unhide CQ ⟨o, rs, rp, rd, ver, rf⟩ hp hd W1 hW1 W hW vn vs hn hs
      unfold GivesP at h
      rw [hno ver h1 h2, prpX_no (by rw [hno ver h1 h2]; decide)] at h
      exact h)
    unfold txnV at C4
    simp only at C4
    unfold nodeV at CG1
    obtain ⟨np, nd, nc', nm, nq, nv, nk, no, nn⟩ := n
    simp only at CG1 C4 C6
    clear KV hln hok hsame hno hgn hge CG CQ gt
    go_wp2_with fail
    refine (unhide CM _ (unhide B3)).mono ?_
    rintro e w2 ⟨rfl, hb2⟩
    have R4 := hide ((unhide R3).next hb2)
    have B4 := hide (nnext (unhide B3) hb2)
    have A2 := hide ((unhide A1).next hb2)
    obtain ⟨b0, b1, b2, b3, b4, b5, b6, b7, b8⟩ := (unhide R4).nine
    simp only at b0 b1 b2 b3 b4 b5 b6 b7 b8
    clear hb2 R3 B3 A1
    go_wp2_with fail
    refine (unhide CG1 _ (unhide B4)).mono ?_
    rintro e w3 ⟨rfl, hb3⟩
    have R5 := hide ((unhide R4).next (nnext hb3 (allocB w3 (.cells #[.string ⟨np.toArray⟩, .string ⟨nd.toArray⟩, .int .i64 nc', .int .i64 nm, .int .i64 nq, .int .i64 nv, .int .i64 nk, .int .i64 no, .int .i64 nn] 46))))
    have B5 := hide (nnext (unhide B4) (nnext hb3 (allocB w3 (.cells #[.string ⟨np.toArray⟩, .string ⟨nd.toArray⟩, .int .i64 nc', .int .i64 nm, .int .i64 nq, .int .i64 nv, .int .i64 nk, .int .i64 no, .int .i64 nn] 46))))
    have A3 := hide ((unhide A2).next (nnext hb3 (allocB w3 (.cells #[.string ⟨np.toArray⟩, .string ⟨nd.toArray⟩, .int .i64 nc', .int .i64 nm, .int .i64 nq, .int .i64 nv, .int .i64 nk, .int .i64 no, .int .i64 nn] 46))))
    have N5 : (w3.alloc (.cells #[.string ⟨np.toArray⟩, .string ⟨nd.toArray⟩, .int .i64 nc', .int .i64 nm, .int .i64 nq, .int .i64 nv, .int .i64 nk, .int .i64 no, .int .i64 nn] 46)).cell? ⟨w3.heap.size, 5, none⟩ = some (.int .i64 nv) := by simp
    have hq3 := (unhide R4).lt
    have hq4 := hb3.size
    clear hb3 R4 B4 A2 b0 b1 b2 b3 b4 b5 b6 b7 b8 CG1
    obtain ⟨b0, b1, b2, b3, b4, b5, b6, b7, b8⟩ := (unhide R5).nine
    simp only at b0 b1 b2 b3 b4 b5 b6 b7 b8
    have fr4 := (unhide R5).fr 4
    go_upto_region 9 with fail
    have R6 := hide ((unhide R5).setv nv)
    have B6 : Hid (Below w.heap.size w ((w3.alloc (.cells #[.string ⟨np.toArray⟩, .string ⟨nd.toArray⟩, .int .i64 nc', .int .i64 nm, .int .i64 nq, .int .i64 nv, .int .i64 nk, .int .i64 no, .int .i64 nn] 46)).setCell ⟨w.heap.size + 1, 4, none⟩ (.int .i64 nv))) := hide ((unhide B5).setCell (by simp) _)
    have X6 : Hid (TAt ((w3.alloc (.cells #[.string ⟨np.toArray⟩, .string ⟨nd.toArray⟩, .int .i64 nc', .int .i64 nm, .int .i64 nq, .int .i64 nv, .int .i64 nk, .int .i64 no, .int .i64 nn] 46)).setCell ⟨w.heap.size + 1, 4, none⟩ (.int .i64 nv)) q ⟨xz, xo, xs, xp, xd, xv, xw⟩) := hide ((Below.heap_setCell _ _ _ q (by have := (unhide A3).qb; simp only; omega)).trans (unhide A3).box)
    have N6 := cell_other (a := ⟨w.heap.size + 1, 4, none⟩) (v := .int .i64 nv) N5 (by simp only; omega)
    simp only at R6
    obtain ⟨w4, hw4⟩ : ∃ w4, ((w3.alloc (.cells #[.string ⟨np.toArray⟩, .string ⟨nd.toArray⟩, .int .i64 nc', .int .i64 nm, .int .i64 nq, .int .i64 nv, .int .i64 nk, .int .i64 no, .int .i64 nn] 46)).setCell ⟨w.heap.size + 1, 4, none⟩ (.int .i64 nv)) = w4 := ⟨_, rfl⟩
    rw [hw4] at R6 B6 X6 N6 ⊢
    have hqb := (unhide A3).qb
    clear hw4 b0 b1 b2 b3 b4 b5 b6 b7 b8 fr4 R5 B5 A3 N5
    have hq5 := (unhide R6).lt
    have C1 := hide (unhide CO w4 (unhide B6))
    have C5 := hide (unhide C4 w4 (unhide B6))
    clear C4
    go_cut [13, 14] from 17 (fun tx te wx => ∃ q, tx = .pointer (some ⟨q, 0, none⟩) ∧ te = .int .i64 0 ∧ Hid (PrX w4 wx q ⟨xz, xo, xs, xp, xd, xv, xw⟩))
    case first =>
      clear CO CM C6 ho N6 X6
      go_region_held3 (fun w' => w'.cell? ⟨w.heap.size, 0, none⟩ = some (.int .i64 t.z) ∧ w'.cell? ⟨w.heap.size, 1, none⟩ = some (.slice na t.ns.length nc) ∧ w'.cell? ⟨w.heap.size, 2, none⟩ = some (.slice sa t.ss.length sc) ∧ w'.cell? ⟨w.heap.size + 1, 0, none⟩ = some (.int .i64 o) ∧ w'.cell? ⟨w.heap.size + 1, 1, none⟩ = some (.int .i64 rs) ∧ w'.cell? ⟨w.heap.size + 1, 2, none⟩ = some (.string ⟨rp.toArray⟩) ∧ w'.cell? ⟨w.heap.size + 1, 3, none⟩ = some (.string ⟨rd.toArray⟩) ∧ w'.cell? ⟨w.heap.size + 1, 4, none⟩ = some (.int .i64 nv) ∧ w'.cell? ⟨w.heap.size + 1, 5, none⟩ = some (.int .i64 rf)) (first | with_reducible exact (unhide R6).nine | with_reducible exact (unhide R6).drew.nine | with_reducible exact ((unhide R6).next (allocB _ _)).nine | with_reducible exact ((unhide R6).next (allocB _ _)).drew.nine | with_reducible exact ((unhide R6).drew.next (allocB _ _)).nine | with_reducible exact (unhide bX1).nine | with_reducible exact ((unhide bX1).next (allocB _ _)).nine | with_reducible exact (unhide bX2).nine | with_reducible exact ((unhide bX2).next (allocB _ _)).nine | with_reducible exact ((((((((unhide bX2).other _ (by simp only; omega)).other _ (by simp only; omega)).other _ (by simp only; omega)).other _ (by simp only; omega)).other _ (by simp only; omega)).other _ (by simp only; omega)).other _ (by simp only; omega)).nine) (first
        | (go_at_call 12; refine (unhide C1 _ (by first | with_reducible exact (Below.refl _ _).drew | with_reducible exact (allocB _ _).drew | with_reducible exact nnext (Below.refl _ _).drew (allocB _ _))).mono ?_; rintro e bw1 ⟨bvn1, bvs1, rfl, on1, os1, hb1⟩; have bB1 : Hid (Below w4.heap.size w4 bw1) := hide (nnext (by first | with_reducible exact (Below.refl _ _).drew | with_reducible exact (allocB _ _).drew | with_reducible exact nnext (Below.refl _ _).drew (allocB _ _)) hb1); have bN1 := hide on1.seq; have bS1 := hide os1.seq; have bX1 := hide ((unhide R6).next (unhide bB1)); have bh1 := (unhide bB1).size; (try have bZ1 : Hid (TAt bw1 w4.heap.size t0) := hide ((hb1.block _ (by simp)).trans (heap_alloc_new w4 _))); clear on1 os1 hb1)
        | (go_at_call 7; refine (unhide C5 _ (by first | with_reducible exact unhide bB1 | with_reducible exact nnext (unhide bB1) (allocB _ _)) _ _ (by first | with_reducible exact unhide bN1 | with_reducible exact (unhide bN1).next (allocB _ _)) (by first | with_reducible exact unhide bS1 | with_reducible exact (unhide bS1).next (allocB _ _))).mono ?_; rintro e bw2 ⟨rfl, hb2⟩; have bB2 : Hid (Below w4.heap.size w4 bw2) := (by first | with_reducible exact hide (nnext (unhide bB1) hb2) | with_reducible exact hide (nnext (unhide bB1) (nbox_then hb2))); have bX2 := hide ((unhide R6).next (unhide bB2)); have bh2 := hb2.size; (try (have bk1 := (unhide bZ1).lt; have bZ2 : Hid (TAt bw2 w4.heap.size t0) := hide ((hb2.block _ bk1).trans (unhide bZ1)); obtain ⟨⟨bz0, bz1, bz2, bz3, bz4, bz5, bz6⟩, bf0, bf1, bf2, bf3, bf4, bf5, bf6⟩ := zcells7 (unhide bZ2))); (try (have bY2 : Hid (TAt bw2 bw1.heap.size t0) := hide ((hb2.block _ (by simp)).trans (heap_alloc_new bw1 _)); obtain ⟨⟨by0, by1, by2, by3, by4, by5, by6⟩, bg0, bg1, bg2, bg3, bg4, bg5, bg6⟩ := zcells7 (unhide bY2))); clear hb2))
      all_goals go_wp2_with fail
      all_goals go_meet
      all_goals refine ⟨_, rfl, rfl, hide ?_⟩
      all_goals first
        | with_reducible exact px_newF xz xo xs xp xd xv xw (unhide bB2)
        | with_reducible exact px_putF xz xo xs xp xd xv xw (unhide bB2) bh1 (unhide bY2)
        | with_reducible exact px_putF xz xo xs xp xd xv xw (unhide bB2) (Nat.le_refl _) (unhide bZ2)
    case rest =>
    rename_i we
    obtain ⟨q2, rfl, rfl, A4⟩ := hcut
    have R7 := hide ((unhide R6).next (unhide A4).b)
    have B7 := hide (nnext (unhide B6) (unhide A4).b)
    have X7 := hide ((unhide X6).next (unhide A4).b)
    have N7 : wc.cell? ⟨w3.heap.size, 5, none⟩ = some (.int .i64 nv) := by rw [(unhide A4).b.cell (p := ⟨w3.heap.size, 5, none⟩) (World.block_lt_of_cell? _ _ N6)]; exact N6
    obtain ⟨x0, x1, x2, x3, x4, x5, x6⟩ := (unhide X7).seven
    obtain ⟨y0, y1, y2, y3, y4, y5, y6⟩ := (unhide A4).box.seven
    simp only at x0 x1 x2 x3 x4 x5 x6 y0 y1 y2 y3 y4 y5 y6
    clear C1 C5 R6 B6 X6 N6
    by_cases hv1 : ver = -1
    · subst hv1
      clear C6 CO CM
      go_wp2_with fail
      go_ret
      exact ⟨rfl, unhide B7⟩
    · have hb1 : (ver == -1) = false := by simpa using hv1
      by_cases hv2 : ver = nv
      · subst hv2
        clear C6 CO CM hv1
        go_wp2_with fail
        go_ret
        exact ⟨rfl, unhide B7⟩
      · have hb2 : (ver == nv) = false := by simpa using hv2
        have C7 := hide (unhide C6 hv1 hv2)
        obtain ⟨b0, b1, b2, b3, b4, b5, b6, b7, b8⟩ := (unhide R7).nine
        simp only at b0 b1 b2 b3 b4 b5 b6 b7 b8
        have fr4 := (unhide R7).fr 4
        clear C6 CM hv1 hv2
        go_upto_region 15 with fail
        have R8 := hide ((unhide R7).setv ver)
        have B8 : Hid (Below w.heap.size w (wc.setCell ⟨w.heap.size + 1, 4, none⟩ (.int .i64 ver))) := hide ((unhide B7).setCell (by simp) _)
        simp only at R8
        obtain ⟨w5, hw5⟩ : ∃ w5, wc.setCell ⟨w.heap.size + 1, 4, none⟩ (.int .i64 ver) = w5 := ⟨_, rfl⟩
        rw [hw5] at R8 B8 ⊢
        clear hw5 b0 b1 b2 b3 b4 b5 b6 b7 b8 fr4 R7 B7 X7 N7 x0 x1 x2 x3 x4 x5 x6 y0 y1 y2 y3 y4 y5 y6 A4
        have hq6 := (unhide R8).lt
        have C1 := hide (unhide CO w5 (unhide B8))
        have C8 := hide (unhide C7 w5 (unhide B8))
        clear C7 CO
        go_cut [15, 16] from 17 (fun tx te wx => ∃ q, tx = .pointer (some ⟨q, 0, none⟩) ∧ te = .int .i64 9 ∧ Hid (PrX w5 wx q ⟨0, 0, 0, [], [], 0, 0⟩))
        case first =>
          clear ho
          go_region_held3 (fun w' => w'.cell? ⟨w.heap.size, 0, none⟩ = some (.int .i64 t.z) ∧ w'.cell? ⟨w.heap.size, 1, none⟩ = some (.slice na t.ns.length nc) ∧ w'.cell? ⟨w.heap.size, 2, none⟩ = some (.slice sa t.ss.length sc) ∧ w'.cell? ⟨w.heap.size + 1, 0, none⟩ = some (.int .i64 o) ∧ w'.cell? ⟨w.heap.size + 1, 1, none⟩ = some (.int .i64 rs) ∧ w'.cell? ⟨w.heap.size + 1, 2, none⟩ = some (.string ⟨rp.toArray⟩) ∧ w'.cell? ⟨w.heap.size + 1, 3, none⟩ = some (.string ⟨rd.toArray⟩) ∧ w'.cell? ⟨w.heap.size + 1, 4, none⟩ = some (.int .i64 ver) ∧ w'.cell? ⟨w.heap.size + 1, 5, none⟩ = some (.int .i64 rf)) (first | with_reducible exact (unhide R8).nine | with_reducible exact (unhide R8).drew.nine | with_reducible exact ((unhide R8).next (allocB _ _)).nine | with_reducible exact ((unhide R8).next (allocB _ _)).drew.nine | with_reducible exact ((unhide R8).drew.next (allocB _ _)).nine | with_reducible exact (unhide cX1).nine | with_reducible exact ((unhide cX1).next (allocB _ _)).nine | with_reducible exact (unhide cX2).nine | with_reducible exact ((unhide cX2).next (allocB _ _)).nine | with_reducible exact ((((((((unhide cX2).other _ (by simp only; omega)).other _ (by simp only; omega)).other _ (by simp only; omega)).other _ (by simp only; omega)).other _ (by simp only; omega)).other _ (by simp only; omega)).other _ (by simp only; omega)).nine) (first
            | (go_at_call 12; refine (unhide C1 _ (by first | with_reducible exact (Below.refl _ _).drew | with_reducible exact (allocB _ _).drew | with_reducible exact nnext (Below.refl _ _).drew (allocB _ _))).mono ?_; rintro e cw1 ⟨cvn1, cvs1, rfl, on1, os1, hb1⟩; have cB1 : Hid (Below w5.heap.size w5 cw1) := hide (nnext (by first | with_reducible exact (Below.refl _ _).drew | with_reducible exact (allocB _ _).drew | with_reducible exact nnext (Below.refl _ _).drew (allocB _ _)) hb1); have cN1 := hide on1.seq; have cS1 := hide os1.seq; have cX1 := hide ((unhide R8).next (unhide cB1)); have ch1 := (unhide cB1).size; (try have cZ1 : Hid (TAt cw1 w5.heap.size t0) := hide ((hb1.block _ (by simp)).trans (heap_alloc_new w5 _))); clear on1 os1 hb1)
            | (go_at_call 7; refine (unhide C8 _ (by first | with_reducible exact unhide cB1 | with_reducible exact nnext (unhide cB1) (allocB _ _)) _ _ (by first | with_reducible exact unhide cN1 | with_reducible exact (unhide cN1).next (allocB _ _)) (by first | with_reducible exact unhide cS1 | with_reducible exact (unhide cS1).next (allocB _ _))).mono ?_; rintro e cw2 ⟨rfl, hb2⟩; have cB2 : Hid (Below w5.heap.size w5 cw2) := (by first | with_reducible exact hide (nnext (unhide cB1) hb2) | with_reducible exact hide (nnext (unhide cB1) (nbox_then hb2))); have cX2 := hide ((unhide R8).next (unhide cB2)); have ch2 := hb2.size; (try (have ck1 := (unhide cZ1).lt; have cZ2 : Hid (TAt cw2 w5.heap.size t0) := hide ((hb2.block _ ck1).trans (unhide cZ1)); obtain ⟨⟨cz0, cz1, cz2, cz3, cz4, cz5, cz6⟩, cf0, cf1, cf2, cf3, cf4, cf5, cf6⟩ := zcells7 (unhide cZ2))); (try (have cY2 : Hid (TAt cw2 cw1.heap.size t0) := hide ((hb2.block _ (by simp)).trans (heap_alloc_new cw1 _)); obtain ⟨⟨cy0, cy1, cy2, cy3, cy4, cy5, cy6⟩, cg0, cg1, cg2, cg3, cg4, cg5, cg6⟩ := zcells7 (unhide cY2))); clear hb2))
          all_goals go_wp2_with fail
          all_goals go_meet
          all_goals refine ⟨_, rfl, rfl, hide ?_⟩
          all_goals first
            | with_reducible exact px_newF 0 0 0 [] [] 0 0 (unhide cB2)
            | with_reducible exact px_putF 0 0 0 [] [] 0 0 (unhide cB2) ch1 (unhide cY2)
            | with_reducible exact px_putF 0 0 0 [] [] 0 0 (unhide cB2) (Nat.le_refl _) (unhide cZ2)
        case rest =>
        rename_i wf
        obtain ⟨q3, rfl, rfl, A5⟩ := hcut
        have B9 := hide (nnext (unhide B8) (unhide A5).b)
        clear C1 C8 R8 B8 A5
        go_wp2_with fail
        go_ret
        exact ⟨rfl, unhide B9⟩
  · have hEb : (E != 0) = true := by simpa using hE
    clear KV CO CQ CG hE
    go_wp2_with fail
    refine (unhide CM _ (unhide B3)).mono ?_
    rintro e w2 ⟨rfl, hb2⟩
    have B4 := hide (nnext (unhide B3) hb2)
    clear hb2 B3 CM
    go_wp2_with fail
    go_ret
    exact ⟨rfl, unhide B4⟩

end Go.Proofs.YtalnmhgedfgooaaGreatDoor
