/-
  What aviaryref.Decode answers of a record whose sum is right: the walk.
-/
import Derived.Test.YthkggmmalffcdaaGreatDoorSFAH
import Derived.Deep.RegionHeld3
namespace Go.Proofs.YthkggmmalffcdaaGreatDoor
open Go.RowKit

/-- how far it has come behind the numbers: a transaction of its own at q -/
structure RBody (w W : World) (q : Nat) (t : WTxn) : Prop where
  dec : RDec w W
  txn : TxnAt W q t
  low : w.heap.size + 2 ≤ q
  high : q < W.heap.size
theorem RBody.kept {w W V : World} {q : Nat} {t : WTxn} (h : RBody w W q t) (hb : Below W.heap.size W V) : RBody w V q t :=
  ⟨h.dec.kept hb, h.txn.kept hb h.high, h.low, Nat.lt_of_lt_of_le h.high hb.size⟩
theorem RDec.other {w W V : World} {q : Nat} (h : RDec w W) (ho : Only q W V) (hq : w.heap.size + 2 ≤ q) : RDec w V :=
  ⟨h.res.other ho (by omega), h.non.other ho (by omega), by rw [ho.size]; exact h.size, ho.below h.below (by omega)⟩
theorem RBody.p {w W : World} {q : Nat} {t : WTxn} (h : RBody w W q t) (x : List UInt8) : RBody w (W.setCell ⟨q, 3, none⟩ (.string ⟨x.toArray⟩)) q { t with p := x } :=
  ⟨h.dec.other (only_set _ _ _ _) h.low, h.txn.s3 x, h.low, by rw [(only_set _ _ _ _).size]; exact h.high⟩
theorem RBody.d {w W : World} {q : Nat} {t : WTxn} (h : RBody w W q t) (x : List UInt8) : RBody w (W.setCell ⟨q, 4, none⟩ (.string ⟨x.toArray⟩)) q { t with d := x } :=
  ⟨h.dec.other (only_set _ _ _ _) h.low, h.txn.s4 x, h.low, by rw [(only_set _ _ _ _).size]; exact h.high⟩
theorem fin_put {w W w4 : World} {X : Nat} (h : RDec w W) (hb : Below W.heap.size W w4) (hT : TxnAt w4 X t0) (hX : W.heap.size ≤ X) (t : WTxn) : RBody w (putTxn w4 X t) X t := by
  have hs := h.size
  have hlt : X < w4.heap.size := (Array.getElem?_eq_some_iff.1 hT).1
  exact ⟨(h.kept hb).other (only_put _ _ _) (by omega), hT.store t, by omega, by rw [(only_put _ _ _).size]; exact hlt⟩
theorem fin_new {w W w4 : World} (h : RDec w W) (hb : Below W.heap.size W w4) (t : WTxn) : RBody w (w4.alloc (.cells #[.int .i64 t.z, .int .i64 t.o, .int .i64 t.s, .string ⟨t.p.toArray⟩, .string ⟨t.d.toArray⟩, .int .i64 t.v, .int .i64 t.w] 48)) w4.heap.size t := by
  have hs := h.size
  have hs4 := hb.size
  exact ⟨(h.kept hb).kept ((Below.refl _ _).alloc (Nat.le_refl _) _), heap_new _ _, by omega, by simp⟩
theorem un_one (l : List UInt8) (i : Nat) (h : i < l.length) : un ((l.drop i).take 1) = l[i].toNat := by
  rw [List.drop_eq_getElem_cons h, List.take_succ_cons, List.take_zero]; simp [un]

set_option maxRecDepth 100000 in
set_option maxHeartbeats 4000000 in
theorem rdec_body (s : List UInt8) (w : World) (h3 : 3 ≤ s.length) (hm : s[0] = 84) (hl : lenOf s ≤ 1024) (hn : lenOf s + 7 ≤ s.length) (hs : sumB s = true) :
    Calls Tryz.prog 166 #[.string ⟨s.toArray⟩] w fun e w' => e = .returned (.tuple #[txnV (decT s), .int .i64 (decN s), .int .i64 (decE s)]) ∧ Below w.heap.size w w' := by
  have HW := hide (wholeB_iff.2 ⟨take1_eq h3 hm, hl, hn⟩)
  have HS := hide hs
  clear hs
  have hzs : (ByteArray.mk s.toArray).size = s.length := Lib.size_eq ⟨s.toArray⟩
  have hib : 0 < (ByteArray.mk s.toArray).size := by rw [Lib.size_eq]; show 0 < s.length; omega
  have hg : (ByteArray.mk s.toArray)[0] = 84 := (ba_get s 0 hib).trans hm
  have c0 : (3 : Int) ≤ (s.length : Int) := by omega
  have HL : Hid (∀ w, Calls Tryz.prog 188 #[.string ((ByteArray.mk s.toArray).extract 1 3)] w fun e w' => e = .returned (.int .i64 (lenOf s : Nat)) ∧ Below w.heap.size w w') := hide (fun w => by
    have h := numberOf_any ((ByteArray.mk s.toArray).extract 1 3) w (by rw [ex_mid, Lib.size_eq]; show ((s.drop 1).take 2).length ≤ 8; rw [List.length_take]; omega)
    rw [ex_mid] at h ⊢
    rw [show (ByteArray.mk (List.take (3 - 1) (List.drop 1 s)).toArray).data.toList = (s.drop 1).take 2 from rfl, un_take_le _ _ (by decide)] at h
    exact h)
  go_enter Tryz.func166, Tryz.ntmps166
  go_wp2_with fail
  refine (unhide HL _).mono ?_
  rintro e w1 ⟨rfl, hb1⟩
  have H := hide ((RDec.new (w := w)).kept hb1)
  clear hb1 HL hg
  generalize w1 = W at H ⊢
  obtain ⟨L, hL⟩ : ∃ L, lenOf s = L := ⟨_, rfl⟩
  rw [hL] at hl hn ⊢
  have EL := hide hL
  clear hL
  have n1 : (0 : Int) ≤ (L : Int) + 3 := by omega
  have n2 : (L : Int) + 3 ≤ (L : Int) + 7 := by omega
  have n3 : (L : Int) + 7 ≤ (s.length : Int) := by omega
  have n4 : (L : Int) + 3 ≤ (s.length : Int) := by omega
  obtain ⟨Q, hQ⟩ : ∃ Q, un ((s.drop (L + 3)).take 4) = Q := ⟨_, rfl⟩
  obtain ⟨X, hX⟩ : ∃ X, sumN (s.take (L + 3)) = X := ⟨_, rfl⟩
  have q0 : ∀ d' os, Calls Tryz.prog 188 #[.string ((ByteArray.mk s.toArray).extract (L + 3) (L + 7))] (Sort.grow (redrawn W d') os) fun e w'' => e = .returned (.int .i64 (Q : Nat)) ∧ ∃ p : Regrown, w'' = Sort.grow (redrawn W p.d) p.os := fun d' os => Calls.regrown_of (by
    have h := numberOf_any ((ByteArray.mk s.toArray).extract (L + 3) (L + 7)) (Sort.grow (redrawn W d') os) (by rw [ex_mid, Lib.size_eq]; show ((s.drop (L + 3)).take (L + 7 - (L + 3))).length ≤ 8; rw [List.length_take]; omega)
    rw [ex_mid] at h ⊢
    rw [show (ByteArray.mk (List.take (L + 7 - (L + 3)) (List.drop (L + 3) s)).toArray).data.toList = (s.drop (L + 3)).take (L + 7 - (L + 3)) from rfl] at h
    rw [show L + 7 - (L + 3) = 4 from by omega] at h ⊢
    rw [un_take_le _ _ (by decide), hQ] at h
    exact h)
  have q1 : ∀ d' os, Calls Tryz.prog 128 #[.string ((ByteArray.mk s.toArray).extract 0 (L + 3))] (Sort.grow (redrawn W d') os) fun e w'' => e = .returned (.int .i64 (X : Nat)) ∧ ∃ p : Regrown, w'' = Sort.grow (redrawn W p.d) p.os := fun d' os => Calls.regrown_of (by
    have h := rsum_any (s.take (L + 3)) (Sort.grow (redrawn W d') os) (by rw [List.length_take]; omega)
    rw [hX] at h
    rw [ex_front]
    exact h)
  have EQ := hide hQ
  have EX := hide hX
  clear hQ hX
  go_wp2_with fail
  refine wp_region_quiet_below (by kernel_rfl) (by kernel_rfl) ?_
  repeat (first | go_big_quiet_step (first | with_reducible exact q0 _ _ | with_reducible exact q1 _ _) | quiet_step (first | with_reducible exact q0 _ _ | with_reducible exact q1 _ _))
  refine wpQuiet_nil ?_
  intro _ hw'
  obtain ⟨⟨dq, osq⟩, hw''⟩ := hw'
  subst hw''
  replace H := hide ((unhide H).kept (below_regrown W dq osq))
  clear q0 q1
  generalize Sort.grow (redrawn W dq) osq = W at H ⊢
  obtain rfl : X = Q := by
    have h2 := sumB_iff.1 (unhide HS)
    rw [unhide EL, unhide EQ, unhide EX] at h2
    exact h2.symm
  obtain ⟨B, hB⟩ : ∃ B, insideL s = B := ⟨_, rfl⟩
  have hBl : B.length = L := by rw [← hB, insideL, unhide EL, List.length_take, List.length_drop]; omega
  have hex : (ByteArray.mk s.toArray).extract 3 (L + 3) = ⟨B.toArray⟩ := by
    rw [ex_mid, ← hB, insideL, unhide EL, show L + 3 - 3 = L from by omega]
  have hzB : (ByteArray.mk B.toArray).size = L := (Lib.size_eq ⟨B.toArray⟩).trans hBl
  have n5 : (3 : Int) ≤ (L : Int) + 3 := by omega
  have EB := hide hB
  have EBl := hide hBl
  clear hB hBl
  by_cases h24 : L < 24
  · have hf : fitB (insideL s) = false := fitB_no (by rw [unhide EB, unhide EBl]; omega)
    have HU := hide (dec_form (unhide HW) (unhide HS) (unf_bad hf).1 (by decide))
    clear hf
    have r0 : W.cell? ⟨w.heap.size, 0, none⟩ = some (.int .i64 0) := (unhide H).res.c0
    have r1 : W.cell? ⟨w.heap.size, 1, none⟩ = some (.int .i64 0) := (unhide H).res.c1
    have r2 : W.cell? ⟨w.heap.size, 2, none⟩ = some (.int .i64 0) := (unhide H).res.c2
    have r3 : W.cell? ⟨w.heap.size, 3, none⟩ = some (.string ⟨#[]⟩) := (unhide H).res.c3
    have r4 : W.cell? ⟨w.heap.size, 4, none⟩ = some (.string ⟨#[]⟩) := (unhide H).res.c4
    have r5 : W.cell? ⟨w.heap.size, 5, none⟩ = some (.int .i64 0) := (unhide H).res.c5
    have r6 : W.cell? ⟨w.heap.size, 6, none⟩ = some (.int .i64 0) := (unhide H).res.c6
    have rf := (unhide H).res.f
    have m0 : W.cell? ⟨w.heap.size + 1, 0, none⟩ = some (.int .i64 0) := (unhide H).non.c0
    have m1 : W.cell? ⟨w.heap.size + 1, 1, none⟩ = some (.int .i64 0) := (unhide H).non.c1
    have m2 : W.cell? ⟨w.heap.size + 1, 2, none⟩ = some (.int .i64 0) := (unhide H).non.c2
    have m3 : W.cell? ⟨w.heap.size + 1, 3, none⟩ = some (.string ⟨#[]⟩) := (unhide H).non.c3
    have m4 : W.cell? ⟨w.heap.size + 1, 4, none⟩ = some (.string ⟨#[]⟩) := (unhide H).non.c4
    have m5 : W.cell? ⟨w.heap.size + 1, 5, none⟩ = some (.int .i64 0) := (unhide H).non.c5
    have m6 : W.cell? ⟨w.heap.size + 1, 6, none⟩ = some (.int .i64 0) := (unhide H).non.c6
    go_wp2_with fail
    change bodyPost _ _ _ _ _ (putTxn W w.heap.size t0)
    have HP := hide ((unhide H).res.store t0)
    have hB : Below w.heap.size w (putTxn W w.heap.size t0) := (only_put _ _ _).below (unhide H).below (Nat.le_refl _)
    generalize putTxn W w.heap.size t0 = V2 at HP hB ⊢
    have s0 := (unhide HP).c0
    have s1 := (unhide HP).c1
    have s2 := (unhide HP).c2
    have s3 := (unhide HP).c3
    have s4 := (unhide HP).c4
    have s5 := (unhide HP).c5
    have s6 := (unhide HP).c6
    exact bodyPost_ret (v := .tuple #[txnV t0, .int .i64 0, .int .i64 2]) (by simp [results, Tryz.results166, go_sem, s0, s1, s2, s3, s4, s5, s6, txnV]) rfl ⟨by rw [(unhide HU).1, (unhide HU).2.1, (unhide HU).2.2], hB⟩
  have n6 : (24 : Int) ≤ (L : Int) := by omega
  have x0e : ∃ x, wrap64 (un (B.take 8) : Nat) = x := ⟨_, rfl⟩
  obtain ⟨x0, hx0⟩ := x0e
  obtain ⟨x2, hx2⟩ : ∃ x, un ((B.drop 9).take 4) = x := ⟨_, rfl⟩
  obtain ⟨x3, hx3⟩ : ∃ x, un ((B.drop 13).take 4) = x := ⟨_, rfl⟩
  obtain ⟨x4, hx4⟩ : ∃ x, un ((B.drop 17).take 4) = x := ⟨_, rfl⟩
  have n8 : (8 : Int) ≤ (L : Int) := by omega
  have n9 : (9 : Int) ≤ (L : Int) := by omega
  have n13 : (13 : Int) ≤ (L : Int) := by omega
  have n17 : (17 : Int) ≤ (L : Int) := by omega
  have n21 : (21 : Int) ≤ (L : Int) := by omega
  have n22 : (8 : Int) < (L : Int) := by omega
  have N0 : Hid (∀ w, Calls Tryz.prog 188 #[.string ((ByteArray.mk B.toArray).extract 0 8)] w fun e w' => e = .returned (.int .i64 x0) ∧ Below w.heap.size w w') := hide (fun w => by
    have h := numberOf_any ((ByteArray.mk B.toArray).extract 0 8) w (by rw [ex_front, Lib.size_eq]; show (B.take 8).length ≤ 8; rw [List.length_take]; omega)
    rw [ex_front] at h ⊢
    rw [show (ByteArray.mk (List.take 8 B).toArray).data.toList = B.take 8 from rfl, hx0] at h
    exact h)
  have N2 : Hid (∀ w, Calls Tryz.prog 188 #[.string ((ByteArray.mk B.toArray).extract 9 13)] w fun e w' => e = .returned (.int .i64 (x2 : Nat)) ∧ Below w.heap.size w w') := hide (fun w => by
    have h := numberOf_any ((ByteArray.mk B.toArray).extract 9 13) w (by rw [ex_mid, Lib.size_eq]; show ((B.drop 9).take 4).length ≤ 8; rw [List.length_take]; omega)
    rw [ex_mid] at h ⊢
    rw [show (ByteArray.mk (List.take (13 - 9) (List.drop 9 B)).toArray).data.toList = (B.drop 9).take 4 from rfl, un_take_le _ _ (by decide), hx2] at h
    exact h)
  have N3 : Hid (∀ w, Calls Tryz.prog 188 #[.string ((ByteArray.mk B.toArray).extract 13 17)] w fun e w' => e = .returned (.int .i64 (x3 : Nat)) ∧ Below w.heap.size w w') := hide (fun w => by
    have h := numberOf_any ((ByteArray.mk B.toArray).extract 13 17) w (by rw [ex_mid, Lib.size_eq]; show ((B.drop 13).take 4).length ≤ 8; rw [List.length_take]; omega)
    rw [ex_mid] at h ⊢
    rw [show (ByteArray.mk (List.take (17 - 13) (List.drop 13 B)).toArray).data.toList = (B.drop 13).take 4 from rfl, un_take_le _ _ (by decide), hx3] at h
    exact h)
  have N4 : Hid (∀ w, Calls Tryz.prog 188 #[.string ((ByteArray.mk B.toArray).extract 17 21)] w fun e w' => e = .returned (.int .i64 (x4 : Nat)) ∧ Below w.heap.size w w') := hide (fun w => by
    have h := numberOf_any ((ByteArray.mk B.toArray).extract 17 21) w (by rw [ex_mid, Lib.size_eq]; show ((B.drop 17).take 4).length ≤ 8; rw [List.length_take]; omega)
    rw [ex_mid] at h ⊢
    rw [show (ByteArray.mk (List.take (21 - 17) (List.drop 17 B)).toArray).data.toList = (B.drop 17).take 4 from rfl, un_take_le _ _ (by decide), hx4] at h
    exact h)
  have E0 := hide hx0
  have E2 := hide hx2
  have E3 := hide hx3
  have E4 := hide hx4
  clear hx0 hx2 hx3 hx4
  go_wp2_with fail
  rw [hex]
  clear hex
  have h8 : 8 < B.length := by rw [unhide EBl]; omega
  have hib8 : 8 < (ByteArray.mk B.toArray).size := by rw [hzB]; omega
  obtain ⟨x1, hx1⟩ : ∃ x, B[8].toNat = x := ⟨_, rfl⟩
  have hi8 : (ByteArray.mk B.toArray)[8].toNat = x1 := hx1
  have hx1b : x1 < 256 := by have := B[8].toNat_lt; omega
  have E1 : Hid (un ((B.drop 8).take 1) = x1) := hide ((un_one B 8 h8).trans hx1)
  clear hx1 h8
  have hwx : IntKind.i64.wrap (x1 : Int) = (x1 : Int) := by rw [IntKind.wrap_i64]; omega
  go_cut [8] from 12 (fun t8 wx => ∃ q, t8 = .pointer (some ⟨q, 0, none⟩) ∧ RBody w wx q ⟨x0, x1, x2, [], [], x3, x4⟩)
  case first =>
    clear hzs hib c0 n1 n2 n3 n4 n5 hn hl h3 hm h24 EL EQ EX HS HW E0 E1 E2 E3 E4 EB
    go_region_held3 (fun _ => True) (trivial) (first
      | (go_at_call_of 188 (Value.string ((ByteArray.mk B.toArray).extract 0 8)); refine (unhide N0 _).mono ?_; rintro e w1 ⟨rfl, hb1⟩; have B1 : Hid (Below W.heap.size W w1) := (by first | exact hide (below_next (Below.refl _ W).drew hb1) | exact hide (below_next ((Below.refl _ W).alloc (Nat.le_refl _) _).drew hb1)); have hz1 := hb1.size; (try simp at hz1); (try (have q1 : W.heap.size < w1.heap.size := (by omega); have T10 : Hid (TxnAt w1 W.heap.size t0) := hide ((hb1.block _ (by simp)).trans (heap_new W _)))))
      | (go_at_call_of 188 (Value.string ((ByteArray.mk B.toArray).extract 9 13)); refine (unhide N2 _).mono ?_; rintro e w2 ⟨rfl, hb2⟩; have B2 : Hid (Below W.heap.size W w2) := (by first | exact hide (below_next (unhide B1) hb2) | exact hide (below_next ((unhide B1).alloc (unhide B1).size _) hb2)); have hz2 := hb2.size; (try simp at hz2); (try (have q2 : w1.heap.size < w2.heap.size := (by omega); have T21 : Hid (TxnAt w2 w1.heap.size t0) := hide ((hb2.block _ (by simp)).trans (heap_new w1 _)))); (try (have T20 : Hid (TxnAt w2 W.heap.size t0) := hide ((unhide T10).kept hb2 (by omega)))))
      | (go_at_call_of 188 (Value.string ((ByteArray.mk B.toArray).extract 13 17)); refine (unhide N3 _).mono ?_; rintro e w3 ⟨rfl, hb3⟩; have B3 : Hid (Below W.heap.size W w3) := (by first | exact hide (below_next (unhide B2) hb3) | exact hide (below_next ((unhide B2).alloc (unhide B2).size _) hb3)); have hz3 := hb3.size; (try simp at hz3); (try (have q3 : w2.heap.size < w3.heap.size := (by omega); have T32 : Hid (TxnAt w3 w2.heap.size t0) := hide ((hb3.block _ (by simp)).trans (heap_new w2 _)))); (try (have T30 : Hid (TxnAt w3 W.heap.size t0) := hide ((unhide T20).kept hb3 (by omega)))); (try (have T31 : Hid (TxnAt w3 w1.heap.size t0) := hide ((unhide T21).kept hb3 (by omega)))))
      | (go_at_call_of 188 (Value.string ((ByteArray.mk B.toArray).extract 17 21)); refine (unhide N4 _).mono ?_; rintro e w4 ⟨rfl, hb4⟩; have B4 : Hid (Below W.heap.size W w4) := (by first | exact hide (below_next (unhide B3) hb4) | exact hide (below_next ((unhide B3).alloc (unhide B3).size _) hb4)); have hz4 := hb4.size; (try simp at hz4); (try (have q4 : w3.heap.size < w4.heap.size := (by omega); have T43 : Hid (TxnAt w4 w3.heap.size t0) := hide ((hb4.block _ (by simp)).trans (heap_new w3 _)))); (try (have T40 : Hid (TxnAt w4 W.heap.size t0) := hide ((unhide T30).kept hb4 (by omega)))); (try (have T41 : Hid (TxnAt w4 w1.heap.size t0) := hide ((unhide T31).kept hb4 (by omega)))); (try (have T42 : Hid (TxnAt w4 w2.heap.size t0) := hide ((unhide T32).kept hb4 (by omega)))); (try (have g0 := (unhide T40).c0; have g1 := (unhide T40).c1; have g2 := (unhide T40).c2; have g3 := (unhide T40).c3; have g4 := (unhide T40).c4; have g5 := (unhide T40).c5; have g6 := (unhide T40).c6; have gf := (unhide T40).f)); (try (have g0 := (unhide T41).c0; have g1 := (unhide T41).c1; have g2 := (unhide T41).c2; have g3 := (unhide T41).c3; have g4 := (unhide T41).c4; have g5 := (unhide T41).c5; have g6 := (unhide T41).c6; have gf := (unhide T41).f)); (try (have g0 := (unhide T42).c0; have g1 := (unhide T42).c1; have g2 := (unhide T42).c2; have g3 := (unhide T42).c3; have g4 := (unhide T42).c4; have g5 := (unhide T42).c5; have g6 := (unhide T42).c6; have gf := (unhide T42).f)); (try (have g0 := (unhide T43).c0; have g1 := (unhide T43).c1; have g2 := (unhide T43).c2; have g3 := (unhide T43).c3; have g4 := (unhide T43).c4; have g5 := (unhide T43).c5; have g6 := (unhide T43).c6; have gf := (unhide T43).f))))
    all_goals go_wp2_with fail
    all_goals go_meet
    all_goals first
      | exact ⟨W.heap.size, rfl, fin_put (unhide H) (unhide B4) (unhide T40) (Nat.le_refl _) ⟨x0, x1, x2, [], [], x3, x4⟩⟩
      | exact ⟨w1.heap.size, rfl, fin_put (unhide H) (unhide B4) (unhide T41) (unhide B1).size ⟨x0, x1, x2, [], [], x3, x4⟩⟩
      | exact ⟨w2.heap.size, rfl, fin_put (unhide H) (unhide B4) (unhide T42) (unhide B2).size ⟨x0, x1, x2, [], [], x3, x4⟩⟩
      | exact ⟨w3.heap.size, rfl, fin_put (unhide H) (unhide B4) (unhide T43) (unhide B3).size ⟨x0, x1, x2, [], [], x3, x4⟩⟩
      | exact ⟨w4.heap.size, rfl, fin_new (unhide H) (unhide B4) ⟨x0, x1, x2, [], [], x3, x4⟩⟩
  case rest =>
    obtain ⟨q, rfl, hrb⟩ := hcut
    have HB := hide hrb
    clear hrb H N0 N2 N3 N4 n1 n2 n3 n4 n5 n8 n9 n13 n17 n22 hi8 hib8 hib c0 hzs
    generalize wc = W at HB ⊢
    have h21 : 21 < B.length := by rw [unhide EBl]; omega
    have hib21 : 21 < (ByteArray.mk B.toArray).size := by rw [hzB]; omega
    obtain ⟨P, hP⟩ : ∃ P, plOf B = P := ⟨_, rfl⟩
    have hPb : P < 256 := hP ▸ plOf_le B
    have hi21 : (ByteArray.mk B.toArray)[21].toNat = P := (un_one B 21 h21).symm.trans hP
    have n30 : (21 : Int) < (L : Int) := by omega
    have EP := hide hP
    clear hP h21
    by_cases hLP : L < 24 + P
    · have hf : fitB (insideL s) = false := fitB_no (by rw [unhide EB, unhide EBl, unhide EP]; omega)
      have HU := hide (dec_form (unhide HW) (unhide HS) (unf_bad hf).1 (by decide))
      clear hf
      have n31 : (L : Int) < 24 + (P : Int) := by omega
      have H := hide (unhide HB).dec
      have r0 : W.cell? ⟨w.heap.size, 0, none⟩ = some (.int .i64 0) := (unhide H).res.c0
      have r1 : W.cell? ⟨w.heap.size, 1, none⟩ = some (.int .i64 0) := (unhide H).res.c1
      have r2 : W.cell? ⟨w.heap.size, 2, none⟩ = some (.int .i64 0) := (unhide H).res.c2
      have r3 : W.cell? ⟨w.heap.size, 3, none⟩ = some (.string ⟨#[]⟩) := (unhide H).res.c3
      have r4 : W.cell? ⟨w.heap.size, 4, none⟩ = some (.string ⟨#[]⟩) := (unhide H).res.c4
      have r5 : W.cell? ⟨w.heap.size, 5, none⟩ = some (.int .i64 0) := (unhide H).res.c5
      have r6 : W.cell? ⟨w.heap.size, 6, none⟩ = some (.int .i64 0) := (unhide H).res.c6
      have rf := (unhide H).res.f
      have m0 : W.cell? ⟨w.heap.size + 1, 0, none⟩ = some (.int .i64 0) := (unhide H).non.c0
      have m1 : W.cell? ⟨w.heap.size + 1, 1, none⟩ = some (.int .i64 0) := (unhide H).non.c1
      have m2 : W.cell? ⟨w.heap.size + 1, 2, none⟩ = some (.int .i64 0) := (unhide H).non.c2
      have m3 : W.cell? ⟨w.heap.size + 1, 3, none⟩ = some (.string ⟨#[]⟩) := (unhide H).non.c3
      have m4 : W.cell? ⟨w.heap.size + 1, 4, none⟩ = some (.string ⟨#[]⟩) := (unhide H).non.c4
      have m5 : W.cell? ⟨w.heap.size + 1, 5, none⟩ = some (.int .i64 0) := (unhide H).non.c5
      have m6 : W.cell? ⟨w.heap.size + 1, 6, none⟩ = some (.int .i64 0) := (unhide H).non.c6
      go_wp2_with fail
      change bodyPost _ _ _ _ _ (putTxn W w.heap.size t0)
      have HP := hide ((unhide H).res.store t0)
      have hB : Below w.heap.size w (putTxn W w.heap.size t0) := (only_put _ _ _).below (unhide H).below (Nat.le_refl _)
      generalize putTxn W w.heap.size t0 = V2 at HP hB ⊢
      have s0 := (unhide HP).c0
      have s1 := (unhide HP).c1
      have s2 := (unhide HP).c2
      have s3 := (unhide HP).c3
      have s4 := (unhide HP).c4
      have s5 := (unhide HP).c5
      have s6 := (unhide HP).c6
      exact bodyPost_ret (v := .tuple #[txnV t0, .int .i64 0, .int .i64 2]) (by simp [results, Tryz.results166, go_sem, s0, s1, s2, s3, s4, s5, s6, txnV]) rfl ⟨by rw [(unhide HU).1, (unhide HU).2.1, (unhide HU).2.2], hB⟩
    · have n31 : (24 : Int) + (P : Int) ≤ (L : Int) := by omega
      have n32 : (22 : Int) + (P : Int) ≤ (L : Int) := by omega
      have n33 : (22 : Int) ≤ 22 + (P : Int) := by omega
      have n34 : (22 : Int) + (P : Int) ≤ 24 + (P : Int) := by omega
      have n35 : (0 : Int) ≤ 22 + (P : Int) := by omega
      obtain ⟨Pp, hPp⟩ : ∃ x, (B.drop 22).take P = x := ⟨_, rfl⟩
      obtain ⟨D, hD⟩ : ∃ x, dlOf B = x := ⟨_, rfl⟩
      have hDb : D < 65536 := hD ▸ dlOf_le B
      have hPl : Pp.length ≤ 255 := by rw [← hPp, List.length_take]; omega
      have hexp : (ByteArray.mk B.toArray).extract 22 (22 + P) = ⟨Pp.toArray⟩ := by rw [ex_mid, show 22 + P - 22 = P from by omega, hPp]
      have ND : Hid (∀ w, Calls Tryz.prog 188 #[.string ((ByteArray.mk B.toArray).extract (22 + P) (24 + P))] w fun e w' => e = .returned (.int .i64 (D : Nat)) ∧ Below w.heap.size w w') := hide (fun w => by
        have h := numberOf_any ((ByteArray.mk B.toArray).extract (22 + P) (24 + P)) w (by rw [ex_mid, Lib.size_eq]; show ((B.drop (22 + P)).take (24 + P - (22 + P))).length ≤ 8; rw [List.length_take]; omega)
        rw [ex_mid] at h ⊢
        rw [show (ByteArray.mk (List.take (24 + P - (22 + P)) (List.drop (22 + P) B)).toArray).data.toList = (B.drop (22 + P)).take (24 + P - (22 + P)) from rfl] at h
        rw [show 24 + P - (22 + P) = 2 from by omega] at h ⊢
        rw [un_take_le _ _ (by decide), ← unhide EP, show un ((B.drop (22 + plOf B)).take 2) = dlOf B from rfl, hD, unhide EP] at h
        exact h)
      have EPp := hide hPp
      have ED := hide hD
      clear hPp hD
      have k3 := (unhide HB).txn.c3
      have kf := (unhide HB).txn.f 3
      go_wp2_with fail
      (try rw [hexp])
      have HB2 := hide ((unhide HB).p Pp)
      clear HB k3 kf
      generalize W.setCell ⟨q, 3, none⟩ (.string ⟨Pp.toArray⟩) = W at HB2 ⊢
      refine (unhide ND _).mono ?_
      rintro e w2 ⟨rfl, hb2⟩
      have HB := hide ((unhide HB2).kept hb2)
      clear HB2 hb2 ND W
      generalize w2 = W at HB ⊢
      by_cases hLD : L = 24 + P + D
      · have hft : fitB (insideL s) = true := fitB_iff.2 (by rw [unhide EB, unhide EBl, unhide EP, unhide ED]; omega)
        have hne0 : ((L : Int) != 24 + (P : Int) + (D : Int)) = false := by rw [bne_eq_false_iff_eq]; omega
        obtain ⟨Dd, hDd⟩ : ∃ x, B.drop (24 + P) = x := ⟨_, rfl⟩
        have hDl : Dd.length ≤ 1024 := by rw [← hDd, List.length_drop, unhide EBl]; omega
        have hexd : (ByteArray.mk B.toArray).extract (24 + P) L = ⟨Dd.toArray⟩ := by rw [← unhide EBl, ex_back, hDd]
        have hT : tOf (insideL s) = ⟨x0, x1, x2, Pp, Dd, x3, x4⟩ := by
          rw [unhide EB, tOf, unhide E0, unhide E1, unhide E2, unhide E3, unhide E4, unhide EP, unhide EPp, hDd]
        have hx0m : x0 ≤ 9223372036854775807 := by rw [← unhide E0]; unfold wrap64; omega
        have Hft := hide hft
        have HT := hide hT
        have n36 : (0 : Int) ≤ 24 + (P : Int) := by omega
        clear hft hT hDd hexp hLD
        have kf := (unhide HB).txn.f 4
        have t0' : W.cell? ⟨q, 0, none⟩ = some (.int .i64 x0) := (unhide HB).txn.c0
        have t1' : W.cell? ⟨q, 1, none⟩ = some (.int .i64 x1) := (unhide HB).txn.c1
        have t2' : W.cell? ⟨q, 2, none⟩ = some (.int .i64 x2) := (unhide HB).txn.c2
        have t3' : W.cell? ⟨q, 3, none⟩ = some (.string ⟨Pp.toArray⟩) := (unhide HB).txn.c3
        have t4' : W.cell? ⟨q, 4, none⟩ = some (.string ⟨#[]⟩) := (unhide HB).txn.c4
        have t5' : W.cell? ⟨q, 5, none⟩ = some (.int .i64 x3) := (unhide HB).txn.c5
        have t6' : W.cell? ⟨q, 6, none⟩ = some (.int .i64 x4) := (unhide HB).txn.c6
        go_wp2_with fail
        (try rw [hexd])
        have HB2 := hide ((unhide HB).d Dd)
        clear HB kf t0' t1' t2' t3' t4' t5' t6'
        generalize W.setCell ⟨q, 4, none⟩ (.string ⟨Dd.toArray⟩) = W at HB2 ⊢
        refine (rgd_any ⟨x0, x1, x2, Pp, Dd, x3, x4⟩ _ hx0m (by show Pp.length ≤ _; omega) (by show Dd.length ≤ _; omega)).mono ?_
        rintro e w3 ⟨rfl, hb3⟩
        have HB := hide ((unhide HB2).kept hb3)
        clear HB2 hb3 W
        generalize w3 = W at HB ⊢
        by_cases hG : gdE ⟨x0, x1, x2, Pp, Dd, x3, x4⟩ = 0
        · have HU := hide (dec_ok (unhide HW) (unhide HS) ((unf_ok (unhide Hft) (by rw [unhide HT]; exact hG)).1))
          rw [unhide HT, unhide EL] at HU
          rw [hG]
          clear hG
          have H := hide (unhide HB).dec
          have r0 : W.cell? ⟨w.heap.size, 0, none⟩ = some (.int .i64 0) := (unhide H).res.c0
          have r1 : W.cell? ⟨w.heap.size, 1, none⟩ = some (.int .i64 0) := (unhide H).res.c1
          have r2 : W.cell? ⟨w.heap.size, 2, none⟩ = some (.int .i64 0) := (unhide H).res.c2
          have r3 : W.cell? ⟨w.heap.size, 3, none⟩ = some (.string ⟨#[]⟩) := (unhide H).res.c3
          have r4 : W.cell? ⟨w.heap.size, 4, none⟩ = some (.string ⟨#[]⟩) := (unhide H).res.c4
          have r5 : W.cell? ⟨w.heap.size, 5, none⟩ = some (.int .i64 0) := (unhide H).res.c5
          have r6 : W.cell? ⟨w.heap.size, 6, none⟩ = some (.int .i64 0) := (unhide H).res.c6
          have rf := (unhide H).res.f
          have m0 : W.cell? ⟨w.heap.size + 1, 0, none⟩ = some (.int .i64 0) := (unhide H).non.c0
          have m1 : W.cell? ⟨w.heap.size + 1, 1, none⟩ = some (.int .i64 0) := (unhide H).non.c1
          have m2 : W.cell? ⟨w.heap.size + 1, 2, none⟩ = some (.int .i64 0) := (unhide H).non.c2
          have m3 : W.cell? ⟨w.heap.size + 1, 3, none⟩ = some (.string ⟨#[]⟩) := (unhide H).non.c3
          have m4 : W.cell? ⟨w.heap.size + 1, 4, none⟩ = some (.string ⟨#[]⟩) := (unhide H).non.c4
          have m5 : W.cell? ⟨w.heap.size + 1, 5, none⟩ = some (.int .i64 0) := (unhide H).non.c5
          have m6 : W.cell? ⟨w.heap.size + 1, 6, none⟩ = some (.int .i64 0) := (unhide H).non.c6
          have t0' : W.cell? ⟨q, 0, none⟩ = some (.int .i64 x0) := (unhide HB).txn.c0
          have t1' : W.cell? ⟨q, 1, none⟩ = some (.int .i64 x1) := (unhide HB).txn.c1
          have t2' : W.cell? ⟨q, 2, none⟩ = some (.int .i64 x2) := (unhide HB).txn.c2
          have t3' : W.cell? ⟨q, 3, none⟩ = some (.string ⟨Pp.toArray⟩) := (unhide HB).txn.c3
          have t4' : W.cell? ⟨q, 4, none⟩ = some (.string ⟨Dd.toArray⟩) := (unhide HB).txn.c4
          have t5' : W.cell? ⟨q, 5, none⟩ = some (.int .i64 x3) := (unhide HB).txn.c5
          have t6' : W.cell? ⟨q, 6, none⟩ = some (.int .i64 x4) := (unhide HB).txn.c6
          go_wp2_with fail
          change bodyPost _ _ _ _ _ (putTxn W w.heap.size ⟨x0, x1, x2, Pp, Dd, x3, x4⟩)
          have HP := hide ((unhide H).res.store ⟨x0, x1, x2, Pp, Dd, x3, x4⟩)
          have hB : Below w.heap.size w (putTxn W w.heap.size ⟨x0, x1, x2, Pp, Dd, x3, x4⟩) := (only_put _ _ _).below (unhide H).below (Nat.le_refl _)
          generalize putTxn W w.heap.size ⟨x0, x1, x2, Pp, Dd, x3, x4⟩ = V2 at HP hB ⊢
          have s0 := (unhide HP).c0
          have s1 := (unhide HP).c1
          have s2 := (unhide HP).c2
          have s3 := (unhide HP).c3
          have s4 := (unhide HP).c4
          have s5 := (unhide HP).c5
          have s6 := (unhide HP).c6
          exact bodyPost_ret (v := .tuple #[txnV ⟨x0, x1, x2, Pp, Dd, x3, x4⟩, .int .i64 ((L : Int) + 7), .int .i64 0]) (by simp [results, Tryz.results166, go_sem, s0, s1, s2, s3, s4, s5, s6, txnV]) rfl ⟨ret_dec (by rw [(unhide HU).2.1]) (by rw [(unhide HU).2.2]; omega) (unhide HU).1.symm, hB⟩
        · obtain ⟨E, hE⟩ : ∃ E, gdE ⟨x0, x1, x2, Pp, Dd, x3, x4⟩ = E := ⟨_, rfl⟩
          have HU := hide (dec_form (unhide HW) (unhide HS) ((unf_no (unhide Hft) (by rw [unhide HT]; exact hG)).1.trans (by rw [unhide HT, hE])) (by rw [← hE]; exact hG))
          rw [hE] at hG ⊢
          have hneE : (E != 0) = true := by simpa [bne] using hG
          clear hE hG
          have H := hide (unhide HB).dec
          have r0 : W.cell? ⟨w.heap.size, 0, none⟩ = some (.int .i64 0) := (unhide H).res.c0
          have r1 : W.cell? ⟨w.heap.size, 1, none⟩ = some (.int .i64 0) := (unhide H).res.c1
          have r2 : W.cell? ⟨w.heap.size, 2, none⟩ = some (.int .i64 0) := (unhide H).res.c2
          have r3 : W.cell? ⟨w.heap.size, 3, none⟩ = some (.string ⟨#[]⟩) := (unhide H).res.c3
          have r4 : W.cell? ⟨w.heap.size, 4, none⟩ = some (.string ⟨#[]⟩) := (unhide H).res.c4
          have r5 : W.cell? ⟨w.heap.size, 5, none⟩ = some (.int .i64 0) := (unhide H).res.c5
          have r6 : W.cell? ⟨w.heap.size, 6, none⟩ = some (.int .i64 0) := (unhide H).res.c6
          have rf := (unhide H).res.f
          have m0 : W.cell? ⟨w.heap.size + 1, 0, none⟩ = some (.int .i64 0) := (unhide H).non.c0
          have m1 : W.cell? ⟨w.heap.size + 1, 1, none⟩ = some (.int .i64 0) := (unhide H).non.c1
          have m2 : W.cell? ⟨w.heap.size + 1, 2, none⟩ = some (.int .i64 0) := (unhide H).non.c2
          have m3 : W.cell? ⟨w.heap.size + 1, 3, none⟩ = some (.string ⟨#[]⟩) := (unhide H).non.c3
          have m4 : W.cell? ⟨w.heap.size + 1, 4, none⟩ = some (.string ⟨#[]⟩) := (unhide H).non.c4
          have m5 : W.cell? ⟨w.heap.size + 1, 5, none⟩ = some (.int .i64 0) := (unhide H).non.c5
          have m6 : W.cell? ⟨w.heap.size + 1, 6, none⟩ = some (.int .i64 0) := (unhide H).non.c6
          go_wp2_with fail
          change bodyPost _ _ _ _ _ (putTxn W w.heap.size t0)
          have HP := hide ((unhide H).res.store t0)
          have hB : Below w.heap.size w (putTxn W w.heap.size t0) := (only_put _ _ _).below (unhide H).below (Nat.le_refl _)
          generalize putTxn W w.heap.size t0 = V2 at HP hB ⊢
          have s0 := (unhide HP).c0
          have s1 := (unhide HP).c1
          have s2 := (unhide HP).c2
          have s3 := (unhide HP).c3
          have s4 := (unhide HP).c4
          have s5 := (unhide HP).c5
          have s6 := (unhide HP).c6
          exact bodyPost_ret (v := .tuple #[txnV t0, .int .i64 0, .int .i64 E]) (by simp [results, Tryz.results166, go_sem, s0, s1, s2, s3, s4, s5, s6, txnV]) rfl ⟨by rw [(unhide HU).1, (unhide HU).2.1, (unhide HU).2.2], hB⟩
      · have hf : fitB (insideL s) = false := fitB_no (by rw [unhide EB, unhide EBl, unhide EP, unhide ED]; omega)
        have HU := hide (dec_form (unhide HW) (unhide HS) (unf_bad hf).1 (by decide))
        have hne1 : ((L : Int) != 24 + (P : Int) + (D : Int)) = true := by rw [bne_iff_ne]; omega
        clear hf hexp
        have H := hide (unhide HB).dec
        have r0 : W.cell? ⟨w.heap.size, 0, none⟩ = some (.int .i64 0) := (unhide H).res.c0
        have r1 : W.cell? ⟨w.heap.size, 1, none⟩ = some (.int .i64 0) := (unhide H).res.c1
        have r2 : W.cell? ⟨w.heap.size, 2, none⟩ = some (.int .i64 0) := (unhide H).res.c2
        have r3 : W.cell? ⟨w.heap.size, 3, none⟩ = some (.string ⟨#[]⟩) := (unhide H).res.c3
        have r4 : W.cell? ⟨w.heap.size, 4, none⟩ = some (.string ⟨#[]⟩) := (unhide H).res.c4
        have r5 : W.cell? ⟨w.heap.size, 5, none⟩ = some (.int .i64 0) := (unhide H).res.c5
        have r6 : W.cell? ⟨w.heap.size, 6, none⟩ = some (.int .i64 0) := (unhide H).res.c6
        have rf := (unhide H).res.f
        have m0 : W.cell? ⟨w.heap.size + 1, 0, none⟩ = some (.int .i64 0) := (unhide H).non.c0
        have m1 : W.cell? ⟨w.heap.size + 1, 1, none⟩ = some (.int .i64 0) := (unhide H).non.c1
        have m2 : W.cell? ⟨w.heap.size + 1, 2, none⟩ = some (.int .i64 0) := (unhide H).non.c2
        have m3 : W.cell? ⟨w.heap.size + 1, 3, none⟩ = some (.string ⟨#[]⟩) := (unhide H).non.c3
        have m4 : W.cell? ⟨w.heap.size + 1, 4, none⟩ = some (.string ⟨#[]⟩) := (unhide H).non.c4
        have m5 : W.cell? ⟨w.heap.size + 1, 5, none⟩ = some (.int .i64 0) := (unhide H).non.c5
        have m6 : W.cell? ⟨w.heap.size + 1, 6, none⟩ = some (.int .i64 0) := (unhide H).non.c6
        go_wp2_with fail
        change bodyPost _ _ _ _ _ (putTxn W w.heap.size t0)
        have HP := hide ((unhide H).res.store t0)
        have hB : Below w.heap.size w (putTxn W w.heap.size t0) := (only_put _ _ _).below (unhide H).below (Nat.le_refl _)
        generalize putTxn W w.heap.size t0 = V2 at HP hB ⊢
        have s0 := (unhide HP).c0
        have s1 := (unhide HP).c1
        have s2 := (unhide HP).c2
        have s3 := (unhide HP).c3
        have s4 := (unhide HP).c4
        have s5 := (unhide HP).c5
        have s6 := (unhide HP).c6
        exact bodyPost_ret (v := .tuple #[txnV t0, .int .i64 0, .int .i64 2]) (by simp [results, Tryz.results166, go_sem, s0, s1, s2, s3, s4, s5, s6, txnV]) rfl ⟨by rw [(unhide HU).1, (unhide HU).2.1, (unhide HU).2.2], hB⟩

end Go.Proofs.YthkggmmalffcdaaGreatDoor
