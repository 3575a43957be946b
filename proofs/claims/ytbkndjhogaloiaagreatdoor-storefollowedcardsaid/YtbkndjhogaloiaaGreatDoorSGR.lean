/-
  What wire.Decode answers of a text that has a record's form: the walk.
  What wal.Recover answers of every disk; what wal.upTo answers.
  What aviarykeep's logOf, laid and logs answer: the walks.
-/
import Derived.Test.YtbkndjhogaloiaaGreatDoorSGQ
import Derived.Test.YtbkndjhogaloiaaGreatDoorSGK
import Derived.Test.YtbkndjhogaloiaaGreatDoorSGN
namespace Go.Proofs.YtbkndjhogaloiaaGreatDoor
open Go.RowKit
set_option maxRecDepth 10000 in

set_option maxHeartbeats 400000 in
theorem decode_whole (s : List UInt8) (w : World) (hm : s.take 1 = [84]) (hl : lenOf s ≤ 1024) (hn : lenOf s + 7 ≤ s.length) :
    Calls Tryz.prog 67 #[.string ⟨s.toArray⟩] w fun e w' => e = .returned (.tuple #[txnV (decT s), .int .i64 (decN s), .int .i64 (decE s)]) ∧ Below w.heap.size w w' := by
  have HW := hide (wholeB_iff.2 ⟨hm, hl, hn⟩)
  have hlk : lackD s = false := lackD_iff.2 hn
  have HK := hide hlk
  have ET := hide hm
  clear hm hlk
  go_enter Tryz.func67, Tryz.ntmps67
  go_wp2_with fail
  refine (along_any s _).mono ?_
  rintro e wA ⟨rfl, rfl⟩
  go_wp2_with fail
  have H := hide (Dec.new (w := w) (s := s))
  generalize (w.alloc _).alloc _ = W at H ⊢
  refine (text_any (w.heap.size + 1) 1 _ _ _ (by decide) (unhide H).cur).mono ?_
  rintro e w1 ⟨rfl, hc1, ho1⟩
  replace H := hide ((unhide H).took hc1 ho1)
  clear hc1 ho1 W
  generalize w1 = W at *
  rw [unhide ET]
  go_wp2_with fail
  refine (cnumber_any (w.heap.size + 1) 2 _ _ _ (by decide) (unhide H).cur).mono ?_
  rintro e w1 ⟨rfl, hc1, ho1⟩
  replace H := hide ((unhide H).took hc1 ho1)
  clear hc1 ho1 W
  generalize w1 = W at *
  rw [un_take_le _ _ (by decide)]
  rw [show un ((s.drop 1).take 2) = lenOf s from rfl]
  simp only [List.drop_drop, Nat.reduceAdd] at H
  obtain ⟨L, hL⟩ : ∃ L, lenOf s = L := ⟨_, rfl⟩
  rw [hL] at hl hn ⊢
  have EL := hide hL
  clear hL
  go_wp2_with fail
  refine (text_any (w.heap.size + 1) L _ _ _ (by omega) (unhide H).cur).mono ?_
  rintro e w1 ⟨rfl, hc1, ho1⟩
  replace H := hide ((unhide H).took hc1 ho1)
  clear hc1 ho1 W
  generalize w1 = W at *
  simp only [List.drop_drop] at H
  obtain ⟨B, hB⟩ : ∃ B, (s.drop 3).take L = B := ⟨_, rfl⟩
  rw [hB]
  have EB := hide hB
  clear hB
  have CL := hide (left_any (w.heap.size + 1) _ _ _ (unhide H).cur)
  rw [List.length_drop] at CL
  have hzs : (ByteArray.mk s.toArray).size = s.length := Lib.size_eq ⟨s.toArray⟩
  obtain ⟨M, hM⟩ : ∃ M, s.length - (3 + L) = M := ⟨_, rfl⟩
  rw [hM] at CL
  have hM2 : s.length = M + (L + 3) := by omega
  obtain ⟨Y, hY⟩ : ∃ Y, s.drop (3 + L) = Y := ⟨_, rfl⟩
  have EY := hide hY
  have HM := hide hM2
  clear hY hM hM2
  go_wp2_with fail
  refine (unhide CL).mono ?_
  rintro e wL ⟨rfl, hwL⟩
  rw [hwL]
  clear hwL
  clear CL
  go_wp2_with fail
  refine (cnumber_any (w.heap.size + 1) 4 _ _ _ (by decide) (unhide H).cur).mono ?_
  rintro e w1 ⟨rfl, hc1, ho1⟩
  replace H := hide ((unhide H).took hc1 ho1)
  clear hc1 ho1 W
  generalize w1 = W at *
  simp only [List.drop_drop] at H
  have cc1 := (unhide H).cur
  rw [← unhide EL] at cc1
  have cc3 : Cur W (w.heap.size + 1) _ (lackD s) := cc1
  rw [unhide HK] at cc3
  have CSh := hide (short_any _ _ _ _ cc3)
  have cc2 := cc3.c1
  clear cc1 cc3
  rw [un_take_le _ _ (by decide), show 3 + L = L + 3 from by omega]
  obtain ⟨Q, hQ⟩ : ∃ Q, un ((s.drop (L + 3)).take 4) = Q := ⟨_, rfl⟩
  rw [hQ]
  have EQ := hide hQ
  clear hQ
  have hd3 : wrap64 ((s.length : Int) - (M : Int)) = (L : Int) + 3 := by have := unhide HM; unfold wrap64; omega
  rw [hd3]
  clear hd3
  have c1 : (0 : Int) ≤ (L : Int) + 3 := by omega
  have c2 : (L : Int) + 3 ≤ (s.length : Int) := by omega
  go_wp2_with fail
  refine (unhide CSh).mono ?_
  rintro e wS ⟨rfl, hwS⟩
  rw [hwS]
  clear hwS
  clear CSh
  go_wp2_with fail
  rw [ex_front]
  have hzp : (ByteArray.mk (s.take (L + 3)).toArray).size = (s.take (L + 3)).length := Lib.size_eq ⟨_⟩
  rw [List.length_take] at hzp
  refine (wsum_any ⟨(s.take (L + 3)).toArray⟩ _ (by omega)).mono ?_
  rintro e w6 ⟨rfl, hw6⟩
  rw [hw6]
  clear hzp hw6
  rw [show (ByteArray.mk (s.take (L + 3)).toArray).data.toList = s.take (L + 3) from rfl]
  obtain ⟨X, hX⟩ : ∃ X, sumN (s.take (L + 3)) = X := ⟨_, rfl⟩
  rw [hX]
  have EX := hide hX
  clear hX
  by_cases hXQ : X = Q
  · subst hXQ
    have Hsum : Hid (sumB s = true) := hide (sumB_iff.2 (by rw [unhide EL, unhide EQ, unhide EX]))
    have Hin : Hid (insideL s = B) := hide (by rw [insideL, unhide EL, unhide EB])
    go_wp2_with fail
    refine (unfold_any B _).mono ?_
    rintro e w5 ⟨rfl, hb5⟩
    replace H := hide ((unhide H).kept hb5)
    clear hb5 cc2 W
    generalize w5 = W at *
    by_cases hE : unfE B = 0
    · have HU := hide (dec_ok (unhide HW) (unhide Hsum) (by rw [unhide Hin]; exact hE))
      have Ht : Hid (unfT B = tOf B) := hide (by rw [unfT, hE, if_pos rfl])
      rw [hE, unhide Ht]
      rw [unhide Hin, unhide EL] at HU
      obtain ⟨t, ht⟩ : ∃ t, tOf B = t := ⟨_, rfl⟩
      rw [ht] at HU ⊢
      clear ht hE Ht
      obtain ⟨z, o, s', p, d, v, u⟩ := t
      unfold txnV
      have r0 : W.cell? ⟨w.heap.size, 0, none⟩ = some (.int .i64 0) := (unhide H).res.c0
      have r1 : W.cell? ⟨w.heap.size, 1, none⟩ = some (.int .i64 0) := (unhide H).res.c1
      have r2 : W.cell? ⟨w.heap.size, 2, none⟩ = some (.int .i64 0) := (unhide H).res.c2
      have r3 : W.cell? ⟨w.heap.size, 3, none⟩ = some (.string ⟨#[]⟩) := (unhide H).res.c3
      have r4 : W.cell? ⟨w.heap.size, 4, none⟩ = some (.string ⟨#[]⟩) := (unhide H).res.c4
      have r5 : W.cell? ⟨w.heap.size, 5, none⟩ = some (.int .i64 0) := (unhide H).res.c5
      have r6 : W.cell? ⟨w.heap.size, 6, none⟩ = some (.int .i64 0) := (unhide H).res.c6
      have rf := (unhide H).res.f
      have hlt2 : w.heap.size < W.heap.size := by have := (unhide H).size; omega
      go_wp2_with fail
      change bodyPost _ _ _ _ _ ((putTxn W w.heap.size ⟨z, o, s', p, d, v, u⟩).alloc (.cells #[.int .i64 z, .int .i64 o, .int .i64 s', .string ⟨p.toArray⟩, .string ⟨d.toArray⟩, .int .i64 v, .int .i64 u] 47))
      have HP := hide (((unhide H).res.store ⟨z, o, s', p, d, v, u⟩).kept ((Below.refl _ _).alloc (Nat.le_refl _) (.cells #[.int .i64 z, .int .i64 o, .int .i64 s', .string ⟨p.toArray⟩, .string ⟨d.toArray⟩, .int .i64 v, .int .i64 u] 47)) (by rw [(only_put _ _ _).size]; exact hlt2))
      have hB : Below w.heap.size w ((putTxn W w.heap.size ⟨z, o, s', p, d, v, u⟩).alloc (.cells #[.int .i64 z, .int .i64 o, .int .i64 s', .string ⟨p.toArray⟩, .string ⟨d.toArray⟩, .int .i64 v, .int .i64 u] 47)) := ((only_put _ _ _).below (unhide H).below (Nat.le_refl _)).alloc (by rw [(only_put _ _ _).size]; exact Nat.le_of_lt hlt2) _
      generalize (putTxn W w.heap.size ⟨z, o, s', p, d, v, u⟩).alloc (.cells #[.int .i64 z, .int .i64 o, .int .i64 s', .string ⟨p.toArray⟩, .string ⟨d.toArray⟩, .int .i64 v, .int .i64 u] 47) = V2 at HP hB ⊢
      have s0 := (unhide HP).c0
      have s1 := (unhide HP).c1
      have s2 := (unhide HP).c2
      have s3 := (unhide HP).c3
      have s4 := (unhide HP).c4
      have s5 := (unhide HP).c5
      have s6 := (unhide HP).c6
      exact bodyPost_ret (v := .tuple #[txnV ⟨z, o, s', p, d, v, u⟩, .int .i64 ((L : Int) + 3 + 4), .int .i64 0]) (by simp [results, Tryz.results67, go_sem, s0, s1, s2, s3, s4, s5, s6, txnV]) rfl ⟨ret_dec (by rw [(unhide HU).2.1]) (by rw [(unhide HU).2.2]; omega) (unhide HU).1.symm, hB⟩
    · have HU := hide (dec_form (unhide HW) (unhide Hsum) (by rw [unhide Hin]) hE)
      have Ht : Hid (unfT B = t0) := hide (by rw [unfT, if_neg hE])
      rw [unhide Ht]
      obtain ⟨E, hEE⟩ : ∃ E, unfE B = E := ⟨_, rfl⟩
      rw [hEE] at HU hE ⊢
      have hne : (E != 0) = true := by simpa [bne] using hE
      clear hEE hE Ht
      unfold txnV t0
      have r0 : W.cell? ⟨w.heap.size, 0, none⟩ = some (.int .i64 0) := (unhide H).res.c0
      have r1 : W.cell? ⟨w.heap.size, 1, none⟩ = some (.int .i64 0) := (unhide H).res.c1
      have r2 : W.cell? ⟨w.heap.size, 2, none⟩ = some (.int .i64 0) := (unhide H).res.c2
      have r3 : W.cell? ⟨w.heap.size, 3, none⟩ = some (.string ⟨#[]⟩) := (unhide H).res.c3
      have r4 : W.cell? ⟨w.heap.size, 4, none⟩ = some (.string ⟨#[]⟩) := (unhide H).res.c4
      have r5 : W.cell? ⟨w.heap.size, 5, none⟩ = some (.int .i64 0) := (unhide H).res.c5
      have r6 : W.cell? ⟨w.heap.size, 6, none⟩ = some (.int .i64 0) := (unhide H).res.c6
      have rf := (unhide H).res.f
      have hlt2 : w.heap.size < W.heap.size := by have := (unhide H).size; omega
      go_wp2_with fail
      change bodyPost _ _ _ _ _ ((putTxn W w.heap.size t0).alloc (.cells #[.int .i64 0, .int .i64 0, .int .i64 0, .string ⟨#[]⟩, .string ⟨#[]⟩, .int .i64 0, .int .i64 0] 47))
      have HP := hide (((unhide H).res.store t0).kept ((Below.refl _ _).alloc (Nat.le_refl _) (.cells #[.int .i64 0, .int .i64 0, .int .i64 0, .string ⟨#[]⟩, .string ⟨#[]⟩, .int .i64 0, .int .i64 0] 47)) (by rw [(only_put _ _ _).size]; exact hlt2))
      have hB : Below w.heap.size w ((putTxn W w.heap.size t0).alloc (.cells #[.int .i64 0, .int .i64 0, .int .i64 0, .string ⟨#[]⟩, .string ⟨#[]⟩, .int .i64 0, .int .i64 0] 47)) := ((only_put _ _ _).below (unhide H).below (Nat.le_refl _)).alloc (by rw [(only_put _ _ _).size]; exact Nat.le_of_lt hlt2) _
      generalize (putTxn W w.heap.size t0).alloc (.cells #[.int .i64 0, .int .i64 0, .int .i64 0, .string ⟨#[]⟩, .string ⟨#[]⟩, .int .i64 0, .int .i64 0] 47) = V2 at HP hB ⊢
      have s0 := (unhide HP).c0
      have s1 := (unhide HP).c1
      have s2 := (unhide HP).c2
      have s3 := (unhide HP).c3
      have s4 := (unhide HP).c4
      have s5 := (unhide HP).c5
      have s6 := (unhide HP).c6
      exact bodyPost_ret (v := .tuple #[txnV t0, .int .i64 0, .int .i64 E]) (by simp [results, Tryz.results67, go_sem, s0, s1, s2, s3, s4, s5, s6, txnV]) rfl ⟨by rw [(unhide HU).1, (unhide HU).2.1, (unhide HU).2.2], hB⟩
  · have Hsum : Hid (sumB s = false) := hide (by
      cases h : sumB s with
      | false => rfl
      | true =>
        have h2 := sumB_iff.1 h
        rw [unhide EL, unhide EQ, unhide EX] at h2
        exact absurd h2.symm hXQ)
    have HU := hide (dec_sum (unhide HW) (unhide Hsum))
    have hne : ((X : Int) != (Q : Int)) = true := by simp [bne]; omega
    have r0 : W.cell? ⟨w.heap.size, 0, none⟩ = some (.int .i64 0) := (unhide H).res.c0
    have r1 : W.cell? ⟨w.heap.size, 1, none⟩ = some (.int .i64 0) := (unhide H).res.c1
    have r2 : W.cell? ⟨w.heap.size, 2, none⟩ = some (.int .i64 0) := (unhide H).res.c2
    have r3 : W.cell? ⟨w.heap.size, 3, none⟩ = some (.string ⟨#[]⟩) := (unhide H).res.c3
    have r4 : W.cell? ⟨w.heap.size, 4, none⟩ = some (.string ⟨#[]⟩) := (unhide H).res.c4
    have r5 : W.cell? ⟨w.heap.size, 5, none⟩ = some (.int .i64 0) := (unhide H).res.c5
    have r6 : W.cell? ⟨w.heap.size, 6, none⟩ = some (.int .i64 0) := (unhide H).res.c6
    have rf := (unhide H).res.f
    go_wp2_with fail
    change bodyPost _ _ _ _ _ (putTxn W w.heap.size t0)
    have HP := hide ((unhide H).res.store t0)
    have hB : Below w.heap.size w (putTxn W w.heap.size t0) := (only_put _ _ _).below (unhide H).below (Nat.le_refl _)
    generalize putTxn W w.heap.size t0 = V2 at HP hB ⊢
    have s0 := (unhide HP).c0
    have s1 := (unhide HP).c1
    have s2 := (unhide HP).c2
    have s3 := (unhide HP).c3
    have s4 := (unhide HP).c4
    have s5 := (unhide HP).c5
    have s6 := (unhide HP).c6
    exact bodyPost_ret (v := .tuple #[txnV t0, .int .i64 0, .int .i64 5]) (by simp [results, Tryz.results67, go_sem, s0, s1, s2, s3, s4, s5, s6, txnV]) rfl ⟨by rw [(unhide HU).1, (unhide HU).2.1, (unhide HU).2.2], hB⟩

theorem decode_any (s : List UInt8) (w : World) (hs : s.length ≤ 140737488355328) :
    Calls Tryz.prog 67 #[.string ⟨s.toArray⟩] w fun e w' => e = .returned (.tuple #[txnV (decT s), .int .i64 (decN s), .int .i64 (decE s)]) ∧ Below w.heap.size w w' := by
  by_cases hm : s.take 1 = [84]
  · by_cases hl : lenOf s ≤ 1024
    · by_cases hn : lenOf s + 7 ≤ s.length
      · exact decode_whole s w hm hl hn
      · exact decode_short s w hs hm hl (by omega)
    · exact decode_long s w hm (by omega)
  · exact decode_mark s w hm

end Go.Proofs.YtbkndjhogaloiaaGreatDoor

namespace Go.Proofs.YtbkndjhogaloiaaGreatDoor
open Go.RowKit

theorem scan_any {s r : List UInt8} {ts : List WTxn} (S : Scan s ts r) (hs : s.length ≤ 1048576) : GivesL 46 s ts (recsL ts).length := fun W =>
  (scan_of (fun s w h => decode_any s w h) s r ts W S hs).mono fun _ _ ⟨v, he, ho, hb⟩ => ⟨v, he, ho.log, hb⟩
theorem recover_yes {fs A B : List DF} {ts : List WTxn} (h : RecYes fs ts A B) : GivesW 21 (fun x => #[x]) fs ts (A ++ logF ts :: B) 0 := by
  have hs := good_slim h.good
  rcases h.old with ⟨h16, G, rfl⟩ | ⟨f, r, T, S⟩
  · exact wrec_gap_any fs _ 0 (fun v W hv => read_no v fs logN 7 W hv hs (.inr ⟨h.good, ⟨A, B, G⟩, rfl⟩))
      (gives_own fun v W hv => write_new v fs A B logN [] W hv hs h.good named_log h16 G (by decide))
  · have hf := fileOk_len (T.ok h.good)
    have hl := S.len
    rw [List.length_append] at hl
    refine wrec_there fs _ (f.s ++ f.t) ts (recsL ts).length (fun v W hv => read_there v fs A B f logN W hv hs h.good T) (scan_any S (by rw [List.length_append]; omega)) (gives_own fun v W hv => ?_)
    have := cut_there v fs A B f logN (recsL ts).length W hv hs h.good T (by omega)
    rw [S.eq, List.take_left, T.nm] at this
    exact this

theorem keepL_at {z : Int} : ∀ {ts : List WTxn} {k : Nat} {t : WTxn}, ts[k]? = some t → (k < (keepL z ts).length → t.z ≤ z) ∧ (k = (keepL z ts).length → ¬ t.z ≤ z)
  | [], k, t, h => by simp at h
  | x :: l, 0, t, h => by
    simp at h
    subst h
    unfold keepL
    by_cases hx : x.z ≤ z
    · rw [List.takeWhile_cons_of_pos (by simpa using hx)]; simp [hx]
    · rw [List.takeWhile_cons_of_neg (by simpa using hx)]; simp; omega
  | x :: l, k + 1, t, h => by
    have ih := keepL_at (z := z) (ts := l) (k := k) (t := t) (by simpa using h)
    unfold keepL at ih ⊢
    by_cases hx : x.z ≤ z
    · rw [List.takeWhile_cons_of_pos (by simpa using hx)]; simpa using ih
    · rw [List.takeWhile_cons_of_neg (by simpa using hx)]; simp
theorem keepL_is (z : Int) (ts : List WTxn) : ts.take (keepL z ts).length = keepL z ts ∧ (keepL z ts).length ≤ ts.length := by
  obtain ⟨b, e⟩ := keepL_split z ts
  generalize keepL z ts = a at *
  subst e
  simp
theorem recs_take_le (ts : List WTxn) (k : Nat) : (recsL (ts.take k)).length ≤ (recsL ts).length := by
  have : recsL ts = recsL (ts.take k) ++ recsL (ts.drop k) := by rw [← recsL_append, List.take_append_drop]
  rw [this]; simp

theorem ret_n {i j : Nat} (h : i = j) : Ending.returned (.int .i64 (i : Int)) = .returned (.int .i64 (j : Int)) := by rw [h]

set_option maxRecDepth 10000 in
set_option maxHeartbeats 1000000 in
theorem upTo_any (v : Value) (ts : List WTxn) (z : Int) (w : World) (hv : LogV w v ts) (hL : ∀ t ∈ ts, gdE t = 0) (hs : (recsL ts).length ≤ 1048576) :
    Calls Tryz.prog 25 #[v, .int .i64 z] w fun e w' => e = .returned (.int .i64 ((recsL (keepL z ts)).length : Nat)) ∧ Below w.heap.size w w' := by
  have hlen := recsL_ge ts
  have HV := hide hv
  have HG := hide hL
  have HK := hide (keepL_is z ts)
  have HA := hide (fun k t h => keepL_at (z := z) (ts := ts) (k := k) (t := t) h)
  have hK := (keepL_is z ts).2
  generalize keepL z ts = K at *
  obtain ⟨a, c, rfl⟩ := log_slice hv
  clear hv hL
  go_enter Tryz.func25, Tryz.ntmps25
  go_wp2_with fail
  go_loopg [5, 12] ts.length (fun kx s5 s12 wr => ∃ (k N : Nat), s5 = .int .i64 N ∧ s12 = .int .i64 k ∧ k ≤ K.length ∧ ts.length - k ≤ kx ∧ Hid ((recsL (ts.take k)).length = N) ∧ Hid (Below w.heap.size w wr))
  case atStart => exact ⟨0, 0, rfl, rfl, Nat.zero_le _, by omega, hide rfl, hide (Below.refl _ _)⟩
  case round =>
    obtain ⟨k, N, rfl, rfl, hk, hkx, HN, HB⟩ := hrel
    by_cases hlt : k < ts.length
    · obtain ⟨t, ht⟩ : ∃ t, ts[k]? = some t := ⟨_, List.getElem?_eq_getElem hlt⟩
      obtain ⟨b, off, cap, he, hb, hr, _, _, _⟩ := log_row ((unhide HV).next (unhide HB)) ht
      simp only [Value.slice.injEq, true_and] at he
      obtain ⟨rfl, rfl⟩ := he
      have e0 := hr.z ht
      have e1 := hr.o ht
      have e2 := hr.s ht
      have e3 := hr.p ht
      have e4 := hr.d ht
      have e5 := hr.v ht
      have e6 := hr.w ht
      have hlti : (k : Int) < (ts.length : Int) := by omega
      have hg := unhide HG t (List.mem_of_getElem? ht)
      have C := fun W => encode_yes t W hg
      have hat := unhide HA k t ht
      have HL := hide (take_more1 ht)
      have hN1 := recs_take_le ts (k + 1)
      rw [take_more1 ht, recsL_snoc, List.length_append, unhide HN] at hN1
      clear hr ht hb hg
      obtain ⟨R, hR⟩ : ∃ R, recL t = R := ⟨_, rfl⟩
      rw [hR] at C hN1
      have HR := hide hR
      have hzR : (ByteArray.mk R.toArray).size = R.length := Lib.size_eq ⟨R.toArray⟩
      clear hR
      have HB2 := fun o => hide ((unhide HB).alloc (unhide HB).size o)
      obtain ⟨z1, o1, s1, p1, d1, y1, u1⟩ := t
      unfold txnV at C
      simp only at e0 e1 e2 e3 e4 e5 e6
      by_cases hlK : k < K.length
      · have hz' : ¬ z < z1 := by have hz : z1 ≤ z := hat.1 hlK; omega
        clear hat
        go_wp2_with fail
        refine (C _).mono ?_
        rintro e w1 ⟨rfl, hb1⟩
        have HB3 := hide (below_next2 (unhide (HB2 _)) hb1)
        clear C hb1 HB2 e0 e1 e2 e3 e4 e5 e6
        go_wp2_with fail
        go_roundg (ts.length - (k + 1))
        case measure => omega
        case rel => exact ⟨k + 1, N + R.length, by simp, by simp, by omega, Nat.le_refl _, hide (by rw [unhide HL, recsL_snoc, List.length_append, unhide HN, unhide HR]), HB3⟩
      · have hz' : z < z1 := hat.2 (by omega)
        have hN2 : (recsL K).length = N := by rw [← (unhide HK).1, show K.length = k from by omega]; exact unhide HN
        have HN2 := hide hN2
        clear hat hN2 C
        go_wp2_with fail
        go_ret
        exact ⟨ret_n (unhide HN2).symm, unhide (HB2 _)⟩
    · have hki : ¬ ((k : Int) < (ts.length : Int)) := by omega
      have hN2 : (recsL K).length = N := by rw [← (unhide HK).1, show K.length = k from by omega]; exact unhide HN
      have HN2 := hide hN2
      clear hN2
      go_wp2_with fail
      go_ret
      exact ⟨ret_n (unhide HN2).symm, unhide HB⟩
end Go.Proofs.YtbkndjhogaloiaaGreatDoor

namespace Go.Proofs.YtbkndjhogaloiaaGreatDoor
open Go.RowKit

theorem recs_small {ts : List WTxn} (h : Logs ts) (hl : ts.length ≤ 100) : (recsL ts).length ≤ 48700 := by
  have := recsL_le ts h.good
  omega
/-- a log that lies in a row of its own, and may stand on a disk -/
structure OutL (w W : World) (v : Value) (m : List WTxn) : Prop where
  own : OwnL W w.heap.size v m
  below : Below w.heap.size w W
  log : Logs m
theorem OutL.next {w W V : World} {v : Value} {m : List WTxn} (h : OutL w W v m) (hb : Below W.heap.size W V) : OutL w V v m := ⟨h.own.next hb, below_next2 h.below hb, h.log⟩

theorem OutL.more {w W V : World} {k c : Nat} {a : Option Addr} {m : List WTxn} {t : WTxn} {O : Obj} {v' : Value} (h : OutL w W (.slice a k c) m) (hk : m.length = k) (hg : gdE t = 0) (hf : follB m t = true)
    (hown : V.ownsRow w.heap.size 47 7 v' (k + 1) (cellsT m ++ tcells t)) (hgr : (W.alloc O).grownBy V (Value.slice a k c).ownBlock) :
    ∃ a' c', v' = .slice a' (k + 1) c' ∧ OutL w V (.slice a' (k + 1) c') (m ++ [t]) := by
  obtain ⟨a', c', rfl, h1, h2⟩ := app_done h.below h.own (Nat.le_refl _) hk hown hgr
  exact ⟨a', c', rfl, h1, h2, h.log.snoc hg hf⟩

set_option maxRecDepth 10000 in
set_option maxHeartbeats 2000000 in
theorem logOf_any (v : Value) (ts : List WTxn) (w : World) (hv : LogV w v ts) (hd : ∀ t ∈ ts, t.d.length ≤ 140737488355328) :
    Calls Tryz.prog 12 #[v] w fun e w' => ∃ v', e = .returned v' ∧ ∃ m, OutL w w' v' m ∧ m.length ≤ 40 := by
  obtain ⟨i0, hi0, hz0, hz1, hz2⟩ := info_txn
  have hlen : ts.length ≤ 9223372036854775807 := by
    rcases hv with ⟨a, cap, rfl, rfl, _⟩ | ⟨b, off, cap, rfl, h1, h2, _⟩
    · simp
    · simp only [maxLen] at h2; omega
  have HV := hide hv
  have HD := hide hd
  obtain ⟨a, c, rfl⟩ := log_slice hv
  clear hv hd
  go_enter Tryz.func12, Tryz.ntmps12
  go_wp2_with fail
  go_loopg [3, 4] ts.length (fun kx s3 s4 wr => ∃ (k : Nat) (m : List WTxn) (a1 : Option Addr) (j c1 : Nat), s3 = .slice a1 j c1 ∧ s4 = .int .i64 k ∧ k ≤ ts.length ∧ ts.length - k ≤ kx ∧ j ≤ 40 ∧ Hid (m.length = j) ∧ Hid (OutL w wr (.slice a1 j c1) m))
  case atStart => exact ⟨0, [], none, 0, 0, rfl, rfl, Nat.zero_le _, by omega, by omega, hide rfl, hide ⟨OwnL.nil _ _, Below.refl _ _, Logs.nil⟩⟩
  case round =>
    obtain ⟨k, m, a1, j, c1, rfl, rfl, hk, hkx, hj, HM, HO⟩ := hrel
    by_cases hlt : k < ts.length ∧ j < 40
    · obtain ⟨t, ht⟩ : ∃ t, ts[k]? = some t := ⟨_, List.getElem?_eq_getElem hlt.1⟩
      obtain ⟨b, off, cap, he, hb, hr, _, _, _⟩ := log_row ((unhide HV).next (unhide HO).below) ht
      simp only [Value.slice.injEq, true_and] at he
      obtain ⟨rfl, rfl⟩ := he
      have e0 := hr.z ht
      have e1 := hr.o ht
      have e2 := hr.s ht
      have e3 := hr.p ht
      have e4 := hr.d ht
      have e5 := hr.v ht
      have e6 := hr.w ht
      have HR := hide hr
      have HT := hide ht
      have hlti : (k : Int) < (ts.length : Int) := by omega
      have hjlti : (j : Int) < 40 := by omega
      have C := fun W => wgood_any t W (unhide HD t (List.mem_of_getElem? ht))
      clear hr ht
      have hk63 : k < 9223372036854775807 := by omega
      by_cases hg : gdE t = 0
      · have HGD := hide hg
        rw [hg] at C
        by_cases hj0 : j = 0
        · subst hj0
          have HFO : Hid (follB m t = true) := hide (by simp [follB, unhide HM])
          obtain ⟨z, o, s1, p, d, y, u⟩ := t
          unfold txnV at C
          simp only at e0 e1 e2 e3 e4 e5 e6
          clear hg
          go_wp2_with fail
          have c0 := fun d os => Calls.regrown_of (w := wr) (d := d) (os := os) (C _)
          have f0 := fun d os => cell_regrown e0 d os
          have f1 := fun d os => cell_regrown e1 d os
          have f2 := fun d os => cell_regrown e2 d os
          have f3 := fun d os => cell_regrown e3 d os
          have f4 := fun d os => cell_regrown e4 d os
          have f5 := fun d os => cell_regrown e5 d os
          have f6 := fun d os => cell_regrown e6 d os
          clear C e0 e1 e2 e3 e4 e5 e6
          refine wp_region_quiet_below (by kernel_rfl) (by kernel_rfl) ?_
          repeat (first | go_big_quiet_step (with_reducible exact c0 _ _) | quiet_step (with_reducible exact c0 _ _))
          refine wpQuiet_nil ?_
          intro _ hw'
          obtain ⟨⟨dq, osq⟩, hw''⟩ := hw'
          subst hw''
          have hb2 := below_regrown wr dq osq
          have HO1 := hide ((unhide HO).next hb2)
          have r1 := (unhide HR).kept hb2 hb
          have g0 := r1.z (unhide HT)
          have g1 := r1.o (unhide HT)
          have g2 := r1.s (unhide HT)
          have g3 := r1.p (unhide HT)
          have g4 := r1.d (unhide HT)
          have g5 := r1.v (unhide HT)
          have g6 := r1.w (unhide HT)
          clear r1 hb2 c0 f0 f1 f2 f3 f4 f5 f6
          generalize Sort.grow (redrawn wr dq) osq = w1 at *
          have HRW := hide (app_row (unhide HO1).own (unhide HM))
          have HC2 := hide (wapp_new w1 ⟨z, o, s1, p, d, y, u⟩)
          have h4 : Hid (0 + 1 ≤ maxLen) := by unfold Hid; simp only [maxLen]; omega
          have h5 : Hid ((0 + 1) * 72 ≤ 140737488355328) := by unfold Hid; omega
          have h6 : Hid (∀ O1, w.heap.size ≤ (w1.alloc O1).heap.size) := fun O1 => by have := (unhide HO1).below.size; simp; omega
          go_wp2_with (at_builtin; refine wpList_append_own _ rfl _ _ 22 rfl w.heap.size 47 i0 _ 7 72 Tryz.underlying22 hi0 hz0 hz1 hz2 rfl (by decide) _ 0 (cellsT m) rfl (unhide HRW _ _ rfl) ⟨w1.heap.size, 0, none⟩ 1 1 (tcells ⟨z, o, s1, p, d, y, u⟩) rfl rfl (unhide HC2) (tcells_one _) (unhide h4) (unhide h5) (unhide h6 _) ?_)
          intro v' w5 hown hgrow _
          obtain ⟨a5, cc5, rfl, ho5⟩ := (unhide HO1).more (unhide HM) (unhide HGD) (unhide HFO) hown hgrow
          have HZ := hide ho5
          clear hown hgrow ho5 HRW HC2 h4 h5 h6 HO1 g0 g1 g2 g3 g4 g5 g6
          go_wp2_with fail
          go_roundg (ts.length - (k + 1))
          case measure => omega
          case rel => exact ⟨k + 1, m ++ [⟨z, o, s1, p, d, y, u⟩], a5, 0 + 1, cc5, rfl, by simp, by omega, Nat.le_refl _, by omega, hide (by rw [List.length_append, unhide HM]; rfl), HZ⟩
        · obtain ⟨i, rfl⟩ : ∃ i, j = i + 1 := ⟨j - 1, by omega⟩
          obtain ⟨x, hx⟩ : ∃ x, m[i]? = some x := ⟨_, List.getElem?_eq_getElem (by rw [unhide HM]; omega)⟩
          obtain ⟨q, off2, cap2, he, hq, hr2, _, _, _⟩ := log_row (unhide HO).own.log hx
          rw [unhide HM] at he
          simp only [Value.slice.injEq, true_and] at he
          obtain ⟨rfl, rfl⟩ := he
          have HR2 := hide hr2
          have HX := hide hx
          have hla : lastZ m = x.z := by
            obtain ⟨m', y', rfl⟩ := snoc_of (l := m) (by rw [unhide HM]; omega)
            have hm' : m'.length = i := by have := unhide HM; simpa using this
            subst hm'
            simp at hx
            rw [lastZ_snoc, hx]
          have HLA := hide hla
          have ji0 : ((i : Int) + 1 == 0) = false := by simp; omega
          have hwi : IntKind.i64.wrap (i : Int) = (i : Int) := by rw [IntKind.wrap_i64]; omega
          have hii : (i : Int) < (i : Int) + 1 := by omega
          have ex := hr2.z hx
          clear hr2 hx hla
          by_cases hf : x.z < t.z
          · have HFO : Hid (follB m t = true) := hide (by rw [follB_some (by rw [unhide HM]; omega), unhide HLA]; simpa using hf)
            obtain ⟨z, o, s1, p, d, y, u⟩ := t
            unfold txnV at C
            simp only at e0 e1 e2 e3 e4 e5 e6 hf
            clear hg
            go_wp2_with fail
            have c0 := fun d os => Calls.regrown_of (w := wr) (d := d) (os := os) (C _)
            have f0 := fun d os => cell_regrown e0 d os
            have f1 := fun d os => cell_regrown e1 d os
            have f2 := fun d os => cell_regrown e2 d os
            have f3 := fun d os => cell_regrown e3 d os
            have f4 := fun d os => cell_regrown e4 d os
            have f5 := fun d os => cell_regrown e5 d os
            have f6 := fun d os => cell_regrown e6 d os
            have fx := fun d os => cell_regrown ex d os
            clear C e0 e1 e2 e3 e4 e5 e6 ex
            refine wp_region_quiet_below (by kernel_rfl) (by kernel_rfl) ?_
            repeat (first | go_big_quiet_step (with_reducible exact c0 _ _) | quiet_step (with_reducible exact c0 _ _))
            refine wpQuiet_nil ?_
            intro _ hw'
            obtain ⟨⟨dq, osq⟩, hw''⟩ := hw'
            subst hw''
            have hb2 := below_regrown wr dq osq
            have HO1 := hide ((unhide HO).next hb2)
            have r1 := (unhide HR).kept hb2 hb
            have g0 := r1.z (unhide HT)
            have g1 := r1.o (unhide HT)
            have g2 := r1.s (unhide HT)
            have g3 := r1.p (unhide HT)
            have g4 := r1.d (unhide HT)
            have g5 := r1.v (unhide HT)
            have g6 := r1.w (unhide HT)
            clear r1 hb2 c0 f0 f1 f2 f3 f4 f5 f6 fx
            generalize Sort.grow (redrawn wr dq) osq = w1 at *
            have HRW := hide (app_row (unhide HO1).own (unhide HM))
            have HC2 := hide (wapp_new w1 ⟨z, o, s1, p, d, y, u⟩)
            have h4 : Hid (i + 1 + 1 ≤ maxLen) := by unfold Hid; simp only [maxLen]; omega
            have h5 : Hid ((i + 1 + 1) * 72 ≤ 140737488355328) := by unfold Hid; omega
            have h6 : Hid (∀ O1, w.heap.size ≤ (w1.alloc O1).heap.size) := fun O1 => by have := (unhide HO1).below.size; simp; omega
            go_wp2_with (at_builtin; refine wpList_append_own _ rfl _ _ 22 rfl w.heap.size 47 i0 _ 7 72 Tryz.underlying22 hi0 hz0 hz1 hz2 rfl (by decide) _ (i + 1) (cellsT m) rfl (unhide HRW _ _ rfl) ⟨w1.heap.size, 0, none⟩ 1 1 (tcells ⟨z, o, s1, p, d, y, u⟩) rfl rfl (unhide HC2) (tcells_one _) (unhide h4) (unhide h5) (unhide h6 _) ?_)
            intro v' w5 hown hgrow _
            obtain ⟨a5, cc5, rfl, ho5⟩ := (unhide HO1).more (unhide HM) (unhide HGD) (unhide HFO) hown hgrow
            have HZ := hide ho5
            clear hown hgrow ho5 HRW HC2 h4 h5 h6 HO1 g0 g1 g2 g3 g4 g5 g6
            go_wp2_with fail
            go_roundg (ts.length - (k + 1))
            case measure => omega
            case rel => exact ⟨k + 1, m ++ [⟨z, o, s1, p, d, y, u⟩], a5, i + 1 + 1, cc5, rfl, by simp, by omega, Nat.le_refl _, by omega, hide (by rw [List.length_append, unhide HM]; rfl), HZ⟩
          · obtain ⟨z, o, s1, p, d, y, u⟩ := t
            unfold txnV at C
            simp only at e0 e1 e2 e3 e4 e5 e6 hf
            clear hg
            go_wp2_with fail
            have c0 := fun d os => Calls.regrown_of (w := wr) (d := d) (os := os) (C _)
            have f0 := fun d os => cell_regrown e0 d os
            have f1 := fun d os => cell_regrown e1 d os
            have f2 := fun d os => cell_regrown e2 d os
            have f3 := fun d os => cell_regrown e3 d os
            have f4 := fun d os => cell_regrown e4 d os
            have f5 := fun d os => cell_regrown e5 d os
            have f6 := fun d os => cell_regrown e6 d os
            have fx := fun d os => cell_regrown ex d os
            clear C e0 e1 e2 e3 e4 e5 e6 ex
            refine wp_region_quiet_below (by kernel_rfl) (by kernel_rfl) ?_
            repeat (first | go_big_quiet_step (with_reducible exact c0 _ _) | quiet_step (with_reducible exact c0 _ _))
            refine wpQuiet_nil ?_
            intro _ hw'
            obtain ⟨⟨dq, osq⟩, hw''⟩ := hw'
            subst hw''
            have hb2 := below_regrown wr dq osq
            have HO1 := hide ((unhide HO).next hb2)
            have r1 := (unhide HR).kept hb2 hb
            have g0 := r1.z (unhide HT)
            have g1 := r1.o (unhide HT)
            have g2 := r1.s (unhide HT)
            have g3 := r1.p (unhide HT)
            have g4 := r1.d (unhide HT)
            have g5 := r1.v (unhide HT)
            have g6 := r1.w (unhide HT)
            clear r1 hb2 c0 f0 f1 f2 f3 f4 f5 f6 fx
            generalize Sort.grow (redrawn wr dq) osq = w1 at *
            go_wp2_with fail
            go_roundg (ts.length - (k + 1))
            case measure => omega
            case rel => exact ⟨k + 1, m, some ⟨q, off2, none⟩, i + 1, c1, rfl, by simp, by omega, Nat.le_refl _, by omega, HM, HO1⟩
      · have hne : (gdE t == 0) = false := by simpa using hg
        generalize gdE t = E at *
        obtain ⟨z, o, s1, p, d, y, u⟩ := t
        unfold txnV at C
        simp only at e0 e1 e2 e3 e4 e5 e6
        clear hg
        go_wp2_with fail
        have c0 := fun d os => Calls.regrown_of (w := wr) (d := d) (os := os) (C _)
        have f0 := fun d os => cell_regrown e0 d os
        have f1 := fun d os => cell_regrown e1 d os
        have f2 := fun d os => cell_regrown e2 d os
        have f3 := fun d os => cell_regrown e3 d os
        have f4 := fun d os => cell_regrown e4 d os
        have f5 := fun d os => cell_regrown e5 d os
        have f6 := fun d os => cell_regrown e6 d os
        clear C e0 e1 e2 e3 e4 e5 e6
        refine wp_region_quiet_below (by kernel_rfl) (by kernel_rfl) ?_
        repeat (first | go_big_quiet_step (with_reducible exact c0 _ _) | quiet_step (with_reducible exact c0 _ _))
        refine wpQuiet_nil ?_
        intro _ hw'
        obtain ⟨⟨dq, osq⟩, hw''⟩ := hw'
        subst hw''
        have hb2 := below_regrown wr dq osq
        have HO1 := hide ((unhide HO).next hb2)
        have r1 := (unhide HR).kept hb2 hb
        have g0 := r1.z (unhide HT)
        have g1 := r1.o (unhide HT)
        have g2 := r1.s (unhide HT)
        have g3 := r1.p (unhide HT)
        have g4 := r1.d (unhide HT)
        have g5 := r1.v (unhide HT)
        have g6 := r1.w (unhide HT)
        clear r1 hb2 c0 f0 f1 f2 f3 f4 f5 f6
        generalize Sort.grow (redrawn wr dq) osq = w1 at *
        go_wp2_with fail
        go_roundg (ts.length - (k + 1))
        case measure => omega
        case rel => exact ⟨k + 1, m, a1, j, c1, rfl, by simp, by omega, Nat.le_refl _, by omega, HM, HO1⟩
    · by_cases hlk : k < ts.length
      · have hlti : (k : Int) < (ts.length : Int) := by omega
        have hj40 : ¬ ((j : Int) < 40) := by omega
        go_wp2_with fail
        exact bodyPost_ret (v := .slice a1 j c1) (by simp [results, Tryz.results12, go_sem]) rfl ⟨_, rfl, m, unhide HO, by rw [unhide HM]; exact hj⟩
      · have hlti : ¬ ((k : Int) < (ts.length : Int)) := by omega
        go_wp2_with fail
        exact bodyPost_ret (v := .slice a1 j c1) (by simp [results, Tryz.results12, go_sem]) rfl ⟨_, rfl, m, unhide HO, by rw [unhide HM]; exact hj⟩
end Go.Proofs.YtbkndjhogaloiaaGreatDoor
