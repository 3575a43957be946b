/-
  What wire.Decode answers, for every text: the walk.
-/
import Derived.Test.YtnbkpilgmjjflaaDoorWUnf
import Derived.Test.YtnbkpilgmjjflaaDoorWSum
namespace Go.Proofs.YtnbkpilgmjjflaaDoor
open Go.RowKit

/-- how far Decode has come: the result's cells and the cursor -/
structure Dec (w W : World) (r : List UInt8) (b : Bool) : Prop where
  res : TxnAt W w.heap.size t0
  cur : Cur W (w.heap.size + 1) r b
  size : w.heap.size + 2 ≤ W.heap.size
  below : Below w.heap.size w W
theorem Dec.took {w W V : World} {r r' : List UInt8} {b b' : Bool} (h : Dec w W r b) (hc : Cur V (w.heap.size + 1) r' b') (ho : Only (w.heap.size + 1) W V) : Dec w V r' b' :=
  ⟨h.res.other ho (by omega), hc, by rw [ho.size]; exact h.size, ho.below h.below (by omega)⟩
theorem Dec.kept {w W V : World} {r : List UInt8} {b : Bool} (h : Dec w W r b) (hb : Below W.heap.size W V) : Dec w V r b :=
  ⟨h.res.kept hb (by have := h.size; omega), h.cur.kept hb (by have := h.size; omega), Nat.le_trans h.size hb.size, h.below.trans (hb.mono h.below.size)⟩
theorem Dec.new {w : World} {s : List UInt8} : Dec w ((w.alloc (.cells #[.int .i64 0, .int .i64 0, .int .i64 0, .string ⟨#[]⟩, .string ⟨#[]⟩, .int .i64 0, .int .i64 0] 23)).alloc (.cells #[.string ⟨s.toArray⟩, .bool false] 43)) s false := by
  refine ⟨?_, ?_, by simp, ((Below.refl _ _).alloc (Nat.le_refl _) _).alloc (by simp) _⟩
  · exact (Below.heap_alloc _ _ _ (by simp)).trans (heap_new _ _)
  · have := heap_new (w.alloc (.cells #[.int .i64 0, .int .i64 0, .int .i64 0, .string ⟨#[]⟩, .string ⟨#[]⟩, .int .i64 0, .int .i64 0] 23)) (.cells #[.string ⟨s.toArray⟩, .bool false] 43)
    rwa [World.size_alloc] at this
theorem lenOf_lt (s : List UInt8) : lenOf s < 65536 := by
  have h := un_lt ((s.drop 1).take 2)
  have h2 : ((s.drop 1).take 2).length ≤ 2 := List.length_take_le _ _
  have h3 : 256 ^ ((s.drop 1).take 2).length ≤ 256 ^ 2 := Nat.pow_le_pow_right (by decide) h2
  unfold lenOf
  omega
def lackD (s : List UInt8) : Bool := false || decide (s.length < 1) || decide ((s.drop 1).length < 2) || decide ((s.drop 3).length < lenOf s) || decide ((s.drop (3 + lenOf s)).length < 4)
theorem lackD_iff {s : List UInt8} : lackD s = false ↔ lenOf s + 7 ≤ s.length := by
  simp only [lackD, Bool.or_eq_false_iff, decide_eq_false_iff_not, List.length_drop, true_and]
  omega
theorem ret_dec {a b : Value} {i j k l : Int} (h : a = b) (h1 : i = j) (h2 : k = l) : Ending.returned (.tuple #[a, .int .i64 i, .int .i64 k]) = .returned (.tuple #[b, .int .i64 j, .int .i64 l]) := by rw [h, h1, h2]

set_option maxHeartbeats 2000000 in
theorem decode_mark (s : List UInt8) (w : World) (hm : s.take 1 ≠ [84]) :
    Calls Tryd.prog 12 #[.string ⟨s.toArray⟩] w fun e w' => e = .returned (.tuple #[txnV (decT s), .int .i64 (decN s), .int .i64 (decE s)]) ∧ Below w.heap.size w w' := by
  have HU := hide (dec_bad (s := s) (wholeB_no (fun h => hm h.1)))
  have hlt := lenOf_lt s
  obtain ⟨T, hT⟩ : ∃ T, s.take 1 = T := ⟨_, rfl⟩
  rw [hT] at hm
  have hm' : (T == [84]) = false := by simpa using hm
  have ET := hide hT
  clear hT hm
  go_enter Tryd.func12, Tryd.ntmps12
  go_wp2_with fail
  have H := hide (Dec.new (w := w) (s := s))
  generalize (w.alloc _).alloc _ = W at H ⊢
  refine (text_any (w.heap.size + 1) 1 _ _ _ (by decide) (unhide H).cur).mono ?_
  rintro e w1 ⟨rfl, hc1, ho1⟩
  replace H := hide ((unhide H).took hc1 ho1)
  clear hc1 ho1 W
  generalize w1 = W at *
  rw [unhide ET]
  go_wp2_with fail
  refine (cnumber_any (w.heap.size + 1) 2 _ _ _ (by decide) (unhide H).cur).mono ?_
  rintro e w1 ⟨rfl, hc1, ho1⟩
  replace H := hide ((unhide H).took hc1 ho1)
  clear hc1 ho1 W
  generalize w1 = W at *
  rw [un_take_le _ _ (by decide)]
  rw [show un ((s.drop 1).take 2) = lenOf s from rfl]
  simp only [List.drop_drop, Nat.reduceAdd] at H
  obtain ⟨L, hL⟩ : ∃ L, lenOf s = L := ⟨_, rfl⟩
  rw [hL] at hlt ⊢
  have EL := hide hL
  clear hL
  have r0 : W.cell? ⟨w.heap.size, 0, none⟩ = some (.int .i64 0) := (unhide H).res.c0
  have r1 : W.cell? ⟨w.heap.size, 1, none⟩ = some (.int .i64 0) := (unhide H).res.c1
  have r2 : W.cell? ⟨w.heap.size, 2, none⟩ = some (.int .i64 0) := (unhide H).res.c2
  have r3 : W.cell? ⟨w.heap.size, 3, none⟩ = some (.string ⟨#[]⟩) := (unhide H).res.c3
  have r4 : W.cell? ⟨w.heap.size, 4, none⟩ = some (.string ⟨#[]⟩) := (unhide H).res.c4
  have r5 : W.cell? ⟨w.heap.size, 5, none⟩ = some (.int .i64 0) := (unhide H).res.c5
  have r6 : W.cell? ⟨w.heap.size, 6, none⟩ = some (.int .i64 0) := (unhide H).res.c6
  have rf := (unhide H).res.f
  go_wp2_with fail
  change bodyPost _ _ _ _ _ (putTxn W w.heap.size t0)
  have HP := hide ((unhide H).res.store t0)
  have hB : Below w.heap.size w (putTxn W w.heap.size t0) := (only_put _ _ _).below (unhide H).below (Nat.le_refl _)
  generalize putTxn W w.heap.size t0 = V2 at HP hB ⊢
  have s0 := (unhide HP).c0
  have s1 := (unhide HP).c1
  have s2 := (unhide HP).c2
  have s3 := (unhide HP).c3
  have s4 := (unhide HP).c4
  have s5 := (unhide HP).c5
  have s6 := (unhide HP).c6
  exact bodyPost_ret (v := .tuple #[txnV t0, .int .i64 0, .int .i64 2]) (by simp [results, Tryd.results12, go_sem, s0, s1, s2, s3, s4, s5, s6, txnV]) rfl ⟨by rw [(unhide HU).1, (unhide HU).2.1, (unhide HU).2.2], hB⟩

set_option maxHeartbeats 2000000 in
theorem decode_long (s : List UInt8) (w : World) (hm : s.take 1 = [84]) (hl : 1024 < lenOf s) :
    Calls Tryd.prog 12 #[.string ⟨s.toArray⟩] w fun e w' => e = .returned (.tuple #[txnV (decT s), .int .i64 (decN s), .int .i64 (decE s)]) ∧ Below w.heap.size w w' := by
  have HU := hide (dec_bad (s := s) (wholeB_no (fun h => by omega)))
  have ET := hide hm
  clear hm
  go_enter Tryd.func12, Tryd.ntmps12
  go_wp2_with fail
  have H := hide (Dec.new (w := w) (s := s))
  generalize (w.alloc _).alloc _ = W at H ⊢
  refine (text_any (w.heap.size + 1) 1 _ _ _ (by decide) (unhide H).cur).mono ?_
  rintro e w1 ⟨rfl, hc1, ho1⟩
  replace H := hide ((unhide H).took hc1 ho1)
  clear hc1 ho1 W
  generalize w1 = W at *
  rw [unhide ET]
  go_wp2_with fail
  refine (cnumber_any (w.heap.size + 1) 2 _ _ _ (by decide) (unhide H).cur).mono ?_
  rintro e w1 ⟨rfl, hc1, ho1⟩
  replace H := hide ((unhide H).took hc1 ho1)
  clear hc1 ho1 W
  generalize w1 = W at *
  rw [un_take_le _ _ (by decide)]
  rw [show un ((s.drop 1).take 2) = lenOf s from rfl]
  simp only [List.drop_drop, Nat.reduceAdd] at H
  obtain ⟨L, hL⟩ : ∃ L, lenOf s = L := ⟨_, rfl⟩
  rw [hL] at hl ⊢
  have EL := hide hL
  clear hL
  have r0 : W.cell? ⟨w.heap.size, 0, none⟩ = some (.int .i64 0) := (unhide H).res.c0
  have r1 : W.cell? ⟨w.heap.size, 1, none⟩ = some (.int .i64 0) := (unhide H).res.c1
  have r2 : W.cell? ⟨w.heap.size, 2, none⟩ = some (.int .i64 0) := (unhide H).res.c2
  have r3 : W.cell? ⟨w.heap.size, 3, none⟩ = some (.string ⟨#[]⟩) := (unhide H).res.c3
  have r4 : W.cell? ⟨w.heap.size, 4, none⟩ = some (.string ⟨#[]⟩) := (unhide H).res.c4
  have r5 : W.cell? ⟨w.heap.size, 5, none⟩ = some (.int .i64 0) := (unhide H).res.c5
  have r6 : W.cell? ⟨w.heap.size, 6, none⟩ = some (.int .i64 0) := (unhide H).res.c6
  have rf := (unhide H).res.f
  go_wp2_with fail
  change bodyPost _ _ _ _ _ (putTxn W w.heap.size t0)
  have HP := hide ((unhide H).res.store t0)
  have hB : Below w.heap.size w (putTxn W w.heap.size t0) := (only_put _ _ _).below (unhide H).below (Nat.le_refl _)
  generalize putTxn W w.heap.size t0 = V2 at HP hB ⊢
  have s0 := (unhide HP).c0
  have s1 := (unhide HP).c1
  have s2 := (unhide HP).c2
  have s3 := (unhide HP).c3
  have s4 := (unhide HP).c4
  have s5 := (unhide HP).c5
  have s6 := (unhide HP).c6
  exact bodyPost_ret (v := .tuple #[txnV t0, .int .i64 0, .int .i64 2]) (by simp [results, Tryd.results12, go_sem, s0, s1, s2, s3, s4, s5, s6, txnV]) rfl ⟨by rw [(unhide HU).1, (unhide HU).2.1, (unhide HU).2.2], hB⟩

set_option maxHeartbeats 2000000 in
theorem decode_short (s : List UInt8) (w : World) (hs : s.length ≤ 140737488355328) (hm : s.take 1 = [84]) (hl : lenOf s ≤ 1024) (hn : s.length < lenOf s + 7) :
    Calls Tryd.prog 12 #[.string ⟨s.toArray⟩] w fun e w' => e = .returned (.tuple #[txnV (decT s), .int .i64 (decN s), .int .i64 (decE s)]) ∧ Below w.heap.size w w' := by
  have HU := hide (dec_bad (s := s) (wholeB_no (fun h => by omega)))
  have hlk : lackD s = true := by
    cases h : lackD s with
    | true => rfl
    | false => have := lackD_iff.1 h; omega
  have HK := hide hlk
  have ET := hide hm
  clear hm hlk
  go_enter Tryd.func12, Tryd.ntmps12
  go_wp2_with fail
  have H := hide (Dec.new (w := w) (s := s))
  generalize (w.alloc _).alloc _ = W at H ⊢
  refine (text_any (w.heap.size + 1) 1 _ _ _ (by decide) (unhide H).cur).mono ?_
  rintro e w1 ⟨rfl, hc1, ho1⟩
  replace H := hide ((unhide H).took hc1 ho1)
  clear hc1 ho1 W
  generalize w1 = W at *
  rw [unhide ET]
  go_wp2_with fail
  refine (cnumber_any (w.heap.size + 1) 2 _ _ _ (by decide) (unhide H).cur).mono ?_
  rintro e w1 ⟨rfl, hc1, ho1⟩
  replace H := hide ((unhide H).took hc1 ho1)
  clear hc1 ho1 W
  generalize w1 = W at *
  rw [un_take_le _ _ (by decide)]
  rw [show un ((s.drop 1).take 2) = lenOf s from rfl]
  simp only [List.drop_drop, Nat.reduceAdd] at H
  obtain ⟨L, hL⟩ : ∃ L, lenOf s = L := ⟨_, rfl⟩
  rw [hL] at hl hn ⊢
  have EL := hide hL
  clear hL
  go_wp2_with fail
  refine (text_any (w.heap.size + 1) L _ _ _ (by omega) (unhide H).cur).mono ?_
  rintro e w1 ⟨rfl, hc1, ho1⟩
  replace H := hide ((unhide H).took hc1 ho1)
  clear hc1 ho1 W
  generalize w1 = W at *
  simp only [List.drop_drop] at H
  have cc0 := (unhide H).cur.c0
  have hzs : (ByteArray.mk s.toArray).size = s.length := Lib.size_eq ⟨s.toArray⟩
  have hzr : (ByteArray.mk (s.drop (3 + L)).toArray).size = (s.drop (3 + L)).length := Lib.size_eq ⟨_⟩
  rw [List.length_drop] at hzr
  obtain ⟨Y, hY⟩ : ∃ Y, s.drop (3 + L) = Y := ⟨_, rfl⟩
  rw [hY] at hzr cc0
  have EY := hide hY
  clear hY

  go_wp2_with fail
  clear cc0 hzr
  refine (cnumber_any (w.heap.size + 1) 4 _ _ _ (by decide) (unhide H).cur).mono ?_
  rintro e w1 ⟨rfl, hc1, ho1⟩
  replace H := hide ((unhide H).took hc1 ho1)
  clear hc1 ho1 W
  generalize w1 = W at *
  simp only [List.drop_drop] at H
  have cc1 := (unhide H).cur.c1
  rw [← unhide EL] at cc1
  have cc2 : W.cell? ⟨w.heap.size + 1, 1, none⟩ = some (.bool (lackD s)) := cc1
  rw [unhide HK] at cc2
  clear cc1
  have r0 : W.cell? ⟨w.heap.size, 0, none⟩ = some (.int .i64 0) := (unhide H).res.c0
  have r1 : W.cell? ⟨w.heap.size, 1, none⟩ = some (.int .i64 0) := (unhide H).res.c1
  have r2 : W.cell? ⟨w.heap.size, 2, none⟩ = some (.int .i64 0) := (unhide H).res.c2
  have r3 : W.cell? ⟨w.heap.size, 3, none⟩ = some (.string ⟨#[]⟩) := (unhide H).res.c3
  have r4 : W.cell? ⟨w.heap.size, 4, none⟩ = some (.string ⟨#[]⟩) := (unhide H).res.c4
  have r5 : W.cell? ⟨w.heap.size, 5, none⟩ = some (.int .i64 0) := (unhide H).res.c5
  have r6 : W.cell? ⟨w.heap.size, 6, none⟩ = some (.int .i64 0) := (unhide H).res.c6
  have rf := (unhide H).res.f
  go_wp2_with fail
  change bodyPost _ _ _ _ _ (putTxn W w.heap.size t0)
  have HP := hide ((unhide H).res.store t0)
  have hB : Below w.heap.size w (putTxn W w.heap.size t0) := (only_put _ _ _).below (unhide H).below (Nat.le_refl _)
  generalize putTxn W w.heap.size t0 = V2 at HP hB ⊢
  have s0 := (unhide HP).c0
  have s1 := (unhide HP).c1
  have s2 := (unhide HP).c2
  have s3 := (unhide HP).c3
  have s4 := (unhide HP).c4
  have s5 := (unhide HP).c5
  have s6 := (unhide HP).c6
  exact bodyPost_ret (v := .tuple #[txnV t0, .int .i64 0, .int .i64 2]) (by simp [results, Tryd.results12, go_sem, s0, s1, s2, s3, s4, s5, s6, txnV]) rfl ⟨by rw [(unhide HU).1, (unhide HU).2.1, (unhide HU).2.2], hB⟩

end Go.Proofs.YtnbkpilgmjjflaaDoor
