/-
  WireEncodes: the law's walk, out of the contracts of Good and Encode, the program's and the document's own.
  WireDecodes: the law's walk, out of the contracts of Decode, the program's and the document's own.
  What aviaryref.Decode answers of a text that is no record: the walks.
  What aviaryref.Decode answers of a text that has a record's form: the walk.
-/
import Derived.Test.YtpoblkionpgljaaDoorMI
import Derived.Test.YtpoblkionpgljaaDoorMC
import Derived.Lib.QuietBelow
import Derived.BigQuiet
import Derived.Deep.RegionWith
import Derived.Deep.Cut
namespace Go.Proofs.YtpoblkionpgljaaDoor
open Go.RowKit

def encS (t : WTxn) : List UInt8 := if gdE t = 0 then recL t else []
theorem encode_any (t : WTxn) (w : World) (hd : t.d.length ≤ 140737488355328) :
    Calls Tryd.prog 31 #[txnV t] w fun e w' => e = .returned (.tuple #[.string ⟨(encS t).toArray⟩, .int .i64 (gdE t)]) ∧ Below w.heap.size w w' := by
  by_cases h : gdE t = 0
  · rw [encS, if_pos h, h]; exact encode_yes t w h
  · rw [encS, if_neg h]; exact encode_no t w hd h
theorem rencode_any (t : WTxn) (w : World) (hzb : t.z ≤ 9223372036854775807) (hp : t.p.length ≤ 1048576) (hd : t.d.length ≤ 140737488355328) :
    Calls Tryd.prog 11 #[txnV t] w fun e w' => e = .returned (.tuple #[.string ⟨(encS t).toArray⟩, .int .i64 (gdE t)]) ∧ Below w.heap.size w w' := by
  by_cases h : gdE t = 0
  · rw [encS, if_pos h, h]; exact rencode_yes t w h
  · rw [encS, if_neg h]; exact rencode_no t w hzb hp hd h
theorem gd_t0 : gdE t0 = 4 := by decide +kernel

end Go.Proofs.YtpoblkionpgljaaDoor

namespace Go.Proofs.YtpoblkionpgljaaDoor
open Go.RowKit

theorem gd_none : gdE t0 = 4 := by decide +kernel

end Go.Proofs.YtpoblkionpgljaaDoor

namespace Go.Proofs.YtpoblkionpgljaaDoor
open Go.RowKit

/-- how far it has come: the result's cells, and none's -/
structure RDec (w W : World) : Prop where
  res : TxnAt W w.heap.size t0
  non : TxnAt W (w.heap.size + 1) t0
  size : w.heap.size + 2 ≤ W.heap.size
  below : Below w.heap.size w W
theorem RDec.kept {w W V : World} (h : RDec w W) (hb : Below W.heap.size W V) : RDec w V :=
  ⟨h.res.kept hb (by have := h.size; omega), h.non.kept hb (by have := h.size; omega), Nat.le_trans h.size hb.size, h.below.trans (hb.mono h.below.size)⟩
theorem RDec.new {w : World} : RDec w ((w.alloc (.cells #[.int .i64 0, .int .i64 0, .int .i64 0, .string ⟨#[]⟩, .string ⟨#[]⟩, .int .i64 0, .int .i64 0] 29)).alloc (.cells #[.int .i64 0, .int .i64 0, .int .i64 0, .string ⟨#[]⟩, .string ⟨#[]⟩, .int .i64 0, .int .i64 0] 29)) := by
  refine ⟨?_, ?_, by simp, ((Below.refl _ _).alloc (Nat.le_refl _) _).alloc (by simp) _⟩
  · exact (Below.heap_alloc _ _ _ (by simp)).trans (heap_new _ _)
  · have := heap_new (w.alloc (.cells #[.int .i64 0, .int .i64 0, .int .i64 0, .string ⟨#[]⟩, .string ⟨#[]⟩, .int .i64 0, .int .i64 0] 29)) (.cells #[.int .i64 0, .int .i64 0, .int .i64 0, .string ⟨#[]⟩, .string ⟨#[]⟩, .int .i64 0, .int .i64 0] 29)
    rwa [World.size_alloc] at this
theorem ex_mid (l : List UInt8) (i j : Nat) : (ByteArray.mk l.toArray).extract i j = ⟨((l.drop i).take (j - i)).toArray⟩ := by
  apply ByteArray.ext
  apply Array.toList_inj.1
  have h := Lib.extract_toList (ByteArray.mk l.toArray) i j
  rw [Lib.toList_data] at h
  exact h
theorem take1_ne {s : List UInt8} (h : 3 ≤ s.length) (h1 : s[0] ≠ 84) : s.take 1 ≠ [84] := by
  cases s with
  | nil => simp at h
  | cons c l => simpa using h1
theorem take1_eq {s : List UInt8} (h : 3 ≤ s.length) (h1 : s[0] = 84) : s.take 1 = [84] := by
  cases s with
  | nil => simp at h
  | cons c l => simpa using h1

set_option maxHeartbeats 1000000 in
theorem rdec_tiny (s : List UInt8) (w : World) (h3 : s.length < 3) :
    Calls Tryd.prog 35 #[.string ⟨s.toArray⟩] w fun e w' => e = .returned (.tuple #[txnV (decT s), .int .i64 (decN s), .int .i64 (decE s)]) ∧ Below w.heap.size w w' := by
  have HU := hide (dec_bad (s := s) (wholeB_no (fun h => by omega)))
  have hzs : (ByteArray.mk s.toArray).size = s.length := Lib.size_eq ⟨s.toArray⟩
  go_enter Tryd.func35, Tryd.ntmps35
  go_wp2_with fail
  exact bodyPost_ret (v := .tuple #[txnV t0, .int .i64 0, .int .i64 2]) (by simp [results, Tryd.results35, go_sem, txnV, t0]) rfl ⟨by rw [(unhide HU).1, (unhide HU).2.1, (unhide HU).2.2], ((Below.refl _ _).alloc (Nat.le_refl _) _).alloc (by simp) _⟩

set_option maxHeartbeats 1000000 in
theorem rdec_mark (s : List UInt8) (w : World) (h3 : 3 ≤ s.length) (hm : s[0] ≠ 84) :
    Calls Tryd.prog 35 #[.string ⟨s.toArray⟩] w fun e w' => e = .returned (.tuple #[txnV (decT s), .int .i64 (decN s), .int .i64 (decE s)]) ∧ Below w.heap.size w w' := by
  have HU := hide (dec_bad (s := s) (wholeB_no (fun h => take1_ne h3 hm h.1)))
  have hb := s[0].toNat_lt
  have hm' : ((s[0].toNat : Int) != 84) = true := by
    rw [bne_iff_ne]
    intro h
    exact hm (UInt8.toNat_inj.1 (by show s[0].toNat = 84; omega))
  have hib : 0 < (ByteArray.mk s.toArray).size := by rw [Lib.size_eq]; show 0 < s.length; omega
  have hg := ba_get s 0 hib
  have hzs : (ByteArray.mk s.toArray).size = s.length := Lib.size_eq ⟨s.toArray⟩
  go_enter Tryd.func35, Tryd.ntmps35
  go_wp2_with fail
  exact bodyPost_ret (v := .tuple #[txnV t0, .int .i64 0, .int .i64 2]) (by simp [results, Tryd.results35, go_sem, txnV, t0]) rfl ⟨by rw [(unhide HU).1, (unhide HU).2.1, (unhide HU).2.2], ((Below.refl _ _).alloc (Nat.le_refl _) _).alloc (by simp) _⟩

set_option maxHeartbeats 1000000 in
theorem rdec_long (s : List UInt8) (w : World) (h3 : 3 ≤ s.length) (hm : s[0] = 84) (hl : 1024 < lenOf s) :
    Calls Tryd.prog 35 #[.string ⟨s.toArray⟩] w fun e w' => e = .returned (.tuple #[txnV (decT s), .int .i64 (decN s), .int .i64 (decE s)]) ∧ Below w.heap.size w w' := by
  have HU := hide (dec_bad (s := s) (wholeB_no (fun h => by omega)))
  have hlt := lenOf_lt s
  have hzs : (ByteArray.mk s.toArray).size = s.length := Lib.size_eq ⟨s.toArray⟩
  have hib : 0 < (ByteArray.mk s.toArray).size := by rw [Lib.size_eq]; show 0 < s.length; omega
  have hg : (ByteArray.mk s.toArray)[0] = 84 := (ba_get s 0 hib).trans hm
  have c0 : (3 : Int) ≤ (s.length : Int) := by omega
  have HL : Hid (∀ w, Calls Tryd.prog 65 #[.string ((ByteArray.mk s.toArray).extract 1 3)] w fun e w' => e = .returned (.int .i64 (lenOf s : Nat)) ∧ Below w.heap.size w w') := hide (fun w => by
    have h := numberOf_any ((ByteArray.mk s.toArray).extract 1 3) w (by rw [ex_mid, Lib.size_eq]; show ((s.drop 1).take 2).length ≤ 8; rw [List.length_take]; omega)
    rw [ex_mid] at h ⊢
    rw [show (ByteArray.mk (List.take (3 - 1) (List.drop 1 s)).toArray).data.toList = (s.drop 1).take 2 from rfl, un_take_le _ _ (by decide)] at h
    exact h)
  go_enter Tryd.func35, Tryd.ntmps35
  go_wp2_with fail
  refine (unhide HL _).mono ?_
  rintro e w1 ⟨rfl, hb1⟩
  have H := hide ((RDec.new (w := w)).kept hb1)
  clear hb1 HL hg
  generalize w1 = W at H ⊢
  obtain ⟨L, hL⟩ : ∃ L, lenOf s = L := ⟨_, rfl⟩
  rw [hL] at hl hlt ⊢
  have EL := hide hL
  clear hL
  have r0 : W.cell? ⟨w.heap.size, 0, none⟩ = some (.int .i64 0) := (unhide H).res.c0
  have r1 : W.cell? ⟨w.heap.size, 1, none⟩ = some (.int .i64 0) := (unhide H).res.c1
  have r2 : W.cell? ⟨w.heap.size, 2, none⟩ = some (.int .i64 0) := (unhide H).res.c2
  have r3 : W.cell? ⟨w.heap.size, 3, none⟩ = some (.string ⟨#[]⟩) := (unhide H).res.c3
  have r4 : W.cell? ⟨w.heap.size, 4, none⟩ = some (.string ⟨#[]⟩) := (unhide H).res.c4
  have r5 : W.cell? ⟨w.heap.size, 5, none⟩ = some (.int .i64 0) := (unhide H).res.c5
  have r6 : W.cell? ⟨w.heap.size, 6, none⟩ = some (.int .i64 0) := (unhide H).res.c6
  have rf := (unhide H).res.f
  have m0 : W.cell? ⟨w.heap.size + 1, 0, none⟩ = some (.int .i64 0) := (unhide H).non.c0
  have m1 : W.cell? ⟨w.heap.size + 1, 1, none⟩ = some (.int .i64 0) := (unhide H).non.c1
  have m2 : W.cell? ⟨w.heap.size + 1, 2, none⟩ = some (.int .i64 0) := (unhide H).non.c2
  have m3 : W.cell? ⟨w.heap.size + 1, 3, none⟩ = some (.string ⟨#[]⟩) := (unhide H).non.c3
  have m4 : W.cell? ⟨w.heap.size + 1, 4, none⟩ = some (.string ⟨#[]⟩) := (unhide H).non.c4
  have m5 : W.cell? ⟨w.heap.size + 1, 5, none⟩ = some (.int .i64 0) := (unhide H).non.c5
  have m6 : W.cell? ⟨w.heap.size + 1, 6, none⟩ = some (.int .i64 0) := (unhide H).non.c6
  go_wp2_with fail
  change bodyPost _ _ _ _ _ (putTxn W w.heap.size t0)
  have HP := hide ((unhide H).res.store t0)
  have hB : Below w.heap.size w (putTxn W w.heap.size t0) := (only_put _ _ _).below (unhide H).below (Nat.le_refl _)
  generalize putTxn W w.heap.size t0 = V2 at HP hB ⊢
  have s0 := (unhide HP).c0
  have s1 := (unhide HP).c1
  have s2 := (unhide HP).c2
  have s3 := (unhide HP).c3
  have s4 := (unhide HP).c4
  have s5 := (unhide HP).c5
  have s6 := (unhide HP).c6
  exact bodyPost_ret (v := .tuple #[txnV t0, .int .i64 0, .int .i64 2]) (by simp [results, Tryd.results35, go_sem, s0, s1, s2, s3, s4, s5, s6, txnV]) rfl ⟨by rw [(unhide HU).1, (unhide HU).2.1, (unhide HU).2.2], hB⟩

set_option maxHeartbeats 1000000 in
theorem rdec_short (s : List UInt8) (w : World) (h3 : 3 ≤ s.length) (hm : s[0] = 84) (hl : lenOf s ≤ 1024) (hn : s.length < lenOf s + 7) :
    Calls Tryd.prog 35 #[.string ⟨s.toArray⟩] w fun e w' => e = .returned (.tuple #[txnV (decT s), .int .i64 (decN s), .int .i64 (decE s)]) ∧ Below w.heap.size w w' := by
  have HU := hide (dec_bad (s := s) (wholeB_no (fun h => by omega)))
  have hzs : (ByteArray.mk s.toArray).size = s.length := Lib.size_eq ⟨s.toArray⟩
  have hib : 0 < (ByteArray.mk s.toArray).size := by rw [Lib.size_eq]; show 0 < s.length; omega
  have hg : (ByteArray.mk s.toArray)[0] = 84 := (ba_get s 0 hib).trans hm
  have c0 : (3 : Int) ≤ (s.length : Int) := by omega
  have HL : Hid (∀ w, Calls Tryd.prog 65 #[.string ((ByteArray.mk s.toArray).extract 1 3)] w fun e w' => e = .returned (.int .i64 (lenOf s : Nat)) ∧ Below w.heap.size w w') := hide (fun w => by
    have h := numberOf_any ((ByteArray.mk s.toArray).extract 1 3) w (by rw [ex_mid, Lib.size_eq]; show ((s.drop 1).take 2).length ≤ 8; rw [List.length_take]; omega)
    rw [ex_mid] at h ⊢
    rw [show (ByteArray.mk (List.take (3 - 1) (List.drop 1 s)).toArray).data.toList = (s.drop 1).take 2 from rfl, un_take_le _ _ (by decide)] at h
    exact h)
  go_enter Tryd.func35, Tryd.ntmps35
  go_wp2_with fail
  refine (unhide HL _).mono ?_
  rintro e w1 ⟨rfl, hb1⟩
  have H := hide ((RDec.new (w := w)).kept hb1)
  clear hb1 HL hg
  generalize w1 = W at H ⊢
  obtain ⟨L, hL⟩ : ∃ L, lenOf s = L := ⟨_, rfl⟩
  rw [hL] at hl hn ⊢
  have EL := hide hL
  clear hL
  have r0 : W.cell? ⟨w.heap.size, 0, none⟩ = some (.int .i64 0) := (unhide H).res.c0
  have r1 : W.cell? ⟨w.heap.size, 1, none⟩ = some (.int .i64 0) := (unhide H).res.c1
  have r2 : W.cell? ⟨w.heap.size, 2, none⟩ = some (.int .i64 0) := (unhide H).res.c2
  have r3 : W.cell? ⟨w.heap.size, 3, none⟩ = some (.string ⟨#[]⟩) := (unhide H).res.c3
  have r4 : W.cell? ⟨w.heap.size, 4, none⟩ = some (.string ⟨#[]⟩) := (unhide H).res.c4
  have r5 : W.cell? ⟨w.heap.size, 5, none⟩ = some (.int .i64 0) := (unhide H).res.c5
  have r6 : W.cell? ⟨w.heap.size, 6, none⟩ = some (.int .i64 0) := (unhide H).res.c6
  have rf := (unhide H).res.f
  have m0 : W.cell? ⟨w.heap.size + 1, 0, none⟩ = some (.int .i64 0) := (unhide H).non.c0
  have m1 : W.cell? ⟨w.heap.size + 1, 1, none⟩ = some (.int .i64 0) := (unhide H).non.c1
  have m2 : W.cell? ⟨w.heap.size + 1, 2, none⟩ = some (.int .i64 0) := (unhide H).non.c2
  have m3 : W.cell? ⟨w.heap.size + 1, 3, none⟩ = some (.string ⟨#[]⟩) := (unhide H).non.c3
  have m4 : W.cell? ⟨w.heap.size + 1, 4, none⟩ = some (.string ⟨#[]⟩) := (unhide H).non.c4
  have m5 : W.cell? ⟨w.heap.size + 1, 5, none⟩ = some (.int .i64 0) := (unhide H).non.c5
  have m6 : W.cell? ⟨w.heap.size + 1, 6, none⟩ = some (.int .i64 0) := (unhide H).non.c6
  go_wp2_with fail
  change bodyPost _ _ _ _ _ (putTxn W w.heap.size t0)
  have HP := hide ((unhide H).res.store t0)
  have hB : Below w.heap.size w (putTxn W w.heap.size t0) := (only_put _ _ _).below (unhide H).below (Nat.le_refl _)
  generalize putTxn W w.heap.size t0 = V2 at HP hB ⊢
  have s0 := (unhide HP).c0
  have s1 := (unhide HP).c1
  have s2 := (unhide HP).c2
  have s3 := (unhide HP).c3
  have s4 := (unhide HP).c4
  have s5 := (unhide HP).c5
  have s6 := (unhide HP).c6
  exact bodyPost_ret (v := .tuple #[txnV t0, .int .i64 0, .int .i64 2]) (by simp [results, Tryd.results35, go_sem, s0, s1, s2, s3, s4, s5, s6, txnV]) rfl ⟨by rw [(unhide HU).1, (unhide HU).2.1, (unhide HU).2.2], hB⟩

end Go.Proofs.YtpoblkionpgljaaDoor

namespace Go.Proofs.YtpoblkionpgljaaDoor
open Go.RowKit

set_option maxRecDepth 100000 in
set_option maxHeartbeats 1000000 in
theorem rdec_sum (s : List UInt8) (w : World) (h3 : 3 ≤ s.length) (hm : s[0] = 84) (hl : lenOf s ≤ 1024) (hn : lenOf s + 7 ≤ s.length) (hs : sumB s = false) :
    Calls Tryd.prog 35 #[.string ⟨s.toArray⟩] w fun e w' => e = .returned (.tuple #[txnV (decT s), .int .i64 (decN s), .int .i64 (decE s)]) ∧ Below w.heap.size w w' := by
  have HW := hide (wholeB_iff.2 ⟨take1_eq h3 hm, hl, hn⟩)
  have HU := hide (dec_sum (unhide HW) hs)
  have HS := hide hs
  clear hs
  have hzs : (ByteArray.mk s.toArray).size = s.length := Lib.size_eq ⟨s.toArray⟩
  have hib : 0 < (ByteArray.mk s.toArray).size := by rw [Lib.size_eq]; show 0 < s.length; omega
  have hg : (ByteArray.mk s.toArray)[0] = 84 := (ba_get s 0 hib).trans hm
  have c0 : (3 : Int) ≤ (s.length : Int) := by omega
  have HL : Hid (∀ w, Calls Tryd.prog 65 #[.string ((ByteArray.mk s.toArray).extract 1 3)] w fun e w' => e = .returned (.int .i64 (lenOf s : Nat)) ∧ Below w.heap.size w w') := hide (fun w => by
    have h := numberOf_any ((ByteArray.mk s.toArray).extract 1 3) w (by rw [ex_mid, Lib.size_eq]; show ((s.drop 1).take 2).length ≤ 8; rw [List.length_take]; omega)
    rw [ex_mid] at h ⊢
    rw [show (ByteArray.mk (List.take (3 - 1) (List.drop 1 s)).toArray).data.toList = (s.drop 1).take 2 from rfl, un_take_le _ _ (by decide)] at h
    exact h)
  go_enter Tryd.func35, Tryd.ntmps35
  go_wp2_with fail
  refine (unhide HL _).mono ?_
  rintro e w1 ⟨rfl, hb1⟩
  have H := hide ((RDec.new (w := w)).kept hb1)
  clear hb1 HL hg
  generalize w1 = W at H ⊢
  obtain ⟨L, hL⟩ : ∃ L, lenOf s = L := ⟨_, rfl⟩
  rw [hL] at hl hn ⊢
  have EL := hide hL
  clear hL
  have n1 : (0 : Int) ≤ (L : Int) + 3 := by omega
  have n2 : (L : Int) + 3 ≤ (L : Int) + 7 := by omega
  have n3 : (L : Int) + 7 ≤ (s.length : Int) := by omega
  have n4 : (L : Int) + 3 ≤ (s.length : Int) := by omega
  obtain ⟨Q, hQ⟩ : ∃ Q, un ((s.drop (L + 3)).take 4) = Q := ⟨_, rfl⟩
  obtain ⟨X, hX⟩ : ∃ X, sumN (s.take (L + 3)) = X := ⟨_, rfl⟩
  have q0 : ∀ d' os, Calls Tryd.prog 65 #[.string ((ByteArray.mk s.toArray).extract (L + 3) (L + 7))] (Sort.grow (redrawn W d') os) fun e w'' => e = .returned (.int .i64 (Q : Nat)) ∧ ∃ p : Regrown, w'' = Sort.grow (redrawn W p.d) p.os := fun d' os => Calls.regrown_of (by
    have h := numberOf_any ((ByteArray.mk s.toArray).extract (L + 3) (L + 7)) (Sort.grow (redrawn W d') os) (by rw [ex_mid, Lib.size_eq]; show ((s.drop (L + 3)).take (L + 7 - (L + 3))).length ≤ 8; rw [List.length_take]; omega)
    rw [ex_mid] at h ⊢
    rw [show (ByteArray.mk (List.take (L + 7 - (L + 3)) (List.drop (L + 3) s)).toArray).data.toList = (s.drop (L + 3)).take (L + 7 - (L + 3)) from rfl] at h
    rw [show L + 7 - (L + 3) = 4 from by omega] at h ⊢
    rw [un_take_le _ _ (by decide), hQ] at h
    exact h)
  have q1 : ∀ d' os, Calls Tryd.prog 38 #[.string ((ByteArray.mk s.toArray).extract 0 (L + 3))] (Sort.grow (redrawn W d') os) fun e w'' => e = .returned (.int .i64 (X : Nat)) ∧ ∃ p : Regrown, w'' = Sort.grow (redrawn W p.d) p.os := fun d' os => Calls.regrown_of (by
    have h := rsum_any (s.take (L + 3)) (Sort.grow (redrawn W d') os) (by rw [List.length_take]; omega)
    rw [hX] at h
    rw [ex_front]
    exact h)
  have EQ := hide hQ
  have EX := hide hX
  clear hQ hX
  go_wp2_with fail
  refine wp_region_quiet_below (by kernel_rfl) (by kernel_rfl) ?_
  repeat (first | go_big_quiet_step (first | with_reducible exact q0 _ _ | with_reducible exact q1 _ _) | quiet_step (first | with_reducible exact q0 _ _ | with_reducible exact q1 _ _))
  refine wpQuiet_nil ?_
  intro _ hw'
  obtain ⟨⟨dq, osq⟩, hw''⟩ := hw'
  subst hw''
  replace H := hide ((unhide H).kept (below_regrown W dq osq))
  clear q0 q1
  generalize Sort.grow (redrawn W dq) osq = W at H ⊢
  have hne : ((Q : Int) != (X : Int)) = true := by
    rw [bne_iff_ne]
    intro h
    have h2 : sumB s = true := sumB_iff.2 (by rw [unhide EL, unhide EQ, unhide EX]; omega)
    rw [unhide HS] at h2
    exact absurd h2 (by decide)
  have r0 : W.cell? ⟨w.heap.size, 0, none⟩ = some (.int .i64 0) := (unhide H).res.c0
  have r1 : W.cell? ⟨w.heap.size, 1, none⟩ = some (.int .i64 0) := (unhide H).res.c1
  have r2 : W.cell? ⟨w.heap.size, 2, none⟩ = some (.int .i64 0) := (unhide H).res.c2
  have r3 : W.cell? ⟨w.heap.size, 3, none⟩ = some (.string ⟨#[]⟩) := (unhide H).res.c3
  have r4 : W.cell? ⟨w.heap.size, 4, none⟩ = some (.string ⟨#[]⟩) := (unhide H).res.c4
  have r5 : W.cell? ⟨w.heap.size, 5, none⟩ = some (.int .i64 0) := (unhide H).res.c5
  have r6 : W.cell? ⟨w.heap.size, 6, none⟩ = some (.int .i64 0) := (unhide H).res.c6
  have rf := (unhide H).res.f
  have m0 : W.cell? ⟨w.heap.size + 1, 0, none⟩ = some (.int .i64 0) := (unhide H).non.c0
  have m1 : W.cell? ⟨w.heap.size + 1, 1, none⟩ = some (.int .i64 0) := (unhide H).non.c1
  have m2 : W.cell? ⟨w.heap.size + 1, 2, none⟩ = some (.int .i64 0) := (unhide H).non.c2
  have m3 : W.cell? ⟨w.heap.size + 1, 3, none⟩ = some (.string ⟨#[]⟩) := (unhide H).non.c3
  have m4 : W.cell? ⟨w.heap.size + 1, 4, none⟩ = some (.string ⟨#[]⟩) := (unhide H).non.c4
  have m5 : W.cell? ⟨w.heap.size + 1, 5, none⟩ = some (.int .i64 0) := (unhide H).non.c5
  have m6 : W.cell? ⟨w.heap.size + 1, 6, none⟩ = some (.int .i64 0) := (unhide H).non.c6
  go_wp2_with fail
  change bodyPost _ _ _ _ _ (putTxn W w.heap.size t0)
  have HP := hide ((unhide H).res.store t0)
  have hB : Below w.heap.size w (putTxn W w.heap.size t0) := (only_put _ _ _).below (unhide H).below (Nat.le_refl _)
  generalize putTxn W w.heap.size t0 = V2 at HP hB ⊢
  have s0 := (unhide HP).c0
  have s1 := (unhide HP).c1
  have s2 := (unhide HP).c2
  have s3 := (unhide HP).c3
  have s4 := (unhide HP).c4
  have s5 := (unhide HP).c5
  have s6 := (unhide HP).c6
  exact bodyPost_ret (v := .tuple #[txnV t0, .int .i64 0, .int .i64 5]) (by simp [results, Tryd.results35, go_sem, s0, s1, s2, s3, s4, s5, s6, txnV]) rfl ⟨by rw [(unhide HU).1, (unhide HU).2.1, (unhide HU).2.2], hB⟩

end Go.Proofs.YtpoblkionpgljaaDoor
