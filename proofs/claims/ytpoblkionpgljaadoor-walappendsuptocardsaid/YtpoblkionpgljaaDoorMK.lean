/-
  What aviaryref.Decode answers, for every text; and WireDecodes' walk.
  What aviaryref.Last and aviaryref.Scan answer: the walks.
  What aviaryref.Scan answers, over what aviaryref.Decode does: the walk.
  aviarylaw.opened; aviarylaw.WalScans returns true: the walks.
-/
import Derived.Test.YtpoblkionpgljaaDoorCR
import Derived.Test.YtpoblkionpgljaaDoorMJ
import Derived.Test.YtpoblkionpgljaaDoorMF
import Derived.Test.YtpoblkionpgljaaDoorMC
import Derived.Test.YtpoblkionpgljaaDoorMG
import Derived.Test.YtpoblkionpgljaaDoorMI
namespace Go.Proofs.YtpoblkionpgljaaDoor
open Go.RowKit

theorem rdecode_any (s : List UInt8) (w : World) :
    Calls Tryd.prog 35 #[.string ⟨s.toArray⟩] w fun e w' => e = .returned (.tuple #[txnV (decT s), .int .i64 (decN s), .int .i64 (decE s)]) ∧ Below w.heap.size w w' := by
  by_cases h3 : 3 ≤ s.length
  · by_cases hm : s[0] = 84
    · by_cases hl : lenOf s ≤ 1024
      · by_cases hn : lenOf s + 7 ≤ s.length
        · cases hs : sumB s
          · exact rdec_sum s w h3 hm hl hn hs
          · exact rdec_body s w h3 hm hl hn hs
        · exact rdec_short s w h3 hm hl (by omega)
      · exact rdec_long s w h3 hm (by omega)
    · exact rdec_mark s w h3 hm
  · exact rdec_tiny s w (by omega)

end Go.Proofs.YtpoblkionpgljaaDoor

namespace Go.Proofs.YtpoblkionpgljaaDoor
open Go.RowKit

theorem lastZ_more {ts : List WTxn} {k : Nat} {t : WTxn} (h : ts[k]? = some t) : lastZ (ts.take (k + 1)) = t.z := by rw [take_more1 h, lastZ_snoc]
set_option maxRecDepth 10000 in
set_option maxHeartbeats 1000000 in
theorem rlast_any (v : Value) (ts : List WTxn) (w : World) (hv : LogV w v ts) :
    Calls Tryd.prog 19 #[v] w fun e w' => e = .returned (.int .i64 (lastZ ts)) ∧ Below w.heap.size w w' := by
  have hlen : ts.length ≤ 9223372036854775807 := by
    rcases hv with ⟨a, cap, rfl, rfl, _⟩ | ⟨b, off, cap, rfl, h1, h2, _⟩
    · simp
    · simp only [maxLen] at h2; omega
  have HV := hide hv
  obtain ⟨a, c, rfl⟩ := log_slice hv
  clear hv
  go_enter Tryd.func19, Tryd.ntmps19
  go_wp2_with fail
  go_loopg [3, 8] ts.length (fun kx s3 s8 wr => ∃ (k : Nat) (z : Int), s3 = .int .i64 z ∧ s8 = .int .i64 k ∧ k ≤ ts.length ∧ ts.length - k ≤ kx ∧ Hid (lastZ (ts.take k) = z) ∧ Hid (Below w.heap.size w wr))
  case atStart => exact ⟨0, 0, rfl, rfl, Nat.zero_le _, by omega, hide rfl, hide (Below.refl _ _)⟩
  case round =>
    obtain ⟨k, z, rfl, rfl, hk, hkx, HZ, HB⟩ := hrel
    by_cases hlt : k < ts.length
    · obtain ⟨t, ht⟩ : ∃ t, ts[k]? = some t := ⟨_, List.getElem?_eq_getElem hlt⟩
      obtain ⟨b, off, cap, he, hb, hr, _, _, _⟩ := log_row ((unhide HV).next (unhide HB)) ht
      simp only [Value.slice.injEq, true_and] at he
      obtain ⟨rfl, rfl⟩ := he
      have e0 := hr.z ht
      have e1 := hr.o ht
      have e2 := hr.s ht
      have e3 := hr.p ht
      have e4 := hr.d ht
      have e5 := hr.v ht
      have e6 := hr.w ht
      have hlti : (k : Int) < (ts.length : Int) := by omega
      have HL := hide (lastZ_more ht)
      have hk63 : k < 9223372036854775807 := by omega
      have HB2 := fun o => hide ((unhide HB).alloc (unhide HB).size o)
      clear hr ht hb
      go_wp2_with fail
      go_roundg (ts.length - (k + 1))
      case measure => omega
      case rel => exact ⟨k + 1, t.z, rfl, by simp, by omega, Nat.le_refl _, HL, HB2 _⟩
    · obtain rfl : k = ts.length := by omega
      have hki : ¬ ((ts.length : Int) < (ts.length : Int)) := by omega
      have hz : lastZ ts = z := by have := unhide HZ; rwa [List.take_length] at this
      have HZ2 := hide hz
      clear hz
      go_wp2_with fail
      go_ret
      rw [unhide HZ2]
      exact ⟨rfl, unhide HB⟩

/-- what aviaryref.Decode does -/
def RDecOk : Prop := ∀ (s : List UInt8) (w : World), s.length ≤ 1048576 →
    Calls Tryd.prog 35 #[.string ⟨s.toArray⟩] w fun e w' => e = .returned (.tuple #[txnV (decT s), .int .i64 (decN s), .int .i64 (decE s)]) ∧ Below w.heap.size w w'
/-- what stands at each round of aviaryref.Scan -/
structure RSc (w W : World) (g : Nat) (v : Value) (ts : List WTxn) : Prop where
  below : Below w.heap.size w W
  own : OwnL W (g + 1) v ts
  at_ : ∃ t, TxnAt W g t
  le : w.heap.size ≤ g
theorem RSc.next {w W V : World} {g : Nat} {v : Value} {ts : List WTxn} (h : RSc w W g v ts) (hb : Below W.heap.size W V) : RSc w V g v ts := by
  obtain ⟨t, ht⟩ := h.at_
  exact ⟨below_next2 h.below hb, h.own.next hb, ⟨t, ht.kept hb (by unfold TxnAt at ht; exact (Array.getElem?_eq_some_iff.1 ht).1)⟩, h.le⟩
theorem OwnL.other {W V : World} {B g : Nat} {v : Value} {ts : List WTxn} (h : OwnL W B v ts) (ho : Only g W V) (hg : g < B) : OwnL V B v ts := by
  obtain ⟨hl, h | ⟨q, cap, cur, e, hB, hq, hr⟩⟩ := h
  · exact ⟨hl, .inl h⟩
  · exact ⟨hl, .inr ⟨q, cap, cur, e, hB, (ho.block _ (by omega)).trans hq, hr⟩⟩
theorem RSc.put {w W : World} {g : Nat} {v : Value} {ts : List WTxn} (h : RSc w W g v ts) (t : WTxn) : RSc w (putTxn W g t) g v ts ∧ TxnAt (putTxn W g t) g t := by
  obtain ⟨t', ht⟩ := h.at_
  exact ⟨⟨(only_put W g t).below h.below h.le, h.own.other (only_put W g t) (Nat.lt_succ_self g), ⟨t, ht.store t⟩, h.le⟩, ht.store t⟩
end Go.Proofs.YtpoblkionpgljaaDoor

namespace Go.Proofs.YtpoblkionpgljaaDoor
open Go.RowKit

theorem scan_nil {s r : List UInt8} (S : Scan s [] r) : decE s ≠ 0 := by
  have e : s = r := by rw [S.eq]; rfl
  subst e
  rcases S.stop with h | h
  · exact h
  · rw [follB_nil] at h; cases h
theorem last_at {ts : List WTxn} {j : Nat} {x : WTxn} (hl : ts.length = j + 1) (hx : ts[j]? = some x) : lastZ ts = x.z := by
  obtain ⟨m, y, rfl⟩ := snoc_of (l := ts) (by omega)
  have : m.length = j := by simpa using hl
  subst this
  simp at hx
  rw [lastZ_snoc, hx]
set_option maxHeartbeats 1000000 in
theorem rscan_nil (CD : RDecOk) (s : List UInt8) (w : World) (h : decE s ≠ 0) (hs : s.length ≤ 1048576) :
    Calls Tryd.prog 10 #[.string ⟨s.toArray⟩] w fun e w' => ∃ v, e = .returned (.tuple #[v, .int .i64 (0 : Nat)]) ∧ LogV w' v [] ∧ Below w.heap.size w w' := by
  have C := fun W => CD s W hs
  have hne : (decE s != 0) = true := by simpa using h
  generalize decE s = E at *
  generalize decN s = D at *
  obtain ⟨t, ht⟩ : ∃ t, decT s = t := ⟨_, rfl⟩
  rw [ht] at C
  clear ht CD h
  obtain ⟨z, o, s1, p, d, y, u⟩ := t
  unfold txnV at C
  go_enter Tryd.func10, Tryd.ntmps10
  go_wp2_with fail
  refine (C _).mono ?_
  rintro e w1 ⟨rfl, hb1⟩
  have HB := hide (below_next2 hb1 ((Below.refl w1.heap.size w1).alloc (Nat.le_refl _) (.cells #[.int .i64 z, .int .i64 o, .int .i64 s1, .string ⟨p.toArray⟩, .string ⟨d.toArray⟩, .int .i64 y, .int .i64 u] 29)))
  clear C hb1
  go_wp2_with fail
  go_ret2
  exact ⟨_, rfl, LogV.nil _, unhide HB⟩

theorem rsc_start (w w1 : World) (t : WTxn) (hb : Below w.heap.size w w1) : RSc w ((w1.alloc (.cells #[.int .i64 t.z, .int .i64 t.o, .int .i64 t.s, .string ⟨t.p.toArray⟩, .string ⟨t.d.toArray⟩, .int .i64 t.v, .int .i64 t.w] 29)).alloc (.cells #[.int .i64 t.z, .int .i64 t.o, .int .i64 t.s, .string ⟨t.p.toArray⟩, .string ⟨t.d.toArray⟩, .int .i64 t.v, .int .i64 t.w] 29)) w1.heap.size (.slice (some ⟨w1.heap.size + 1, 0, none⟩) 1 1) [t] := by
  have b1 := (Below.refl w1.heap.size w1).alloc (Nat.le_refl _) (.cells #[.int .i64 t.z, .int .i64 t.o, .int .i64 t.s, .string ⟨t.p.toArray⟩, .string ⟨t.d.toArray⟩, .int .i64 t.v, .int .i64 t.w] 29)
  have h1 : TxnAt _ _ t := heap_new w1 (.cells #[.int .i64 t.z, .int .i64 t.o, .int .i64 t.s, .string ⟨t.p.toArray⟩, .string ⟨t.d.toArray⟩, .int .i64 t.v, .int .i64 t.w] 29)
  have hz : (w1.alloc (.cells #[.int .i64 t.z, .int .i64 t.o, .int .i64 t.s, .string ⟨t.p.toArray⟩, .string ⟨t.d.toArray⟩, .int .i64 t.v, .int .i64 t.w] 29)).heap.size = w1.heap.size + 1 := by simp
  generalize w1.alloc (.cells #[.int .i64 t.z, .int .i64 t.o, .int .i64 t.s, .string ⟨t.p.toArray⟩, .string ⟨t.d.toArray⟩, .int .i64 t.v, .int .i64 t.w] 29) = W at *
  have b2 := (Below.refl W.heap.size W).alloc (Nat.le_refl _) (.cells #[.int .i64 t.z, .int .i64 t.o, .int .i64 t.s, .string ⟨t.p.toArray⟩, .string ⟨t.d.toArray⟩, .int .i64 t.v, .int .i64 t.w] 29)
  have h2 := heap_new W (.cells #[.int .i64 t.z, .int .i64 t.o, .int .i64 t.s, .string ⟨t.p.toArray⟩, .string ⟨t.d.toArray⟩, .int .i64 t.v, .int .i64 t.w] 29)
  rw [hz] at h2
  refine ⟨below_next2 (below_next2 hb b1) b2, ⟨rfl, .inr ⟨w1.heap.size + 1, 1, _, rfl, Nat.le_refl _, h2, by simp, by decide, rfl, ?_⟩⟩, ⟨t, h1.kept b2 (by omega)⟩, hb.size⟩
  simp [cellsT, tcells]

theorem RSc.grown {w W V : World} {g k c : Nat} {a : Option Addr} {ts : List WTxn} {t : WTxn} {O : Obj} {v' : Value} (h : RSc w W g (.slice a k c) ts) (hk : ts.length = k)
    (hown : V.ownsRow (g + 1) 29 7 v' (k + 1) (cellsT ts ++ tcells t)) (hg : (W.alloc O).grownBy V (Value.slice a k c).ownBlock) :
    ∃ a' c', v' = .slice a' (k + 1) c' ∧ RSc w V g (.slice a' (k + 1) c') (ts ++ [t]) := by
  obtain ⟨a', c', rfl, h1, h2⟩ := app_done h.below h.own (by have := h.le; omega) hk hown hg
  obtain ⟨t9, h9⟩ := h.at_
  have hlt : g < W.heap.size := by unfold TxnAt at h9; exact (Array.getElem?_eq_some_iff.1 h9).1
  have hz : (W.alloc O).heap.size = W.heap.size + 1 := by simp
  have h9' : TxnAt (W.alloc O) g t9 := h9.kept ((Below.refl W.heap.size W).alloc (Nat.le_refl _) O) hlt
  have hq : some g ≠ (Value.slice a k c).ownBlock := fun e => by have := (ownl_block h.own g e.symm).1; omega
  exact ⟨a', c', rfl, h2, h1, ⟨t9, (hg.block g (by omega) hq).trans h9'⟩, h.le⟩

set_option maxRecDepth 10000 in
set_option maxHeartbeats 2000000 in
theorem rscan_some (CD : RDecOk) (s r : List UInt8) (t : WTxn) (us : List WTxn) (w : World) (S : Scan s (t :: us) r) (hs : s.length ≤ 1048576) :
    Calls Tryd.prog 10 #[.string ⟨s.toArray⟩] w fun e w' => ∃ v, e = .returned (.tuple #[v, .int .i64 ((recsL (t :: us)).length : Nat)]) ∧ LogV w' v (t :: us) ∧ Below w.heap.size w w' := by
  obtain ⟨i0, hi0, hz0, hz1, hz2⟩ := info_txn
  have hzs : (ByteArray.mk s.toArray).size = s.length := Lib.size_eq ⟨s.toArray⟩
  have C := fun W => CD s W hs
  have hg := (S.log.good t (by simp))
  have hdr := dec_rec hg (recsL us ++ r)
  rw [← List.append_assoc, ← recsL, ← S.eq] at hdr
  rw [hdr.1, hdr.2.1, hdr.2.2] at C
  obtain ⟨ts, hts'⟩ : ∃ ts, t :: us = ts := ⟨_, rfl⟩
  have ht0 : ts[0]? = some t := by rw [← hts']; rfl
  have hl1 : 1 ≤ ts.length := by rw [← hts']; simp
  have htk : ts.take 1 = [t] := by rw [← hts']; simp
  rw [hts'] at S ⊢
  have hts : ts.length * 31 ≤ 1048576 := by have := recsL_ge ts; have := S.len; omega
  obtain ⟨L0, hL0⟩ : ∃ L, (recL t).length = L := ⟨_, rfl⟩
  rw [hL0] at C
  have HN0 : Hid ((recsL (ts.take 1)).length = L0) := hide (by rw [htk]; simp [recsL, hL0])
  have HTK := hide htk
  have HS := hide S
  have HCD := hide CD
  clear S CD hdr hg hL0 hts' ht0 htk
  obtain ⟨z, o, s1, p, d, y, u⟩ := t
  unfold txnV at C
  go_enter Tryd.func10, Tryd.ntmps10
  go_wp2_with fail
  refine (C _).mono ?_
  rintro e w1 ⟨rfl, hb1⟩
  have HR0 := hide (rsc_start w w1 ⟨z, o, s1, p, d, y, u⟩ hb1)
  clear C hb1
  go_wp2_with fail
  generalize (w1.alloc (.cells #[.int .i64 z, .int .i64 o, .int .i64 s1, .string ⟨p.toArray⟩, .string ⟨d.toArray⟩, .int .i64 y, .int .i64 u] 29)).alloc (.cells #[.int .i64 z, .int .i64 o, .int .i64 s1, .string ⟨p.toArray⟩, .string ⟨d.toArray⟩, .int .i64 y, .int .i64 u] 29) = W1 at *
  generalize w1.heap.size = g at *
  rw [← unhide HTK] at HR0
  clear HTK
  go_loopg [7, 8] ts.length (fun kx s7 s8 wr => ∃ (j N : Nat) (a : Option Addr) (c : Nat), s7 = .slice a (j + 1) c ∧ s8 = .int .i64 N ∧ j + 1 ≤ ts.length ∧ ts.length - j ≤ kx ∧ Hid ((recsL (ts.take (j + 1))).length = N) ∧ Hid (RSc w wr g (.slice a (j + 1) c) (ts.take (j + 1))))
  case atStart => exact ⟨0, L0, _, _, rfl, rfl, hl1, by omega, HN0, HR0⟩
  case round =>
    clear HR0 HN0

    obtain ⟨j, N, a, c, rfl, rfl, hk, hkx, HN, hI⟩ := hrel
    have h1 := scan_at (unhide HS) (j + 1)
    rw [unhide HN] at h1
    obtain ⟨hd, hNs⟩ := h1
    have hx : (ByteArray.mk s.toArray).extract N s.length = ⟨(s.drop N).toArray⟩ := ex_back s N
    have hMl : (ts.take (j + 1)).length = j + 1 := by simp; omega
    have C := fun W => unhide HCD (s.drop N) W (by rw [List.length_drop]; omega)
    by_cases hlt : j + 1 < ts.length
    · obtain ⟨t, ht⟩ : ∃ t, ts[j + 1]? = some t := ⟨_, List.getElem?_eq_getElem hlt⟩
      have hgf := logs_at (unhide HS).log ht
      rw [drop_more1 ht, recsL, List.append_assoc] at hd
      have hdr := dec_rec hgf.1 (recsL (ts.drop (j + 1 + 1)) ++ r)
      rw [← hd] at hdr
      rw [hdr.1, hdr.2.1, hdr.2.2] at C
      have hrl := recL_le hgf.1
      have hNN := scan_at (unhide HS) (j + 1 + 1)
      rw [take_more1 ht, recsL_snoc, List.length_append, unhide HN] at hNN
      have hNL := hNN.2
      have hfo := hgf.2
      rw [follB_some (by omega)] at hfo
      have HFO := hide (of_decide_eq_true hfo)
      have HT := hide (take_more1 ht)
      have HM := hide hMl
      clear hd hdr hgf hNN hMl ht hfo
      obtain ⟨Y, hY⟩ : ∃ Y, s.drop N = Y := ⟨_, rfl⟩
      rw [hY] at hx C
      obtain ⟨L, hL⟩ : ∃ L, (recL t).length = L := ⟨_, rfl⟩
      rw [hL] at C hNL hrl
      have HL := hide hL
      obtain ⟨M, hM⟩ : ∃ M, ts.take (j + 1) = M := ⟨_, rfl⟩
      rw [hM] at hI HT HM HN HFO
      clear hY hL hM
      obtain ⟨z, o, s1, p, d, y, u⟩ := t
      unfold txnV at C
      go_wp2_with fail
      refine (C _).mono ?_
      rintro e w2 ⟨rfl, hb2⟩
      have R2 := (unhide hI).next hb2
      obtain ⟨t9, T9⟩ := R2.at_
      have f0 := T9.f
      have q0 := T9.c0
      have q1 := T9.c1
      have q2 := T9.c2
      have q3 := T9.c3
      have q4 := T9.c4
      have q5 := T9.c5
      have q6 := T9.c6
      have P2 := R2.put ⟨z, o, s1, p, d, y, u⟩
      simp only [putTxn] at P2
      have HP := hide P2
      clear C hb2 hI R2 T9 P2
      go_wp2_with fail
      generalize (((((((w2.setCell ⟨g, 0, none⟩ (.int .i64 z)).setCell ⟨g, 1, none⟩ (.int .i64 o)).setCell ⟨g, 2, none⟩ (.int .i64 s1)).setCell ⟨g, 3, none⟩ (.string ⟨p.toArray⟩)).setCell ⟨g, 4, none⟩ (.string ⟨d.toArray⟩)).setCell ⟨g, 5, none⟩ (.int .i64 y)).setCell ⟨g, 6, none⟩ (.int .i64 u)) = V at *
      clear f0 q0 q1 q2 q3 q4 q5 q6
      obtain ⟨x, hx0⟩ : ∃ x, M[j]? = some x := ⟨_, List.getElem?_eq_getElem (by rw [unhide HM]; omega)⟩
      obtain ⟨b, off, cap, he, hb, hr, _, _, hcm⟩ := log_row (unhide HP).1.own.log hx0
      rw [unhide HM] at he
      simp only [Value.slice.injEq, true_and] at he
      obtain ⟨rfl, rfl⟩ := he
      have ex := hr.z hx0
      have tz := (unhide HP).2.c0
      have hj : j < 9223372036854775807 := by simp only [maxLen] at hcm; omega
      have hcmp : ¬ (z ≤ x.z) := by have h : lastZ M < z := unhide HFO; rw [last_at (unhide HM) hx0] at h; omega
      clear hr hx0 hb hcm
      go_region
      have HRW := hide (app_row ((unhide HP).1.own.next (Below.refl _ _).drew) (unhide HM))
      have HC2 := hide (app_new V.drew ⟨z, o, s1, p, d, y, u⟩)
      have T3 := (unhide HP).2
      have HP2 := hide ((unhide HP).1.next (Below.refl _ _).drew)
      have c0 := T3.c0
      have c1 := T3.c1
      have c2 := T3.c2
      have c3 := T3.c3
      have c4 := T3.c4
      have c5 := T3.c5
      have c6 := T3.c6
      clear T3
      have h4 : Hid (j + 1 + 1 ≤ maxLen) := by unfold Hid; simp only [maxLen]; omega
      have h5 : Hid ((j + 1 + 1) * 72 ≤ 140737488355328) := by unfold Hid; omega
      have h6 : Hid (∀ O1, g + 1 ≤ (V.drew.alloc O1).heap.size) := fun O1 => by
        obtain ⟨t9, h9⟩ := (unhide HP2).at_
        unfold TxnAt at h9
        have := (Array.getElem?_eq_some_iff.1 h9).1
        simp at this ⊢; omega
      go_wp2_with (at_builtin; refine wpList_append_own _ rfl _ _ 22 rfl (g + 1) 29 i0 _ 7 72 Tryd.underlying22 hi0 hz0 hz1 hz2 rfl (by decide) _ (j + 1) (cellsT M) rfl (unhide HRW _ _ rfl) ⟨V.heap.size, 0, none⟩ 1 1 (tcells ⟨z, o, s1, p, d, y, u⟩) rfl rfl (unhide HC2) (tcells_one _) (unhide h4) (unhide h5) (unhide h6 _) ?_)
      intro v' w5 hown hgrow _
      obtain ⟨a5, cc5, rfl, hr5⟩ := (unhide HP2).grown (unhide HM) hown hgrow
      have HZ := hide hr5
      clear hown hgrow hr5 HRW HC2 h4 h5 h6 HP HP2 c0 c1 c2 c3 c4 c5 c6 ex tz
      go_wp2_with fail
      go_roundg (ts.length - (j + 1))
      case measure => omega
      case rel => exact ⟨j + 1, N + L, a5, cc5, rfl, by simp, by omega, Nat.le_refl _, hide (by rw [unhide HT, recsL_snoc, List.length_append, unhide HN, unhide HL]), hide (by rw [unhide HT]; exact unhide HZ)⟩
    · have hlen : ts.length = j + 1 := by omega
      have htt : ts.take (j + 1) = ts := List.take_of_length_le (by omega)
      have hdd : ts.drop (j + 1) = [] := List.drop_of_length_le (by omega)
      rw [hdd, show recsL [] = [] from rfl, List.nil_append] at hd
      rw [hd] at C hx
      rw [htt] at hI hMl HN
      have hst := (unhide HS).stop
      have HM := hide hMl
      have HN2 := HN
      clear hd hMl hlt HN htt hdd
      clear hlen
      by_cases he : decE r = 0
      · have hf : follB ts (decT r) = false := by
          rcases hst with h | h
          · exact absurd he h
          · exact h
        rw [follB_some (by rw [unhide HM]; omega)] at hf
        have HFO := hide (of_decide_eq_false hf)
        rw [he] at C
        clear hst hf
        obtain ⟨D, hD⟩ : ∃ D, decN r = D := ⟨_, rfl⟩
        rw [hD] at C
        clear hD he
        obtain ⟨t, ht⟩ : ∃ t, decT r = t := ⟨_, rfl⟩
        rw [ht] at C HFO
        clear ht
        obtain ⟨z, o, s1, p, d, y, u⟩ := t
        unfold txnV at C
        go_wp2_with fail
        refine (C _).mono ?_
        rintro e w2 ⟨rfl, hb2⟩
        have R2 := (unhide hI).next hb2
        obtain ⟨t9, T9⟩ := R2.at_
        have f0 := T9.f
        have q0 := T9.c0
        have q1 := T9.c1
        have q2 := T9.c2
        have q3 := T9.c3
        have q4 := T9.c4
        have q5 := T9.c5
        have q6 := T9.c6
        have P2 := R2.put ⟨z, o, s1, p, d, y, u⟩
        simp only [putTxn] at P2
        have HP := hide P2
        clear C hb2 hI R2 T9 P2
        go_wp2_with fail
        generalize (((((((w2.setCell ⟨g, 0, none⟩ (.int .i64 z)).setCell ⟨g, 1, none⟩ (.int .i64 o)).setCell ⟨g, 2, none⟩ (.int .i64 s1)).setCell ⟨g, 3, none⟩ (.string ⟨p.toArray⟩)).setCell ⟨g, 4, none⟩ (.string ⟨d.toArray⟩)).setCell ⟨g, 5, none⟩ (.int .i64 y)).setCell ⟨g, 6, none⟩ (.int .i64 u)) = V at *
        clear f0 q0 q1 q2 q3 q4 q5 q6
        obtain ⟨x, hx0⟩ : ∃ x, ts[j]? = some x := ⟨_, List.getElem?_eq_getElem (by rw [unhide HM]; omega)⟩
        obtain ⟨b, off, cap, he, hb, hr, _, _, hcm⟩ := log_row (unhide HP).1.own.log hx0
        rw [unhide HM] at he
        simp only [Value.slice.injEq, true_and] at he
        obtain ⟨rfl, rfl⟩ := he
        have ex := hr.z hx0
        have tz := (unhide HP).2.c0
        have hj : j < 9223372036854775807 := by simp only [maxLen] at hcm; omega
        have hcmp : z ≤ x.z := by have h : z ≤ lastZ ts := unhide HFO; rw [last_at (unhide HM) hx0] at h; omega
        have HF := hide (And.intro ((unhide HP).1.next (Below.refl _ _).drew).own.log ((unhide HP).1.next (Below.refl _ _).drew).below)
        clear hr hx0 hb hcm
        go_region
        go_wp2_with fail
        go_ret2
        exact ⟨_, ret_vn (unhide HN2).symm, (unhide HF).1, (unhide HF).2⟩
      · have hne : (decE r != 0) = true := by simpa using he
        clear hst he
        obtain ⟨D, hD⟩ : ∃ D, decN r = D := ⟨_, rfl⟩
        rw [hD] at C
        clear hD
        obtain ⟨E, hE⟩ : ∃ E, decE r = E := ⟨_, rfl⟩
        rw [hE] at C hne
        clear hE
        obtain ⟨t, ht⟩ : ∃ t, decT r = t := ⟨_, rfl⟩
        rw [ht] at C
        clear ht
        obtain ⟨z, o, s1, p, d, y, u⟩ := t
        unfold txnV at C
        go_wp2_with fail
        refine (C _).mono ?_
        rintro e w2 ⟨rfl, hb2⟩
        have R2 := (unhide hI).next hb2
        obtain ⟨t9, T9⟩ := R2.at_
        have f0 := T9.f
        have q0 := T9.c0
        have q1 := T9.c1
        have q2 := T9.c2
        have q3 := T9.c3
        have q4 := T9.c4
        have q5 := T9.c5
        have q6 := T9.c6
        have P2 := R2.put ⟨z, o, s1, p, d, y, u⟩
        simp only [putTxn] at P2
        have HP := hide P2
        clear C hb2 hI R2 T9 P2
        go_wp2_with fail
        generalize (((((((w2.setCell ⟨g, 0, none⟩ (.int .i64 z)).setCell ⟨g, 1, none⟩ (.int .i64 o)).setCell ⟨g, 2, none⟩ (.int .i64 s1)).setCell ⟨g, 3, none⟩ (.string ⟨p.toArray⟩)).setCell ⟨g, 4, none⟩ (.string ⟨d.toArray⟩)).setCell ⟨g, 5, none⟩ (.int .i64 y)).setCell ⟨g, 6, none⟩ (.int .i64 u)) = V at *
        clear f0 q0 q1 q2 q3 q4 q5 q6
        have HF := hide (And.intro ((unhide HP).1.next (Below.refl _ _).drew).own.log ((unhide HP).1.next (Below.refl _ _).drew).below)
        go_region
        go_wp2_with fail
        go_ret2
        exact ⟨_, ret_vn (unhide HN2).symm, (unhide HF).1, (unhide HF).2⟩

theorem rscan_of (CD : RDecOk) (s r : List UInt8) (ts : List WTxn) (w : World) (S : Scan s ts r) (hs : s.length ≤ 1048576) :
    Calls Tryd.prog 10 #[.string ⟨s.toArray⟩] w fun e w' => ∃ v, e = .returned (.tuple #[v, .int .i64 ((recsL ts).length : Nat)]) ∧ LogV w' v ts ∧ Below w.heap.size w w' := by
  cases ts with
  | nil => exact rscan_nil CD s w (scan_nil S) hs
  | cons t us => exact rscan_some CD s r t us w S hs
end Go.Proofs.YtpoblkionpgljaaDoor

namespace Go.Proofs.YtpoblkionpgljaaDoor
open Go.RowKit

theorem log_one1 (W : World) (t : WTxn) : LogV (W.alloc (.cells #[.int .i64 t.z, .int .i64 t.o, .int .i64 t.s, .string ⟨t.p.toArray⟩, .string ⟨t.d.toArray⟩, .int .i64 t.v, .int .i64 t.w] 29)) (.slice (some ⟨W.heap.size, 0, none⟩) 1 1) [t] := by
  refine .inr ⟨W.heap.size, 0, 1, rfl, by simp, by decide, by simp, by simp, fun j u hj => ?_⟩
  have := app_new W t j u (by simpa [cellsT] using hj)
  rw [Addr.add_lit] at this
  exact this
set_option maxHeartbeats 400000 in
theorem opened_any (w : World) : Calls Tryd.prog 12 #[] w fun e w' => ∃ g, e = .returned (.slice (some ⟨g, 0, none⟩) 1 1) ∧ Hid (LogV w' (.slice (some ⟨g, 0, none⟩) 1 1) [tOpen]) ∧ Below w.heap.size w w' := by
  have HL := hide (log_one1 w tOpen)
  go_enter Tryd.func12, Tryd.ntmps12
  go_wp2_with fail
  exact bodyPost_ret (v := .slice (some ⟨w.heap.size, 0, none⟩) 1 1) (by simp [results, Tryd.results12, go_sem]) rfl ⟨_, rfl, HL, (Below.refl _ _).alloc (Nat.le_refl _) _⟩
theorem logs_open1 : Logs [tOpen] := ⟨fun t ht => by simp at ht; rw [ht]; exact gd_open, by simp⟩
theorem rscan_any {s r : List UInt8} {ts : List WTxn} (S : Scan s ts r) (hs : s.length ≤ 1048576) : GivesL 10 s ts (recsL ts).length := fun W =>
  rscan_of (fun s w _ => rdecode_any s w) s r ts W S hs

set_option maxRecDepth 10000 in
set_option maxHeartbeats 1000000 in
theorem walScans_walk (s : List UInt8) (w : World) (hs : s.length ≤ 1048576) :
    Calls Tryd.prog 3 #[.string ⟨s.toArray⟩] w fun e w' => e = .returned (.bool true) ∧ Below w.heap.size w w' := by
  obtain ⟨ts, r, S⟩ := scan_ex s
  have hlen : ts.length ≤ 1000000 := by have := recsL_ge ts; have := S.len; omega
  have C1 := scan_any S hs
  have C2 := rscan_any S hs
  have hsz := recL_length tOpen
  have S3 : Scan (recL tOpen) [tOpen] [] := by have := scan_recs logs_open1; simpa [recsL] using this
  have C3 := scan_any S3 (by rw [hsz]; decide)
  have CE := fun W => rencode_yes tOpen W gd_open
  generalize (recsL ts).length = N at *
  generalize (recsL [tOpen]).length = N3 at *
  generalize recL tOpen = R at *
  unfold txnV tOpen at CE
  have HC2 := hide C2
  have HC3 := hide C3
  clear S S3 hsz C2 C3
  go_enter Tryd.func3, Tryd.ntmps3
  go_wp2_with fail
  refine (C1 _).mono ?_
  rintro e w1 ⟨v1, rfl, hl1, hb1⟩
  obtain ⟨a1, c1, rfl⟩ := log_slice hl1
  have HL1 := hide hl1
  have HB1 := hide hb1
  clear C1 hl1 hb1
  go_wp2_with fail
  refine (unhide HC2 _).mono ?_
  rintro e w2 ⟨v2, rfl, hl2, hb2⟩
  obtain ⟨a2, c2, rfl⟩ := log_slice hl2
  have HL2 := hide hl2
  have HL3 := hide ((unhide HL1).next hb2)
  have HB2 := hide (below_next2 (unhide HB1) hb2)
  clear HC2 hl2 hb2 HL1 HB1
  go_wp2_with fail
  refine (opened_any _).mono ?_
  rintro e w3 ⟨g, rfl, HO, hb3⟩
  have HL4 := hide ((unhide HL2).next hb3)
  have HL5 := hide ((unhide HL3).next hb3)
  have HB3 := hide (below_next2 (unhide HB2) hb3)
  obtain ⟨b, off, cap, he, hb, hr, _, _, _⟩ := log_row (unhide HO) (i := 0) (t := tOpen) rfl
  simp only [Value.slice.injEq, Option.some.injEq, Addr.mk.injEq, and_true, List.length_cons, List.length_nil, Nat.zero_add, true_and] at he
  obtain ⟨⟨rfl, rfl⟩, rfl⟩ := he
  have e0 : w3.cell? ⟨g, 0, none⟩ = some (.int .i64 1) := hr.z (i := 0) (t := tOpen) rfl
  have e1 : w3.cell? ⟨g, 1, none⟩ = some (.int .i64 1) := hr.o (i := 0) (t := tOpen) rfl
  have e2 : w3.cell? ⟨g, 2, none⟩ = some (.int .i64 1) := hr.s (i := 0) (t := tOpen) rfl
  have e3 : w3.cell? ⟨g, 3, none⟩ = some (.string ⟨#[]⟩) := hr.p (i := 0) (t := tOpen) rfl
  have e4 : w3.cell? ⟨g, 4, none⟩ = some (.string ⟨#[]⟩) := hr.d (i := 0) (t := tOpen) rfl
  have e5 : w3.cell? ⟨g, 5, none⟩ = some (.int .i64 0) := hr.v (i := 0) (t := tOpen) rfl
  have e6 : w3.cell? ⟨g, 6, none⟩ = some (.int .i64 0) := hr.w (i := 0) (t := tOpen) rfl
  clear HO hb3 hb hr HL2 HL3 HB2
  go_wp2_with fail
  refine (CE _).mono ?_
  rintro e w4 ⟨rfl, hb4⟩
  have HL6 := hide ((unhide HL4).next hb4)
  have HL7 := hide ((unhide HL5).next hb4)
  have HB4 := hide (below_next2 (unhide HB3) hb4)
  clear CE hb4 HL4 HL5 HB3 e0 e1 e2 e3 e4 e5 e6
  go_wp2_with fail
  refine (unhide HC3 _).mono ?_
  rintro e w5 ⟨v5, rfl, hl5, hb5⟩
  obtain ⟨a5, c5, rfl⟩ := log_slice hl5
  have HL8 := hide ((unhide HL6).next hb5)
  have HL9 := hide ((unhide HL7).next hb5)
  have HB5 := hide (below_next2 (unhide HB4) hb5)
  clear HC3 hb5 hl5 HL6 HL7 HB4
  go_wp2_with fail
  refine (rsl_any _ _ ts _ hlen (unhide HL9) (unhide HL8)).mono ?_
  rintro e w6 ⟨rfl, hb6⟩
  have HB6 := hide (below_next2 (unhide HB5) hb6)
  clear hb6 HL8 HL9 HB5
  go_wp2_with fail
  go_ret
  exact ⟨rfl, unhide HB6⟩
end Go.Proofs.YtpoblkionpgljaaDoor
