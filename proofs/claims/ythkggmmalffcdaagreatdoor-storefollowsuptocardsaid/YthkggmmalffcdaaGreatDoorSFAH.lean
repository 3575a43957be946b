/-
  What aviaryref.Scan answers, over what aviaryref.Decode does: the walk.
  What aviaryref.Decode answers of a text that is no record: the walks.
  What aviaryref.Decode answers of a text that has a record's form: the walk.
-/
import Derived.Test.YthkggmmalffcdaaGreatDoorSFS
import Derived.Test.YthkggmmalffcdaaGreatDoorSFAE
import Derived.Test.YthkggmmalffcdaaGreatDoorSFAF
import Derived.Test.YthkggmmalffcdaaGreatDoorSFAG
import Derived.Lib.QuietBelow
import Derived.BigQuiet
import Derived.Deep.RegionWith
import Derived.Deep.Cut
namespace Go.Proofs.YthkggmmalffcdaaGreatDoor
open Go.RowKit

theorem scan_nil {s r : List UInt8} (S : Scan s [] r) : decE s ≠ 0 := by
  have e : s = r := by rw [S.eq]; rfl
  subst e
  rcases S.stop with h | h
  · exact h
  · rw [follB_nil] at h; cases h
theorem last_at {ts : List WTxn} {j : Nat} {x : WTxn} (hl : ts.length = j + 1) (hx : ts[j]? = some x) : lastZ ts = x.z := by
  obtain ⟨m, y, rfl⟩ := snoc_of (l := ts) (by omega)
  have : m.length = j := by simpa using hl
  subst this
  simp at hx
  rw [lastZ_snoc, hx]
set_option maxRecDepth 10000 in
set_option maxHeartbeats 1000000 in
theorem rscan_nil (CD : RDecOk) (s : List UInt8) (w : World) (h : decE s ≠ 0) (hs : s.length ≤ 1048576) :
    Calls Tryz.prog 125 #[.string ⟨s.toArray⟩] w fun e w' => ∃ v, e = .returned (.tuple #[v, .int .i64 (0 : Nat)]) ∧ LogV w' v [] ∧ Below w.heap.size w w' := by
  have C := fun W => CD s W hs
  have hne : (decE s != 0) = true := by simpa using h
  generalize decE s = E at *
  generalize decN s = D at *
  obtain ⟨t, ht⟩ : ∃ t, decT s = t := ⟨_, rfl⟩
  rw [ht] at C
  clear ht CD h
  obtain ⟨z, o, s1, p, d, y, u⟩ := t
  unfold txnV at C
  go_enter Tryz.func125, Tryz.ntmps125
  go_wp2_with fail
  refine (C _).mono ?_
  rintro e w1 ⟨rfl, hb1⟩
  have HB := hide (below_next2 hb1 ((Below.refl w1.heap.size w1).alloc (Nat.le_refl _) (.cells #[.int .i64 z, .int .i64 o, .int .i64 s1, .string ⟨p.toArray⟩, .string ⟨d.toArray⟩, .int .i64 y, .int .i64 u] 48)))
  clear C hb1
  go_wp2_with fail
  go_ret2
  exact ⟨_, rfl, LogV.nil _, unhide HB⟩

theorem rsc_start (w w1 : World) (t : WTxn) (hb : Below w.heap.size w w1) : RSc w ((w1.alloc (.cells #[.int .i64 t.z, .int .i64 t.o, .int .i64 t.s, .string ⟨t.p.toArray⟩, .string ⟨t.d.toArray⟩, .int .i64 t.v, .int .i64 t.w] 48)).alloc (.cells #[.int .i64 t.z, .int .i64 t.o, .int .i64 t.s, .string ⟨t.p.toArray⟩, .string ⟨t.d.toArray⟩, .int .i64 t.v, .int .i64 t.w] 48)) w1.heap.size (.slice (some ⟨w1.heap.size + 1, 0, none⟩) 1 1) [t] := by
  have b1 := (Below.refl w1.heap.size w1).alloc (Nat.le_refl _) (.cells #[.int .i64 t.z, .int .i64 t.o, .int .i64 t.s, .string ⟨t.p.toArray⟩, .string ⟨t.d.toArray⟩, .int .i64 t.v, .int .i64 t.w] 48)
  have h1 : TxnAt _ _ t := heap_new w1 (.cells #[.int .i64 t.z, .int .i64 t.o, .int .i64 t.s, .string ⟨t.p.toArray⟩, .string ⟨t.d.toArray⟩, .int .i64 t.v, .int .i64 t.w] 48)
  have hz : (w1.alloc (.cells #[.int .i64 t.z, .int .i64 t.o, .int .i64 t.s, .string ⟨t.p.toArray⟩, .string ⟨t.d.toArray⟩, .int .i64 t.v, .int .i64 t.w] 48)).heap.size = w1.heap.size + 1 := by simp
  generalize w1.alloc (.cells #[.int .i64 t.z, .int .i64 t.o, .int .i64 t.s, .string ⟨t.p.toArray⟩, .string ⟨t.d.toArray⟩, .int .i64 t.v, .int .i64 t.w] 48) = W at *
  have b2 := (Below.refl W.heap.size W).alloc (Nat.le_refl _) (.cells #[.int .i64 t.z, .int .i64 t.o, .int .i64 t.s, .string ⟨t.p.toArray⟩, .string ⟨t.d.toArray⟩, .int .i64 t.v, .int .i64 t.w] 48)
  have h2 := heap_new W (.cells #[.int .i64 t.z, .int .i64 t.o, .int .i64 t.s, .string ⟨t.p.toArray⟩, .string ⟨t.d.toArray⟩, .int .i64 t.v, .int .i64 t.w] 48)
  rw [hz] at h2
  refine ⟨below_next2 (below_next2 hb b1) b2, ⟨rfl, .inr ⟨w1.heap.size + 1, 1, _, rfl, Nat.le_refl _, h2, by simp, by decide, rfl, ?_⟩⟩, ⟨t, h1.kept b2 (by omega)⟩, hb.size⟩
  simp [cellsT, tcells]

theorem RSc.grown {w W V : World} {g k c : Nat} {a : Option Addr} {ts : List WTxn} {t : WTxn} {O : Obj} {v' : Value} (h : RSc w W g (.slice a k c) ts) (hk : ts.length = k)
    (hown : V.ownsRow (g + 1) 48 7 v' (k + 1) (cellsT ts ++ tcells t)) (hg : (W.alloc O).grownBy V (Value.slice a k c).ownBlock) :
    ∃ a' c', v' = .slice a' (k + 1) c' ∧ RSc w V g (.slice a' (k + 1) c') (ts ++ [t]) := by
  obtain ⟨a', c', rfl, h1, h2⟩ := app_done h.below h.own (by have := h.le; omega) hk hown hg
  obtain ⟨t9, h9⟩ := h.at_
  have hlt : g < W.heap.size := by unfold TxnAt at h9; exact (Array.getElem?_eq_some_iff.1 h9).1
  have hz : (W.alloc O).heap.size = W.heap.size + 1 := by simp
  have h9' : TxnAt (W.alloc O) g t9 := h9.kept ((Below.refl W.heap.size W).alloc (Nat.le_refl _) O) hlt
  have hq : some g ≠ (Value.slice a k c).ownBlock := fun e => by have := (ownl_block h.own g e.symm).1; omega
  exact ⟨a', c', rfl, h2, h1, ⟨t9, (hg.block g (by omega) hq).trans h9'⟩, h.le⟩

set_option maxRecDepth 10000 in
set_option maxHeartbeats 2000000 in
theorem rscan_some (CD : RDecOk) (s r : List UInt8) (t : WTxn) (us : List WTxn) (w : World) (S : Scan s (t :: us) r) (hs : s.length ≤ 1048576) :
    Calls Tryz.prog 125 #[.string ⟨s.toArray⟩] w fun e w' => ∃ v, e = .returned (.tuple #[v, .int .i64 ((recsL (t :: us)).length : Nat)]) ∧ LogV w' v (t :: us) ∧ Below w.heap.size w w' := by
  obtain ⟨i0, hi0, hz0, hz1, hz2⟩ := info_txn
  have hzs : (ByteArray.mk s.toArray).size = s.length := Lib.size_eq ⟨s.toArray⟩
  have C := fun W => CD s W hs
  have hg := (S.log.good t (by simp))
  have hdr := dec_rec hg (recsL us ++ r)
  rw [← List.append_assoc, ← recsL, ← S.eq] at hdr
  rw [hdr.1, hdr.2.1, hdr.2.2] at C
  obtain ⟨ts, hts'⟩ : ∃ ts, t :: us = ts := ⟨_, rfl⟩
  have ht0 : ts[0]? = some t := by rw [← hts']; rfl
  have hl1 : 1 ≤ ts.length := by rw [← hts']; simp
  have htk : ts.take 1 = [t] := by rw [← hts']; simp
  rw [hts'] at S ⊢
  have hts : ts.length * 31 ≤ 1048576 := by have := recsL_ge ts; have := S.len; omega
  obtain ⟨L0, hL0⟩ : ∃ L, (recL t).length = L := ⟨_, rfl⟩
  rw [hL0] at C
  have HN0 : Hid ((recsL (ts.take 1)).length = L0) := hide (by rw [htk]; simp [recsL, hL0])
  have HTK := hide htk
  have HS := hide S
  have HCD := hide CD
  clear S CD hdr hg hL0 hts' ht0 htk
  obtain ⟨z, o, s1, p, d, y, u⟩ := t
  unfold txnV at C
  go_enter Tryz.func125, Tryz.ntmps125
  go_wp2_with fail
  refine (C _).mono ?_
  rintro e w1 ⟨rfl, hb1⟩
  have HR0 := hide (rsc_start w w1 ⟨z, o, s1, p, d, y, u⟩ hb1)
  clear C hb1
  go_wp2_with fail
  generalize (w1.alloc (.cells #[.int .i64 z, .int .i64 o, .int .i64 s1, .string ⟨p.toArray⟩, .string ⟨d.toArray⟩, .int .i64 y, .int .i64 u] 48)).alloc (.cells #[.int .i64 z, .int .i64 o, .int .i64 s1, .string ⟨p.toArray⟩, .string ⟨d.toArray⟩, .int .i64 y, .int .i64 u] 48) = W1 at *
  generalize w1.heap.size = g at *
  rw [← unhide HTK] at HR0
  clear HTK
  go_loopg [7, 8] ts.length (fun kx s7 s8 wr => ∃ (j N : Nat) (a : Option Addr) (c : Nat), s7 = .slice a (j + 1) c ∧ s8 = .int .i64 N ∧ j + 1 ≤ ts.length ∧ ts.length - j ≤ kx ∧ Hid ((recsL (ts.take (j + 1))).length = N) ∧ Hid (RSc w wr g (.slice a (j + 1) c) (ts.take (j + 1))))
  case atStart => exact ⟨0, L0, _, _, rfl, rfl, hl1, by omega, HN0, HR0⟩
  case round =>
    clear HR0 HN0

    obtain ⟨j, N, a, c, rfl, rfl, hk, hkx, HN, hI⟩ := hrel
    have h1 := scan_at (unhide HS) (j + 1)
    rw [unhide HN] at h1
    obtain ⟨hd, hNs⟩ := h1
    have hx : (ByteArray.mk s.toArray).extract N s.length = ⟨(s.drop N).toArray⟩ := ex_back s N
    have hMl : (ts.take (j + 1)).length = j + 1 := by simp; omega
    have C := fun W => unhide HCD (s.drop N) W (by rw [List.length_drop]; omega)
    by_cases hlt : j + 1 < ts.length
    · obtain ⟨t, ht⟩ : ∃ t, ts[j + 1]? = some t := ⟨_, List.getElem?_eq_getElem hlt⟩
      have hgf := logs_at (unhide HS).log ht
      rw [drop_more1 ht, recsL, List.append_assoc] at hd
      have hdr := dec_rec hgf.1 (recsL (ts.drop (j + 1 + 1)) ++ r)
      rw [← hd] at hdr
      rw [hdr.1, hdr.2.1, hdr.2.2] at C
      have hrl := recL_le hgf.1
      have hNN := scan_at (unhide HS) (j + 1 + 1)
      rw [take_more1 ht, recsL_snoc, List.length_append, unhide HN] at hNN
      have hNL := hNN.2
      have hfo := hgf.2
      rw [follB_some (by omega)] at hfo
      have HFO := hide (of_decide_eq_true hfo)
      have HT := hide (take_more1 ht)
      have HM := hide hMl
      clear hd hdr hgf hNN hMl ht hfo
      obtain ⟨Y, hY⟩ : ∃ Y, s.drop N = Y := ⟨_, rfl⟩
      rw [hY] at hx C
      obtain ⟨L, hL⟩ : ∃ L, (recL t).length = L := ⟨_, rfl⟩
      rw [hL] at C hNL hrl
      have HL := hide hL
      obtain ⟨M, hM⟩ : ∃ M, ts.take (j + 1) = M := ⟨_, rfl⟩
      rw [hM] at hI HT HM HN HFO
      clear hY hL hM
      obtain ⟨z, o, s1, p, d, y, u⟩ := t
      unfold txnV at C
      go_wp2_with fail
      refine (C _).mono ?_
      rintro e w2 ⟨rfl, hb2⟩
      have R2 := (unhide hI).next hb2
      obtain ⟨t9, T9⟩ := R2.at_
      have f0 := T9.f
      have q0 := T9.c0
      have q1 := T9.c1
      have q2 := T9.c2
      have q3 := T9.c3
      have q4 := T9.c4
      have q5 := T9.c5
      have q6 := T9.c6
      have P2 := R2.put ⟨z, o, s1, p, d, y, u⟩
      simp only [putTxn] at P2
      have HP := hide P2
      clear C hb2 hI R2 T9 P2
      go_wp2_with fail
      generalize (((((((w2.setCell ⟨g, 0, none⟩ (.int .i64 z)).setCell ⟨g, 1, none⟩ (.int .i64 o)).setCell ⟨g, 2, none⟩ (.int .i64 s1)).setCell ⟨g, 3, none⟩ (.string ⟨p.toArray⟩)).setCell ⟨g, 4, none⟩ (.string ⟨d.toArray⟩)).setCell ⟨g, 5, none⟩ (.int .i64 y)).setCell ⟨g, 6, none⟩ (.int .i64 u)) = V at *
      clear f0 q0 q1 q2 q3 q4 q5 q6
      obtain ⟨x, hx0⟩ : ∃ x, M[j]? = some x := ⟨_, List.getElem?_eq_getElem (by rw [unhide HM]; omega)⟩
      obtain ⟨b, off, cap, he, hb, hr, _, _, hcm⟩ := log_row (unhide HP).1.own.log hx0
      rw [unhide HM] at he
      simp only [Value.slice.injEq, true_and] at he
      obtain ⟨rfl, rfl⟩ := he
      have ex := hr.z hx0
      have tz := (unhide HP).2.c0
      have hj : j < 9223372036854775807 := by simp only [maxLen] at hcm; omega
      have hcmp : ¬ (z ≤ x.z) := by have h : lastZ M < z := unhide HFO; rw [last_at (unhide HM) hx0] at h; omega
      clear hr hx0 hb hcm
      go_region
      have HRW := hide (app_row ((unhide HP).1.own.next (Below.refl _ _).drew) (unhide HM))
      have HC2 := hide (wapp_new V.drew ⟨z, o, s1, p, d, y, u⟩)
      have T3 := (unhide HP).2
      have HP2 := hide ((unhide HP).1.next (Below.refl _ _).drew)
      have c0 := T3.c0
      have c1 := T3.c1
      have c2 := T3.c2
      have c3 := T3.c3
      have c4 := T3.c4
      have c5 := T3.c5
      have c6 := T3.c6
      clear T3
      have h4 : Hid (j + 1 + 1 ≤ maxLen) := by unfold Hid; simp only [maxLen]; omega
      have h5 : Hid ((j + 1 + 1) * 72 ≤ 140737488355328) := by unfold Hid; omega
      have h6 : Hid (∀ O1, g + 1 ≤ (V.drew.alloc O1).heap.size) := fun O1 => by
        obtain ⟨t9, h9⟩ := (unhide HP2).at_
        unfold TxnAt at h9
        have := (Array.getElem?_eq_some_iff.1 h9).1
        simp at this ⊢; omega
      go_wp2_with (at_builtin; refine wpList_append_own _ rfl _ _ 25 rfl (g + 1) 48 i0 _ 7 72 Tryz.underlying25 hi0 hz0 hz1 hz2 rfl (by decide) _ (j + 1) (cellsT M) rfl (unhide HRW _ _ rfl) ⟨V.heap.size, 0, none⟩ 1 1 (tcells ⟨z, o, s1, p, d, y, u⟩) rfl rfl (unhide HC2) (tcells_one _) (unhide h4) (unhide h5) (unhide h6 _) ?_)
      intro v' w5 hown hgrow _
      obtain ⟨a5, cc5, rfl, hr5⟩ := (unhide HP2).grown (unhide HM) hown hgrow
      have HZ := hide hr5
      clear hown hgrow hr5 HRW HC2 h4 h5 h6 HP HP2 c0 c1 c2 c3 c4 c5 c6 ex tz
      go_wp2_with fail
      go_roundg (ts.length - (j + 1))
      case measure => omega
      case rel => exact ⟨j + 1, N + L, a5, cc5, rfl, by simp, by omega, Nat.le_refl _, hide (by rw [unhide HT, recsL_snoc, List.length_append, unhide HN, unhide HL]), hide (by rw [unhide HT]; exact unhide HZ)⟩
    · have hlen : ts.length = j + 1 := by omega
      have htt : ts.take (j + 1) = ts := List.take_of_length_le (by omega)
      have hdd : ts.drop (j + 1) = [] := List.drop_of_length_le (by omega)
      rw [hdd, show recsL [] = [] from rfl, List.nil_append] at hd
      rw [hd] at C hx
      rw [htt] at hI hMl HN
      have hst := (unhide HS).stop
      have HM := hide hMl
      have HN2 := HN
      clear hd hMl hlt HN htt hdd
      clear hlen
      by_cases he : decE r = 0
      · have hf : follB ts (decT r) = false := by
          rcases hst with h | h
          · exact absurd he h
          · exact h
        rw [follB_some (by rw [unhide HM]; omega)] at hf
        have HFO := hide (of_decide_eq_false hf)
        rw [he] at C
        clear hst hf
        obtain ⟨D, hD⟩ : ∃ D, decN r = D := ⟨_, rfl⟩
        rw [hD] at C
        clear hD he
        obtain ⟨t, ht⟩ : ∃ t, decT r = t := ⟨_, rfl⟩
        rw [ht] at C HFO
        clear ht
        obtain ⟨z, o, s1, p, d, y, u⟩ := t
        unfold txnV at C
        go_wp2_with fail
        refine (C _).mono ?_
        rintro e w2 ⟨rfl, hb2⟩
        have R2 := (unhide hI).next hb2
        obtain ⟨t9, T9⟩ := R2.at_
        have f0 := T9.f
        have q0 := T9.c0
        have q1 := T9.c1
        have q2 := T9.c2
        have q3 := T9.c3
        have q4 := T9.c4
        have q5 := T9.c5
        have q6 := T9.c6
        have P2 := R2.put ⟨z, o, s1, p, d, y, u⟩
        simp only [putTxn] at P2
        have HP := hide P2
        clear C hb2 hI R2 T9 P2
        go_wp2_with fail
        generalize (((((((w2.setCell ⟨g, 0, none⟩ (.int .i64 z)).setCell ⟨g, 1, none⟩ (.int .i64 o)).setCell ⟨g, 2, none⟩ (.int .i64 s1)).setCell ⟨g, 3, none⟩ (.string ⟨p.toArray⟩)).setCell ⟨g, 4, none⟩ (.string ⟨d.toArray⟩)).setCell ⟨g, 5, none⟩ (.int .i64 y)).setCell ⟨g, 6, none⟩ (.int .i64 u)) = V at *
        clear f0 q0 q1 q2 q3 q4 q5 q6
        obtain ⟨x, hx0⟩ : ∃ x, ts[j]? = some x := ⟨_, List.getElem?_eq_getElem (by rw [unhide HM]; omega)⟩
        obtain ⟨b, off, cap, he, hb, hr, _, _, hcm⟩ := log_row (unhide HP).1.own.log hx0
        rw [unhide HM] at he
        simp only [Value.slice.injEq, true_and] at he
        obtain ⟨rfl, rfl⟩ := he
        have ex := hr.z hx0
        have tz := (unhide HP).2.c0
        have hj : j < 9223372036854775807 := by simp only [maxLen] at hcm; omega
        have hcmp : z ≤ x.z := by have h : z ≤ lastZ ts := unhide HFO; rw [last_at (unhide HM) hx0] at h; omega
        have HF := hide (And.intro ((unhide HP).1.next (Below.refl _ _).drew).own.log ((unhide HP).1.next (Below.refl _ _).drew).below)
        clear hr hx0 hb hcm
        go_region
        go_wp2_with fail
        go_ret2
        exact ⟨_, ret_vn (unhide HN2).symm, (unhide HF).1, (unhide HF).2⟩
      · have hne : (decE r != 0) = true := by simpa using he
        clear hst he
        obtain ⟨D, hD⟩ : ∃ D, decN r = D := ⟨_, rfl⟩
        rw [hD] at C
        clear hD
        obtain ⟨E, hE⟩ : ∃ E, decE r = E := ⟨_, rfl⟩
        rw [hE] at C hne
        clear hE
        obtain ⟨t, ht⟩ : ∃ t, decT r = t := ⟨_, rfl⟩
        rw [ht] at C
        clear ht
        obtain ⟨z, o, s1, p, d, y, u⟩ := t
        unfold txnV at C
        go_wp2_with fail
        refine (C _).mono ?_
        rintro e w2 ⟨rfl, hb2⟩
        have R2 := (unhide hI).next hb2
        obtain ⟨t9, T9⟩ := R2.at_
        have f0 := T9.f
        have q0 := T9.c0
        have q1 := T9.c1
        have q2 := T9.c2
        have q3 := T9.c3
        have q4 := T9.c4
        have q5 := T9.c5
        have q6 := T9.c6
        have P2 := R2.put ⟨z, o, s1, p, d, y, u⟩
        simp only [putTxn] at P2
        have HP := hide P2
        clear C hb2 hI R2 T9 P2
        go_wp2_with fail
        generalize (((((((w2.setCell ⟨g, 0, none⟩ (.int .i64 z)).setCell ⟨g, 1, none⟩ (.int .i64 o)).setCell ⟨g, 2, none⟩ (.int .i64 s1)).setCell ⟨g, 3, none⟩ (.string ⟨p.toArray⟩)).setCell ⟨g, 4, none⟩ (.string ⟨d.toArray⟩)).setCell ⟨g, 5, none⟩ (.int .i64 y)).setCell ⟨g, 6, none⟩ (.int .i64 u)) = V at *
        clear f0 q0 q1 q2 q3 q4 q5 q6
        have HF := hide (And.intro ((unhide HP).1.next (Below.refl _ _).drew).own.log ((unhide HP).1.next (Below.refl _ _).drew).below)
        go_region
        go_wp2_with fail
        go_ret2
        exact ⟨_, ret_vn (unhide HN2).symm, (unhide HF).1, (unhide HF).2⟩

theorem rscan_of (CD : RDecOk) (s r : List UInt8) (ts : List WTxn) (w : World) (S : Scan s ts r) (hs : s.length ≤ 1048576) :
    Calls Tryz.prog 125 #[.string ⟨s.toArray⟩] w fun e w' => ∃ v, e = .returned (.tuple #[v, .int .i64 ((recsL ts).length : Nat)]) ∧ LogV w' v ts ∧ Below w.heap.size w w' := by
  cases ts with
  | nil => exact rscan_nil CD s w (scan_nil S) hs
  | cons t us => exact rscan_some CD s r t us w S hs
end Go.Proofs.YthkggmmalffcdaaGreatDoor

namespace Go.Proofs.YthkggmmalffcdaaGreatDoor
open Go.RowKit

/-- how far it has come: the result's cells, and none's -/
structure RDec (w W : World) : Prop where
  res : TxnAt W w.heap.size t0
  non : TxnAt W (w.heap.size + 1) t0
  size : w.heap.size + 2 ≤ W.heap.size
  below : Below w.heap.size w W
theorem RDec.kept {w W V : World} (h : RDec w W) (hb : Below W.heap.size W V) : RDec w V :=
  ⟨h.res.kept hb (by have := h.size; omega), h.non.kept hb (by have := h.size; omega), Nat.le_trans h.size hb.size, h.below.trans (hb.mono h.below.size)⟩
theorem RDec.new {w : World} : RDec w ((w.alloc (.cells #[.int .i64 0, .int .i64 0, .int .i64 0, .string ⟨#[]⟩, .string ⟨#[]⟩, .int .i64 0, .int .i64 0] 48)).alloc (.cells #[.int .i64 0, .int .i64 0, .int .i64 0, .string ⟨#[]⟩, .string ⟨#[]⟩, .int .i64 0, .int .i64 0] 48)) := by
  refine ⟨?_, ?_, by simp, ((Below.refl _ _).alloc (Nat.le_refl _) _).alloc (by simp) _⟩
  · exact (Below.heap_alloc _ _ _ (by simp)).trans (heap_new _ _)
  · have := heap_new (w.alloc (.cells #[.int .i64 0, .int .i64 0, .int .i64 0, .string ⟨#[]⟩, .string ⟨#[]⟩, .int .i64 0, .int .i64 0] 48)) (.cells #[.int .i64 0, .int .i64 0, .int .i64 0, .string ⟨#[]⟩, .string ⟨#[]⟩, .int .i64 0, .int .i64 0] 48)
    rwa [World.size_alloc] at this
theorem ex_mid (l : List UInt8) (i j : Nat) : (ByteArray.mk l.toArray).extract i j = ⟨((l.drop i).take (j - i)).toArray⟩ := by
  apply ByteArray.ext
  apply Array.toList_inj.1
  have h := Lib.extract_toList (ByteArray.mk l.toArray) i j
  rw [Lib.toList_data] at h
  exact h
theorem take1_ne {s : List UInt8} (h : 3 ≤ s.length) (h1 : s[0] ≠ 84) : s.take 1 ≠ [84] := by
  cases s with
  | nil => simp at h
  | cons c l => simpa using h1
theorem take1_eq {s : List UInt8} (h : 3 ≤ s.length) (h1 : s[0] = 84) : s.take 1 = [84] := by
  cases s with
  | nil => simp at h
  | cons c l => simpa using h1

set_option maxRecDepth 10000 in
set_option maxHeartbeats 1000000 in
theorem rdec_tiny (s : List UInt8) (w : World) (h3 : s.length < 3) :
    Calls Tryz.prog 166 #[.string ⟨s.toArray⟩] w fun e w' => e = .returned (.tuple #[txnV (decT s), .int .i64 (decN s), .int .i64 (decE s)]) ∧ Below w.heap.size w w' := by
  have HU := hide (dec_bad (s := s) (wholeB_no (fun h => by omega)))
  have hzs : (ByteArray.mk s.toArray).size = s.length := Lib.size_eq ⟨s.toArray⟩
  go_enter Tryz.func166, Tryz.ntmps166
  go_wp2_with fail
  exact bodyPost_ret (v := .tuple #[txnV t0, .int .i64 0, .int .i64 2]) (by simp [results, Tryz.results166, go_sem, txnV, t0]) rfl ⟨by rw [(unhide HU).1, (unhide HU).2.1, (unhide HU).2.2], ((Below.refl _ _).alloc (Nat.le_refl _) _).alloc (by simp) _⟩

set_option maxRecDepth 10000 in
set_option maxHeartbeats 1000000 in
theorem rdec_mark (s : List UInt8) (w : World) (h3 : 3 ≤ s.length) (hm : s[0] ≠ 84) :
    Calls Tryz.prog 166 #[.string ⟨s.toArray⟩] w fun e w' => e = .returned (.tuple #[txnV (decT s), .int .i64 (decN s), .int .i64 (decE s)]) ∧ Below w.heap.size w w' := by
  have HU := hide (dec_bad (s := s) (wholeB_no (fun h => take1_ne h3 hm h.1)))
  have hb := s[0].toNat_lt
  have hm' : ((s[0].toNat : Int) != 84) = true := by
    rw [bne_iff_ne]
    intro h
    exact hm (UInt8.toNat_inj.1 (by show s[0].toNat = 84; omega))
  have hib : 0 < (ByteArray.mk s.toArray).size := by rw [Lib.size_eq]; show 0 < s.length; omega
  have hg := ba_get s 0 hib
  have hzs : (ByteArray.mk s.toArray).size = s.length := Lib.size_eq ⟨s.toArray⟩
  go_enter Tryz.func166, Tryz.ntmps166
  go_wp2_with fail
  exact bodyPost_ret (v := .tuple #[txnV t0, .int .i64 0, .int .i64 2]) (by simp [results, Tryz.results166, go_sem, txnV, t0]) rfl ⟨by rw [(unhide HU).1, (unhide HU).2.1, (unhide HU).2.2], ((Below.refl _ _).alloc (Nat.le_refl _) _).alloc (by simp) _⟩

set_option maxRecDepth 10000 in
set_option maxHeartbeats 1000000 in
theorem rdec_long (s : List UInt8) (w : World) (h3 : 3 ≤ s.length) (hm : s[0] = 84) (hl : 1024 < lenOf s) :
    Calls Tryz.prog 166 #[.string ⟨s.toArray⟩] w fun e w' => e = .returned (.tuple #[txnV (decT s), .int .i64 (decN s), .int .i64 (decE s)]) ∧ Below w.heap.size w w' := by
  have HU := hide (dec_bad (s := s) (wholeB_no (fun h => by omega)))
  have hlt := lenOf_lt s
  have hzs : (ByteArray.mk s.toArray).size = s.length := Lib.size_eq ⟨s.toArray⟩
  have hib : 0 < (ByteArray.mk s.toArray).size := by rw [Lib.size_eq]; show 0 < s.length; omega
  have hg : (ByteArray.mk s.toArray)[0] = 84 := (ba_get s 0 hib).trans hm
  have c0 : (3 : Int) ≤ (s.length : Int) := by omega
  have HL : Hid (∀ w, Calls Tryz.prog 188 #[.string ((ByteArray.mk s.toArray).extract 1 3)] w fun e w' => e = .returned (.int .i64 (lenOf s : Nat)) ∧ Below w.heap.size w w') := hide (fun w => by
    have h := numberOf_any ((ByteArray.mk s.toArray).extract 1 3) w (by rw [ex_mid, Lib.size_eq]; show ((s.drop 1).take 2).length ≤ 8; rw [List.length_take]; omega)
    rw [ex_mid] at h ⊢
    rw [show (ByteArray.mk (List.take (3 - 1) (List.drop 1 s)).toArray).data.toList = (s.drop 1).take 2 from rfl, un_take_le _ _ (by decide)] at h
    exact h)
  go_enter Tryz.func166, Tryz.ntmps166
  go_wp2_with fail
  refine (unhide HL _).mono ?_
  rintro e w1 ⟨rfl, hb1⟩
  have H := hide ((RDec.new (w := w)).kept hb1)
  clear hb1 HL hg
  generalize w1 = W at H ⊢
  obtain ⟨L, hL⟩ : ∃ L, lenOf s = L := ⟨_, rfl⟩
  rw [hL] at hl hlt ⊢
  have EL := hide hL
  clear hL
  have r0 : W.cell? ⟨w.heap.size, 0, none⟩ = some (.int .i64 0) := (unhide H).res.c0
  have r1 : W.cell? ⟨w.heap.size, 1, none⟩ = some (.int .i64 0) := (unhide H).res.c1
  have r2 : W.cell? ⟨w.heap.size, 2, none⟩ = some (.int .i64 0) := (unhide H).res.c2
  have r3 : W.cell? ⟨w.heap.size, 3, none⟩ = some (.string ⟨#[]⟩) := (unhide H).res.c3
  have r4 : W.cell? ⟨w.heap.size, 4, none⟩ = some (.string ⟨#[]⟩) := (unhide H).res.c4
  have r5 : W.cell? ⟨w.heap.size, 5, none⟩ = some (.int .i64 0) := (unhide H).res.c5
  have r6 : W.cell? ⟨w.heap.size, 6, none⟩ = some (.int .i64 0) := (unhide H).res.c6
  have rf := (unhide H).res.f
  have m0 : W.cell? ⟨w.heap.size + 1, 0, none⟩ = some (.int .i64 0) := (unhide H).non.c0
  have m1 : W.cell? ⟨w.heap.size + 1, 1, none⟩ = some (.int .i64 0) := (unhide H).non.c1
  have m2 : W.cell? ⟨w.heap.size + 1, 2, none⟩ = some (.int .i64 0) := (unhide H).non.c2
  have m3 : W.cell? ⟨w.heap.size + 1, 3, none⟩ = some (.string ⟨#[]⟩) := (unhide H).non.c3
  have m4 : W.cell? ⟨w.heap.size + 1, 4, none⟩ = some (.string ⟨#[]⟩) := (unhide H).non.c4
  have m5 : W.cell? ⟨w.heap.size + 1, 5, none⟩ = some (.int .i64 0) := (unhide H).non.c5
  have m6 : W.cell? ⟨w.heap.size + 1, 6, none⟩ = some (.int .i64 0) := (unhide H).non.c6
  go_wp2_with fail
  change bodyPost _ _ _ _ _ (putTxn W w.heap.size t0)
  have HP := hide ((unhide H).res.store t0)
  have hB : Below w.heap.size w (putTxn W w.heap.size t0) := (only_put _ _ _).below (unhide H).below (Nat.le_refl _)
  generalize putTxn W w.heap.size t0 = V2 at HP hB ⊢
  have s0 := (unhide HP).c0
  have s1 := (unhide HP).c1
  have s2 := (unhide HP).c2
  have s3 := (unhide HP).c3
  have s4 := (unhide HP).c4
  have s5 := (unhide HP).c5
  have s6 := (unhide HP).c6
  exact bodyPost_ret (v := .tuple #[txnV t0, .int .i64 0, .int .i64 2]) (by simp [results, Tryz.results166, go_sem, s0, s1, s2, s3, s4, s5, s6, txnV]) rfl ⟨by rw [(unhide HU).1, (unhide HU).2.1, (unhide HU).2.2], hB⟩

set_option maxRecDepth 10000 in
set_option maxHeartbeats 1000000 in
theorem rdec_short (s : List UInt8) (w : World) (h3 : 3 ≤ s.length) (hm : s[0] = 84) (hl : lenOf s ≤ 1024) (hn : s.length < lenOf s + 7) :
    Calls Tryz.prog 166 #[.string ⟨s.toArray⟩] w fun e w' => e = .returned (.tuple #[txnV (decT s), .int .i64 (decN s), .int .i64 (decE s)]) ∧ Below w.heap.size w w' := by
  have HU := hide (dec_bad (s := s) (wholeB_no (fun h => by omega)))
  have hzs : (ByteArray.mk s.toArray).size = s.length := Lib.size_eq ⟨s.toArray⟩
  have hib : 0 < (ByteArray.mk s.toArray).size := by rw [Lib.size_eq]; show 0 < s.length; omega
  have hg : (ByteArray.mk s.toArray)[0] = 84 := (ba_get s 0 hib).trans hm
  have c0 : (3 : Int) ≤ (s.length : Int) := by omega
  have HL : Hid (∀ w, Calls Tryz.prog 188 #[.string ((ByteArray.mk s.toArray).extract 1 3)] w fun e w' => e = .returned (.int .i64 (lenOf s : Nat)) ∧ Below w.heap.size w w') := hide (fun w => by
    have h := numberOf_any ((ByteArray.mk s.toArray).extract 1 3) w (by rw [ex_mid, Lib.size_eq]; show ((s.drop 1).take 2).length ≤ 8; rw [List.length_take]; omega)
    rw [ex_mid] at h ⊢
    rw [show (ByteArray.mk (List.take (3 - 1) (List.drop 1 s)).toArray).data.toList = (s.drop 1).take 2 from rfl, un_take_le _ _ (by decide)] at h
    exact h)
  go_enter Tryz.func166, Tryz.ntmps166
  go_wp2_with fail
  refine (unhide HL _).mono ?_
  rintro e w1 ⟨rfl, hb1⟩
  have H := hide ((RDec.new (w := w)).kept hb1)
  clear hb1 HL hg
  generalize w1 = W at H ⊢
  obtain ⟨L, hL⟩ : ∃ L, lenOf s = L := ⟨_, rfl⟩
  rw [hL] at hl hn ⊢
  have EL := hide hL
  clear hL
  have r0 : W.cell? ⟨w.heap.size, 0, none⟩ = some (.int .i64 0) := (unhide H).res.c0
  have r1 : W.cell? ⟨w.heap.size, 1, none⟩ = some (.int .i64 0) := (unhide H).res.c1
  have r2 : W.cell? ⟨w.heap.size, 2, none⟩ = some (.int .i64 0) := (unhide H).res.c2
  have r3 : W.cell? ⟨w.heap.size, 3, none⟩ = some (.string ⟨#[]⟩) := (unhide H).res.c3
  have r4 : W.cell? ⟨w.heap.size, 4, none⟩ = some (.string ⟨#[]⟩) := (unhide H).res.c4
  have r5 : W.cell? ⟨w.heap.size, 5, none⟩ = some (.int .i64 0) := (unhide H).res.c5
  have r6 : W.cell? ⟨w.heap.size, 6, none⟩ = some (.int .i64 0) := (unhide H).res.c6
  have rf := (unhide H).res.f
  have m0 : W.cell? ⟨w.heap.size + 1, 0, none⟩ = some (.int .i64 0) := (unhide H).non.c0
  have m1 : W.cell? ⟨w.heap.size + 1, 1, none⟩ = some (.int .i64 0) := (unhide H).non.c1
  have m2 : W.cell? ⟨w.heap.size + 1, 2, none⟩ = some (.int .i64 0) := (unhide H).non.c2
  have m3 : W.cell? ⟨w.heap.size + 1, 3, none⟩ = some (.string ⟨#[]⟩) := (unhide H).non.c3
  have m4 : W.cell? ⟨w.heap.size + 1, 4, none⟩ = some (.string ⟨#[]⟩) := (unhide H).non.c4
  have m5 : W.cell? ⟨w.heap.size + 1, 5, none⟩ = some (.int .i64 0) := (unhide H).non.c5
  have m6 : W.cell? ⟨w.heap.size + 1, 6, none⟩ = some (.int .i64 0) := (unhide H).non.c6
  go_wp2_with fail
  change bodyPost _ _ _ _ _ (putTxn W w.heap.size t0)
  have HP := hide ((unhide H).res.store t0)
  have hB : Below w.heap.size w (putTxn W w.heap.size t0) := (only_put _ _ _).below (unhide H).below (Nat.le_refl _)
  generalize putTxn W w.heap.size t0 = V2 at HP hB ⊢
  have s0 := (unhide HP).c0
  have s1 := (unhide HP).c1
  have s2 := (unhide HP).c2
  have s3 := (unhide HP).c3
  have s4 := (unhide HP).c4
  have s5 := (unhide HP).c5
  have s6 := (unhide HP).c6
  exact bodyPost_ret (v := .tuple #[txnV t0, .int .i64 0, .int .i64 2]) (by simp [results, Tryz.results166, go_sem, s0, s1, s2, s3, s4, s5, s6, txnV]) rfl ⟨by rw [(unhide HU).1, (unhide HU).2.1, (unhide HU).2.2], hB⟩

end Go.Proofs.YthkggmmalffcdaaGreatDoor

namespace Go.Proofs.YthkggmmalffcdaaGreatDoor
open Go.RowKit

set_option maxRecDepth 100000 in
set_option maxHeartbeats 1000000 in
theorem rdec_sum (s : List UInt8) (w : World) (h3 : 3 ≤ s.length) (hm : s[0] = 84) (hl : lenOf s ≤ 1024) (hn : lenOf s + 7 ≤ s.length) (hs : sumB s = false) :
    Calls Tryz.prog 166 #[.string ⟨s.toArray⟩] w fun e w' => e = .returned (.tuple #[txnV (decT s), .int .i64 (decN s), .int .i64 (decE s)]) ∧ Below w.heap.size w w' := by
  have HW := hide (wholeB_iff.2 ⟨take1_eq h3 hm, hl, hn⟩)
  have HU := hide (dec_sum (unhide HW) hs)
  have HS := hide hs
  clear hs
  have hzs : (ByteArray.mk s.toArray).size = s.length := Lib.size_eq ⟨s.toArray⟩
  have hib : 0 < (ByteArray.mk s.toArray).size := by rw [Lib.size_eq]; show 0 < s.length; omega
  have hg : (ByteArray.mk s.toArray)[0] = 84 := (ba_get s 0 hib).trans hm
  have c0 : (3 : Int) ≤ (s.length : Int) := by omega
  have HL : Hid (∀ w, Calls Tryz.prog 188 #[.string ((ByteArray.mk s.toArray).extract 1 3)] w fun e w' => e = .returned (.int .i64 (lenOf s : Nat)) ∧ Below w.heap.size w w') := hide (fun w => by
    have h := numberOf_any ((ByteArray.mk s.toArray).extract 1 3) w (by rw [ex_mid, Lib.size_eq]; show ((s.drop 1).take 2).length ≤ 8; rw [List.length_take]; omega)
    rw [ex_mid] at h ⊢
    rw [show (ByteArray.mk (List.take (3 - 1) (List.drop 1 s)).toArray).data.toList = (s.drop 1).take 2 from rfl, un_take_le _ _ (by decide)] at h
    exact h)
  go_enter Tryz.func166, Tryz.ntmps166
  go_wp2_with fail
  refine (unhide HL _).mono ?_
  rintro e w1 ⟨rfl, hb1⟩
  have H := hide ((RDec.new (w := w)).kept hb1)
  clear hb1 HL hg
  generalize w1 = W at H ⊢
  obtain ⟨L, hL⟩ : ∃ L, lenOf s = L := ⟨_, rfl⟩
  rw [hL] at hl hn ⊢
  have EL := hide hL
  clear hL
  have n1 : (0 : Int) ≤ (L : Int) + 3 := by omega
  have n2 : (L : Int) + 3 ≤ (L : Int) + 7 := by omega
  have n3 : (L : Int) + 7 ≤ (s.length : Int) := by omega
  have n4 : (L : Int) + 3 ≤ (s.length : Int) := by omega
  obtain ⟨Q, hQ⟩ : ∃ Q, un ((s.drop (L + 3)).take 4) = Q := ⟨_, rfl⟩
  obtain ⟨X, hX⟩ : ∃ X, sumN (s.take (L + 3)) = X := ⟨_, rfl⟩
  have q0 : ∀ d' os, Calls Tryz.prog 188 #[.string ((ByteArray.mk s.toArray).extract (L + 3) (L + 7))] (Sort.grow (redrawn W d') os) fun e w'' => e = .returned (.int .i64 (Q : Nat)) ∧ ∃ p : Regrown, w'' = Sort.grow (redrawn W p.d) p.os := fun d' os => Calls.regrown_of (by
    have h := numberOf_any ((ByteArray.mk s.toArray).extract (L + 3) (L + 7)) (Sort.grow (redrawn W d') os) (by rw [ex_mid, Lib.size_eq]; show ((s.drop (L + 3)).take (L + 7 - (L + 3))).length ≤ 8; rw [List.length_take]; omega)
    rw [ex_mid] at h ⊢
    rw [show (ByteArray.mk (List.take (L + 7 - (L + 3)) (List.drop (L + 3) s)).toArray).data.toList = (s.drop (L + 3)).take (L + 7 - (L + 3)) from rfl] at h
    rw [show L + 7 - (L + 3) = 4 from by omega] at h ⊢
    rw [un_take_le _ _ (by decide), hQ] at h
    exact h)
  have q1 : ∀ d' os, Calls Tryz.prog 128 #[.string ((ByteArray.mk s.toArray).extract 0 (L + 3))] (Sort.grow (redrawn W d') os) fun e w'' => e = .returned (.int .i64 (X : Nat)) ∧ ∃ p : Regrown, w'' = Sort.grow (redrawn W p.d) p.os := fun d' os => Calls.regrown_of (by
    have h := rsum_any (s.take (L + 3)) (Sort.grow (redrawn W d') os) (by rw [List.length_take]; omega)
    rw [hX] at h
    rw [ex_front]
    exact h)
  have EQ := hide hQ
  have EX := hide hX
  clear hQ hX
  go_wp2_with fail
  refine wp_region_quiet_below (by kernel_rfl) (by kernel_rfl) ?_
  repeat (first | go_big_quiet_step (first | with_reducible exact q0 _ _ | with_reducible exact q1 _ _) | quiet_step (first | with_reducible exact q0 _ _ | with_reducible exact q1 _ _))
  refine wpQuiet_nil ?_
  intro _ hw'
  obtain ⟨⟨dq, osq⟩, hw''⟩ := hw'
  subst hw''
  replace H := hide ((unhide H).kept (below_regrown W dq osq))
  clear q0 q1
  generalize Sort.grow (redrawn W dq) osq = W at H ⊢
  have hne : ((Q : Int) != (X : Int)) = true := by
    rw [bne_iff_ne]
    intro h
    have h2 : sumB s = true := sumB_iff.2 (by rw [unhide EL, unhide EQ, unhide EX]; omega)
    rw [unhide HS] at h2
    exact absurd h2 (by decide)
  have r0 : W.cell? ⟨w.heap.size, 0, none⟩ = some (.int .i64 0) := (unhide H).res.c0
  have r1 : W.cell? ⟨w.heap.size, 1, none⟩ = some (.int .i64 0) := (unhide H).res.c1
  have r2 : W.cell? ⟨w.heap.size, 2, none⟩ = some (.int .i64 0) := (unhide H).res.c2
  have r3 : W.cell? ⟨w.heap.size, 3, none⟩ = some (.string ⟨#[]⟩) := (unhide H).res.c3
  have r4 : W.cell? ⟨w.heap.size, 4, none⟩ = some (.string ⟨#[]⟩) := (unhide H).res.c4
  have r5 : W.cell? ⟨w.heap.size, 5, none⟩ = some (.int .i64 0) := (unhide H).res.c5
  have r6 : W.cell? ⟨w.heap.size, 6, none⟩ = some (.int .i64 0) := (unhide H).res.c6
  have rf := (unhide H).res.f
  have m0 : W.cell? ⟨w.heap.size + 1, 0, none⟩ = some (.int .i64 0) := (unhide H).non.c0
  have m1 : W.cell? ⟨w.heap.size + 1, 1, none⟩ = some (.int .i64 0) := (unhide H).non.c1
  have m2 : W.cell? ⟨w.heap.size + 1, 2, none⟩ = some (.int .i64 0) := (unhide H).non.c2
  have m3 : W.cell? ⟨w.heap.size + 1, 3, none⟩ = some (.string ⟨#[]⟩) := (unhide H).non.c3
  have m4 : W.cell? ⟨w.heap.size + 1, 4, none⟩ = some (.string ⟨#[]⟩) := (unhide H).non.c4
  have m5 : W.cell? ⟨w.heap.size + 1, 5, none⟩ = some (.int .i64 0) := (unhide H).non.c5
  have m6 : W.cell? ⟨w.heap.size + 1, 6, none⟩ = some (.int .i64 0) := (unhide H).non.c6
  go_wp2_with fail
  change bodyPost _ _ _ _ _ (putTxn W w.heap.size t0)
  have HP := hide ((unhide H).res.store t0)
  have hB : Below w.heap.size w (putTxn W w.heap.size t0) := (only_put _ _ _).below (unhide H).below (Nat.le_refl _)
  generalize putTxn W w.heap.size t0 = V2 at HP hB ⊢
  have s0 := (unhide HP).c0
  have s1 := (unhide HP).c1
  have s2 := (unhide HP).c2
  have s3 := (unhide HP).c3
  have s4 := (unhide HP).c4
  have s5 := (unhide HP).c5
  have s6 := (unhide HP).c6
  exact bodyPost_ret (v := .tuple #[txnV t0, .int .i64 0, .int .i64 5]) (by simp [results, Tryz.results166, go_sem, s0, s1, s2, s3, s4, s5, s6, txnV]) rfl ⟨by rw [(unhide HU).1, (unhide HU).2.1, (unhide HU).2.2], hB⟩

end Go.Proofs.YthkggmmalffcdaaGreatDoor
