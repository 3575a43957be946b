/-
  What aviarykeep's logOf, laid and logs answer: the walks.
-/
import Derived.Test.YtpoblkionpgljaaDoorMG
import Derived.Test.YtpoblkionpgljaaDoorMC
import Derived.Test.YtpoblkionpgljaaDoorMB
import Derived.Test.YtpoblkionpgljaaDoorMF
namespace Go.Proofs.YtpoblkionpgljaaDoor
open Go.RowKit

theorem recs_small {ts : List WTxn} (h : Logs ts) (hl : ts.length ≤ 100) : (recsL ts).length ≤ 48700 := by
  have := recsL_le ts h.good
  omega
/-- a transaction more at the end of a log that lies there, safe -/
theorem app_logF {m : List WTxn} {t : WTxn} (h : Logs (m ++ [t])) (hl : m.length ≤ 99) : GivesD 14 (fun x => #[x, txnV t, .bool true]) [logF m] [logF (m ++ [t])] 0 := by
  have hg := (Logs.at (a := m) (b := []) h).1
  have h1 := recs_small h.left (by omega)
  have h2 := recL_le hg
  have g0 : GoodD [logF m] := good_one (by simp; omega)
  have g1 : GoodD [⟨logN, recsL m, recL t⟩] := good_one (by omega)
  refine wapp_safe [logF m] [⟨logN, recsL m, recL t⟩] [logF (m ++ [t])] t 0 hg (gives_own fun v W hv => ?_) (gives_own fun v W hv => ?_)
  · have := write_there v [logF m] [] [] (logF m) logN (recL t) W hv (good_slim g0) g0 (there_one _ _) (by simp only [logF, List.length_nil]; omega)
    simpa [logF] using this
  · have := sync_there v [⟨logN, recsL m, recL t⟩] [] [] ⟨logN, recsL m, recL t⟩ logN W hv (good_slim g1) g1 (there_one _ _)
    simpa [logF, recsL_snoc] using this
theorem app_first {t : WTxn} (hg : gdE t = 0) : GivesD 14 (fun x => #[x, txnV t, .bool true]) [] [logF [t]] 0 := by
  have h2 := recL_le hg
  have g1 : GoodD [⟨logN, [], recL t⟩] := good_one (by simp; omega)
  refine wapp_safe [] [⟨logN, [], recL t⟩] [logF [t]] t 0 hg (gives_own fun v W hv => ?_) (gives_own fun v W hv => ?_)
  · exact write_new v [] [] [] logN (recL t) W hv (good_slim good_none) good_none named_log (by simp) (gap_none _) (by omega)
  · have := sync_there v [⟨logN, [], recL t⟩] [] [] ⟨logN, [], recL t⟩ logN W hv (good_slim g1) g1 (there_one _ _)
    simpa [logF, recsL] using this
theorem app_log {m : List WTxn} {t : WTxn} (h : Logs (m ++ [t])) (hl : m.length ≤ 99) : GivesD 14 (fun x => #[x, txnV t, .bool true]) (logD m) (logD (m ++ [t])) 0 := by
  rw [logD_some (ts := m ++ [t]) (by simp)]
  by_cases h0 : m.length = 0
  · obtain rfl := List.length_eq_zero_iff.1 h0
    exact app_first (Logs.at (a := []) (b := []) h).1
  · rw [logD_some h0]
    exact app_logF h hl
theorem app_soft {m : List WTxn} {t : WTxn} (h : Logs (m ++ [t])) (hl : m.length ≤ 99) : GivesD 14 (fun x => #[x, txnV t, .bool false]) (logD m) [⟨logN, recsL m, recL t⟩] 0 := by
  have hg := (Logs.at (a := m) (b := []) h).1
  have h1 := recs_small h.left (by omega)
  have h2 := recL_le hg
  refine wapp_soft (logD m) [⟨logN, recsL m, recL t⟩] t hg (gives_own fun v W hv => ?_)
  by_cases h0 : m.length = 0
  · obtain rfl := List.length_eq_zero_iff.1 h0
    exact write_new v [] [] [] logN (recL t) W hv (good_slim good_none) good_none named_log (by simp) (gap_none _) (by omega)
  · rw [logD_some h0] at hv
    have g0 : GoodD [logF m] := good_one (by simp; omega)
    have := write_there v [logF m] [] [] (logF m) logN (recL t) W hv (good_slim g0) g0 (there_one _ _) (by simp only [logF, List.length_nil]; omega)
    simpa [logF] using this

/-- a log that lies in a row of its own, and may stand on a disk -/
structure OutL (w W : World) (v : Value) (m : List WTxn) : Prop where
  own : OwnL W w.heap.size v m
  below : Below w.heap.size w W
  log : Logs m
theorem OutL.next {w W V : World} {v : Value} {m : List WTxn} (h : OutL w W v m) (hb : Below W.heap.size W V) : OutL w V v m := ⟨h.own.next hb, below_next2 h.below hb, h.log⟩

theorem OutL.more {w W V : World} {k c : Nat} {a : Option Addr} {m : List WTxn} {t : WTxn} {O : Obj} {v' : Value} (h : OutL w W (.slice a k c) m) (hk : m.length = k) (hg : gdE t = 0) (hf : follB m t = true)
    (hown : V.ownsRow w.heap.size 29 7 v' (k + 1) (cellsT m ++ tcells t)) (hgr : (W.alloc O).grownBy V (Value.slice a k c).ownBlock) :
    ∃ a' c', v' = .slice a' (k + 1) c' ∧ OutL w V (.slice a' (k + 1) c') (m ++ [t]) := by
  obtain ⟨a', c', rfl, h1, h2⟩ := app_done h.below h.own (Nat.le_refl _) hk hown hgr
  exact ⟨a', c', rfl, h1, h2, h.log.snoc hg hf⟩

set_option maxRecDepth 10000 in
set_option maxHeartbeats 2000000 in
theorem logOf_any (v : Value) (ts : List WTxn) (w : World) (hv : LogV w v ts) (hd : ∀ t ∈ ts, t.d.length ≤ 140737488355328) :
    Calls Tryd.prog 24 #[v] w fun e w' => ∃ v', e = .returned v' ∧ ∃ m, OutL w w' v' m ∧ m.length ≤ 40 := by
  obtain ⟨i0, hi0, hz0, hz1, hz2⟩ := info_txn
  have hlen : ts.length ≤ 9223372036854775807 := by
    rcases hv with ⟨a, cap, rfl, rfl, _⟩ | ⟨b, off, cap, rfl, h1, h2, _⟩
    · simp
    · simp only [maxLen] at h2; omega
  have HV := hide hv
  have HD := hide hd
  obtain ⟨a, c, rfl⟩ := log_slice hv
  clear hv hd
  go_enter Tryd.func24, Tryd.ntmps24
  go_wp2_with fail
  go_loopg [3, 4] ts.length (fun kx s3 s4 wr => ∃ (k : Nat) (m : List WTxn) (a1 : Option Addr) (j c1 : Nat), s3 = .slice a1 j c1 ∧ s4 = .int .i64 k ∧ k ≤ ts.length ∧ ts.length - k ≤ kx ∧ j ≤ 40 ∧ Hid (m.length = j) ∧ Hid (OutL w wr (.slice a1 j c1) m))
  case atStart => exact ⟨0, [], none, 0, 0, rfl, rfl, Nat.zero_le _, by omega, by omega, hide rfl, hide ⟨OwnL.nil _ _, Below.refl _ _, Logs.nil⟩⟩
  case round =>
    obtain ⟨k, m, a1, j, c1, rfl, rfl, hk, hkx, hj, HM, HO⟩ := hrel
    by_cases hlt : k < ts.length ∧ j < 40
    · obtain ⟨t, ht⟩ : ∃ t, ts[k]? = some t := ⟨_, List.getElem?_eq_getElem hlt.1⟩
      obtain ⟨b, off, cap, he, hb, hr, _, _, _⟩ := log_row ((unhide HV).next (unhide HO).below) ht
      simp only [Value.slice.injEq, true_and] at he
      obtain ⟨rfl, rfl⟩ := he
      have e0 := hr.z ht
      have e1 := hr.o ht
      have e2 := hr.s ht
      have e3 := hr.p ht
      have e4 := hr.d ht
      have e5 := hr.v ht
      have e6 := hr.w ht
      have HR := hide hr
      have HT := hide ht
      have hlti : (k : Int) < (ts.length : Int) := by omega
      have hjlti : (j : Int) < 40 := by omega
      have C := fun W => wgood_any t W (unhide HD t (List.mem_of_getElem? ht))
      clear hr ht
      have hk63 : k < 9223372036854775807 := by omega
      by_cases hg : gdE t = 0
      · have HGD := hide hg
        rw [hg] at C
        by_cases hj0 : j = 0
        · subst hj0
          have HFO : Hid (follB m t = true) := hide (by simp [follB, unhide HM])
          obtain ⟨z, o, s1, p, d, y, u⟩ := t
          unfold txnV at C
          simp only at e0 e1 e2 e3 e4 e5 e6
          clear hg
          go_wp2_with fail
          have c0 := fun d os => Calls.regrown_of (w := wr) (d := d) (os := os) (C _)
          have f0 := fun d os => cell_regrown e0 d os
          have f1 := fun d os => cell_regrown e1 d os
          have f2 := fun d os => cell_regrown e2 d os
          have f3 := fun d os => cell_regrown e3 d os
          have f4 := fun d os => cell_regrown e4 d os
          have f5 := fun d os => cell_regrown e5 d os
          have f6 := fun d os => cell_regrown e6 d os
          clear C e0 e1 e2 e3 e4 e5 e6
          refine wp_region_quiet_below (by kernel_rfl) (by kernel_rfl) ?_
          repeat (first | go_big_quiet_step (with_reducible exact c0 _ _) | quiet_step (with_reducible exact c0 _ _))
          refine wpQuiet_nil ?_
          intro _ hw'
          obtain ⟨⟨dq, osq⟩, hw''⟩ := hw'
          subst hw''
          have hb2 := below_regrown wr dq osq
          have HO1 := hide ((unhide HO).next hb2)
          have r1 := (unhide HR).kept hb2 hb
          have g0 := r1.z (unhide HT)
          have g1 := r1.o (unhide HT)
          have g2 := r1.s (unhide HT)
          have g3 := r1.p (unhide HT)
          have g4 := r1.d (unhide HT)
          have g5 := r1.v (unhide HT)
          have g6 := r1.w (unhide HT)
          clear r1 hb2 c0 f0 f1 f2 f3 f4 f5 f6
          generalize Sort.grow (redrawn wr dq) osq = w1 at *
          have HRW := hide (app_row (unhide HO1).own (unhide HM))
          have HC2 := hide (app_new w1 ⟨z, o, s1, p, d, y, u⟩)
          have h4 : Hid (0 + 1 ≤ maxLen) := by unfold Hid; simp only [maxLen]; omega
          have h5 : Hid ((0 + 1) * 72 ≤ 140737488355328) := by unfold Hid; omega
          have h6 : Hid (∀ O1, w.heap.size ≤ (w1.alloc O1).heap.size) := fun O1 => by have := (unhide HO1).below.size; simp; omega
          go_wp2_with (at_builtin; refine wpList_append_own _ rfl _ _ 22 rfl w.heap.size 29 i0 _ 7 72 Tryd.underlying22 hi0 hz0 hz1 hz2 rfl (by decide) _ 0 (cellsT m) rfl (unhide HRW _ _ rfl) ⟨w1.heap.size, 0, none⟩ 1 1 (tcells ⟨z, o, s1, p, d, y, u⟩) rfl rfl (unhide HC2) (tcells_one _) (unhide h4) (unhide h5) (unhide h6 _) ?_)
          intro v' w5 hown hgrow _
          obtain ⟨a5, cc5, rfl, ho5⟩ := (unhide HO1).more (unhide HM) (unhide HGD) (unhide HFO) hown hgrow
          have HZ := hide ho5
          clear hown hgrow ho5 HRW HC2 h4 h5 h6 HO1 g0 g1 g2 g3 g4 g5 g6
          go_wp2_with fail
          go_roundg (ts.length - (k + 1))
          case measure => omega
          case rel => exact ⟨k + 1, m ++ [⟨z, o, s1, p, d, y, u⟩], a5, 0 + 1, cc5, rfl, by simp, by omega, Nat.le_refl _, by omega, hide (by rw [List.length_append, unhide HM]; rfl), HZ⟩
        · obtain ⟨i, rfl⟩ : ∃ i, j = i + 1 := ⟨j - 1, by omega⟩
          obtain ⟨x, hx⟩ : ∃ x, m[i]? = some x := ⟨_, List.getElem?_eq_getElem (by rw [unhide HM]; omega)⟩
          obtain ⟨q, off2, cap2, he, hq, hr2, _, _, _⟩ := log_row (unhide HO).own.log hx
          rw [unhide HM] at he
          simp only [Value.slice.injEq, true_and] at he
          obtain ⟨rfl, rfl⟩ := he
          have HR2 := hide hr2
          have HX := hide hx
          have hla : lastZ m = x.z := by
            obtain ⟨m', y', rfl⟩ := snoc_of (l := m) (by rw [unhide HM]; omega)
            have hm' : m'.length = i := by have := unhide HM; simpa using this
            subst hm'
            simp at hx
            rw [lastZ_snoc, hx]
          have HLA := hide hla
          have ji0 : ((i : Int) + 1 == 0) = false := by simp; omega
          have hwi : IntKind.i64.wrap (i : Int) = (i : Int) := by rw [IntKind.wrap_i64]; omega
          have hii : (i : Int) < (i : Int) + 1 := by omega
          have ex := hr2.z hx
          clear hr2 hx hla
          by_cases hf : x.z < t.z
          · have HFO : Hid (follB m t = true) := hide (by rw [follB_some (by rw [unhide HM]; omega), unhide HLA]; simpa using hf)
            obtain ⟨z, o, s1, p, d, y, u⟩ := t
            unfold txnV at C
            simp only at e0 e1 e2 e3 e4 e5 e6 hf
            clear hg
            go_wp2_with fail
            have c0 := fun d os => Calls.regrown_of (w := wr) (d := d) (os := os) (C _)
            have f0 := fun d os => cell_regrown e0 d os
            have f1 := fun d os => cell_regrown e1 d os
            have f2 := fun d os => cell_regrown e2 d os
            have f3 := fun d os => cell_regrown e3 d os
            have f4 := fun d os => cell_regrown e4 d os
            have f5 := fun d os => cell_regrown e5 d os
            have f6 := fun d os => cell_regrown e6 d os
            have fx := fun d os => cell_regrown ex d os
            clear C e0 e1 e2 e3 e4 e5 e6 ex
            refine wp_region_quiet_below (by kernel_rfl) (by kernel_rfl) ?_
            repeat (first | go_big_quiet_step (with_reducible exact c0 _ _) | quiet_step (with_reducible exact c0 _ _))
            refine wpQuiet_nil ?_
            intro _ hw'
            obtain ⟨⟨dq, osq⟩, hw''⟩ := hw'
            subst hw''
            have hb2 := below_regrown wr dq osq
            have HO1 := hide ((unhide HO).next hb2)
            have r1 := (unhide HR).kept hb2 hb
            have g0 := r1.z (unhide HT)
            have g1 := r1.o (unhide HT)
            have g2 := r1.s (unhide HT)
            have g3 := r1.p (unhide HT)
            have g4 := r1.d (unhide HT)
            have g5 := r1.v (unhide HT)
            have g6 := r1.w (unhide HT)
            clear r1 hb2 c0 f0 f1 f2 f3 f4 f5 f6 fx
            generalize Sort.grow (redrawn wr dq) osq = w1 at *
            have HRW := hide (app_row (unhide HO1).own (unhide HM))
            have HC2 := hide (app_new w1 ⟨z, o, s1, p, d, y, u⟩)
            have h4 : Hid (i + 1 + 1 ≤ maxLen) := by unfold Hid; simp only [maxLen]; omega
            have h5 : Hid ((i + 1 + 1) * 72 ≤ 140737488355328) := by unfold Hid; omega
            have h6 : Hid (∀ O1, w.heap.size ≤ (w1.alloc O1).heap.size) := fun O1 => by have := (unhide HO1).below.size; simp; omega
            go_wp2_with (at_builtin; refine wpList_append_own _ rfl _ _ 22 rfl w.heap.size 29 i0 _ 7 72 Tryd.underlying22 hi0 hz0 hz1 hz2 rfl (by decide) _ (i + 1) (cellsT m) rfl (unhide HRW _ _ rfl) ⟨w1.heap.size, 0, none⟩ 1 1 (tcells ⟨z, o, s1, p, d, y, u⟩) rfl rfl (unhide HC2) (tcells_one _) (unhide h4) (unhide h5) (unhide h6 _) ?_)
            intro v' w5 hown hgrow _
            obtain ⟨a5, cc5, rfl, ho5⟩ := (unhide HO1).more (unhide HM) (unhide HGD) (unhide HFO) hown hgrow
            have HZ := hide ho5
            clear hown hgrow ho5 HRW HC2 h4 h5 h6 HO1 g0 g1 g2 g3 g4 g5 g6
            go_wp2_with fail
            go_roundg (ts.length - (k + 1))
            case measure => omega
            case rel => exact ⟨k + 1, m ++ [⟨z, o, s1, p, d, y, u⟩], a5, i + 1 + 1, cc5, rfl, by simp, by omega, Nat.le_refl _, by omega, hide (by rw [List.length_append, unhide HM]; rfl), HZ⟩
          · obtain ⟨z, o, s1, p, d, y, u⟩ := t
            unfold txnV at C
            simp only at e0 e1 e2 e3 e4 e5 e6 hf
            clear hg
            go_wp2_with fail
            have c0 := fun d os => Calls.regrown_of (w := wr) (d := d) (os := os) (C _)
            have f0 := fun d os => cell_regrown e0 d os
            have f1 := fun d os => cell_regrown e1 d os
            have f2 := fun d os => cell_regrown e2 d os
            have f3 := fun d os => cell_regrown e3 d os
            have f4 := fun d os => cell_regrown e4 d os
            have f5 := fun d os => cell_regrown e5 d os
            have f6 := fun d os => cell_regrown e6 d os
            have fx := fun d os => cell_regrown ex d os
            clear C e0 e1 e2 e3 e4 e5 e6 ex
            refine wp_region_quiet_below (by kernel_rfl) (by kernel_rfl) ?_
            repeat (first | go_big_quiet_step (with_reducible exact c0 _ _) | quiet_step (with_reducible exact c0 _ _))
            refine wpQuiet_nil ?_
            intro _ hw'
            obtain ⟨⟨dq, osq⟩, hw''⟩ := hw'
            subst hw''
            have hb2 := below_regrown wr dq osq
            have HO1 := hide ((unhide HO).next hb2)
            have r1 := (unhide HR).kept hb2 hb
            have g0 := r1.z (unhide HT)
            have g1 := r1.o (unhide HT)
            have g2 := r1.s (unhide HT)
            have g3 := r1.p (unhide HT)
            have g4 := r1.d (unhide HT)
            have g5 := r1.v (unhide HT)
            have g6 := r1.w (unhide HT)
            clear r1 hb2 c0 f0 f1 f2 f3 f4 f5 f6 fx
            generalize Sort.grow (redrawn wr dq) osq = w1 at *
            go_wp2_with fail
            go_roundg (ts.length - (k + 1))
            case measure => omega
            case rel => exact ⟨k + 1, m, some ⟨q, off2, none⟩, i + 1, c1, rfl, by simp, by omega, Nat.le_refl _, by omega, HM, HO1⟩
      · have hne : (gdE t == 0) = false := by simpa using hg
        generalize gdE t = E at *
        obtain ⟨z, o, s1, p, d, y, u⟩ := t
        unfold txnV at C
        simp only at e0 e1 e2 e3 e4 e5 e6
        clear hg
        go_wp2_with fail
        have c0 := fun d os => Calls.regrown_of (w := wr) (d := d) (os := os) (C _)
        have f0 := fun d os => cell_regrown e0 d os
        have f1 := fun d os => cell_regrown e1 d os
        have f2 := fun d os => cell_regrown e2 d os
        have f3 := fun d os => cell_regrown e3 d os
        have f4 := fun d os => cell_regrown e4 d os
        have f5 := fun d os => cell_regrown e5 d os
        have f6 := fun d os => cell_regrown e6 d os
        clear C e0 e1 e2 e3 e4 e5 e6
        refine wp_region_quiet_below (by kernel_rfl) (by kernel_rfl) ?_
        repeat (first | go_big_quiet_step (with_reducible exact c0 _ _) | quiet_step (with_reducible exact c0 _ _))
        refine wpQuiet_nil ?_
        intro _ hw'
        obtain ⟨⟨dq, osq⟩, hw''⟩ := hw'
        subst hw''
        have hb2 := below_regrown wr dq osq
        have HO1 := hide ((unhide HO).next hb2)
        have r1 := (unhide HR).kept hb2 hb
        have g0 := r1.z (unhide HT)
        have g1 := r1.o (unhide HT)
        have g2 := r1.s (unhide HT)
        have g3 := r1.p (unhide HT)
        have g4 := r1.d (unhide HT)
        have g5 := r1.v (unhide HT)
        have g6 := r1.w (unhide HT)
        clear r1 hb2 c0 f0 f1 f2 f3 f4 f5 f6
        generalize Sort.grow (redrawn wr dq) osq = w1 at *
        go_wp2_with fail
        go_roundg (ts.length - (k + 1))
        case measure => omega
        case rel => exact ⟨k + 1, m, a1, j, c1, rfl, by simp, by omega, Nat.le_refl _, by omega, HM, HO1⟩
    · by_cases hlk : k < ts.length
      · have hlti : (k : Int) < (ts.length : Int) := by omega
        have hj40 : ¬ ((j : Int) < 40) := by omega
        go_wp2_with fail
        exact bodyPost_ret (v := .slice a1 j c1) (by simp [results, Tryd.results24, go_sem]) rfl ⟨_, rfl, m, unhide HO, by rw [unhide HM]; exact hj⟩
      · have hlti : ¬ ((k : Int) < (ts.length : Int)) := by omega
        go_wp2_with fail
        exact bodyPost_ret (v := .slice a1 j c1) (by simp [results, Tryd.results24, go_sem]) rfl ⟨_, rfl, m, unhide HO, by rw [unhide HM]; exact hj⟩
end Go.Proofs.YtpoblkionpgljaaDoor
