/-
  aviarykeep.WalKeeps returns true: the walk.
-/
import Derived.Test.YtpoblkionpgljaaDoorCL
import Derived.Test.YtpoblkionpgljaaDoorCJ
namespace Go.Proofs.YtpoblkionpgljaaDoor
open Go.RowKit

/-- what stands behind the first four statements -/
theorem keep_again {m : List WTxn} (h : Logs m) (hl : m.length ≤ 99) (z : Int) : RecYes [logF (keepL z m)] (keepL z m) [] [] := by
  have h1 := recs_small h (by omega)
  have h2 := (keepL_take z m).2
  exact rec_one (by simp; omega) (by have := scan_recs (keepL_logs (z := z) h); simpa using this)
theorem keepL_snoc_yes {z : Int} {ts : List WTxn} {k : Nat} {t : WTxn} (h : ts[k]? = some t) (hz : t.z ≤ z) : (ts.take (k + 1)).filter (fun t => decide (t.z ≤ z)) = (ts.take k).filter (fun t => decide (t.z ≤ z)) ++ [t] := by
  rw [take_more1 h, List.filter_append]; simp [hz]
theorem keepL_snoc_no {z : Int} {ts : List WTxn} {k : Nat} {t : WTxn} (h : ts[k]? = some t) (hz : ¬ t.z ≤ z) : (ts.take (k + 1)).filter (fun t => decide (t.z ≤ z)) = (ts.take k).filter (fun t => decide (t.z ≤ z)) := by
  rw [take_more1 h, List.filter_append]; simp; omega

set_option maxRecDepth 10000 in
set_option maxHeartbeats 4000000 in
theorem walKeeps_walk (v : Value) (ts : List WTxn) (z : Int) (w : World) (hv : LogV w v ts) (hd : ∀ t ∈ ts, t.d.length ≤ 140737488355328) :
    Calls Tryd.prog 8 #[v, .int .i64 z] w fun e w' => e = .returned (.bool true) ∧ Below w.heap.size w w' := by
  have CO := logOf_any v ts w hv hd
  obtain ⟨i0, hi0, hz0, hz1, hz2⟩ := info_txn
  obtain ⟨a, c, rfl⟩ := log_slice hv
  clear hv hd
  go_enter Tryd.func8, Tryd.ntmps8
  go_wp2_with fail
  refine CO.mono ?_
  rintro e w1 ⟨v1, rfl, m, hO, hm⟩
  obtain ⟨a1, c1, rfl⟩ := ownl_slice hO.own
  have HM := hide hO.own.log
  have HB1 := hide hO.below
  have hL := hO.log
  have CL := fun v W (h : LogV W v m) => laid_any v m W h hL (by omega)
  have hsm := recs_small hL (by omega)
  have CK := keep_yes (logD_rec hL (by omega)) z
  have CR := recover_yes (keep_again hL (by omega) z)
  rw [List.nil_append] at CK CR
  have HKF := hide (keepL_filter (z := z) hL)
  have HCL := hide CL
  have HCR := hide CR
  have HCK := hide CK
  have hkl : (keepL z m).length ≤ 40 := by have := (keepL_is z m).2; omega
  have hk0 : m.length = 0 → (keepL z m).length = 0 := fun h => by have := (keepL_is z m).2; omega
  clear hO CO CL CR CK hL hsm
  go_wp2_with fail
  refine (unhide HCL _ _ (unhide HM)).mono ?_
  rintro e w2 ⟨a2, n2, c2, rfl, HD2, hb2⟩
  have hal := (Below.refl w2.heap.size w2).alloc (Nat.le_refl _) (.cells #[.slice a2 n2 c2] 35)
  have HB2 := hide (below_next2 (below_next2 (unhide HB1) hb2) hal)
  have HX2 := hide (BoxAt.new w2 (.slice a2 n2 c2))
  have HD3 := hide ((unhide HD2).next hal)
  have HM2 := hide (((unhide HM).next hb2).next hal)
  have hbase : w.heap.size ≤ w2.heap.size := (below_next2 (unhide HB1) hb2).size
  clear hb2 hal HB1 HCL HM HD2
  go_wp2_with fail
  generalize w2.alloc (.cells #[.slice a2 n2 c2] 35) = W2 at *
  refine (unhide HCK _ _ (unhide HD3)).mono ?_
  rintro e w3 ⟨a3, n3, c3, rfl, HD4, hb3⟩
  have X3 := (unhide HX2).next hb3
  have cx := X3.c
  have fx := X3.f
  have HB3 := hide ((below_next2 (unhide HB2) hb3).setCell (p := ⟨w2.heap.size, 0, none⟩) hbase (.slice a3 n3 c3))
  have HX3 := hide (X3.set (.slice a3 n3 c3))
  have HD5 := hide (disk_box (unhide HD4) X3 (.slice a3 n3 c3))
  have HM3 := hide (log_box ((unhide HM2).next hb3) X3 (.slice a3 n3 c3))
  clear hb3 X3 HB2 HX2 HD3 HD4 HM2 HCK
  go_wp2_with fail
  generalize w3.setCell ⟨w2.heap.size, 0, none⟩ (.slice a3 n3 c3) = W3 at *
  have cy := (unhide HX3).c
  clear cx fx
  go_wp2_with fail
  refine (unhide HCR _ _ (unhide HD5)).mono ?_
  rintro e w4 ⟨al, kl, cl, a4, n4, c4, rfl, HL4, _, hb4⟩
  obtain ⟨al', cl', he⟩ := log_slice (unhide HL4)
  obtain rfl : kl = (keepL z m).length := by simp only [Value.slice.injEq] at he; exact he.2.1
  clear he al' cl'
  have hal := (Below.refl w4.heap.size w4).alloc (Nat.le_refl _) (.cells #[.slice a4 n4 c4] 35)
  have HB4 := hide (below_next2 (below_next2 (unhide HB3) hb4) hal)
  have HM4 := hide (((unhide HM3).next hb4).next hal)
  have HL5 := hide ((unhide HL4).next hal)
  clear hb4 hal HB3 HM3 HL4 HD5 HX3 HCR cy
  by_cases h0 : m.length = 0
  · have hk := hk0 h0
    rw [hk]
    have h0i : ((m.length : Int) == 0) = true := by rw [h0]; rfl
    clear hk0 hkl hm HM4 HL5 HKF
    go_wp2_with fail
    refine (logs_any _).mono ?_
    rintro e w5 ⟨rfl, hb5⟩
    have HB5 := hide (below_next2 (unhide HB4) hb5)
    clear hb5 HB4
    go_wp2_with fail
    go_ret
    exact ⟨rfl, unhide HB5⟩
  · have h0i : ((m.length : Int) == 0) = false := by simpa using h0
    have h0j : ¬ ((m.length : Int) = 0) := by omega
    clear hk0
    go_wp2_with fail
    generalize w4.alloc (.cells #[.slice a4 n4 c4] 35) = W4 at *
    go_loopg [12, 13] m.length (fun kx s12 s13 wr => ∃ (k j : Nat) (a5 : Option Addr) (c5 : Nat) (F : List WTxn), s12 = .slice a5 j c5 ∧ s13 = .int .i64 k ∧ k ≤ m.length ∧ m.length - k ≤ kx ∧ j ≤ k ∧ Hid (F.length = j ∧ (m.take k).filter (fun t => decide (t.z ≤ z)) = F) ∧ Hid (OwnL wr W4.heap.size (.slice a5 j c5) F ∧ Below W4.heap.size W4 wr))
    case atStart => exact ⟨0, 0, none, 0, [], rfl, rfl, Nat.zero_le _, by omega, Nat.le_refl _, hide ⟨rfl, rfl⟩, hide ⟨OwnL.nil _ _, Below.refl _ _⟩⟩
    case round =>
      obtain ⟨k, j, a5, c5, F, rfl, rfl, hk, hkx, hjk, HF, HO⟩ := hrel
      by_cases hlt : k < m.length
      · obtain ⟨t, ht⟩ : ∃ t, m[k]? = some t := ⟨_, List.getElem?_eq_getElem hlt⟩
        obtain ⟨b, off, cap, he, hb, hr, _, _, _⟩ := log_row ((unhide HM4).next (unhide HO).2) ht
        simp only [Value.slice.injEq, true_and] at he
        obtain ⟨rfl, rfl⟩ := he
        have e0 := hr.z ht
        have e1 := hr.o ht
        have e2 := hr.s ht
        have e3 := hr.p ht
        have e4 := hr.d ht
        have e5 := hr.v ht
        have e6 := hr.w ht
        have hlti : (k : Int) < (m.length : Int) := by omega
        have hk63 : k < 9223372036854775807 := by omega
        by_cases hz : t.z ≤ z
        · have HT := hide (keepL_snoc_yes ht hz)
          clear hr ht hb
          obtain ⟨z1, o, s1, p, d, y, u⟩ := t
          simp only at e0 e1 e2 e3 e4 e5 e6 hz
          have HRW := hide (app_row (unhide HO).1 (unhide HF).1)
          have HC2 := hide (app_new wr ⟨z1, o, s1, p, d, y, u⟩)
          have h4 : Hid (j + 1 ≤ maxLen) := by unfold Hid; simp only [maxLen]; omega
          have h5 : Hid ((j + 1) * 72 ≤ 140737488355328) := by unfold Hid; omega
          have h6 : Hid (∀ O1, W4.heap.size ≤ (wr.alloc O1).heap.size) := fun O1 => by have := (unhide HO).2.size; simp; omega
          go_wp2_with (at_builtin; refine wpList_append_own _ rfl _ _ 22 rfl W4.heap.size 29 i0 _ 7 72 Tryd.underlying22 hi0 hz0 hz1 hz2 rfl (by decide) _ j (cellsT F) rfl (unhide HRW _ _ rfl) ⟨wr.heap.size, 0, none⟩ 1 1 (tcells ⟨z1, o, s1, p, d, y, u⟩) rfl rfl (unhide HC2) (tcells_one _) (unhide h4) (unhide h5) (unhide h6 _) ?_)
          intro v' w5 hown hgrow _
          obtain ⟨a6, cc6, rfl, ho6, hb6⟩ := app_done (unhide HO).2 (unhide HO).1 (Nat.le_refl _) (unhide HF).1 hown hgrow
          have HZ := hide (And.intro ho6 hb6)
          clear hown hgrow ho6 hb6 HRW HC2 h4 h5 h6 HO e0 e1 e2 e3 e4 e5 e6
          go_wp2_with fail
          go_roundg (m.length - (k + 1))
          case measure => omega
          case rel => exact ⟨k + 1, j + 1, a6, cc6, F ++ [⟨z1, o, s1, p, d, y, u⟩], rfl, by simp, by omega, Nat.le_refl _, by omega, hide ⟨by rw [List.length_append, (unhide HF).1]; rfl, by rw [unhide HT, (unhide HF).2]⟩, HZ⟩
        · have HT := hide (keepL_snoc_no ht hz)
          clear hr ht hb e1 e2 e3 e4 e5 e6
          obtain ⟨z1, o, s1, p, d, y, u⟩ := t
          simp only at e0 hz
          go_wp2_with fail
          go_roundg (m.length - (k + 1))
          case measure => omega
          case rel => exact ⟨k + 1, j, a5, c5, F, rfl, by simp, by omega, Nat.le_refl _, by omega, hide ⟨(unhide HF).1, by rw [unhide HT, (unhide HF).2]⟩, HO⟩
      · obtain rfl : k = m.length := by omega
        have hki : ¬ ((m.length : Int) < (m.length : Int)) := by omega
        have hFK : F = keepL z m := by have := (unhide HF).2; rw [List.take_length] at this; rw [← this]; exact unhide HKF
        have CS := fun W (h1 : LogV W (.slice a5 j c5) F) h2 => ksl_any (.slice al (keepL z m).length cl) (.slice a5 j c5) (keepL z m) W (by omega) h2 (by rw [← hFK]; exact h1)
        have HL6 := hide ((unhide HL5).next (unhide HO).2)
        have HO2 := hide (unhide HO).1.log
        have HB5 := hide (below_next2 (unhide HB4) (unhide HO).2)
        have HCS := hide CS
        clear hFK CS HO HL5 HM4 HB4 HKF HF
        go_wp2_with fail
        refine (unhide HCS _ (unhide HO2) (unhide HL6)).mono ?_
        rintro e w6 ⟨rfl, hb6⟩
        have HB6 := hide (below_next2 (unhide HB5) hb6)
        clear hb6 HB5 HCS HO2 HL6
        go_wp2_with fail
        refine (logs_any _).mono ?_
        rintro e w7 ⟨rfl, hb7⟩
        have HB7 := hide (below_next2 (unhide HB6) hb7)
        clear hb7 HB6
        go_wp2_with fail
        go_ret
        exact ⟨rfl, unhide HB7⟩
end Go.Proofs.YtpoblkionpgljaaDoor
