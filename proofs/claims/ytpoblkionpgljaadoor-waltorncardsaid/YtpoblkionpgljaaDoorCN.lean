/-
  aviarykeep.WalBack returns true: the walk.
-/
import Derived.Test.YtpoblkionpgljaaDoorCL
import Derived.Test.YtpoblkionpgljaaDoorDK
import Derived.Deep.CutRange
import Derived.Deep.Cut
namespace Go.Proofs.YtpoblkionpgljaaDoor
open Go.RowKit

/-- a box that was made, and holds the disk d -/
def Boxed (W V : World) (q : Nat) (v : Value) (d : List DF) : Prop := Below W.heap.size W V ∧ BoxAt V q v ∧ DiskV V v d
theorem boxed_new {W V : World} {v : Value} {d : List DF} (hb : Below W.heap.size W V) (hd : DiskV V v d) : Boxed W (V.alloc (.cells #[v] 35)) V.heap.size v d :=
  ⟨hb.alloc hb.size _, BoxAt.new V v, hd.alloc _⟩
theorem boxed_put {W V : World} {v : Value} {d : List DF} {q : Nat} {a : Option Addr} {n c : Nat} (hb : Below W.heap.size W V) (hd : DiskV V v d) (hx : BoxAt V q (.slice a n c)) (hq : W.heap.size ≤ q) : Boxed W (V.setCell ⟨q, 0, none⟩ v) q v d :=
  ⟨hb.setCell hq v, hx.set v, disk_box hd hx v⟩
theorem crash_log {m : List WTxn} (h : Logs m) (hl : m.length ≤ 99) (k : Nat) : GivesD 28 (fun x => #[x, .int .i64 k]) (logD m) (logD m) 0 :=
  gives_own fun v W hv => by
    have g := logD_good (ts := m) (by have := recs_small h (by omega); omega)
    have := crash_yes v (logD m) k W hv (good_slim g) g
    rw [logD_crash] at this
    exact this
theorem pick_nat (k : Int) (n : Nat) (hn : 0 < n) : ∃ K : Nat, k % (n : Int) = K := by
  have := Int.emod_nonneg k (show (n : Int) ≠ 0 by omega)
  exact ⟨(k % (n : Int)).toNat, by omega⟩
theorem last_below (v : Value) (ts : List WTxn) (w : World) (hv : LogV w v ts) :
    Calls Tryd.prog 18 #[v] w fun e w' => e = .returned (.int .i64 (lastZ ts)) ∧ Below w.heap.size w w' :=
  (last_any v ts w hv).mono fun _ _ ⟨he, hw⟩ => ⟨he, hw ▸ Below.refl _ _⟩

set_option maxRecDepth 10000 in
set_option maxHeartbeats 4000000 in
theorem walBack_walk (v : Value) (ts : List WTxn) (keep : Int) (w : World) (hv : LogV w v ts) (hd : ∀ t ∈ ts, t.d.length ≤ 140737488355328) (hk : -9223372036854775808 ≤ keep) (hk1 : keep ≤ 9223372036854775807) :
    Calls Tryd.prog 6 #[v, .int .i64 keep] w fun e w' => e = .returned (.bool true) ∧ Below w.heap.size w w' := by
  obtain ⟨K, hK⟩ := pick_nat keep 100 (by decide)
  have CP := fun W => pick_any keep 100 W (by decide) (by decide) hk hk1
  rw [show ((100 : Nat) : Int) = 100 from rfl] at hK
  rw [hK] at CP
  have CO := logOf_any v ts w hv hd
  obtain ⟨a, c, rfl⟩ := log_slice hv
  clear hv hd hk hk1 hK
  go_enter Tryd.func6, Tryd.ntmps6
  go_wp2_with fail
  refine CO.mono ?_
  rintro e w1 ⟨v1, rfl, m, hO, hm⟩
  obtain ⟨a1, c1, rfl⟩ := ownl_slice hO.own
  have hmax : m.length ≤ 1000000 := by omega
  have HM := hide hO.own.log
  have HB1 := hide hO.below
  have hL := hO.log
  have CL := fun v W (h : LogV W v m) => laid_any v m W h hL (by omega)
  have hsm := recs_small hL (by omega)
  have CR := recover_yes (logD_rec hL (by omega))
  have CD : ∀ k, k = K → GivesD 28 (fun x => #[x, .int .i64 (k : Nat)]) (logD m) (logD m) 0 := fun k _ => crash_log hL (by omega) k
  have CY := fun v W (h : DiskV W v (logD m)) => kcopied_any v (logD m) W h (by unfold logD; split <;> simp)
  have HCL := hide CL
  have HCR := hide CR
  have HCD := hide (CD K rfl)
  have HCY := hide CY
  clear hO CO CL CR CD CY hL hsm
  go_wp2_with fail
  refine (unhide HCL _ _ (unhide HM)).mono ?_
  rintro e w2 ⟨a2, n2, c2, rfl, HD2, hb2⟩
  have hal := (Below.refl w2.heap.size w2).alloc (Nat.le_refl _) (.cells #[.slice a2 n2 c2] 35)
  have HB2 := hide (below_next2 (below_next2 (unhide HB1) hb2) hal)
  have HX2 := hide (BoxAt.new w2 (.slice a2 n2 c2))
  have HD3 := hide ((unhide HD2).next hal)
  have HM2 := hide (((unhide HM).next hb2).next hal)
  clear hb2 hal HB1 HCL HM HD2
  go_wp2_with fail
  generalize w2.alloc (.cells #[.slice a2 n2 c2] 35) = W2 at *
  refine (logs_any _).mono ?_
  rintro e w3 ⟨rfl, hb3⟩
  have HB3 := hide (below_next2 (unhide HB2) hb3)
  have HX3 := hide ((unhide HX2).next hb3)
  have HD4 := hide ((unhide HD3).next hb3)
  have HM3 := hide ((unhide HM2).next hb3)
  have cx := (unhide HX3).c
  clear hb3 HB2 HX2 HD3 HM2
  go_wp2_with fail
  refine (unhide HCY _ _ (unhide HD4)).mono ?_
  rintro e w4 ⟨v4, rfl, ho4, hb4⟩
  obtain ⟨a4, n4, c4, rfl⟩ := disk_slice ho4.disk
  have HD5 := hide ho4.disk
  have HB4 := hide (below_next2 (unhide HB3) hb4)
  have HX4 := hide ((unhide HX3).next hb4)
  have HD6 := hide ((unhide HD4).next hb4)
  have HM4 := hide ((unhide HM3).next hb4)
  clear hb4 ho4 HB3 HX3 HD4 HM3 cx HCY
  go_wp2_with fail
  refine (unhide HCR _ _ (unhide HD5)).mono ?_
  rintro e w5 ⟨al, kl, cl, a5, n5, c5, rfl, HL5, _, hb5⟩
  obtain ⟨al', cl', he⟩ := log_slice (unhide HL5)
  obtain rfl : kl = m.length := by simp only [Value.slice.injEq] at he; exact he.2.1
  clear he al' cl'
  have hal := (Below.refl w5.heap.size w5).alloc (Nat.le_refl _) (.cells #[.slice a5 n5 c5] 35)
  have HB5 := hide (below_next2 (below_next2 (unhide HB4) hb5) hal)
  have HX5 := hide (((unhide HX4).next hb5).next hal)
  have HD7 := hide (((unhide HD6).next hb5).next hal)
  have HM5 := hide (((unhide HM4).next hb5).next hal)
  have HL6 := hide ((unhide HL5).next hal)
  clear hb5 hal HB4 HX4 HD6 HM4 HL5 HD5
  go_wp2_with fail
  generalize w5.alloc (.cells #[.slice a5 n5 c5] 35) = W5 at *
  have cx := (unhide HX5).c
  have hq1 := (unhide HX5).lt
  have hq2 : w2.heap.size ≠ W5.heap.size := by omega
  go_cut [11, 12] from 16 (fun t11 t12 wx => ∃ q a3 n3 c3, t11 = .pointer (some ⟨q, 0, none⟩) ∧ t12 = .int .i64 0 ∧ Hid (Boxed W5 wx q (.slice a3 n3 c3) (logD m)))
  case first =>
    clear HB5 HM5 HL6 HCR hmax
    go_region_with (first
      | (go_at_call 29; refine (CP _).mono ?_; rintro e wp ⟨rfl, rfl⟩)
      | (go_at_call 28; first
        | (refine (unhide HCD (.slice a2 n2 c2) (W5.alloc (.cells #[.slice none 0 0] 35)).drew ((unhide HD7).alloc (.cells #[.slice none 0 0] 35)).drew).mono ?_; rintro e w6 ⟨a6, n6, c6, rfl, HD8, hb6⟩; have hb7 := below_drew hb6; have Y6 := hide ((BoxAt.new W5 (.slice none 0 0)).next hb7); have cy := (unhide Y6).c; have fy := (unhide Y6).f; have HB6 := hide (below_next2 ((Below.refl W5.heap.size W5).alloc (Nat.le_refl _) (.cells #[.slice none 0 0] 35)) hb7); clear hb6 hb7)
        | (refine (unhide HCD (.slice a2 n2 c2) W5.drew (unhide HD7).drew).mono ?_; rintro e w6 ⟨a6, n6, c6, rfl, HD8, hb6⟩; have HB6 := hide (below_drew hb6); clear hb6)))
    all_goals go_wp2_with fail
    all_goals go_meet
    all_goals first
      | exact ⟨_, a6, n6, c6, rfl, rfl, hide (boxed_new (unhide HB6) (unhide HD8))⟩
      | exact ⟨_, a6, n6, c6, rfl, rfl, hide (boxed_put (unhide HB6) (unhide HD8) (unhide Y6) (Nat.le_refl _))⟩
  case rest =>
    obtain ⟨q, a6, n6, c6, rfl, rfl, hcut⟩ := hcut
    have cq := (unhide hcut).2.1.c
    have HB6 := hide (below_next2 (unhide HB5) (unhide hcut).1)
    have HM6 := hide ((unhide HM5).next (unhide hcut).1)
    have HL7 := hide ((unhide HL6).next (unhide hcut).1)
    have HD8 := hide (unhide hcut).2.2
    clear hcut HB5 HM5 HL6 HX5 HD7 HCD CP cx hq1 hq2
    go_wp2_with fail
    refine (unhide HCR _ _ (unhide HD8)).mono ?_
    rintro e w7 ⟨ar, kr, cr, a7, n7, c7, rfl, HL8, _, hb7⟩
    obtain ⟨ar', cr', he⟩ := log_slice (unhide HL8)
    obtain rfl : kr = m.length := by simp only [Value.slice.injEq] at he; exact he.2.1
    clear he ar' cr'
    have hal := (Below.refl w7.heap.size w7).alloc (Nat.le_refl _) (.cells #[.slice a7 n7 c7] 35)
    have HB7 := hide (below_next2 (below_next2 (unhide HB6) hb7) hal)
    have HM7 := hide (((unhide HM6).next hb7).next hal)
    have HL9 := hide (((unhide HL7).next hb7).next hal)
    have HR9 := hide ((unhide HL8).next hal)
    clear hb7 hal HB6 HM6 HL7 HL8 HD8 HCR cq
    go_wp2_with fail
    generalize w7.alloc (.cells #[.slice a7 n7 c7] 35) = W7 at *
    have k1 := fun d os => Calls.regrown_of (w := W7) (d := d) (os := os) (ksl_any _ _ m _ hmax ((unhide HL9).next (below_regrown W7 d os)) ((unhide HM7).next (below_regrown W7 d os)))
    have k2 := fun d os => Calls.regrown_of (w := W7) (d := d) (os := os) (ksl_any _ _ m _ hmax ((unhide HR9).next (below_regrown W7 d os)) ((unhide HM7).next (below_regrown W7 d os)))
    by_cases h0 : m.length = 0
    · rw [h0] at k1 k2 ⊢
      clear hm hmax HM7 HL9 HR9
      refine wp_region_quiet_below (by kernel_rfl) (by kernel_rfl) ?_
      repeat (first | go_big_quiet_step (first | with_reducible exact k1 _ _ | with_reducible exact k2 _ _) | quiet_step (first | with_reducible exact k1 _ _ | with_reducible exact k2 _ _))
      refine wpQuiet_nil ?_
      intro _ hw'
      obtain ⟨⟨dq, osq⟩, hw''⟩ := hw'
      subst hw''
      have HF := hide (below_next2 (unhide HB7) (below_regrown W7 dq osq))
      clear k1 k2
      go_wp2_with fail
      go_ret
      exact ⟨rfl, unhide HF⟩
    · obtain ⟨m', x, rfl⟩ := snoc_of h0
      have hi : (m' ++ [x])[m'.length]? = some x := by simp
      obtain ⟨b, off, cap, he, hb, hr, _, _, _⟩ := log_row (unhide HM7) hi
      simp only [Value.slice.injEq, true_and] at he
      obtain ⟨rfl, rfl⟩ := he
      have ex := hr.z hi
      have k3 := fun d os => Calls.regrown_of (w := W7) (d := d) (os := os) (last_below _ _ _ ((unhide HM7).next (below_regrown W7 d os)))
      rw [lastZ_snoc] at k3
      have hlen : (m' ++ [x]).length = m'.length + 1 := by simp
      rw [hlen] at k1 k2 k3 hm ⊢
      have fx := fun d os => cell_regrown ex d os
      clear h0 hi hb hr hlen hmax HM7 HL9 HR9 ex
      generalize m'.length = i at *
      have ji0 : ((i : Int) + 1 == 0) = false := by simp; omega
      have hwi : IntKind.i64.wrap (i : Int) = (i : Int) := by rw [IntKind.wrap_i64]; omega
      have hii : (i : Int) < (i : Int) + 1 := by omega
      refine wp_region_quiet_below (by kernel_rfl) (by kernel_rfl) ?_
      repeat (first | go_big_quiet_step (first | with_reducible exact k1 _ _ | with_reducible exact k2 _ _ | with_reducible exact k3 _ _) | quiet_step (first | with_reducible exact k1 _ _ | with_reducible exact k2 _ _ | with_reducible exact k3 _ _))
      refine wpQuiet_nil ?_
      intro _ hw'
      obtain ⟨⟨dq, osq⟩, hw''⟩ := hw'
      subst hw''
      have HF := hide (below_next2 (unhide HB7) (below_regrown W7 dq osq))
      clear k1 k2 k3 fx
      go_wp2_with fail
      go_ret
      exact ⟨rfl, unhide HF⟩
end Go.Proofs.YtpoblkionpgljaaDoor
