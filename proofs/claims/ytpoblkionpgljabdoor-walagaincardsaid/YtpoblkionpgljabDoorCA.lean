/-
  aviarykeep.WalAgain returns true: the walk.
-/
import Derived.Test.YtpoblkionpgljabDoorCL
import Derived.Test.YtpoblkionpgljabDoorDK
namespace Go.Proofs.YtpoblkionpgljabDoor
open Go.RowKit

theorem disk_n {W : World} {a : Option Addr} {n c : Nat} {fs : List DF} (h : DiskV W (.slice a n c) fs) : n = fs.length := by
  rcases h with ⟨a', cap, he, rfl, _⟩ | ⟨b, off, cap, he, _⟩
  · simp only [Value.slice.injEq] at he; exact he.2.1
  · simp only [Value.slice.injEq] at he; exact he.2.1
theorem log_n {W : World} {a : Option Addr} {n c : Nat} {ts : List WTxn} (h : LogV W (.slice a n c) ts) : n = ts.length := by
  obtain ⟨a', c', he⟩ := log_slice h
  simp only [Value.slice.injEq] at he
  exact he.2.1

set_option maxRecDepth 10000 in
set_option maxHeartbeats 1000000 in
theorem walAgain_no (v : Value) (fs : List DF) (E : Int) (w : World) (hv : DiskV w v fs) (hs : Slim fs) (hl : fs.length * 48 ≤ 140737488355328) (h : RecNo fs E) :
    Calls Tryd.prog 3 #[.agg #[v]] w fun e w' => e = .returned (.bool true) ∧ Below w.heap.size w w' := by
  have CY := fun W (hW : Below w.heap.size w W) => kcopied_any v fs W (hv.next hW) hl
  have HCR := hide (recover_no hs h)
  have hne := recNo_ne h
  obtain ⟨a, n, c, rfl⟩ := disk_slice hv
  clear hv hs hl h
  go_enter Tryd.func3, Tryd.ntmps3
  go_wp2_with fail
  refine (CY _ ((Below.refl _ _).alloc (Nat.le_refl _) _)).mono ?_
  rintro e w1 ⟨v1, rfl, ho, hb1⟩
  obtain ⟨a1, n1, c1, rfl⟩ := disk_slice ho.disk
  have HB1 := hide (below_next2 ((Below.refl w.heap.size w).alloc (Nat.le_refl _) (.cells #[.slice a n c] 24)) hb1)
  have HD1 := hide ho.disk
  clear CY ho hb1
  go_wp2_with fail
  refine (unhide HCR _ _ (unhide HD1)).mono ?_
  rintro e w2 ⟨al, kl, cl, a2, n2, c2, rfl, HL2, HD2, hb2⟩
  obtain rfl := log_n (unhide HL2)
  obtain rfl := disk_n (unhide HD2)
  have hal := (Below.refl w2.heap.size w2).alloc (Nat.le_refl _) (.cells #[.slice a2 ([] : List DF).length c2] 24)
  have HB2 := hide (below_next2 (below_next2 (unhide HB1) hb2) hal)
  have cx := (BoxAt.new w2 (.slice a2 ([] : List DF).length c2)).c
  clear hb2 hal HB1 HD1 HCR HL2 HD2
  go_wp2_with fail
  generalize w2.alloc (.cells #[.slice a2 0 c2] 24) = W2 at *
  refine (logs_any _).mono ?_
  rintro e w3 ⟨rfl, hb3⟩
  have HB3 := hide (below_next2 (unhide HB2) hb3)
  clear hb3 HB2 cx
  go_wp2_with fail
  go_ret
  exact ⟨rfl, unhide HB3⟩

set_option maxRecDepth 10000 in
set_option maxHeartbeats 2000000 in
theorem walAgain_yes (v : Value) (fs A B : List DF) (ts : List WTxn) (w : World) (hv : DiskV w v fs) (h : RecYes fs ts A B) :
    Calls Tryd.prog 3 #[.agg #[v]] w fun e w' => e = .returned (.bool true) ∧ Below w.heap.size w w' := by
  have CY := fun W (hW : Below w.heap.size w W) => kcopied_any v fs W (hv.next hW) (by have := h.good.few; omega)
  have g1 := h.after h.short
  have CY2 := fun v W (hW : DiskV W v (A ++ logF ts :: B)) => kcopied_any v (A ++ logF ts :: B) W hW (by have := g1.few; omega)
  have CRd := fun v W (hW : DiskV W v (A ++ logF ts :: B)) => read_there v (A ++ logF ts :: B) A B (logF ts) logN W hW (good_slim g1) g1 (h.there ts)
  have hrd : (logF ts).s ++ (logF ts).t = recsL ts := by simp [logF]
  rw [hrd, show logN.toArray = #[108, 111, 103] from rfl] at CRd
  have HCR := hide (recover_yes h)
  have HCR2 := hide (recover_yes (h.again h.log h.short))
  have CSD := fun v v' W (h1 : DiskV W v (A ++ logF ts :: B)) h2 => ksame_any v v' (A ++ logF ts :: B) W (by have := g1.few; omega) h1 h2
  have hts := h.few
  have hsh := h.short
  have HLg := hide h.log
  have CSL := fun v v' W (h1 : LogV W v ts) h2 => ksl_any v v' ts W (by omega) h1 h2
  generalize A ++ logF ts :: B = D1 at *
  obtain ⟨a, n, c, rfl⟩ := disk_slice hv
  have HCY2 := hide CY2
  have HCRd := hide CRd
  have HCSD := hide CSD
  have HCSL := hide CSL
  clear hv h g1 CY2 CRd CSD CSL hrd
  go_enter Tryd.func3, Tryd.ntmps3
  go_wp2_with fail
  refine (CY _ ((Below.refl _ _).alloc (Nat.le_refl _) _)).mono ?_
  rintro e w1 ⟨v1, rfl, ho, hb1⟩
  obtain ⟨a1, n1, c1, rfl⟩ := disk_slice ho.disk
  have HB1 := hide (below_next2 ((Below.refl w.heap.size w).alloc (Nat.le_refl _) (.cells #[.slice a n c] 24)) hb1)
  have HD1 := hide ho.disk
  clear CY ho hb1
  go_wp2_with fail
  refine (unhide HCR _ _ (unhide HD1)).mono ?_
  rintro e w2 ⟨al, kl, cl, a2, n2, c2, rfl, HL2, HD2, hb2⟩
  obtain rfl := log_n (unhide HL2)
  have hal := (Below.refl w2.heap.size w2).alloc (Nat.le_refl _) (.cells #[.slice a2 n2 c2] 24)
  have HB2 := hide (below_next2 (below_next2 (unhide HB1) hb2) hal)
  have HX2 := hide (BoxAt.new w2 (.slice a2 n2 c2))
  have HL3 := hide ((unhide HL2).next hal)
  have HD3 := hide ((unhide HD2).next hal)
  clear hb2 hal HB1 HD1 HCR HL2 HD2
  go_wp2_with fail
  generalize w2.alloc (.cells #[.slice a2 n2 c2] 24) = W2 at *
  refine (logs_any _).mono ?_
  rintro e w3 ⟨rfl, hb3⟩
  have HB3 := hide (below_next2 (unhide HB2) hb3)
  have HX3 := hide ((unhide HX2).next hb3)
  have HL4 := hide ((unhide HL3).next hb3)
  have HD4 := hide ((unhide HD3).next hb3)
  have cx := (unhide HX3).c
  clear hb3 HB2 HX2 HL3 HD3
  go_wp2_with fail
  refine (unhide HCY2 _ _ (unhide HD4)).mono ?_
  rintro e w4 ⟨v4, rfl, ho, hb4⟩
  obtain ⟨a4, n4, c4, rfl⟩ := disk_slice ho.disk
  have HB4 := hide (below_next2 (unhide HB3) hb4)
  have HX4 := hide ((unhide HX3).next hb4)
  have HL5 := hide ((unhide HL4).next hb4)
  have HD5 := hide ((unhide HD4).next hb4)
  have HE4 := hide ho.disk
  clear hb4 ho HB3 HX3 HL4 HD4 HCY2 cx
  go_wp2_with fail
  refine (unhide HCR2 _ _ (unhide HE4)).mono ?_
  rintro e w5 ⟨al5, kl5, cl5, a5, n5, c5, rfl, HM5, HE5, hb5⟩
  obtain rfl := log_n (unhide HM5)
  have hal := (Below.refl w5.heap.size w5).alloc (Nat.le_refl _) (.cells #[.slice a5 n5 c5] 24)
  have HB5 := hide (below_next2 (below_next2 (unhide HB4) hb5) hal)
  have HX5 := hide (((unhide HX4).next hb5).next hal)
  have HY5 := hide (BoxAt.new w5 (.slice a5 n5 c5))
  have HL6 := hide (((unhide HL5).next hb5).next hal)
  have HM6 := hide ((unhide HM5).next hal)
  have HD6 := hide (((unhide HD5).next hb5).next hal)
  have HE6 := hide ((unhide HE5).next hal)
  have cx := (unhide HX5).c
  clear hb5 hal HB4 HX4 HL5 HD5 HE4 HM5 HE5 HCR2
  go_wp2_with fail
  generalize w5.alloc (.cells #[.slice a5 n5 c5] 24) = W5 at *
  refine (unhide HCRd _ _ (unhide HD6)).mono ?_
  rintro e w6 ⟨rfl, hb6⟩
  have HB6 := hide (below_next2 (unhide HB5) hb6)
  have HX6 := hide ((unhide HX5).next hb6)
  have HY6 := hide ((unhide HY5).next hb6)
  have HL7 := hide ((unhide HL6).next hb6)
  have HM7 := hide ((unhide HM6).next hb6)
  have HD7 := hide ((unhide HD6).next hb6)
  have HE7 := hide ((unhide HE6).next hb6)
  clear hb6 HB5 HX5 HY5 HL6 HM6 HD6 HE6 HCRd cx
  go_wp2_with fail
  go_loopg [11, 12] ts.length (fun kx s11 s12 wr => ∃ (k : Nat) (T : List UInt8), s11 = .string ⟨T.toArray⟩ ∧ s12 = .int .i64 k ∧ k ≤ ts.length ∧ ts.length - k ≤ kx ∧ Hid (recsL (ts.take k) = T) ∧ Hid (Below w6.heap.size w6 wr))
  case atStart => exact ⟨0, [], rfl, rfl, Nat.zero_le _, by omega, hide rfl, hide (Below.refl _ _)⟩
  case round =>
    obtain ⟨k, T, rfl, rfl, hk, hkx, HT, HB⟩ := hrel
    by_cases hlt : k < ts.length
    · obtain ⟨t, ht⟩ : ∃ t, ts[k]? = some t := ⟨_, List.getElem?_eq_getElem hlt⟩
      obtain ⟨b, off, cap, he, hb, hr, _, _, _⟩ := log_row ((unhide HL7).next (unhide HB)) ht
      simp only [Value.slice.injEq, true_and] at he
      obtain ⟨rfl, rfl⟩ := he
      have hgf := logs_at (unhide HLg) ht
      have C := fun W => encode_yes t W hgf.1
      have HM := hide (take_more1 ht)
      have hTl := recs_take_le ts (k + 1)
      rw [take_more1 ht, recsL_snoc, List.length_append, unhide HT] at hTl
      have e0 := hr.z ht
      have e1 := hr.o ht
      have e2 := hr.s ht
      have e3 := hr.p ht
      have e4 := hr.d ht
      have e5 := hr.v ht
      have e6 := hr.w ht
      have hlti : (k : Int) < (ts.length : Int) := by omega
      have HR := hide hr
      have HT0 := hide ht
      have HFO := hide hgf.2
      obtain ⟨R, hR⟩ : ∃ R, recL t = R := ⟨_, rfl⟩
      rw [hR] at C hTl
      have HRR := hide hR
      have hcl : ¬ 9223372036854775807 < T.length + R.length := by omega
      clear hR hgf hr ht
      obtain ⟨z, o, s1, p, d, y, u⟩ := t
      unfold txnV at C
      simp only at e0 e1 e2 e3 e4 e5 e6
      go_wp2_with fail
      refine (C _).mono ?_
      rintro e w7 ⟨rfl, hb7⟩
      have HB7 := hide (below_next2 (unhide HB) hb7)
      have r7 := (unhide HR).kept hb7 hb
      have f0 : w7.cell? ⟨b, off + k * 7, none⟩ = some (.int .i64 z) := r7.z (unhide HT0)
      clear C e0 e1 e2 e3 e4 e5 e6
      cases k with
      | zero =>
        clear hb7 r7 HR HT0 HFO hb
        go_wp2_with fail
        go_quiet (fail)
        go_wp2_with fail
        go_roundg (ts.length - (0 + 1))
        case measure => omega
        case rel => exact ⟨0 + 1, T ++ R, by rw [cat_one], by simp, by omega, Nat.le_refl _, hide (by rw [unhide HM, recsL_snoc, unhide HT, unhide HRR]), hide ((unhide HB7).trans ⟨rfl, rfl, rfl, Nat.le_refl _, fun _ _ => rfl⟩)⟩
      | succ j =>
        obtain ⟨x, hx⟩ : ∃ x, ts[j]? = some x := ⟨_, List.getElem?_eq_getElem (by omega)⟩
        have fx := r7.z hx
        have hcmp : ¬ z ≤ x.z := by
          have h := unhide HFO
          have hl : (ts.take (j + 1)).length = j + 1 := by rw [List.length_take]; omega
          rw [follB_some (by omega), take_more1 hx, lastZ_snoc] at h
          have : x.z < z := of_decide_eq_true h
          omega
        clear hb7 r7 HR HT0 HFO hb hx
        have hwj : IntKind.i64.wrap (j : Int) = (j : Int) := by rw [IntKind.wrap_i64]; omega
        have hj0 : (0 : Int) < (j : Int) + 1 := by omega
        have hjl : (j : Int) < (ts.length : Int) := by omega
        go_wp2_with fail
        go_quiet (fail)
        go_wp2_with fail
        go_roundg (ts.length - (j + 1 + 1))
        case measure => omega
        case rel => exact ⟨j + 1 + 1, T ++ R, by rw [cat_one], by simp, by omega, Nat.le_refl _, hide (by rw [unhide HM, recsL_snoc, unhide HT, unhide HRR]), hide ((unhide HB7).trans ⟨rfl, rfl, rfl, Nat.le_refl _, fun _ _ => rfl⟩)⟩
    · obtain rfl : k = ts.length := by omega
      have hki : ¬ ((ts.length : Int) < (ts.length : Int)) := by omega
      have hT : recsL ts = T := by have := unhide HT; rwa [List.take_length] at this
      subst hT
      have HB8 := hide (below_next2 (unhide HB6) (unhide HB))
      have HX8 := hide ((unhide HX6).next (unhide HB))
      have HY8 := hide ((unhide HY6).next (unhide HB))
      have HL8 := hide ((unhide HL7).next (unhide HB))
      have HM8 := hide ((unhide HM7).next (unhide HB))
      have HD8 := hide ((unhide HD7).next (unhide HB))
      have HE8 := hide ((unhide HE7).next (unhide HB))
      clear HB6 HX6 HY6 HL7 HM7 HD7 HE7 HB HT
      generalize recsL ts = T at *
      go_wp2_with fail
      refine (unhide HCSL _ _ _ (unhide HL8) (unhide HM8)).mono ?_
      rintro e w9 ⟨rfl, hb9⟩
      have HB9 := hide (below_next2 (unhide HB8) hb9)
      have cx9 := ((unhide HX8).next hb9).c
      have cy9 := ((unhide HY8).next hb9).c
      have HD9 := hide ((unhide HD8).next hb9)
      have HE9 := hide ((unhide HE8).next hb9)
      clear hb9 HB8 HX8 HY8 HL8 HM8 HD8 HE8 HCSL
      go_wp2_with fail
      refine (unhide HCSD _ _ _ (unhide HD9) (unhide HE9)).mono ?_
      rintro e w10 ⟨rfl, hb10⟩
      have HB10 := hide (below_next2 (unhide HB9) hb10)
      clear hb10 HB9 HD9 HE9 HCSD cx9 cy9
      go_wp2_with fail
      go_ret
      exact ⟨rfl, unhide HB10⟩

theorem walAgain_walk (v : Value) (fs : List DF) (w : World) (hv : DiskV w v fs) (hs : Slim fs) (hl : fs.length * 48 ≤ 140737488355328) :
    Calls Tryd.prog 3 #[.agg #[v]] w fun e w' => e = .returned (.bool true) ∧ Below w.heap.size w w' := by
  rcases rec_cases fs with ⟨E, h⟩ | ⟨ts, A, B, h⟩
  · exact walAgain_no v fs E w hv hs hl h
  · exact walAgain_yes v fs A B ts w hv h
end Go.Proofs.YtpoblkionpgljabDoor
