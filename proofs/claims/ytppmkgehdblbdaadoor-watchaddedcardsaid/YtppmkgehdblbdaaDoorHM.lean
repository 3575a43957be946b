/-
  The law WatchAdded: the walk.
-/
import Derived.Test.YtppmkgehdblbdaaDoorHL
import Derived.Test.YtppmkgehdblbdaaDoorHE
namespace Go.Proofs.YtppmkgehdblbdaaDoor
open Go.RowKit

theorem add_ok {ws : List Wa} {x : Wa} (h : addE ws x = 0) : x ∈ addL ws x ∧ (∃ R, addL ws x = ws ++ R) ∧ addE (addL ws x) x = 0 ∧ addL (addL ws x) x = addL ws x ∧ ((addL ws x).length ≤ ws.length ∨ (addL ws x).length ≤ 400) ∧ (∀ y ∈ addL ws x, y ∈ ws ∨ y = x) := by
  have ha : admW x = 0 := by
    by_cases h0 : admW x = 0
    · exact h0
    · rw [addE, if_pos h0] at h; exact absurd h h0
  cases hh : hasB ws x
  · have hf : ¬ 400 ≤ ws.length := by
      intro hf
      rw [(addE_full ha hh hf).1] at h
      exact absurd h (by decide)
    obtain ⟨_, e⟩ := addE_new ha hh hf
    have h2 : hasB (ws ++ [x]) x = true := hasB_iff.2 (by simp)
    rw [e]
    exact ⟨by simp, ⟨[x], rfl⟩, (addE_has ha h2).1, (addE_has ha h2).2, .inr (by simp; omega), fun y hy => by simpa using hy⟩
  · obtain ⟨_, e⟩ := addE_has ha hh
    rw [e]
    exact ⟨hasB_iff.1 hh, ⟨[], by simp⟩, (addE_has ha hh).1, e, .inl (Nat.le_refl _), fun y hy => .inl hy⟩
theorem addL_err {ws : List Wa} {x : Wa} (h : addE ws x ≠ 0) : addL ws x = [] := by rw [addL, if_pos h]
theorem any_snocW {A : List Wa} {k : Nat} {y : Wa} (x : Wa) (h : A[k]? = some y) : (A.take (k + 1)).any (fun z => eqW z x) = ((A.take k).any (fun z => eqW z x) || eqW y x) := by
  rw [snoc_take h]; simp
theorem any_allW {A : List Wa} {x : Wa} (h : x ∈ A) : (A.take A.length).any (fun z => eqW z x) = true := by
  rw [List.take_length, List.any_eq_true]
  exact ⟨x, h, eqW_iff.2 rfl⟩
theorem seq_head {W : World} {a : Option Addr} {ws R : List Wa} {c : Nat} (h : SeqV W (.slice a (ws ++ R).length c) (ws ++ R)) : SeqV W (.slice a ws.length c) ws := by
  rcases h with ⟨a', cap, e, h0, h1⟩ | ⟨b, off, cap, e, h1, h2, h3, h0, h4⟩
  · have hw : ws = [] := (List.append_eq_nil_iff.1 h0).1
    simp only [Value.slice.injEq] at e
    exact .inl ⟨a', cap, by rw [hw]; simp [e.1, e.2.2], hw, h1⟩
  · simp only [Value.slice.injEq] at e
    obtain ⟨rfl, _, rfl⟩ := e
    rw [List.length_append] at h1
    by_cases hw : ws = []
    · subst hw
      exact .inl ⟨_, _, rfl, rfl, h2⟩
    · refine .inr ⟨b, off, _, rfl, by omega, h2, h3, hw, fun j u hj => h4 j u ?_⟩
      rw [cellsL_append, List.getElem?_append_left (List.getElem?_eq_some_iff.1 hj).1]
      exact hj

theorem ownS_some {α : Type} [Lay α] {W : World} {B : Nat} {v : Value} {xs : List α} (h : OwnS W B v xs) (h0 : xs ≠ []) : ∃ g cap, v = .slice (some ⟨g, 0, none⟩) xs.length cap ∧ B ≤ g ∧ OwnR W g cap xs := by
  rcases h with ⟨_, h1⟩ | ⟨g, cap, h1, h2, h3⟩
  · exact absurd h1 h0
  · exact ⟨g, cap, h1, h2, h3⟩

set_option maxRecDepth 20000 in
set_option maxHeartbeats 4000000 in
theorem watchAdded_walk (v : Value) (ws : List Wa) (x : Wa) (w : World) (hv : SeqV w v ws) (hs : Short ws) (hx : x.p.length ≤ 140737488351232) (hl : ws.length * 32 ≤ 140737488351232) :
    Calls Tryd.prog 4 #[v, waV x] w fun e w' => e = .returned (.bool true) ∧ Below w.heap.size w w' := by
  have HBX : Hid (∀ W, Below (w.heap.size + 1) (w.alloc (.cells #[.int .i64 x.s, .int .i64 x.k, .string ⟨x.p.toArray⟩] 24)) W → (W.cell? ⟨w.heap.size, 0, none⟩ = some (.int .i64 x.s) ∧ W.cell? ⟨w.heap.size, 1, none⟩ = some (.int .i64 x.k) ∧ W.cell? ⟨w.heap.size, 2, none⟩ = some (.string ⟨x.p.toArray⟩)) ∧ Below w.heap.size w W ∧ w.heap.size < W.heap.size) := hide (fun W h => ⟨box_w h, (allocB _ _).trans (h.mono (Nat.le_succ _)), by have := h.size; simp at this; omega⟩)
  have CK := hide (fun W (hW : Below w.heap.size w W) => kept_any v ws W (hv.next hW) (by omega))
  have CA := hide (fun W v' (h : SeqV W v' ws) => add_any v' ws x W h hs (by omega) hl)
  have HV := hide (fun W (hW : Below w.heap.size w W) => hv.next hW)
  obtain ⟨va, vc, rfl⟩ := seq_slice hv
  obtain ⟨w0, hw0⟩ : ∃ w0, w.alloc (.cells #[.int .i64 x.s, .int .i64 x.k, .string ⟨x.p.toArray⟩] 24) = w0 := ⟨_, rfl⟩
  have hz0 : w0.heap.size = w.heap.size + 1 := by rw [← hw0]; simp
  rw [hw0] at HBX
  obtain ⟨⟨b0, b1, b2⟩, hB0, hl0⟩ := unhide HBX w0 (Below.refl _ _)
  have HB0 := hide hB0
  have HW0 := hide hw0
  clear hv hB0
  unfold waV at CA
  unfold waV
  have HBY : Hid (∀ W, Below w0.heap.size w0 W → (W.cell? ⟨w.heap.size, 0, none⟩ = some (.int .i64 x.s) ∧ W.cell? ⟨w.heap.size, 1, none⟩ = some (.int .i64 x.k) ∧ W.cell? ⟨w.heap.size, 2, none⟩ = some (.string ⟨x.p.toArray⟩)) ∧ Below w.heap.size w W ∧ w.heap.size < W.heap.size) := hide (fun W h => unhide HBX W (by rw [← hz0]; exact h))
  clear HBX hz0
  by_cases he : addE ws x = 0
  · obtain ⟨hin, ⟨R, hR⟩, hE2, hL2, hlen, hmem⟩ := add_ok he
    have hsA : Short (addL ws x) := fun y hy => by rcases hmem y hy with h | rfl; exact hs y h; omega
    have hAl : (addL ws x).length * 32 ≤ 140737488351232 := by omega
    have CK2 := hide (fun W v' (h : SeqV W v' (addL ws x)) => kept_any v' (addL ws x) W h (by omega))
    have CA2 := hide (fun W v' (h : SeqV W v' (addL ws x)) => add_any v' (addL ws x) x W h hsA (by omega) hAl)
    rw [hE2, hL2] at CA2
    rw [he] at CA
    have CS := hide (fun W va vb (h : SeqV W va (addL ws x)) (h' : SeqV W vb (addL ws x)) => ksameW_any va vb (addL ws x) W h h' (by omega))
    have CS2 := hide (fun W va vb (h : SeqV W va ws) (h' : SeqV W vb ws) => ksameW_any va vb ws W h h' (by omega))
    have HIN := hide (any_allW hin)
    have hAn : addL ws x ≠ [] := fun h => by rw [h] at hin; simp at hin
    obtain ⟨A, hA⟩ : ∃ A, addL ws x = A := ⟨_, rfl⟩
    rw [hA] at CA CK2 CA2 CS HIN hAn hAl hR
    have HR := hide hR
    have hwA : ws.length ≤ A.length := by rw [hR]; simp
    have HEQ := hide (fun y W => run_eqW y x W)
    unfold waV at HEQ CA2
    clear he hin hR hE2 hL2 hlen hmem hsA hA hs hx
    go_enter Tryd.func4, Tryd.ntmps4
    go_wp2_with fail
    try rw [unhide HW0]
    go_region_law (first
      | (go_simp; refine (unhide CK _ (by first | exact unhide HB0 | exact (unhide HB0).drew)).mono ?_; rintro e w1 ⟨v1, rfl, ho1, hb1⟩; have HC1 : Hid (Below w0.heap.size w0 w1) := (by first | exact hb1 | exact nbelow_drew hb1); obtain ⟨⟨p0, p1, p2⟩, hB1, hl1⟩ := unhide HBY w1 (unhide HC1); have HB1 := hide hB1; have HS1 := hide ho1.seq; obtain ⟨a1, cc1, rfl, _⟩ := ho1.slice; clear hb1 hB1 ho1)
      | (go_simp; refine (unhide CA _ _ (unhide HS1)).mono ?_; rintro e w2 ⟨vl2, rfl, ho2, hb2⟩; have HC2 := hide (nnext (unhide HC1) hb2); obtain ⟨⟨q0, q1, q2⟩, hB2, hl2⟩ := unhide HBY w2 (unhide HC2); have HB2 := hide hB2; obtain ⟨g2, cc2, rfl, hg2, hR2⟩ := ownS_some ho2 hAn; have HO2 := hide hR2; clear hb2 hB2 ho2 hR2))
    all_goals
      go_wp2_with fail
      refine (tells_any _).mono ?_
      rintro e w3 ⟨rfl, hb3⟩
      have HC3 := hide (nnext (unhide HC2) hb3)
      obtain ⟨⟨r0, r1, r2⟩, hB3, hl3⟩ := unhide HBY w3 (unhide HC3)
      have HB3 := hide hB3
      have HO3 := hide ((unhide HO2).next hb3)
      have HS3 := hide (fun W (hW : Below w3.heap.size w3 W) => (ownr_seq (unhide HO3)).next hW)
      have hgl := (unhide HO3).lt
      clear hb3 hB3
      go_wp2_with fail
      go_region_law (first
        | (go_simp; refine (unhide CK2 _ _ (unhide HS3 _ (by first | exact Below.refl _ _ | exact (Below.refl _ _).drew))).mono ?_; rintro e w4 ⟨v4, rfl, ho4, hb4⟩; have HD4 : Hid (Below w3.heap.size w3 w4) := (by first | exact hb4 | exact nbelow_drew hb4); have HC4 := hide (nnext (unhide HC3) (unhide HD4)); obtain ⟨⟨s0, s1, s2⟩, hB4, hl4⟩ := unhide HBY w4 (unhide HC4); have HS4 := hide ho4.seq; obtain ⟨a4, cc4, rfl, _⟩ := ho4.slice; clear hb4 hB4 ho4)
        | (go_simp; refine (unhide CA2 _ _ (unhide HS4)).mono ?_; rintro e w5 ⟨vl5, rfl, ho5, hb5⟩; have HD5 := hide (nnext (unhide HD4) hb5); have HC5 := hide (nnext (unhide HC4) hb5); have HO5 := hide ho5.seq; obtain ⟨a5, cc5, rfl, _⟩ := ho5.slice; clear hb5 ho5))
      all_goals
        have HR5 := hide ((unhide HO3).next (unhide HD5))
        go_wp2_with fail
        go_loopg [9, 10] A.length (fun kx s9 s10 wr => ∃ (k : Nat) (b : Bool), s9 = .bool b ∧ s10 = .int .i64 k ∧ k ≤ A.length ∧ A.length - k ≤ kx ∧ Hid ((A.take k).any (fun z => eqW z x) = b) ∧ Hid (Below w5.heap.size w5 wr))
        case atStart => exact ⟨0, false, rfl, rfl, Nat.zero_le _, Nat.le_refl _, hide rfl, hide (Below.refl _ _)⟩
        case round =>
          obtain ⟨k, b, rfl, rfl, hk, hgk, hm, hB⟩ := hrel
          have HCw := hide (nnext (unhide HC5) (unhide hB))
          obtain ⟨⟨t0, t1, t2⟩, hBw, hlw⟩ := unhide HBY wr (unhide HCw)
          have HBw := hide hBw
          have HRw := hide ((unhide HR5).next (unhide hB))
          clear hBw
          by_cases hlk : k < A.length
          · obtain ⟨y, hy⟩ : ∃ y, A[k]? = some y := ⟨_, List.getElem?_eq_getElem hlk⟩
            have hms := any_snocW x hy
            rw [unhide hm] at hms
            have d0 := (unhide HRw).row.w0 hy
            have d1 := (unhide HRw).row.w1 hy
            have d2 := (unhide HRw).row.w2 hy
            simp only [Nat.zero_add] at d0 d1 d2
            have hkk : (k : Int) < (A.length : Int) := by omega
            have qe := unhide HEQ y
            clear hy
            cases b
            · have HMS : Hid ((A.take (k + 1)).any (fun z => eqW z x) = eqW y x) := hide (by rw [hms]; rfl)
              clear hms
              generalize eqW y x = bb at qe HMS
              go_wp2_with fail
              go_quiet (fail)
              go_wp2_with fail
              go_roundg (A.length - (k + 1))
              case measure => omega
              case rel => exact ⟨k + 1, _, rfl, rfl, by omega, Nat.le_refl _, HMS, hide (nnext (unhide hB) ⟨rfl, rfl, rfl, Nat.le_refl _, fun _ _ => rfl⟩)⟩
            · have HMS : Hid ((A.take (k + 1)).any (fun z => eqW z x) = true) := hide (by rw [hms]; rfl)
              clear hms qe
              go_wp2_with fail
              go_quiet (fail)
              go_wp2_with fail
              go_roundg (A.length - (k + 1))
              case measure => omega
              case rel => exact ⟨k + 1, _, rfl, rfl, by omega, Nat.le_refl _, HMS, hide (nnext (unhide hB) ⟨rfl, rfl, rfl, Nat.le_refl _, fun _ _ => rfl⟩)⟩
          · obtain rfl : k = A.length := by omega
            obtain rfl : b = true := (unhide hm).symm.trans (unhide HIN)
            have C6 := unhide CS wr _ _ (ownr_seq (unhide HRw)) ((unhide HO5).next (unhide hB))
            have hcap := (unhide HRw).le
            have hwc : ws.length ≤ cc2 := by omega
            have hwi : (ws.length : Int) ≤ (A.length : Int) := by omega
            go_wp2_with fail
            refine C6.mono ?_
            rintro e w7 ⟨rfl, hb7⟩
            have HB7 := hide (nnext (unhide HBw) hb7)
            have C7 := unhide CS2 w7 (.slice (some ⟨g2, 0, none⟩) ws.length cc2) (.slice va ws.length vc) (seq_head (R := R) (by rw [← unhide HR]; exact ownr_seq ((unhide HRw).next hb7))) (unhide HV w7 (unhide HB7))
            clear C6 hb7
            go_wp2_with fail
            refine C7.mono ?_
            rintro e w8 ⟨rfl, hb8⟩
            have HB8 := hide (nnext (unhide HB7) hb8)
            clear C7 hb8
            go_wp2_with fail
            go_ret
            exact ⟨rfl, unhide HB8⟩
  · have hL0 := addL_err he
    rw [hL0] at CA
    obtain ⟨r, hr⟩ : ∃ r, addE ws x = r := ⟨_, rfl⟩
    rw [hr] at CA he
    have hrb : (r == 0) = false := by simpa using he
    have hrn : (r != 0) = true := by simpa using he
    clear hL0 hr hs hx he
    go_enter Tryd.func4, Tryd.ntmps4
    go_wp2_with fail
    try rw [unhide HW0]
    go_region_law (first
      | (go_simp; refine (unhide CK _ (by first | exact unhide HB0 | exact (unhide HB0).drew)).mono ?_; rintro e w1 ⟨v1, rfl, ho1, hb1⟩; have HC1 : Hid (Below w0.heap.size w0 w1) := (by first | exact hb1 | exact nbelow_drew hb1); obtain ⟨⟨p0, p1, p2⟩, hB1, hl1⟩ := unhide HBY w1 (unhide HC1); have HB1 := hide hB1; have HS1 := hide ho1.seq; obtain ⟨a1, cc1, rfl, _⟩ := ho1.slice; clear hb1 hB1 ho1)
      | (go_simp; refine (unhide CA _ _ (unhide HS1)).mono ?_; rintro e w2 ⟨vl2, rfl, ho2, hb2⟩; have HB2 := hide (nnext (unhide HB1) hb2); obtain ⟨a2, cc2, rfl, _⟩ := ho2.slice; clear hb2 ho2))
    all_goals
      try simp only [List.length_nil]
      go_wp2_with fail
      refine (tells_any _).mono ?_
      rintro e w3 ⟨rfl, hb3⟩
      have HB3 := hide (nnext (unhide HB2) hb3)
      clear hb3
      go_wp2_with fail
      go_ret
      exact ⟨rfl, unhide HB3⟩

end Go.Proofs.YtppmkgehdblbdaaDoor
