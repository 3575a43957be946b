/-
  What aviaryref's AddWatch and DropWatches answer: the walks.
-/
import Derived.Test.YtppmkgehdblbdaaDoorHL
import Derived.Test.YtppmkgehdblbdaaDoorHE
import Derived.Test.YtppmkgehdblbdaaDoorHN
import Derived.Test.YtppmkgehdblbdaaDoorHO
namespace Go.Proofs.YtppmkgehdblbdaaDoor
open Go.RowKit

set_option maxRecDepth 20000 in
set_option maxHeartbeats 4000000 in
theorem rdrop_any (v : Value) (s : Int) (ws : List Wa) (w : World) (hv : SeqV w v ws) (hl : ws.length * 32 ≤ 140737488351232) :
    Calls Tryd.prog 10 #[v, .int .i64 s] w fun r w' => ∃ vl, r = .returned vl ∧ OwnS w' w.heap.size vl (dropW ws s) ∧ Below w.heap.size w w' := by
  have KR : ∀ W, Below w.heap.size w W → ∀ (k : Nat) (y : Wa), ws[k]? = some y → ∃ b off cap, v = .slice (some ⟨b, off, none⟩) ws.length cap ∧ b < w.heap.size ∧ RowAt W b off (cellsL ws) := fun W hW k y hx => by
    obtain ⟨b, off, cap, e, hb, hr, _, _⟩ := seq_row hv (fun h0 => by obtain ⟨h1, _⟩ := List.getElem?_eq_some_iff.1 hx; rw [h0] at h1; simp at h1)
    exact ⟨b, off, cap, e, hb, hr.kept hW hb⟩
  have HKR := hide KR
  obtain ⟨va, vc, rfl⟩ := seq_slice hv
  clear hv KR
  go_enter Tryd.func10, Tryd.ntmps10
  go_wp2_with fail
  go_loopg [5, 10] ws.length (fun kx s5 s10 wr => ∃ (k : Nat) (D : List Wa) (fa : Option Addr) (fc : Nat), s10 = .int .i64 k ∧ s5 = .slice fa D.length fc ∧ k ≤ ws.length ∧ ws.length - k ≤ kx ∧ Hid (dropW (ws.take k) s = D) ∧ Hid (OwnS wr w.heap.size (.slice fa D.length fc) D) ∧ Hid (Below w.heap.size w wr))
  case atStart => exact ⟨0, [], none, 0, rfl, rfl, Nat.zero_le _, Nat.le_refl _, hide rfl, hide (.inl ⟨rfl, rfl⟩), hide (Below.refl _ _)⟩
  case round =>
    obtain ⟨k, D, fa, fc, rfl, rfl, hk, hg, hD, hO, hB⟩ := hrel
    by_cases hlt : k < ws.length
    · obtain ⟨y, hy⟩ : ∃ y, ws[k]? = some y := ⟨_, List.getElem?_eq_getElem hlt⟩
      obtain ⟨b, off, cap, he, hb, q⟩ := unhide HKR wr (unhide hB) k y hy
      simp only [Value.slice.injEq] at he
      obtain ⟨rfl, _, rfl⟩ := he
      have d0 := q.w0 hy
      have d1 := q.w1 hy
      have d2 := q.w2 hy
      have hbw : b < wr.heap.size := Nat.lt_of_lt_of_le hb (unhide hB).size
      have hDl : (D.length + 1) * 32 ≤ 140737488355328 := by
        have h1 : (dropW (ws.take k) s).length ≤ (ws.take k).length := List.length_filter_le _ _
        have h2 : (ws.take k).length ≤ k := by simp; omega
        rw [unhide hD] at h1
        omega
      by_cases hys : y.s = s
      · have HS := hide (drop_skip hy hys)
        have hyb : (y.s == s) = true := by simpa using hys
        have hyn : (y.s != s) = false := by simpa using hys
        have HO1 := hide ((unhide hO).next (allocB wr (.cells #[.int .i64 y.s, .int .i64 y.k, .string ⟨y.p.toArray⟩] 24)))
        have HB1 := hide (nnext (unhide hB) (allocB wr (.cells #[.int .i64 y.s, .int .i64 y.k, .string ⟨y.p.toArray⟩] 24)))
        clear q hy hys
        go_wp2_with fail
        go_roundg (ws.length - (k + 1))
        case measure => omega
        case rel => exact ⟨k + 1, D, fa, fc, rfl, rfl, by omega, Nat.le_refl _, hide (by rw [unhide HS]; exact unhide hD), HO1, HB1⟩
      · have HS := hide (drop_get hy hys).2
        have hyb : (y.s == s) = false := by simpa using hys
        have hyn : (y.s != s) = true := by simpa using hys
        have HO1 := hide (((unhide hO).next (allocB wr (.cells #[.int .i64 y.s, .int .i64 y.k, .string ⟨y.p.toArray⟩] 24))).next (allocB _ (.cells #[.int .i64 y.s, .int .i64 y.k, .string ⟨y.p.toArray⟩] 24)))
        have HB1 := hide (nnext (nnext (unhide hB) (allocB wr (.cells #[.int .i64 y.s, .int .i64 y.k, .string ⟨y.p.toArray⟩] 24))) (allocB _ (.cells #[.int .i64 y.s, .int .i64 y.k, .string ⟨y.p.toArray⟩] 24)))
        clear q hy hys
        go_wp2_with (at_builtin; refine wpList_app_wa rfl _ _ rfl (.slice fa D.length fc) D rfl ((unhide HO1).lower (Nat.zero_le _)) (wr.heap.size + 1) rfl y (one_newW2 wr _ y) hDl ?_)
        intro a3 c3 w3 ho3 hg3 hl3
        have hab := ownS_above (unhide HO1)
        have HB3 := hide ((unhide HB1).grown hg3 (unhide HB1).size hab)
        have HO3 := hide (ownS_base (B := w.heap.size) ho3 (fun j hj => by
          rcases hl3 with h | h
          · rw [h] at hj; exact hab j hj
          · rw [h] at hj; cases hj; have := (unhide hB).size; omega))
        clear ho3 hg3 hl3 hab
        go_wp2_with fail
        go_roundg (ws.length - (k + 1))
        case measure => omega
        case rel => exact ⟨k + 1, D ++ [y], a3, c3, rfl, by rw [List.length_append]; rfl, by omega, Nat.le_refl _, hide (by rw [unhide HS, unhide hD]), by rw [List.length_append]; exact HO3, HB3⟩
    · obtain rfl : k = ws.length := by omega
      have hD2 := unhide hD
      rw [List.take_length] at hD2
      have HD2 := hide hD2
      clear hD2 hD
      go_wp2_with fail
      go_ret
      exact ⟨_, rfl, by rw [unhide HD2]; exact unhide hO, unhide hB⟩

theorem grow_end {w : World} {ws : List Wa} {x : Wa} (w4 w5 : World) (a4 : Option Addr) (c4 : Nat) (a5 : Option Addr) (c5 : Nat) (h4 : OwnS w4 w.heap.size (.slice a4 ws.length c4) ws) (hb : Below w.heap.size w w4) (ho : OwnS w5 0 (.slice a5 (ws.length + 1) c5) (ws ++ [x])) (hg5 : w4.grownBy w5 (Value.slice a4 ws.length c4).ownBlock)
    (hl : (Value.slice a5 (ws.length + 1) c5).ownBlock = (Value.slice a4 ws.length c4).ownBlock ∨ (Value.slice a5 (ws.length + 1) c5).ownBlock = some w4.heap.size) :
    OwnS w5 w.heap.size (.slice a5 (ws.length + 1) c5) (ws ++ [x]) ∧ Below w.heap.size w w5 := by
  have hab := ownS_above h4
  refine ⟨ownS_base ho (fun j hj => ?_), hb.grown hg5 hb.size hab⟩
  rcases hl with h | h
  · rw [h] at hj; exact hab j hj
  · rw [h] at hj; cases hj; exact hb.size

set_option maxRecDepth 20000 in
set_option maxHeartbeats 4000000 in
theorem radd_any (v : Value) (ws : List Wa) (x : Wa) (w : World) (hv : SeqV w v ws) (hl : ws.length * 32 ≤ 140737488351232) (hp : x.p.length ≤ 1048576) :
    Calls Tryd.prog 7 #[v, waV x] w fun r w' => ∃ vl, r = .returned (.tuple #[vl, .int .i64 (addE ws x)]) ∧ OwnS w' w.heap.size vl (addL ws x) ∧ Below w.heap.size w w' := by
  have KR : ∀ W, Below w.heap.size w W → ∀ (k : Nat) (y : Wa), ws[k]? = some y → ∃ b off cap, v = .slice (some ⟨b, off, none⟩) ws.length cap ∧ b < w.heap.size ∧ RowAt W b off (cellsL ws) := fun W hW k y hx => by
    obtain ⟨b, off, cap, e, hb, hr, _, _⟩ := seq_row hv (fun h0 => by obtain ⟨h1, _⟩ := List.getElem?_eq_some_iff.1 hx; rw [h0] at h1; simp at h1)
    exact ⟨b, off, cap, e, hb, hr.kept hW hb⟩
  have HKR := hide KR
  have HV := hide (fun W (hW : Below w.heap.size w W) => hv.next hW)
  have HBX : Hid (∀ W, Below (w.heap.size + 1) (w.alloc (.cells #[.int .i64 x.s, .int .i64 x.k, .string ⟨x.p.toArray⟩] 24)) W → (W.cell? ⟨w.heap.size, 0, none⟩ = some (.int .i64 x.s) ∧ W.cell? ⟨w.heap.size, 1, none⟩ = some (.int .i64 x.k) ∧ W.cell? ⟨w.heap.size, 2, none⟩ = some (.string ⟨x.p.toArray⟩)) ∧ Below w.heap.size w W ∧ w.heap.size < W.heap.size) := hide (fun W h => ⟨box_w h, (allocB _ _).trans (h.mono (Nat.le_succ _)), by have := h.size; simp at this; omega⟩)
  have CG := fun W => refGood_any x.p W hp
  obtain ⟨va, vc, rfl⟩ := seq_slice hv
  have HEQ := hide (fun y W => run_eqW y x W)
  have hz0 : (w.alloc (.cells #[.int .i64 x.s, .int .i64 x.k, .string ⟨x.p.toArray⟩] 24)).heap.size = w.heap.size + 1 := by simp
  have HZ0 := hide hz0
  clear hv KR hz0
  unfold waV at HEQ
  unfold waV
  by_cases hk : x.k ≠ 1 ∧ x.k ≠ 2
  · have ha : admW x = 4 := by rw [admW, if_pos hk]
    obtain ⟨e1, e2⟩ := addE_adm (ws := ws) (x := x) (by rw [ha]; decide)
    rw [e1, e2, ha]
    clear ha e1 e2
    by_cases hk1 : x.k < 1
    · clear hk
      go_enter Tryd.func7, Tryd.ntmps7
      go_wp2_with fail
      go_ret2
      exact ⟨_, rfl, .inl ⟨rfl, rfl⟩, allocB _ _⟩
    · have hk2 : 2 < x.k := by omega
      have hkb : (decide (x.k < 1) || decide (2 < x.k)) = true := by simp [hk2]
      have hkd : decide (x.k < 1) = false := by simpa using hk1
      clear hk
      go_enter Tryd.func7, Tryd.ntmps7
      go_wp2_with fail
      go_ret2
      exact ⟨_, rfl, .inl ⟨rfl, rfl⟩, allocB _ _⟩
  · have hk1 : ¬ x.k < 1 := by omega
    have hk2 : ¬ 2 < x.k := by omega
    cases hg : goodB x.p
    · have ha : admW x = 2 := by rw [admW, if_neg hk, if_pos hg]
      obtain ⟨e1, e2⟩ := addE_adm (ws := ws) (x := x) (by rw [ha]; decide)
      rw [e1, e2, ha]
      rw [hg] at CG
      clear ha e1 e2 hk hg
      go_enter Tryd.func7, Tryd.ntmps7
      go_wp2_with fail
      refine (CG _).mono ?_
      rintro e w1 ⟨rfl, hb1⟩
      have HB := hide (nbox_then hb1)
      clear hb1
      go_wp2_with fail
      go_ret2
      exact ⟨_, rfl, .inl ⟨rfl, rfl⟩, unhide HB⟩
    · rw [hg] at CG
      by_cases hs : x.s < 1 ∨ 2147483647 < x.s
      · have ha : admW x = 3 := by rw [admW, if_neg hk, if_neg (by simp [hg]), if_pos hs]
        obtain ⟨e1, e2⟩ := addE_adm (ws := ws) (x := x) (by rw [ha]; decide)
        rw [e1, e2, ha]
        clear ha e1 e2 hk hg
        by_cases hs1 : x.s < 1
        · clear hs
          go_enter Tryd.func7, Tryd.ntmps7
          go_wp2_with fail
          refine (CG _).mono ?_
          rintro e w1 ⟨rfl, hb1⟩
          rw [unhide HZ0] at hb1
          obtain ⟨⟨c0, c1, c2⟩, hB1, hz1⟩ := unhide HBX w1 hb1
          have HB := hide hB1
          clear hb1 hB1
          go_wp2_with fail
          go_ret2
          exact ⟨_, rfl, .inl ⟨rfl, rfl⟩, unhide HB⟩
        · have hs2 : (2147483648 : Int) ≤ x.s := by omega
          clear hs
          go_enter Tryd.func7, Tryd.ntmps7
          go_wp2_with fail
          refine (CG _).mono ?_
          rintro e w1 ⟨rfl, hb1⟩
          rw [unhide HZ0] at hb1
          obtain ⟨⟨c0, c1, c2⟩, hB1, hz1⟩ := unhide HBX w1 hb1
          have HB := hide hB1
          clear hb1 hB1
          go_wp2_with fail
          go_ret2
          exact ⟨_, rfl, .inl ⟨rfl, rfl⟩, unhide HB⟩
      · have ha : admW x = 0 := by rw [admW, if_neg hk, if_neg (by simp [hg]), if_neg hs]
        have hs1 : ¬ x.s < 1 := by omega
        have hs2 : ¬ (2147483648 : Int) ≤ x.s := by omega
        have HF : Hid (∀ i y, ws[i]? = some y → eqW y x = true → addE ws x = 0 ∧ addL ws x = ws) := hide (fun i y hy h => addE_has ha (hasB_iff.2 (by rw [← eqW_iff.1 h]; exact List.mem_of_getElem? hy)))
        have HN : Hid (hasB ws x = false → if 400 ≤ ws.length then addE ws x = 6 ∧ addL ws x = [] else addE ws x = 0 ∧ addL ws x = ws ++ [x]) := hide (fun h => by
          by_cases hf : 400 ≤ ws.length
          · rw [if_pos hf]; exact addE_full ha h hf
          · rw [if_neg hf]; exact addE_new ha h hf)
        have HNo : Hid ((∀ i y, ws[i]? = some y → eqW y x = false) → hasB ws x = false) := hide (fun h => by
          cases hb : hasB ws x
          · rfl
          · obtain ⟨i, hi⟩ := List.getElem?_of_mem (hasB_iff.1 hb)
            have := h i x hi
            rw [eqW_iff.2 rfl] at this
            exact absurd this (by decide))
        clear ha hk hg hs
        go_enter Tryd.func7, Tryd.ntmps7
        go_wp2_with fail
        refine (CG _).mono ?_
        rintro e w1 ⟨rfl, hb1⟩
        rw [unhide HZ0] at hb1
        obtain ⟨⟨c0, c1, c2⟩, hB1, hz1⟩ := unhide HBX w1 hb1
        have HB1 := hide hB1
        have HC1 := hide hb1
        clear hb1 hB1
        go_wp2_with (at_builtin; refine wpList_app_was rfl _ _ rfl (.slice none 0 0) (.slice va ws.length vc) [] ws w1.heap.size rfl (.inl ⟨rfl, rfl⟩) (Nat.le_refl _) rfl (unhide HV _ (unhide HB1)) (by simp; omega) ?_)
        intro a2 c2' w2 ho2 hg2
        have hb2 : Below w1.heap.size w1 w2 := grownO hg2 _ (Nat.le_refl _) (by intro k hk; cases hk)
        have HC2 := hide ((unhide HC1).trans (hb2.mono (by omega)))
        have HB2 := hide (nnext (unhide HB1) hb2)
        have HO2 := hide (ho2.lower (unhide HB1).size)
        clear ho2 hg2 hb2
        try simp only [List.length_nil, Nat.zero_add, List.nil_append] at HO2
        try simp only [List.length_nil, Nat.zero_add]
        go_wp2_with fail
        go_loopg [33] ws.length (fun kx s33 wr => ∃ k : Nat, s33 = .int .i64 k ∧ k ≤ ws.length ∧ ws.length - k ≤ kx ∧ Hid (∀ i y, i < k → ws[i]? = some y → eqW y x = false) ∧ Hid (Below w2.heap.size w2 wr))
        case atStart => exact ⟨0, rfl, Nat.zero_le _, Nat.le_refl _, hide (fun i y hi => absurd hi (by omega)), hide (Below.refl _ _)⟩
        case round =>
          obtain ⟨k, rfl, hk, hgk, hno, hB⟩ := hrel
          have HBw := hide (nnext (unhide HB2) (unhide hB))
          obtain ⟨⟨t0, t1, t2⟩, _, hzw⟩ := unhide HBX wr ((unhide HC2).trans ((unhide hB).mono (by have := (unhide HC2).size; simp at this; omega)))
          have hzn : w.heap.size ≠ wr.heap.size := by omega
          have HOw := hide ((unhide HO2).next (unhide hB))
          by_cases hlt : k < ws.length
          · obtain ⟨y, hy⟩ : ∃ y, ws[k]? = some y := ⟨_, List.getElem?_eq_getElem hlt⟩
            obtain ⟨b, off, cap, he, hb, q⟩ := unhide HKR wr (unhide HBw) k y hy
            simp only [Value.slice.injEq] at he
            obtain ⟨rfl, _, rfl⟩ := he
            have d0 := q.w0 hy
            have d1 := q.w1 hy
            have d2 := q.w2 hy
            have qe := unhide HEQ y
            have HA1 := hide (nnext (unhide hB) (allocB wr (.cells #[.int .i64 y.s, .int .i64 y.k, .string ⟨y.p.toArray⟩] 24)))
            clear q
            cases hyx : eqW y x
            · rw [hyx] at qe
              have HNK : Hid (∀ i z, i < k + 1 → ws[i]? = some z → eqW z x = false) := hide (fun i z hi hz => by
                by_cases h : i = k
                · subst h; rw [hy] at hz; cases hz; exact hyx
                · exact unhide hno i z (by omega) hz)
              clear hy hyx
              go_wp2_with fail
              go_roundg (ws.length - (k + 1))
              case measure => omega
              case rel => exact ⟨k + 1, rfl, by omega, Nat.le_refl _, HNK, HA1⟩
            · rw [hyx] at qe
              obtain ⟨e1, e2⟩ := unhide HF k y hy hyx
              have HE1 := hide e1
              have HE2 := hide e2
              have HBf := hide (nnext (unhide HB2) (unhide HA1))
              have HOf := hide ((unhide HO2).next (unhide HA1))
              clear hy hyx e1 e2
              go_wp2_with fail
              go_ret2
              exact ⟨_, by rw [unhide HE1]; rfl, by rw [unhide HE2]; exact unhide HOf, unhide HBf⟩
          · obtain rfl : k = ws.length := by omega
            have hn := unhide HN (unhide HNo (fun i y hy => unhide hno i y (List.getElem?_eq_some_iff.1 hy).1 hy))
            by_cases hf : 400 ≤ ws.length
            · rw [if_pos hf] at hn
              have HE := hide hn
              have hfi : (400 : Int) ≤ (ws.length : Int) := by omega
              clear hn
              go_wp2_with fail
              go_ret2
              exact ⟨_, by rw [(unhide HE).1]; rfl, by rw [(unhide HE).2]; exact .inl ⟨rfl, rfl⟩, unhide HBw⟩
            · rw [if_neg hf] at hn
              have HE := hide hn
              have hfi : ¬ ((400 : Int) ≤ (ws.length : Int)) := by omega
              have HOn := hide ((unhide HOw).next (allocB wr (.cells #[.int .i64 x.s, .int .i64 x.k, .string ⟨x.p.toArray⟩] 24)))
              have HBn := hide (nnext (unhide HBw) (allocB wr (.cells #[.int .i64 x.s, .int .i64 x.k, .string ⟨x.p.toArray⟩] 24)))
              clear hn
              go_wp2_with (at_builtin; refine wpList_app_wa rfl _ _ rfl (.slice a2 ws.length c2') ws rfl ((unhide HOn).lower (Nat.zero_le _)) wr.heap.size rfl x (one_newW wr x) (by omega) ?_)
              intro a3 c3 w3 ho3 hg3 hl3
              obtain ⟨o3, b3⟩ := grow_end _ w3 a2 c2' a3 c3 (unhide HOn) (unhide HBn) ho3 hg3 (by simpa using hl3)
              have HO3 := hide o3
              have HB3 := hide b3
              clear ho3 hg3 hl3 o3 b3
              go_wp2_with fail
              go_ret2
              exact ⟨_, by rw [(unhide HE).1]; rfl, by rw [(unhide HE).2]; exact unhide HO3, unhide HB3⟩

end Go.Proofs.YtppmkgehdblbdaaDoor
