/-
  What slices.DeleteFunc answers at watches, with the closures of Fire and Drop: the walk.
-/
import Derived.Test.YtppmkgehdblbdaaDoorHB
namespace Go.Proofs.YtppmkgehdblbdaaDoor
open Go.RowKit

theorem first_at (pr : Wa → Bool) : ∀ ws : List Wa, (∀ a ∈ ws, pr a = false) ∨ ∃ A x R, ws = A ++ x :: R ∧ (∀ a ∈ A, pr a = false) ∧ pr x = true
  | [] => .inl (by simp)
  | y :: r => by
    cases h : pr y
    · rcases first_at pr r with h1 | ⟨A, x, R, rfl, h1, h2⟩
      · exact .inl (by intro a ha; rcases List.mem_cons.1 ha with rfl | ha; exact h; exact h1 a ha)
      · exact .inr ⟨y :: A, x, R, rfl, (by intro a ha; rcases List.mem_cons.1 ha with rfl | ha; exact h; exact h1 a ha), h2⟩
    · exact .inr ⟨[], y, r, rfl, by simp, h⟩
theorem filt_none {pr : Wa → Bool} {ws : List Wa} (h : ∀ a ∈ ws, pr a = false) : ws.filter (fun x => !pr x) = ws := by
  rw [List.filter_eq_self]
  intro a ha
  simp [h a ha]

set_option maxHeartbeats 4000000 in
theorem hdel_any {g : FuncId} {B q : Nat} {pr : Wa → Bool} {I : World → Prop} (C : Clos g B q pr I) (cap : Nat) (ws : List Wa) (w : World) (hi : I w) (ho : OwnR w q cap ws) (hl : ws.length ≤ 140737488355328) :
    Calls Tryd.prog 19 #[.slice (some ⟨q, 0, none⟩) ws.length cap, .func (.func g) #[] #[.pointer (some ⟨B, 0, none⟩)]] w fun e w' =>
      e = .returned (.slice (some ⟨q, 0, none⟩) (ws.filter (fun x => !pr x)).length cap) ∧ OwnR w' q cap (ws.filter (fun x => !pr x)) ∧ w.grownBy w' (some q) := by
  rcases first_at pr ws with hA | ⟨A, x, R, hws, hA, hx⟩
  · rw [filt_none hA]
    have CN := hidx_none C _ ws w hi (OwnS.seq (.inr ⟨q, cap, rfl, Nat.zero_le _, ho⟩)) hl hA
    have HO := hide ho
    have two := C.two
    clear C hA hi ho
    rcases two with rfl | rfl
    all_goals
      go_enter Tryd.func19, Tryd.ntmps19
      go_wp2_with fail
      refine CN.mono ?_
      rintro e w1 ⟨rfl, hb1⟩
      have HB := hide hb1
      clear CN hb1
      go_wp2_with fail
      go_ret
      exact ⟨rfl, (unhide HO).next (unhide HB), hgrown_of (unhide HB)⟩
  · obtain ⟨n, hn⟩ : ∃ n, ws.length = n := ⟨_, rfl⟩
    have hAn : A.length < n := by rw [← hn, hws]; simp
    have hnc : n ≤ cap := by rw [← hn]; exact ho.le
    have hcl := ho.capLe
    simp only [maxLen] at hcl
    have CA := hidx_at C q 0 cap A x R w hi ho.lt (by rw [← hws]; exact ho.row) (by rw [← hws]; exact hl) hA hx
    rw [← hws, hn] at CA
    obtain ⟨T, hT⟩ : ∃ T, ws.filter (fun x => !pr x) = T := ⟨_, rfl⟩
    rw [hn] at hl ⊢
    rw [hT]
    have HTk : Hid (∀ j, n ≤ j → (ws.take j).filter (fun x => !pr x) = T) := hide (fun j hj => by rw [List.take_of_length_le (by omega)]; exact hT)
    have HF0 : Hid ((ws.take (A.length + 1)).filter (fun x => !pr x) = A) := hide (by
      rw [hws, List.take_append, List.take_of_length_le (by omega), List.filter_append, filt_none hA]
      simp [hx])
    have HG0 : Hid (ws = A ++ [x] ++ ws.drop (A.length + 1)) := hide (by
      rw [hws]; simp)
    have HN := hide hn
    have HO := hide ho
    have HC := hide C
    have HI := hide (fun W (hW : w.grownBy W (some q)) => C.keep w W hi hW)
    have two := C.two
    clear hn hws hA hx ho C hT hi
    rcases two with rfl | rfl
    all_goals
      go_enter Tryd.func19, Tryd.ntmps19
      go_wp2_with fail
      refine CA.mono ?_
      rintro e w1 ⟨rfl, hb1⟩
      have HB := hide hb1
      clear CA hb1
      go_wp2_with fail
      go_loopg [5, 6] n (fun kx s5 s6 wr => ∃ (j : Nat) (F G : List Wa), s5 = .int .i64 F.length ∧ s6 = .int .i64 j ∧ j ≤ n ∧ n - j ≤ kx ∧ F.length + G.length = j ∧ 0 < G.length ∧ Hid ((ws.take j).filter (fun x => !pr x) = F) ∧ Hid (OwnR wr q cap (F ++ G ++ ws.drop j)) ∧ Hid (w.grownBy wr (some q)))
      case atStart => exact ⟨A.length + 1, A, [x], rfl, rfl, by omega, by omega, rfl, by simp, HF0, hide (by rw [← unhide HG0]; exact (unhide HO).next (unhide HB)), hide (hgrown_of (unhide HB))⟩
      case round =>
        obtain ⟨j, F, G, rfl, rfl, hj, hg, hFG, hG0, hF, hO, hW⟩ := hrel
        have hFj : F.length < j := by omega
        by_cases hlt : j < n
        · obtain ⟨y, hy⟩ : ∃ y, ws[j]? = some y := ⟨_, List.getElem?_eq_getElem (by rw [unhide HN]; exact hlt)⟩
          have hd : ws.drop j = y :: ws.drop (j + 1) := by
            obtain ⟨h1, h2⟩ := List.getElem?_eq_some_iff.1 hy
            rw [List.drop_eq_getElem_cons h1, h2]
          have hf : (ws.take (j + 1)).filter (fun x => !pr x) = F ++ (if pr y = true then [] else [y]) := by
            rw [snoc_take hy, List.filter_append, unhide hF]
            cases hpy : pr y <;> simp [hpy]
          rw [hd] at hO
          have hyr : (F ++ G ++ y :: ws.drop (j + 1))[j]? = some y := by
            rw [List.getElem?_append_right (by simp; omega)]
            simp [hFG]
          obtain ⟨z, G', rfl⟩ : ∃ z G', G = z :: G' := by
            cases G with
            | nil => simp at hG0
            | cons z G' => exact ⟨z, G', rfl⟩
          have hzr : (F ++ z :: G' ++ y :: ws.drop (j + 1))[F.length]? = some z := by simp
          have d0 := (unhide hO).row.w0 hyr
          have d1 := (unhide hO).row.w1 hyr
          have d2 := (unhide hO).row.w2 hyr
          have hq := (unhide hO).lt
          have hqn : q ≠ wr.heap.size := by omega
          simp only [Nat.zero_add] at d0 d1 d2
          have HW1 := hide (ngrown_trans (unhide hW) (hgrown_of (allocB wr (.cells #[.int .i64 y.s, .int .i64 y.k, .string ⟨y.p.toArray⟩] 24))))
          have CX := (unhide HC).gives _ y (unhide HI _ (unhide HW1))
          have hjn : (j : Int) < (n : Int) := by omega
          by_cases hp : pr y = true
          · rw [hp] at CX hf
            rw [if_pos rfl, List.append_nil] at hf
            have HF := hide hf
            clear hy hd hf hyr hp hzr
            go_wp2_with fail
            refine CX.mono ?_
            rintro e w2 ⟨rfl, hb2⟩
            have HO2 : Hid (OwnR w2 q cap (F ++ (z :: G' ++ [y]) ++ ws.drop (j + 1))) := hide (by
              have := ((unhide hO).next (allocB wr (.cells #[.int .i64 y.s, .int .i64 y.k, .string ⟨y.p.toArray⟩] 24))).next hb2
              simpa using this)
            have HW2 := hide (ngrown_trans (unhide HW1) (hgrown_of hb2))
            clear CX hb2
            go_wp2_with fail
            go_roundg (n - (j + 1))
            case measure => omega
            case rel => exact ⟨j + 1, F, z :: G' ++ [y], rfl, rfl, by omega, Nat.le_refl _, by simp at hFG ⊢; omega, by simp, HF, HO2, HW2⟩
          · have hp' : pr y = false := by simpa using hp
            rw [hp'] at CX
            rw [if_neg hp] at hf
            have HF := hide hf
            clear hy hd hf hyr hp hp'
            have hFn : (F.length : Int) < (n : Int) := by omega
            go_wp2_with fail
            refine CX.mono ?_
            rintro e w2 ⟨rfl, hb2⟩
            have O2 := ((unhide hO).next (allocB wr (.cells #[.int .i64 y.s, .int .i64 y.k, .string ⟨y.p.toArray⟩] 24))).next hb2
            have c0 : w2.cell? ⟨wr.heap.size, 0, none⟩ = some (.int .i64 y.s) := by rw [hb2.cell (p := ⟨wr.heap.size, 0, none⟩) (by simp)]; simp
            have c1 : w2.cell? ⟨wr.heap.size, 1, none⟩ = some (.int .i64 y.k) := by rw [hb2.cell (p := ⟨wr.heap.size, 1, none⟩) (by simp)]; simp
            have c2 : w2.cell? ⟨wr.heap.size, 2, none⟩ = some (.string ⟨y.p.toArray⟩) := by rw [hb2.cell (p := ⟨wr.heap.size, 2, none⟩) (by simp)]; simp
            have e0 := O2.row.w0 hzr
            have e1 := O2.row.w1 hzr
            have e2 := O2.row.w2 hzr
            simp only [Nat.zero_add] at e0 e1 e2
            have f0 := O2.frozen (F.length * 3)
            have f1 := O2.frozen (F.length * 3 + 1)
            have f2 := O2.frozen (F.length * 3 + 2)
            have hz2 : wr.heap.size < w2.heap.size := by have := hb2.size; simp at this; omega
            have HO3 : Hid (OwnR (((w2.setCell ⟨q, F.length * 3, none⟩ (.int .i64 y.s)).setCell ⟨q, F.length * 3 + 1, none⟩ (.int .i64 y.k)).setCell ⟨q, F.length * 3 + 2, none⟩ (.string ⟨y.p.toArray⟩)) q cap ((F ++ [y]) ++ (G' ++ [y]) ++ ws.drop (j + 1))) := hide (by
              have O2' : OwnR w2 q cap (F ++ z :: (G' ++ y :: ws.drop (j + 1))) := by simpa using O2
              have := O2'.swap1 y
              have e : F ++ [y] ++ (G' ++ [y]) ++ ws.drop (j + 1) = F ++ y :: (G' ++ y :: ws.drop (j + 1)) := by simp
              rw [e]
              exact this)
            have HW3 : Hid (w.grownBy (((w2.setCell ⟨q, F.length * 3, none⟩ (.int .i64 y.s)).setCell ⟨q, F.length * 3 + 1, none⟩ (.int .i64 y.k)).setCell ⟨q, F.length * 3 + 2, none⟩ (.string ⟨y.p.toArray⟩)) (some q)) :=
              hide (ngrown_trans (ngrown_trans (ngrown_trans (ngrown_trans (unhide HW1) (hgrown_of hb2)) (ngrown_set _)) (ngrown_set _)) (ngrown_set _))
            clear CX hb2 O2 hzr
            go_wp2_with fail
            go_roundg (n - (j + 1))
            case measure => omega
            case rel => exact ⟨j + 1, F ++ [y], G' ++ [y], by rw [List.length_append]; rfl, rfl, by omega, Nat.le_refl _, by simp at hFG ⊢; omega, by simp, HF, HO3, HW3⟩
        · obtain rfl : j = n := by omega
          have hTF : T = F := ((unhide HTk j (Nat.le_refl _)).symm.trans (unhide hF))
          have OF : OwnR wr q cap F := OwnR.head (B := G ++ ws.drop j) (by have := unhide hO; rwa [List.append_assoc] at this)
          have hclr : ∀ ty c, (Builtin.clear_ #[22] ty #[.slice (some ⟨q, F.length * 3, none⟩) (j - F.length) c]).run Tryd.prog wr = .ok (.tuple #[]) (wr.setCells q (F.length * 3) (zerosW (j - F.length))) := fun ty c =>
            run_clearW wr ty q _ _ c (by omega) (fun i hi => OF.some (show F.length * 3 + i < cap * 3 by omega)) (fun i hi => OF.frozen _)
          have FIN : Hid (OwnR (wr.setCells q (F.length * 3) (zerosW (j - F.length))) q cap F ∧ w.grownBy (wr.setCells q (F.length * 3) (zerosW (j - F.length))) (some q)) :=
            hide ⟨OF.spare _ _ (Nat.le_refl _) (by rw [zerosW_length]; show _ ≤ cap * 3; omega), ngrown_trans (unhide hW) (ngrown_setCells _ _ _)⟩
          have hcn : ¬ (cap = F.length) := by omega
          have hFc : F.length ≤ cap := by omega
          have hFn : F.length ≤ j := by omega
          have hjj : ¬ ((j : Int) < (j : Int)) := by omega
          clear OF hO hW hF HTk HF0 HG0
          subst hTF
          go_wp2_with fail
          go_ret
          exact ⟨rfl, (unhide FIN).1, (unhide FIN).2⟩

end Go.Proofs.YtppmkgehdblbdaaDoor
