/-
  What aviaryref's Fire answers: the walk.
  aviaryref.Commit, where it goes on: the walk.
  That aviarykeep.sameLog and aviaryref.SameLog say yes of two logs that are alike: the walks.
-/
import Derived.Test.YtfejpbkapikdiaaGreatDoorSCAR
import Derived.Test.YtfejpbkapikdiaaGreatDoorSCAJ
namespace Go.Proofs.YtfejpbkapikdiaaGreatDoor
open Go.RowKit

set_option maxRecDepth 20000 in
set_option maxHeartbeats 8000000 in
theorem rfire_any (v u : Value) (ws : List Wa) (es : List Ev) (w : World) (hv : SeqV w v ws) (hu : SeqV w u es) (hl : ws.length * 32 ≤ 140737488351232) (hle : es.length ≤ 140737488355328) :
    Calls Tryz.prog 18 #[v, u] w fun r w' => ∃ vn vl, r = .returned (.tuple #[vn, vl]) ∧ OwnS w' w.heap.size vn (fireN ws es) ∧ OwnS w' w.heap.size vl (fireW ws es) ∧ Below w.heap.size w w' := by
  have KR : ∀ W, Below w.heap.size w W → ∀ (k : Nat) (x : Ev), es[k]? = some x → ∃ b off cap, u = .slice (some ⟨b, off, none⟩) es.length cap ∧ b < w.heap.size ∧ RowAt W b off (cellsL es) := fun W hW k x hx => by
    obtain ⟨b, off, cap, e, hb, hr, _, _⟩ := seq_row hu (fun h0 => by obtain ⟨h1, _⟩ := List.getElem?_eq_some_iff.1 hx; rw [h0] at h1; simp at h1)
    exact ⟨b, off, cap, e, hb, hr.kept hW hb⟩
  have HKR := hide KR
  have HV := hide hv
  have HFL := hide (fun k => fire_len (es.take k) ws)
  obtain ⟨i0, hi0, hz0, hz1, hz2⟩ := winfo
  obtain ⟨va, vc, rfl⟩ := seq_slice hv
  obtain ⟨ua, uc, rfl⟩ := seq_slice hu
  clear hv hu KR
  go_enter Tryz.func18, Tryz.ntmps18
  go_wp2_with fail
  go_loopg [0, 6, 16] es.length (fun kx s0 s6 s16 wr => ∃ (k : Nat) (N : List Nt) (L : List Wa) (la : Option Addr) (lc : Nat) (na : Option Addr) (nc : Nat), s16 = .int .i64 k ∧ s0 = .slice la L.length lc ∧ s6 = .slice na N.length nc ∧ k ≤ es.length ∧ es.length - k ≤ kx ∧
    Hid (fireN ws (es.take k) = N) ∧ Hid (fireW ws (es.take k) = L) ∧ Hid (SeqV wr (.slice la L.length lc) L) ∧ Hid (L ≠ [] → ∀ b, (Value.slice la L.length lc).ownBlock = some b → (Value.slice na N.length nc).ownBlock ≠ some b) ∧ Hid (OwnS wr w.heap.size (.slice na N.length nc) N) ∧ Hid (Below w.heap.size w wr))
  case atStart => exact ⟨0, [], ws, va, vc, none, 0, rfl, rfl, rfl, Nat.zero_le _, Nat.le_refl _, hide rfl, hide rfl, HV, hide (fun _ _ _ h => by cases h), hide (.inl ⟨rfl, rfl⟩), hide (Below.refl _ _)⟩
  case round =>
    obtain ⟨k, N, L, la, lc, na, nc, rfl, rfl, rfl, hk, hg, hN, hL, hS, hap, hO, hB⟩ := hrel
    have hfl := unhide HFL k
    rw [unhide hN, unhide hL] at hfl
    by_cases hlt : k < es.length
    · obtain ⟨e, hx⟩ : ∃ e, es[k]? = some e := ⟨_, List.getElem?_eq_getElem hlt⟩
      obtain ⟨b, off, cap, he, hb, qr⟩ := unhide HKR wr (unhide hB) k e hx
      simp only [Value.slice.injEq] at he
      obtain ⟨rfl, _, rfl⟩ := he
      have d0 := qr.e0 hx
      have d1 := qr.e1 hx
      have HTN := hide (take_fireN ws es k e hx)
      have HTW := hide (take_fireW ws es k e hx)
      rw [unhide hN] at HTN
      rw [unhide hL] at HTN HTW
      have hbw : b < wr.heap.size := Nat.lt_of_lt_of_le hb (unhide hB).size
      have F0 : FI w (wr.alloc (.cells #[.int .i64 e.k, .string ⟨e.p.toArray⟩] 60)) (wr.heap.size + 1) wr.heap.size e (.slice la L.length lc) L (.slice na N.length nc) N (.slice none ([] : List Wa).length 0) [] := by
        have hb0 := allocB wr (.cells #[.int .i64 e.k, .string ⟨e.p.toArray⟩] 60)
        have hBs := (unhide hB).size
        refine ⟨(unhide hO).next hb0, .inl ⟨rfl, rfl⟩, fun j hj => ⟨(fun h => by cases h), (fun h => by have := (unhide hO).low j hj; omega)⟩, by omega, fun i x hx => ?_, one_new wr e.k e.p, nnext (unhide hB) hb0, by omega, by simp⟩
        obtain ⟨b', off', cap', e', h1, h2, _, _⟩ := seq_row (unhide hS) (fun h0 => by obtain ⟨h1, _⟩ := List.getElem?_eq_some_iff.1 hx; rw [h0] at h1; simp at h1)
        exact ⟨b', off', cap', e', by omega, unhide hap (fun h0 => by obtain ⟨h1, _⟩ := List.getElem?_eq_some_iff.1 hx; rw [h0] at h1; simp at h1) b' (by rw [e']; rfl), h2.kept hb0 h1⟩
      have HF0 := hide F0
      have HtL := hide (fun i => told_le L e i)
      obtain ⟨ek, ep⟩ := e
      clear qr hx F0 hN hL hS hap hO
      go_wp2_with fail
      generalize wr.heap.size = be at HF0 ⊢
      go_loopg [6, 9, 22] L.length (fun kx s6 s9 s22 wq => ∃ (i : Nat) (N' : List Nt) (F' : List Wa) (na : Option Addr) (nc : Nat) (fa : Option Addr) (fc : Nat), s22 = .int .i64 i ∧ s6 = .slice na N'.length nc ∧ s9 = .slice fa F'.length fc ∧ i ≤ L.length ∧ L.length - i ≤ kx ∧
        Hid (N' = N ++ toldL (L.take i) ⟨ek, ep⟩) ∧ Hid (F' = leftL (L.take i) ⟨ek, ep⟩) ∧ Hid (FI w wq (be + 1) be ⟨ek, ep⟩ (.slice la L.length lc) L (.slice na N'.length nc) N' (.slice fa F'.length fc) F'))
      case atStart => exact ⟨0, N, [], na, nc, none, 0, rfl, rfl, rfl, Nat.zero_le _, Nat.le_refl _, hide (by simp [toldL]), hide rfl, HF0⟩
      case round =>
        obtain ⟨i, N', F', na, nc, fa, fc, rfl, rfl, rfl, hi, hgi, hN', hF', HQ⟩ := hrel
        by_cases hli : i < L.length
        · obtain ⟨x, hx⟩ : ∃ x, L[i]? = some x := ⟨_, List.getElem?_eq_getElem hli⟩
          obtain ⟨b1, o1, cc1, he, hb1, _, q1⟩ := (unhide HQ).rd i x hx
          simp only [Value.slice.injEq] at he
          obtain ⟨rfl, _, rfl⟩ := he
          have d0 := q1.w0 hx
          have d1 := q1.w1 hx
          have d2 := q1.w2 hx
          have c0 : wr.cell? ⟨be, 0, none⟩ = some (.int .i64 ek) := by simpa using (unhide HQ).e.row 0 _ rfl
          have c1 : wr.cell? ⟨be, 1, none⟩ = some (.string ⟨ep.toArray⟩) := by simpa using (unhide HQ).e.row 1 _ rfl
          have hmz := (unhide HQ).mz
          have hbl : be < wr.heap.size := by omega
          have hbq : be ≠ wr.heap.size := by omega
          have hb1q : b1 ≠ wr.heap.size := by omega
          have hNl : (N'.length + 1) * 32 ≤ 140737488355328 := by
            have h1 := unhide HtL i
            rw [unhide hN', List.length_append]
            omega
          have hFl : (F'.length + 1) * 32 ≤ 140737488355328 := by
            rw [unhide hF']
            have h1 : (leftL (L.take i) ⟨ek, ep⟩).length ≤ (L.take i).length := List.length_filter_le _ _
            have h2 : (L.take i).length ≤ i := by simp; omega
            omega
          obtain ⟨xs, xk, xp⟩ := x
          simp only at d0 d1 d2
          clear q1
          by_cases h1 : ek = 1
          · subst h1
            by_cases hp : xp = ep
            · have hpb : (xp == ep) = true := by simpa using hp
              have HP := hide hp
              clear hp
              by_cases hk : xk = 2
              · subst hk
                have OFF : offB ⟨xs, 2, xp⟩ ⟨1, ep⟩ = false := by simp [offB, unhide HP]
                have hN2 : Hid (N' ++ [] = N ++ toldL (L.take (i + 1)) ⟨1, ep⟩) := hide (by rw [told_snoc hx, OFF, unhide hN', List.append_assoc]; rfl)
                have hF2 : Hid (F' ++ [⟨xs, 2, xp⟩] = leftL (L.take (i + 1)) ⟨1, ep⟩) := hide (by rw [left_snoc hx, OFF, unhide hF']; rfl)
                clear hx OFF

                rw [List.append_nil] at hN2
                go_wp2_with (at_builtin; refine wpList_app_wa rfl _ _ rfl (.slice fa F'.length fc) F' rfl (((unhide HQ).f.next (allocB _ _)).next (allocB _ _) |>.lower (Nat.zero_le _)) (wr.heap.size + 1) rfl ⟨xs, 2, xp⟩ (one_newW2 wr _ ⟨xs, 2, xp⟩) hFl ?_)
                intro a3 c3 w3 ho3 hg3 hl3
                have HF3 := hide ((((unhide HQ).next (allocB _ _)).next (allocB _ _)).left hg3 ho3 (by simpa using hl3))
                clear ho3 hg3 hl3
                go_wp2_with fail
                go_roundg (L.length - (i + 1))
                case measure => omega
                case rel => exact ⟨i + 1, N', F' ++ [⟨xs, 2, xp⟩], na, nc, a3, c3, rfl, rfl, by rw [List.length_append]; rfl, by omega, Nat.le_refl _, hN2, hF2, by rw [List.length_append]; exact HF3⟩
              · have hkb : (xk == 2) = false := by simpa using hk
                have hkn : (xk != 2) = true := by simpa using hk
                have OFF : offB ⟨xs, xk, xp⟩ ⟨1, ep⟩ = true := by simp [offB, unhide HP, hk]
                have hN2 : Hid (N' ++ [⟨xs, 1, ep⟩] = N ++ toldL (L.take (i + 1)) ⟨1, ep⟩) := hide (by rw [told_snoc hx, OFF, unhide hN', List.append_assoc]; rfl)
                have hF2 : Hid (F' ++ [] = leftL (L.take (i + 1)) ⟨1, ep⟩) := hide (by rw [left_snoc hx, OFF, unhide hF']; rfl)
                clear hx OFF

                rw [List.append_nil] at hF2
                go_wp2_with (at_builtin; refine wpList_app_nt rfl _ _ rfl (.slice na N'.length nc) N' rfl (((unhide HQ).n.next (allocB _ _)).next (allocB _ _) |>.lower (Nat.zero_le _)) (wr.heap.size + 1) rfl ⟨xs, 1, ep⟩ (one_newT2 wr _ ⟨xs, 1, ep⟩) hNl ?_)
                intro a3 c3 w3 ho3 hg3 hl3
                have HF3 := hide ((((unhide HQ).next (allocB _ _)).next (allocB _ _)).note hg3 ho3 (by simpa using hl3))
                clear ho3 hg3 hl3
                go_wp2_with fail
                go_roundg (L.length - (i + 1))
                case measure => omega
                case rel => exact ⟨i + 1, N' ++ [⟨xs, 1, ep⟩], F', a3, c3, fa, fc, rfl, by rw [List.length_append]; rfl, rfl, by omega, Nat.le_refl _, hN2, hF2, by rw [List.length_append]; exact HF3⟩
            · have hpb : (xp == ep) = false := by simpa using hp
              have OFF : offB ⟨xs, xk, xp⟩ ⟨1, ep⟩ = false := by simp [offB, hp]
              have hN2 : Hid (N' ++ [] = N ++ toldL (L.take (i + 1)) ⟨1, ep⟩) := hide (by rw [told_snoc hx, OFF, unhide hN', List.append_assoc]; rfl)
              have hF2 : Hid (F' ++ [⟨xs, xk, xp⟩] = leftL (L.take (i + 1)) ⟨1, ep⟩) := hide (by rw [left_snoc hx, OFF, unhide hF']; rfl)
              clear hx OFF

              rw [List.append_nil] at hN2
              go_wp2_with (at_builtin; refine wpList_app_wa rfl _ _ rfl (.slice fa F'.length fc) F' rfl (((unhide HQ).f.next (allocB _ _)).next (allocB _ _) |>.lower (Nat.zero_le _)) (wr.heap.size + 1) rfl ⟨xs, xk, xp⟩ (one_newW2 wr _ ⟨xs, xk, xp⟩) hFl ?_)
              intro a3 c3 w3 ho3 hg3 hl3
              have HF3 := hide ((((unhide HQ).next (allocB _ _)).next (allocB _ _)).left hg3 ho3 (by simpa using hl3))
              clear ho3 hg3 hl3
              go_wp2_with fail
              go_roundg (L.length - (i + 1))
              case measure => omega
              case rel => exact ⟨i + 1, N', F' ++ [⟨xs, xk, xp⟩], na, nc, a3, c3, rfl, rfl, by rw [List.length_append]; rfl, by omega, Nat.le_refl _, hN2, hF2, by rw [List.length_append]; exact HF3⟩
          by_cases h2 : ek = 2
          · subst h2
            by_cases hp : xp = ep
            · have hpb : (xp == ep) = true := by simpa using hp
              have HP := hide hp
              clear hp
              by_cases hk : xk = 2
              · subst hk
                have OFF : offB ⟨xs, 2, xp⟩ ⟨2, ep⟩ = true := by simp [offB, unhide HP]
                have hN2 : Hid (N' ++ [⟨xs, 2, ep⟩] = N ++ toldL (L.take (i + 1)) ⟨2, ep⟩) := hide (by rw [told_snoc hx, OFF, unhide hN', List.append_assoc]; rfl)
                have hF2 : Hid (F' ++ [] = leftL (L.take (i + 1)) ⟨2, ep⟩) := hide (by rw [left_snoc hx, OFF, unhide hF']; rfl)
                clear hx OFF

                rw [List.append_nil] at hF2
                go_wp2_with (at_builtin; refine wpList_app_nt rfl _ _ rfl (.slice na N'.length nc) N' rfl (((unhide HQ).n.next (allocB _ _)).next (allocB _ _) |>.lower (Nat.zero_le _)) (wr.heap.size + 1) rfl ⟨xs, 2, ep⟩ (one_newT2 wr _ ⟨xs, 2, ep⟩) hNl ?_)
                intro a3 c3 w3 ho3 hg3 hl3
                have HF3 := hide ((((unhide HQ).next (allocB _ _)).next (allocB _ _)).note hg3 ho3 (by simpa using hl3))
                clear ho3 hg3 hl3
                go_wp2_with fail
                go_roundg (L.length - (i + 1))
                case measure => omega
                case rel => exact ⟨i + 1, N' ++ [⟨xs, 2, ep⟩], F', a3, c3, fa, fc, rfl, by rw [List.length_append]; rfl, rfl, by omega, Nat.le_refl _, hN2, hF2, by rw [List.length_append]; exact HF3⟩
              · have hkb : (xk == 2) = false := by simpa using hk
                have hkn : (xk != 2) = true := by simpa using hk
                have OFF : offB ⟨xs, xk, xp⟩ ⟨2, ep⟩ = true := by simp [offB, unhide HP, hk]
                have hN2 : Hid (N' ++ [⟨xs, 2, ep⟩] = N ++ toldL (L.take (i + 1)) ⟨2, ep⟩) := hide (by rw [told_snoc hx, OFF, unhide hN', List.append_assoc]; rfl)
                have hF2 : Hid (F' ++ [] = leftL (L.take (i + 1)) ⟨2, ep⟩) := hide (by rw [left_snoc hx, OFF, unhide hF']; rfl)
                clear hx OFF

                rw [List.append_nil] at hF2
                go_wp2_with (at_builtin; refine wpList_app_nt rfl _ _ rfl (.slice na N'.length nc) N' rfl (((unhide HQ).n.next (allocB _ _)).next (allocB _ _) |>.lower (Nat.zero_le _)) (wr.heap.size + 1) rfl ⟨xs, 2, ep⟩ (one_newT2 wr _ ⟨xs, 2, ep⟩) hNl ?_)
                intro a3 c3 w3 ho3 hg3 hl3
                have HF3 := hide ((((unhide HQ).next (allocB _ _)).next (allocB _ _)).note hg3 ho3 (by simpa using hl3))
                clear ho3 hg3 hl3
                go_wp2_with fail
                go_roundg (L.length - (i + 1))
                case measure => omega
                case rel => exact ⟨i + 1, N' ++ [⟨xs, 2, ep⟩], F', a3, c3, fa, fc, rfl, by rw [List.length_append]; rfl, rfl, by omega, Nat.le_refl _, hN2, hF2, by rw [List.length_append]; exact HF3⟩
            · have hpb : (xp == ep) = false := by simpa using hp
              have OFF : offB ⟨xs, xk, xp⟩ ⟨2, ep⟩ = false := by simp [offB, hp]
              have hN2 : Hid (N' ++ [] = N ++ toldL (L.take (i + 1)) ⟨2, ep⟩) := hide (by rw [told_snoc hx, OFF, unhide hN', List.append_assoc]; rfl)
              have hF2 : Hid (F' ++ [⟨xs, xk, xp⟩] = leftL (L.take (i + 1)) ⟨2, ep⟩) := hide (by rw [left_snoc hx, OFF, unhide hF']; rfl)
              clear hx OFF

              rw [List.append_nil] at hN2
              go_wp2_with (at_builtin; refine wpList_app_wa rfl _ _ rfl (.slice fa F'.length fc) F' rfl (((unhide HQ).f.next (allocB _ _)).next (allocB _ _) |>.lower (Nat.zero_le _)) (wr.heap.size + 1) rfl ⟨xs, xk, xp⟩ (one_newW2 wr _ ⟨xs, xk, xp⟩) hFl ?_)
              intro a3 c3 w3 ho3 hg3 hl3
              have HF3 := hide ((((unhide HQ).next (allocB _ _)).next (allocB _ _)).left hg3 ho3 (by simpa using hl3))
              clear ho3 hg3 hl3
              go_wp2_with fail
              go_roundg (L.length - (i + 1))
              case measure => omega
              case rel => exact ⟨i + 1, N', F' ++ [⟨xs, xk, xp⟩], na, nc, a3, c3, rfl, rfl, by rw [List.length_append]; rfl, by omega, Nat.le_refl _, hN2, hF2, by rw [List.length_append]; exact HF3⟩
          by_cases h3 : ek = 3
          · subst h3
            by_cases hp : xp = ep
            · have hpb : (xp == ep) = true := by simpa using hp
              have HP := hide hp
              clear hp
              by_cases hk : xk = 2
              · subst hk
                have OFF : offB ⟨xs, 2, xp⟩ ⟨3, ep⟩ = false := by simp [offB, unhide HP]
                have hN2 : Hid (N' ++ [] = N ++ toldL (L.take (i + 1)) ⟨3, ep⟩) := hide (by rw [told_snoc hx, OFF, unhide hN', List.append_assoc]; rfl)
                have hF2 : Hid (F' ++ [⟨xs, 2, xp⟩] = leftL (L.take (i + 1)) ⟨3, ep⟩) := hide (by rw [left_snoc hx, OFF, unhide hF']; rfl)
                clear hx OFF

                rw [List.append_nil] at hN2
                go_wp2_with (at_builtin; refine wpList_app_wa rfl _ _ rfl (.slice fa F'.length fc) F' rfl (((unhide HQ).f.next (allocB _ _)).next (allocB _ _) |>.lower (Nat.zero_le _)) (wr.heap.size + 1) rfl ⟨xs, 2, xp⟩ (one_newW2 wr _ ⟨xs, 2, xp⟩) hFl ?_)
                intro a3 c3 w3 ho3 hg3 hl3
                have HF3 := hide ((((unhide HQ).next (allocB _ _)).next (allocB _ _)).left hg3 ho3 (by simpa using hl3))
                clear ho3 hg3 hl3
                go_wp2_with fail
                go_roundg (L.length - (i + 1))
                case measure => omega
                case rel => exact ⟨i + 1, N', F' ++ [⟨xs, 2, xp⟩], na, nc, a3, c3, rfl, rfl, by rw [List.length_append]; rfl, by omega, Nat.le_refl _, hN2, hF2, by rw [List.length_append]; exact HF3⟩
              · have hkb : (xk == 2) = false := by simpa using hk
                have hkn : (xk != 2) = true := by simpa using hk
                have OFF : offB ⟨xs, xk, xp⟩ ⟨3, ep⟩ = true := by simp [offB, unhide HP, hk]
                have hN2 : Hid (N' ++ [⟨xs, 3, ep⟩] = N ++ toldL (L.take (i + 1)) ⟨3, ep⟩) := hide (by rw [told_snoc hx, OFF, unhide hN', List.append_assoc]; rfl)
                have hF2 : Hid (F' ++ [] = leftL (L.take (i + 1)) ⟨3, ep⟩) := hide (by rw [left_snoc hx, OFF, unhide hF']; rfl)
                clear hx OFF

                rw [List.append_nil] at hF2
                go_wp2_with (at_builtin; refine wpList_app_nt rfl _ _ rfl (.slice na N'.length nc) N' rfl (((unhide HQ).n.next (allocB _ _)).next (allocB _ _) |>.lower (Nat.zero_le _)) (wr.heap.size + 1) rfl ⟨xs, 3, ep⟩ (one_newT2 wr _ ⟨xs, 3, ep⟩) hNl ?_)
                intro a3 c3 w3 ho3 hg3 hl3
                have HF3 := hide ((((unhide HQ).next (allocB _ _)).next (allocB _ _)).note hg3 ho3 (by simpa using hl3))
                clear ho3 hg3 hl3
                go_wp2_with fail
                go_roundg (L.length - (i + 1))
                case measure => omega
                case rel => exact ⟨i + 1, N' ++ [⟨xs, 3, ep⟩], F', a3, c3, fa, fc, rfl, by rw [List.length_append]; rfl, rfl, by omega, Nat.le_refl _, hN2, hF2, by rw [List.length_append]; exact HF3⟩
            · have hpb : (xp == ep) = false := by simpa using hp
              have OFF : offB ⟨xs, xk, xp⟩ ⟨3, ep⟩ = false := by simp [offB, hp]
              have hN2 : Hid (N' ++ [] = N ++ toldL (L.take (i + 1)) ⟨3, ep⟩) := hide (by rw [told_snoc hx, OFF, unhide hN', List.append_assoc]; rfl)
              have hF2 : Hid (F' ++ [⟨xs, xk, xp⟩] = leftL (L.take (i + 1)) ⟨3, ep⟩) := hide (by rw [left_snoc hx, OFF, unhide hF']; rfl)
              clear hx OFF

              rw [List.append_nil] at hN2
              go_wp2_with (at_builtin; refine wpList_app_wa rfl _ _ rfl (.slice fa F'.length fc) F' rfl (((unhide HQ).f.next (allocB _ _)).next (allocB _ _) |>.lower (Nat.zero_le _)) (wr.heap.size + 1) rfl ⟨xs, xk, xp⟩ (one_newW2 wr _ ⟨xs, xk, xp⟩) hFl ?_)
              intro a3 c3 w3 ho3 hg3 hl3
              have HF3 := hide ((((unhide HQ).next (allocB _ _)).next (allocB _ _)).left hg3 ho3 (by simpa using hl3))
              clear ho3 hg3 hl3
              go_wp2_with fail
              go_roundg (L.length - (i + 1))
              case measure => omega
              case rel => exact ⟨i + 1, N', F' ++ [⟨xs, xk, xp⟩], na, nc, a3, c3, rfl, rfl, by rw [List.length_append]; rfl, by omega, Nat.le_refl _, hN2, hF2, by rw [List.length_append]; exact HF3⟩
          by_cases h4 : ek = 4
          · subst h4
            by_cases hp : xp = ep
            · have hpb : (xp == ep) = true := by simpa using hp
              have HP := hide hp
              clear hp
              by_cases hk : xk = 2
              · subst hk
                have OFF : offB ⟨xs, 2, xp⟩ ⟨4, ep⟩ = true := by simp [offB, unhide HP]
                have hN2 : Hid (N' ++ [⟨xs, 4, ep⟩] = N ++ toldL (L.take (i + 1)) ⟨4, ep⟩) := hide (by rw [told_snoc hx, OFF, unhide hN', List.append_assoc]; rfl)
                have hF2 : Hid (F' ++ [] = leftL (L.take (i + 1)) ⟨4, ep⟩) := hide (by rw [left_snoc hx, OFF, unhide hF']; rfl)
                clear hx OFF

                rw [List.append_nil] at hF2
                go_wp2_with (at_builtin; refine wpList_app_nt rfl _ _ rfl (.slice na N'.length nc) N' rfl (((unhide HQ).n.next (allocB _ _)).next (allocB _ _) |>.lower (Nat.zero_le _)) (wr.heap.size + 1) rfl ⟨xs, 4, ep⟩ (one_newT2 wr _ ⟨xs, 4, ep⟩) hNl ?_)
                intro a3 c3 w3 ho3 hg3 hl3
                have HF3 := hide ((((unhide HQ).next (allocB _ _)).next (allocB _ _)).note hg3 ho3 (by simpa using hl3))
                clear ho3 hg3 hl3
                go_wp2_with fail
                go_roundg (L.length - (i + 1))
                case measure => omega
                case rel => exact ⟨i + 1, N' ++ [⟨xs, 4, ep⟩], F', a3, c3, fa, fc, rfl, by rw [List.length_append]; rfl, rfl, by omega, Nat.le_refl _, hN2, hF2, by rw [List.length_append]; exact HF3⟩
              · have hkb : (xk == 2) = false := by simpa using hk
                have hkn : (xk != 2) = true := by simpa using hk
                have OFF : offB ⟨xs, xk, xp⟩ ⟨4, ep⟩ = false := by simp [offB, unhide HP, hk]
                have hN2 : Hid (N' ++ [] = N ++ toldL (L.take (i + 1)) ⟨4, ep⟩) := hide (by rw [told_snoc hx, OFF, unhide hN', List.append_assoc]; rfl)
                have hF2 : Hid (F' ++ [⟨xs, xk, xp⟩] = leftL (L.take (i + 1)) ⟨4, ep⟩) := hide (by rw [left_snoc hx, OFF, unhide hF']; rfl)
                clear hx OFF

                rw [List.append_nil] at hN2
                go_wp2_with (at_builtin; refine wpList_app_wa rfl _ _ rfl (.slice fa F'.length fc) F' rfl (((unhide HQ).f.next (allocB _ _)).next (allocB _ _) |>.lower (Nat.zero_le _)) (wr.heap.size + 1) rfl ⟨xs, xk, xp⟩ (one_newW2 wr _ ⟨xs, xk, xp⟩) hFl ?_)
                intro a3 c3 w3 ho3 hg3 hl3
                have HF3 := hide ((((unhide HQ).next (allocB _ _)).next (allocB _ _)).left hg3 ho3 (by simpa using hl3))
                clear ho3 hg3 hl3
                go_wp2_with fail
                go_roundg (L.length - (i + 1))
                case measure => omega
                case rel => exact ⟨i + 1, N', F' ++ [⟨xs, xk, xp⟩], na, nc, a3, c3, rfl, rfl, by rw [List.length_append]; rfl, by omega, Nat.le_refl _, hN2, hF2, by rw [List.length_append]; exact HF3⟩
            · have hpb : (xp == ep) = false := by simpa using hp
              have OFF : offB ⟨xs, xk, xp⟩ ⟨4, ep⟩ = false := by simp [offB, hp]
              have hN2 : Hid (N' ++ [] = N ++ toldL (L.take (i + 1)) ⟨4, ep⟩) := hide (by rw [told_snoc hx, OFF, unhide hN', List.append_assoc]; rfl)
              have hF2 : Hid (F' ++ [⟨xs, xk, xp⟩] = leftL (L.take (i + 1)) ⟨4, ep⟩) := hide (by rw [left_snoc hx, OFF, unhide hF']; rfl)
              clear hx OFF

              rw [List.append_nil] at hN2
              go_wp2_with (at_builtin; refine wpList_app_wa rfl _ _ rfl (.slice fa F'.length fc) F' rfl (((unhide HQ).f.next (allocB _ _)).next (allocB _ _) |>.lower (Nat.zero_le _)) (wr.heap.size + 1) rfl ⟨xs, xk, xp⟩ (one_newW2 wr _ ⟨xs, xk, xp⟩) hFl ?_)
              intro a3 c3 w3 ho3 hg3 hl3
              have HF3 := hide ((((unhide HQ).next (allocB _ _)).next (allocB _ _)).left hg3 ho3 (by simpa using hl3))
              clear ho3 hg3 hl3
              go_wp2_with fail
              go_roundg (L.length - (i + 1))
              case measure => omega
              case rel => exact ⟨i + 1, N', F' ++ [⟨xs, xk, xp⟩], na, nc, a3, c3, rfl, rfl, by rw [List.length_append]; rfl, by omega, Nat.le_refl _, hN2, hF2, by rw [List.length_append]; exact HF3⟩
          have hb1 : (ek == 1) = false := by simpa using h1
          have hb2 : (ek == 2) = false := by simpa using h2
          have hb3 : (ek == 3) = false := by simpa using h3
          have hb4 : (ek == 4) = false := by simpa using h4
          by_cases hp : xp = ep
          · have hpb : (xp == ep) = true := by simpa using hp
            have HP := hide hp
            clear hp
            by_cases hk : xk = 2
            · subst hk
              have OFF : offB ⟨xs, 2, xp⟩ ⟨ek, ep⟩ = false := by simp [offB, unhide HP, h2, h4]
              have hN2 : Hid (N' ++ [] = N ++ toldL (L.take (i + 1)) ⟨ek, ep⟩) := hide (by rw [told_snoc hx, OFF, unhide hN', List.append_assoc]; rfl)
              have hF2 : Hid (F' ++ [⟨xs, 2, xp⟩] = leftL (L.take (i + 1)) ⟨ek, ep⟩) := hide (by rw [left_snoc hx, OFF, unhide hF']; rfl)
              clear hx OFF

              rw [List.append_nil] at hN2
              go_wp2_with (at_builtin; refine wpList_app_wa rfl _ _ rfl (.slice fa F'.length fc) F' rfl (((unhide HQ).f.next (allocB _ _)).next (allocB _ _) |>.lower (Nat.zero_le _)) (wr.heap.size + 1) rfl ⟨xs, 2, xp⟩ (one_newW2 wr _ ⟨xs, 2, xp⟩) hFl ?_)
              intro a3 c3 w3 ho3 hg3 hl3
              have HF3 := hide ((((unhide HQ).next (allocB _ _)).next (allocB _ _)).left hg3 ho3 (by simpa using hl3))
              clear ho3 hg3 hl3
              go_wp2_with fail
              go_roundg (L.length - (i + 1))
              case measure => omega
              case rel => exact ⟨i + 1, N', F' ++ [⟨xs, 2, xp⟩], na, nc, a3, c3, rfl, rfl, by rw [List.length_append]; rfl, by omega, Nat.le_refl _, hN2, hF2, by rw [List.length_append]; exact HF3⟩
            · have hkb : (xk == 2) = false := by simpa using hk
              have hkn : (xk != 2) = true := by simpa using hk
              have OFF : offB ⟨xs, xk, xp⟩ ⟨ek, ep⟩ = false := by simp [offB, unhide HP, hk, h1, h2, h3]
              have hN2 : Hid (N' ++ [] = N ++ toldL (L.take (i + 1)) ⟨ek, ep⟩) := hide (by rw [told_snoc hx, OFF, unhide hN', List.append_assoc]; rfl)
              have hF2 : Hid (F' ++ [⟨xs, xk, xp⟩] = leftL (L.take (i + 1)) ⟨ek, ep⟩) := hide (by rw [left_snoc hx, OFF, unhide hF']; rfl)
              clear hx OFF

              rw [List.append_nil] at hN2
              go_wp2_with (at_builtin; refine wpList_app_wa rfl _ _ rfl (.slice fa F'.length fc) F' rfl (((unhide HQ).f.next (allocB _ _)).next (allocB _ _) |>.lower (Nat.zero_le _)) (wr.heap.size + 1) rfl ⟨xs, xk, xp⟩ (one_newW2 wr _ ⟨xs, xk, xp⟩) hFl ?_)
              intro a3 c3 w3 ho3 hg3 hl3
              have HF3 := hide ((((unhide HQ).next (allocB _ _)).next (allocB _ _)).left hg3 ho3 (by simpa using hl3))
              clear ho3 hg3 hl3
              go_wp2_with fail
              go_roundg (L.length - (i + 1))
              case measure => omega
              case rel => exact ⟨i + 1, N', F' ++ [⟨xs, xk, xp⟩], na, nc, a3, c3, rfl, rfl, by rw [List.length_append]; rfl, by omega, Nat.le_refl _, hN2, hF2, by rw [List.length_append]; exact HF3⟩
          · have hpb : (xp == ep) = false := by simpa using hp
            have OFF : offB ⟨xs, xk, xp⟩ ⟨ek, ep⟩ = false := by simp [offB, hp]
            have hN2 : Hid (N' ++ [] = N ++ toldL (L.take (i + 1)) ⟨ek, ep⟩) := hide (by rw [told_snoc hx, OFF, unhide hN', List.append_assoc]; rfl)
            have hF2 : Hid (F' ++ [⟨xs, xk, xp⟩] = leftL (L.take (i + 1)) ⟨ek, ep⟩) := hide (by rw [left_snoc hx, OFF, unhide hF']; rfl)
            clear hx OFF

            rw [List.append_nil] at hN2
            go_wp2_with (at_builtin; refine wpList_app_wa rfl _ _ rfl (.slice fa F'.length fc) F' rfl (((unhide HQ).f.next (allocB _ _)).next (allocB _ _) |>.lower (Nat.zero_le _)) (wr.heap.size + 1) rfl ⟨xs, xk, xp⟩ (one_newW2 wr _ ⟨xs, xk, xp⟩) hFl ?_)
            intro a3 c3 w3 ho3 hg3 hl3
            have HF3 := hide ((((unhide HQ).next (allocB _ _)).next (allocB _ _)).left hg3 ho3 (by simpa using hl3))
            clear ho3 hg3 hl3
            go_wp2_with fail
            go_roundg (L.length - (i + 1))
            case measure => omega
            case rel => exact ⟨i + 1, N', F' ++ [⟨xs, xk, xp⟩], na, nc, a3, c3, rfl, rfl, by rw [List.length_append]; rfl, by omega, Nat.le_refl _, hN2, hF2, by rw [List.length_append]; exact HF3⟩
        · obtain rfl : i = L.length := by omega
          have hN2 := unhide hN'
          have hF2 := unhide hF'
          rw [List.take_length] at hN2 hF2
          have HN3 : Hid (fireN ws (es.take (k + 1)) = N') := hide (by rw [unhide HTN, hN2])
          have HF3 : Hid (fireW ws (es.take (k + 1)) = F') := hide (by rw [unhide HTW, hF2])
          have HS3 := hide (unhide HQ).f.seq
          have HAP := hide (fun (_ : F' ≠ []) b (h : (Value.slice fa F'.length fc).ownBlock = some b) (h' : (Value.slice na N'.length nc).ownBlock = some b) => ((unhide HQ).nf b h').1 h)
          have HNO := hide (unhide HQ).n
          have HBB := hide (unhide HQ).b
          clear hN2 hF2 hN' hF' HQ
          go_wp2_with fail
          go_roundg (es.length - (k + 1))
          case measure => omega
          case rel => exact ⟨k + 1, N', F', fa, fc, na, nc, rfl, rfl, rfl, by omega, Nat.le_refl _, HN3, HF3, HS3, HAP, HNO, HBB⟩
    · obtain rfl : k = es.length := by omega
      have hN2 := unhide hN
      have hL2 := unhide hL
      rw [List.take_length] at hN2 hL2
      have HN3 := hide hN2
      have HL3 := hide hL2
      have hLl : (0 + L.length) * 32 ≤ 140737488355328 := by omega
      clear hN2 hL2 hN hL
      go_wp2_with (at_builtin; refine wpList_app_was rfl _ _ rfl (.slice none 0 0) (.slice la L.length lc) [] L wr.heap.size rfl (.inl ⟨rfl, rfl⟩) (Nat.le_refl _) rfl (unhide hS) hLl ?_)
      intro a2 c2 w2 ho2 hg2
      have hb2 : Below wr.heap.size wr w2 := grownO hg2 _ (Nat.le_refl _) (by intro k hk; cases hk)
      have HB2 := hide (nnext (unhide hB) hb2)
      have HN2 := hide ((unhide hO).next hb2)
      have HA2 := hide (ho2.lower (unhide hB).size)
      clear ho2 hg2 hb2
      try simp only [List.length_nil, Nat.zero_add, List.nil_append] at HA2
      try simp only [List.length_nil, Nat.zero_add]
      go_wp2_with fail
      go_ret2
      exact ⟨_, _, rfl, by rw [unhide HN3]; exact unhide HN2, by rw [unhide HL3]; exact unhide HA2, unhide HB2⟩

end Go.Proofs.YtfejpbkapikdiaaGreatDoor

namespace Go.Proofs.YtfejpbkapikdiaaGreatDoor
open Go.RowKit

set_option maxRecDepth 10000 in
set_option maxHeartbeats 8000000 in
theorem rcommit_run (s : Sv) (v : Value) (dN nN k : Nat) (xs : List WTxn) (w : World) (hv : SvV w v s) (hf : Fits s) (hdn : s.dn = dN) (h1 : dN ≤ nN) (h2 : nN ≤ s.ts.length) (hxs : xs = (s.ts.drop dN).take (nN - dN)) (hC : Chn s xs k) (hA : CArg s xs) :
    Calls Tryz.prog 6 #[v, .int .i64 nN] w fun e w' => (k = xs.length → GivesCm w ⟨(csP s xs k).1.up, (csP s xs k).1.fs, (csP s xs k).1.id, (csP s xs k).1.ep, (csP s xs k).1.ts, nN, (csP s xs k).1.tr, (csP s xs k).1.ws⟩ (csP s xs k).2 0 e w') ∧ (∀ x, xs[k]? = some x → GivesCm w sv0 [] (appE (csP s xs k).1.tr x) e w') := by
  have CC := hide (fun W (hW : Below w.heap.size w W) => rcopyS_any s v W (hv.next hW) hf)
  obtain ⟨ad, nd, cd, al, cl, an, cn, ai, ci, aw, cw, rfl, d1, l1, n1, s1, k1⟩ := hv.five
  have hxl : xs.length = nN - dN := by rw [hxs]; simp; omega
  have hll : s.ts.length * 72 ≤ 140737488355328 := hf.l
  have HC := hide hC
  have HA := hide hA
  have HXS := hide hxs
  have hkl := hC.le
  clear hv d1 l1 n1 s1 k1 hxs hC hA hf
  have hdi : ¬ s.dn < 0 := by omega
  have hni : ¬ (nN : Int) < s.dn := by omega
  have HDN := hide hdn
  clear hdn
  have hnl : ¬ (nN : Int) > (s.ts.length : Int) := by omega
  go_enter Tryz.func6, Tryz.ntmps6
  go_upto_region 1 with fail
  have X1 := hide (CB.start w s.up s.id s.ep s.dn s.tr.z (.slice ad nd cd) (.slice al s.ts.length cl) (.slice an s.tr.ns.length cn) (.slice ai s.tr.ss.length ci) (.slice aw s.ws.length cw))
  generalize (w.alloc (.cells #[.bool s.up, .slice ad nd cd, .int .i64 s.id, .int .i64 s.ep, .slice al s.ts.length cl, .int .i64 s.dn, .int .i64 s.tr.z, .slice an s.tr.ns.length cn, .slice ai s.tr.ss.length ci, .slice aw s.ws.length cw] 34)).alloc (.cells #[.bool false, .slice none 0 0, .int .i64 0, .int .i64 0, .slice none 0 0, .int .i64 0, .int .i64 0, .slice none 0 0, .slice none 0 0, .slice none 0 0] 34) = W1 at *
  obtain ⟨x0, x1, x2, x3, x4, x5, x6, x7, x8, x9⟩ := (unhide X1).s.cells
  go_upto_region 3 with fail
  go_wp2_with fail
  with_reducible refine (unhide CC _ (unhide X1).below).mono ?_
  rintro e w1 ⟨bd, md, fd, bl, fl, bn, fn, bi, fi, bw, fw, B1, B2, rfl, g1, g2, od, hd1, ol, hl2, on, oi, ow, hb1⟩
  have RI0 := hide (ri_start (unhide X1) g1 g2 od ol on oi ow hb1)
  unfold Go.Proofs.YtfejpbkapikdiaaGreatDoor.put10 at RI0
  clear x0 x1 x2 x3 x4 x5 x6 x7 x8 x9
  have Y1 := (unhide X1).next hb1
  obtain ⟨x0, x1, x2, x3, x4, x5, x6, x7, x8, x9⟩ := Y1.s.cells
  have xf0 := Y1.s.froz 0
  have xf1 := Y1.s.froz 1
  have xf2 := Y1.s.froz 2
  have xf3 := Y1.s.froz 3
  have xf4 := Y1.s.froz 4
  have xf5 := Y1.s.froz 5
  have xf6 := Y1.s.froz 6
  have xf7 := Y1.s.froz 7
  have xf8 := Y1.s.froz 8
  have xf9 := Y1.s.froz 9
  clear g1 g2 od hd1 ol hl2 on oi ow hb1 X1 CC Y1
  go_upto_region 4 with fail
  generalize (((((((((w1.setCell ⟨w.heap.size, 0, none⟩ (.bool s.up)).setCell ⟨w.heap.size, 1, none⟩ (.slice bd md fd)).setCell ⟨w.heap.size, 2, none⟩ (.int .i64 s.id)).setCell ⟨w.heap.size, 3, none⟩ (.int .i64 s.ep)).setCell ⟨w.heap.size, 4, none⟩ (.slice bl s.ts.length fl)).setCell ⟨w.heap.size, 5, none⟩ (.int .i64 s.dn)).setCell ⟨w.heap.size, 6, none⟩ (.int .i64 s.tr.z)).setCell ⟨w.heap.size, 7, none⟩ (.slice bn s.tr.ns.length fn)).setCell ⟨w.heap.size, 8, none⟩ (.slice bi s.tr.ss.length fi)).setCell ⟨w.heap.size, 9, none⟩ (.slice bw s.ws.length fw) = W2 at *
  clear x0 x1 x2 x3 x4 x5 x6 x7 x8 x9 xf0 xf1 xf2 xf3 xf4 xf5 xf6 xf7 xf8 xf9
  clear hdi hni hnl
  go_wp2_with fail
  go_loopg [7] xs.length (fun kx s7 wr => ∃ i m : Nat, m = dN + i ∧ i ≤ k ∧ xs.length - i ≤ kx ∧ ∃ aN cN, s7 = .slice aN (csP s xs i).2.length cN ∧ Hid (∃ ad nd cd al cl an cn ai ci aw cw, RI w wr (csP s xs i).1 (m : Int) (csP s xs i).2 (.slice ad nd cd) (.slice al (csP s xs i).1.ts.length cl) (.slice an (csP s xs i).1.tr.ns.length cn) (.slice ai (csP s xs i).1.tr.ss.length ci) (.slice aw (csP s xs i).1.ws.length cw) (.slice aN (csP s xs i).2.length cN)))
  case atStart => exact ⟨0, dN, rfl, Nat.zero_le _, Nat.le_refl _, none, 0, by rw [csP_zero]; rfl, hide (by rw [csP_zero, ← unhide HDN]; exact ⟨_, _, _, _, _, _, _, _, _, _, _, unhide RI0⟩)⟩
  case round =>
    obtain ⟨i, m, hm, hi, hgi, aN, cN, rfl, HI⟩ := hrel
    clear RI0
    obtain ⟨ead, eend, ecd, eal, ecl, ean, ecn, eai, eci, eaw, ecw, hri⟩ := unhide HI
    obtain ⟨S, NN, hc⟩ : ∃ S NN, csP s xs i = (S, NN) := ⟨_, _, rfl⟩
    have hts : S.ts = s.ts := by have := (chn_at (unhide HA).base (unhide HC) i hi).2.2.2.2.2.1; rw [hc] at this; exact this
    rw [hc] at hri
    rw [hc]
    clear HI
    simp only at hri ⊢
    by_cases hlt : i < xs.length
    · obtain ⟨x, hx⟩ : ∃ x, xs[i]? = some x := ⟨_, List.getElem?_eq_getElem hlt⟩
      have hx' : S.ts[m]? = some x := by rw [hts, hm]; have h9 := hx; rw [unhide HXS] at h9; exact (log_at h9).1
      obtain ⟨b, o, c, he, hb, q, hq9⟩ := log_row (seq_log.1 hri.l.seq) hx'
      simp only [Value.slice.injEq] at he
      obtain ⟨rfl, he2, rfl⟩ := he
      clear he2
      have hml : m < S.ts.length := hq9.1
      have hmi : (m : Int) < (S.ts.length : Int) := by omega
      clear hq9
      have e0 := q.z hx'
      have e1 := q.o hx'
      have e2 := q.s hx'
      have e3 := q.p hx'
      have e4 := q.d hx'
      have e5 := q.v hx'
      have e6 := q.w hx'
      have hmn : (m : Int) < (nN : Int) := by omega
      have hm63 : m ≤ 1000000000000000 := by rw [hts] at hml; omega
      have hal := allocB wr (.cells #[.int .i64 x.z, .int .i64 x.o, .int .i64 x.s, .string ⟨x.p.toArray⟩, .string ⟨x.d.toArray⟩, .int .i64 x.v, .int .i64 x.w] 45)
      have HR1 := hide (hri.next hal)
      have hT1 := TAt.new wr x
      have HX := hide hx
      have har := chn_args (unhide HA) (unhide HC) hi hx
      have hft := chn_fit (unhide HA).base (unhide HC) hi hx
      rw [hc] at har hft
      simp only at har hft
      have CA := hide (fun vn vs V (h2 : SeqV V vn S.tr.ns) (h3 : SeqV V vs S.tr.ss) => rapply_any S.tr x vn vs V h2 h3 har.1 har.2)
      have CFi := hide (fun v u V (h2 : SeqV V v S.ws) (h3 : SeqV V u (appV S.tr x)) => rfire_any v u S.ws (appV S.tr x) V h2 h3 hft.wl (by have := (app_short S.tr x).2.2; omega))
      have hfl := fire_len (appV S.tr x) S.ws
      have CD := hide (fun v V (h2 : SeqV V v (fireW S.ws (appV S.tr x))) => rdrop_any v x.s (fireW S.ws (appV S.tr x)) V h2 (by have := hft.wl; omega))
      have HNL : Hid ((NN.length + (fireN S.ws (appV S.tr x)).length) * 32 ≤ 140737488355328) := hide (by have := hft.nl; omega)
      have HSW : Hid ((x.o = 2 → stepW S x = dropW (fireW S.ws (appV S.tr x)) x.s) ∧ (x.o ≠ 2 → stepW S x = fireW S.ws (appV S.tr x))) := hide ⟨fun e => by simp [stepW, e], fun e => by simp [stepW, e]⟩
      have HN : Hid (csP s xs (i + 1) = (⟨S.up, S.fs, S.id, S.ep, S.ts, S.dn, appT S.tr x, stepW S x⟩, NN ++ fireN S.ws (appV S.tr x))) := hide (by rw [csP_succ hx, hc]; rfl)
      have HOK : Hid (i < k → appE S.tr x = 0) := hide (fun h => by have := (unhide HC).ok i x h hx; rw [hc] at this; exact this)
      have HST : Hid (i = k → appE S.tr x ≠ 0) := hide (fun h => by have := (unhide HC).stop x (h ▸ hx); rw [← h, hc] at this; exact this)
      have HEQ : Hid (∀ x', xs[i]? = some x' → appE S.tr x' = appE S.tr x) := hide (fun x' h => by rw [hx] at h; cases h; rfl)
      have hk0 : w.heap.size + 2 ≤ wr.heap.size := hri.b.lt
      have HCC := hide hc
      have HHM := hide hm
      unfold GivesR at CA
      obtain ⟨x0, x1, x2, x3, x4, x5, x6, x7, x8, x9⟩ := hri.b.s.cells
      clear q hb hx hx' hal hri har hft hfl hc hts hm
      generalize appE S.tr x = E at *
      generalize appT S.tr x = T at *
      generalize appV S.tr x = V at *
      generalize stepW S x = SW at *
      have t0 := hT1.c0
      have t1 := hT1.c1
      have t2 := hT1.c2
      have t3 := hT1.c3
      have t4 := hT1.c4
      have t5 := hT1.c5
      have t6 := hT1.c6
      have HT1 := hide hT1
      clear hT1
      obtain ⟨z, op, u, p, d, y, vv⟩ := x
      unfold txnV at CA
      simp only at e0 e1 e2 e3 e4 e5 e6 t0 t1 t2 t3 t4 t5 t6 CA HSW HR1 CD
      go_upto_region 7 with fail
      generalize wr.alloc (.cells #[.int .i64 z, .int .i64 op, .int .i64 u, .string ⟨p.toArray⟩, .string ⟨d.toArray⟩, .int .i64 y, .int .i64 vv] 45) = W6 at *
      generalize wr.heap.size = kx at *
      clear e0 e1 e2 e3 e4 e5 e6 x0 x1 x2 x3 x4 x5 x6 x7 x8 x9
      obtain ⟨x0, x1, x2, x3, x4, x5, x6, x7, x8, x9⟩ := (unhide HR1).b.s.cells
      have hkw : kx ≠ w.heap.size := by omega
      have hkw' : w.heap.size ≠ kx := by omega
      go_wp2_with fail
      refine (unhide CA _ _ _ (unhide HR1).n.seq (unhide HR1).i.seq).mono ?_
      rintro e w7 ⟨vn2, vs2, ve2, rfl, on2, oi2, oe2, hb2⟩
      obtain ⟨bn2, fn2, rfl⟩ := own_slice' on2
      obtain ⟨bi2, fi2, rfl⟩ := own_slice' oi2
      obtain ⟨be2, fe2, rfl⟩ := own_slice' oe2
      have hal := allocB w7 (.cells #[.int .i64 T.z, .slice bn2 T.ns.length fn2, .slice bi2 T.ss.length fi2] 31)
      have hz1 := (unhide HR1).b.below.size
      have hz2 : w.heap.size + 2 ≤ w7.heap.size := ((unhide HR1).b.next hb2).lt
      have HR2 := hide (((unhide HR1).next hb2).next hal)
      have HT2 := hide (((unhide HT1).next hb2).next hal)
      have HON := hide ((on2.next hal).lower hz1)
      have HOI := hide ((oi2.next hal).lower hz1)
      have HOE := hide (oe2.next hal)
      have HTB : Hid ((w7.alloc (.cells #[.int .i64 T.z, .slice bn2 T.ns.length fn2, .slice bi2 T.ss.length fi2] 31)).heap[w7.heap.size]? = some (.cells #[.int .i64 T.z, .slice bn2 T.ns.length fn2, .slice bi2 T.ss.length fi2] 31 (0, 0))) := hide (heap_alloc_new w7 _)
      clear on2 oi2 oe2 hb2 hal hz1 HR1 HT1 CA x0 x1 x2 x3 x4 x5 x6 x7 x8 x9 t0 t1 t2 t3 t4 t5 t6
      go_upto_region 8 with fail
      generalize w7.alloc (.cells #[.int .i64 T.z, .slice bn2 T.ns.length fn2, .slice bi2 T.ss.length fi2] 31) = W8 at *
      generalize w7.heap.size = kt at *
      have hkt : kt ≠ w.heap.size := by omega
      have hkt' : w.heap.size ≠ kt := by omega
      by_cases hik : i < k
      · obtain rfl : E = 0 := unhide HOK hik
        obtain ⟨x0, x1, x2, x3, x4, x5, x6, x7, x8, x9⟩ := (unhide HR2).b.s.cells
        go_wp2_with fail
        refine (unhide CFi _ _ _ (unhide HR2).o.seq (unhide HOE).seq).mono ?_
        rintro e w9 ⟨vn3, vl3, rfl, on3, ol3, hb3⟩
        obtain ⟨bN, fN, rfl⟩ := own_slice' on3
        obtain ⟨bW, fW, rfl⟩ := own_slice' ol3
        have hz3 := (unhide HR2).b.below.size
        have hR3 := (unhide HR2).next hb3
        have HR3 := hide (hR3.watch (ol3.lower hz3))
        have HON3 := hide (own_setB (j := 9) ((unhide HON).next hb3) hR3.b.s (by decide) (.slice bW (fireW S.ws V).length fW))
        have HOI3 := hide (own_setB (j := 9) ((unhide HOI).next hb3) hR3.b.s (by decide) (.slice bW (fireW S.ws V).length fW))
        have HNT3 := hide (own_setB (j := 9) (on3.lower hz3) hR3.b.s (by decide) (.slice bW (fireW S.ws V).length fW))
        have HT3 : Hid (TAt (w9.setCell ⟨w.heap.size, 9, none⟩ (.slice bW (fireW S.ws V).length fW)) kx ⟨z, op, u, p, d, y, vv⟩) := hide ((Below.heap_setCell _ _ _ _ hkw).trans ((unhide HT2).next hb3))
        have HTB3 := hide ((Below.heap_setCell w9 ⟨w.heap.size, 9, none⟩ (.slice bW (fireW S.ws V).length fW) kt hkt).trans ((hb3.block kt (Array.getElem?_eq_some_iff.1 (unhide HTB)).1).trans (unhide HTB)))
        clear x0 x1 x2 x3 x4 x5 x6 x7 x8 x9
        obtain ⟨x0, x1, x2, x3, x4, x5, x6, x7, x8, x9⟩ := hR3.b.s.cells
        have xf9 := hR3.b.s.froz 9
        clear hR3 on3 ol3 hb3 hz3 HR2 HON HOI HT2 HTB HOE CFi
        go_upto_region 12 with fail
        generalize w9.setCell ⟨w.heap.size, 9, none⟩ (.slice bW (fireW S.ws V).length fW) = W10 at *
        clear x0 x1 x2 x3 x4 x5 x6 x7 x8 x9 xf9
        have t1 := (unhide HT3).c1
        have t2 := (unhide HT3).c2
        simp only at t1 t2
        by_cases ho : op = 2
        · have hsw := (unhide HSW).1 ho
          subst hsw
          subst ho
          have x9 := (unhide HR3).b.s.cells.2.2.2.2.2.2.2.2.2
          go_wp2_with fail
          refine (unhide CD _ _ (unhide HR3).o.seq).mono ?_
          rintro e w11 ⟨vl4, rfl, ol4, hb4⟩
          obtain ⟨bV, fV, rfl⟩ := own_slice' ol4
          have hz4 := (unhide HR3).b.below.size
          have hR4 := (unhide HR3).next hb4
          have HRX := hide (hR4.watch (ol4.lower hz4))
          have HONX := hide (own_setB (j := 9) ((unhide HON3).next hb4) hR4.b.s (by decide) (.slice bV (dropW (fireW S.ws V) u).length fV))
          have HOIX := hide (own_setB (j := 9) ((unhide HOI3).next hb4) hR4.b.s (by decide) (.slice bV (dropW (fireW S.ws V) u).length fV))
          have HNTX := hide (own_setB (j := 9) ((unhide HNT3).next hb4) hR4.b.s (by decide) (.slice bV (dropW (fireW S.ws V) u).length fV))
          have HTBX := hide ((Below.heap_setCell w11 ⟨w.heap.size, 9, none⟩ (.slice bV (dropW (fireW S.ws V) u).length fV) kt hkt).trans ((hb4.block kt (Array.getElem?_eq_some_iff.1 (unhide HTB3)).1).trans (unhide HTB3)))
          clear x9
          have x9 := hR4.b.s.cells.2.2.2.2.2.2.2.2.2
          have xf9 := hR4.b.s.froz 9
          clear hR4 ol4 hb4 hz4 HR3 HON3 HOI3 HTB3 HNT3 HT3 CD t1 t2
          go_upto_region 14 with fail
          generalize w11.setCell ⟨w.heap.size, 9, none⟩ (.slice bV (dropW (fireW S.ws V) u).length fV) = W13 at *
          clear x9 xf9
          have HTR := hide ((unhide HRX).tree (t' := T) (vn' := .slice bn2 T.ns.length fn2) (vs' := .slice bi2 T.ss.length fi2) (unhide HONX) (unhide HOIX))
          have HNT2 := hide (own_setB (j := 8) (own_setB (j := 7) (own_setB (j := 6) (unhide HNTX) (unhide HRX).b.s (by decide) (.int .i64 T.z)) (show Box10 (W13.setCell ⟨w.heap.size, 6, none⟩ (.int .i64 T.z)) w.heap.size S.up _ S.id S.ep _ _ T.z _ _ _ from block_set (j := 6) _ (unhide HRX).b.s) (by decide) (.slice bn2 T.ns.length fn2)) (show Box10 ((W13.setCell ⟨w.heap.size, 6, none⟩ (.int .i64 T.z)).setCell ⟨w.heap.size, 7, none⟩ (.slice bn2 T.ns.length fn2)) w.heap.size S.up _ S.id S.ep _ _ T.z _ _ _ from block_set (j := 7) _ (block_set (j := 6) _ (unhide HRX).b.s)) (by decide) (.slice bi2 T.ss.length fi2))
          obtain ⟨x0, x1, x2, x3, x4, x5, x6, x7, x8, x9⟩ := (unhide HRX).b.s.cells
          have xf6 := (unhide HRX).b.s.froz 6
          have xf7 := (unhide HRX).b.s.froz 7
          have xf8 := (unhide HRX).b.s.froz 8
          have k0 : W13.cell? ⟨kt, 0, none⟩ = some (.int .i64 T.z) := by simp [World.cell?, unhide HTBX]
          have k1 : W13.cell? ⟨kt, 1, none⟩ = some (.slice bn2 T.ns.length fn2) := by simp [World.cell?, unhide HTBX]
          have k2 : W13.cell? ⟨kt, 2, none⟩ = some (.slice bi2 T.ss.length fi2) := by simp [World.cell?, unhide HTBX]
          go_upto_region 15 with fail
          generalize ((W13.setCell ⟨w.heap.size, 6, none⟩ (.int .i64 T.z)).setCell ⟨w.heap.size, 7, none⟩ (.slice bn2 T.ns.length fn2)).setCell ⟨w.heap.size, 8, none⟩ (.slice bi2 T.ss.length fi2) = W14 at *
          clear x0 x1 x2 x3 x4 x5 x6 x7 x8 x9 xf6 xf7 xf8 k0 k1 k2 HRX HONX HOIX HNTX HTBX
          have HDN := hide ((unhide HTR).done ((m : Int) + 1))
          have HNT3 := hide (own_setB (j := 5) (unhide HNT2) (unhide HTR).b.s (by decide) (.int .i64 ((m : Int) + 1)))
          have x5 := (unhide HTR).b.s.cells.2.2.2.2.2.1
          have xf5 := (unhide HTR).b.s.froz 5
          go_upto_region 16 with fail
          generalize W14.setCell ⟨w.heap.size, 5, none⟩ (.int .i64 ((m : Int) + 1)) = W15 at *
          clear x5 xf5 HTR HNT2
          go_wp2_with (at_builtin; refine wpList_notes rfl _ _ rfl w.heap.size w.heap.size (.slice aN NN.length cN) _ NN (fireN S.ws V) rfl rfl (unhide HDN).t (unhide HNT3) (unhide HNL) (unhide HDN).b.below.size ?_)
          intro a6 c6 w6 ho6 hg6
          have HFI := hide ((unhide HDN).note hg6 ho6)
          clear ho6 hg6 HDN HNT3
          go_wp2_with fail
          go_roundg (xs.length - (i + 1))
          case measure => omega
          case rel =>
            refine ⟨i + 1, m + 1, by have := unhide HHM; omega, by omega, Nat.le_refl _, a6, c6, by rw [unhide HN]; first | rfl | simp, hide ?_⟩
            rw [unhide HN, show ((m + 1 : Nat) : Int) = (m : Int) + 1 from rfl]
            simp only [List.length_append]
            exact ⟨_, _, _, _, _, _, _, _, _, _, _, unhide HFI⟩
        · have hsw := (unhide HSW).2 ho
          subst hsw
          have HRX := HR3
          have HONX := HON3
          have HOIX := HOI3
          have HTBX := HTB3
          have HNTX := HNT3
          clear HR3 HON3 HOI3 HTB3 HNT3 HT3 CD
          go_upto_region 14 with fail
          clear t1 t2
          have HTR := hide ((unhide HRX).tree (t' := T) (vn' := .slice bn2 T.ns.length fn2) (vs' := .slice bi2 T.ss.length fi2) (unhide HONX) (unhide HOIX))
          have HNT2 := hide (own_setB (j := 8) (own_setB (j := 7) (own_setB (j := 6) (unhide HNTX) (unhide HRX).b.s (by decide) (.int .i64 T.z)) (show Box10 (W10.setCell ⟨w.heap.size, 6, none⟩ (.int .i64 T.z)) w.heap.size S.up _ S.id S.ep _ _ T.z _ _ _ from block_set (j := 6) _ (unhide HRX).b.s) (by decide) (.slice bn2 T.ns.length fn2)) (show Box10 ((W10.setCell ⟨w.heap.size, 6, none⟩ (.int .i64 T.z)).setCell ⟨w.heap.size, 7, none⟩ (.slice bn2 T.ns.length fn2)) w.heap.size S.up _ S.id S.ep _ _ T.z _ _ _ from block_set (j := 7) _ (block_set (j := 6) _ (unhide HRX).b.s)) (by decide) (.slice bi2 T.ss.length fi2))
          obtain ⟨x0, x1, x2, x3, x4, x5, x6, x7, x8, x9⟩ := (unhide HRX).b.s.cells
          have xf6 := (unhide HRX).b.s.froz 6
          have xf7 := (unhide HRX).b.s.froz 7
          have xf8 := (unhide HRX).b.s.froz 8
          have k0 : W10.cell? ⟨kt, 0, none⟩ = some (.int .i64 T.z) := by simp [World.cell?, unhide HTBX]
          have k1 : W10.cell? ⟨kt, 1, none⟩ = some (.slice bn2 T.ns.length fn2) := by simp [World.cell?, unhide HTBX]
          have k2 : W10.cell? ⟨kt, 2, none⟩ = some (.slice bi2 T.ss.length fi2) := by simp [World.cell?, unhide HTBX]
          go_upto_region 15 with fail
          generalize ((W10.setCell ⟨w.heap.size, 6, none⟩ (.int .i64 T.z)).setCell ⟨w.heap.size, 7, none⟩ (.slice bn2 T.ns.length fn2)).setCell ⟨w.heap.size, 8, none⟩ (.slice bi2 T.ss.length fi2) = W14 at *
          clear x0 x1 x2 x3 x4 x5 x6 x7 x8 x9 xf6 xf7 xf8 k0 k1 k2 HRX HONX HOIX HNTX HTBX
          have HDN := hide ((unhide HTR).done ((m : Int) + 1))
          have HNT3 := hide (own_setB (j := 5) (unhide HNT2) (unhide HTR).b.s (by decide) (.int .i64 ((m : Int) + 1)))
          have x5 := (unhide HTR).b.s.cells.2.2.2.2.2.1
          have xf5 := (unhide HTR).b.s.froz 5
          go_upto_region 16 with fail
          generalize W14.setCell ⟨w.heap.size, 5, none⟩ (.int .i64 ((m : Int) + 1)) = W15 at *
          clear x5 xf5 HTR HNT2
          go_wp2_with (at_builtin; refine wpList_notes rfl _ _ rfl w.heap.size w.heap.size (.slice aN NN.length cN) _ NN (fireN S.ws V) rfl rfl (unhide HDN).t (unhide HNT3) (unhide HNL) (unhide HDN).b.below.size ?_)
          intro a6 c6 w6 ho6 hg6
          have HFI := hide ((unhide HDN).note hg6 ho6)
          clear ho6 hg6 HDN HNT3
          go_wp2_with fail
          go_roundg (xs.length - (i + 1))
          case measure => omega
          case rel =>
            refine ⟨i + 1, m + 1, by have := unhide HHM; omega, by omega, Nat.le_refl _, a6, c6, by rw [unhide HN]; first | rfl | simp, hide ?_⟩
            rw [unhide HN, show ((m + 1 : Nat) : Int) = (m : Int) + 1 from rfl]
            simp only [List.length_append]
            exact ⟨_, _, _, _, _, _, _, _, _, _, _, unhide HFI⟩
      · obtain rfl : i = k := by omega
        have hE0 := unhide HST rfl
        have HBw := hide (zero_put (unhide HR2).b.below (show w.heap.size ≤ w.heap.size + 1 by omega))
        unfold put10 at HBw
        obtain ⟨r0, r1, r2, r3, r4, r5, r6, r7, r8, r9⟩ := (unhide HR2).b.r.cells
        have rf0 := (unhide HR2).b.r.froz 0
        have rf1 := (unhide HR2).b.r.froz 1
        have rf2 := (unhide HR2).b.r.froz 2
        have rf3 := (unhide HR2).b.r.froz 3
        have rf4 := (unhide HR2).b.r.froz 4
        have rf5 := (unhide HR2).b.r.froz 5
        have rf6 := (unhide HR2).b.r.froz 6
        have rf7 := (unhide HR2).b.r.froz 7
        have rf8 := (unhide HR2).b.r.froz 8
        have rf9 := (unhide HR2).b.r.froz 9
        clear HR2
        go_wp2_with fail
        refine bodyPost_ret (v := .tuple #[.agg #[.bool false, .slice none 0 0, .int .i64 0, .int .i64 0, .slice none 0 0, .int .i64 0, .int .i64 0, .slice none 0 0, .slice none 0 0, .slice none 0 0], .slice none 0 0, .int .i64 E]) (by simp [results, Tryz.results6, go_sem, r0, r1, r2, r3, r4, r5, r6, r7, r8, r9]) rfl ?_
        refine ⟨fun h => by omega, fun x' hx' => ?_⟩
        rw [unhide HCC]
        rw [unhide HEQ x' hx']
        exact givesCm_no rfl (unhide HBw)
    · obtain rfl : i = k := by omega
      have hik : i = xs.length := by omega
      have hmn : m = nN := by omega
      subst hmn
      have HRE := hide hri
      have HOUT := hide (hri.out (.bool S.up) (.slice ead eend ecd) (.int .i64 S.id) (.int .i64 S.ep) (.slice eal S.ts.length ecl) (.int .i64 m) (.int .i64 S.tr.z) (.slice ean S.tr.ns.length ecn) (.slice eai S.tr.ss.length eci) (.slice eaw S.ws.length ecw))
      obtain ⟨x0, x1, x2, x3, x4, x5, x6, x7, x8, x9⟩ := hri.b.s.cells
      obtain ⟨r0, r1, r2, r3, r4, r5, r6, r7, r8, r9⟩ := hri.b.r.cells
      have rf0 := (unhide HRE).b.r.froz 0
      have rf1 := (unhide HRE).b.r.froz 1
      have rf2 := (unhide HRE).b.r.froz 2
      have rf3 := (unhide HRE).b.r.froz 3
      have rf4 := (unhide HRE).b.r.froz 4
      have rf5 := (unhide HRE).b.r.froz 5
      have rf6 := (unhide HRE).b.r.froz 6
      have rf7 := (unhide HRE).b.r.froz 7
      have rf8 := (unhide HRE).b.r.froz 8
      have rf9 := (unhide HRE).b.r.froz 9
      have HCC := hide hc
      have HIK := hide hik
      have hmm : ¬ ((m : Int) < (m : Int)) := by omega
      clear hri HRE hts hm hik hc
      unfold put10 at HOUT
      go_wp2_with fail
      all_goals refine bodyPost_ret (v := .tuple #[.agg #[.bool S.up, .slice ead eend ecd, .int .i64 S.id, .int .i64 S.ep, .slice eal S.ts.length ecl, .int .i64 m, .int .i64 S.tr.z, .slice ean S.tr.ns.length ecn, .slice eai S.tr.ss.length eci, .slice eaw S.ws.length ecw], .slice aN NN.length cN, .int .i64 0]) (by simp [results, Tryz.results6, go_sem, r0, r1, r2, r3, r4, r5, r6, r7, r8, r9]) rfl ?_
      all_goals rw [unhide HCC]
      all_goals refine ⟨fun _ => ⟨_, _, _, rfl, (unhide HOUT).1, (unhide HOUT).2.1, (unhide HOUT).2.2⟩, fun x hx => by have := unhide HIK; rw [this] at hx; simp at hx⟩
end Go.Proofs.YtfejpbkapikdiaaGreatDoor

namespace Go.Proofs.YtfejpbkapikdiaaGreatDoor
open Go.RowKit

theorem log_len {w : World} {v : Value} {ts : List WTxn} (hv : LogV w v ts) : (∃ a c, v = .slice a 0 c ∧ ts = []) ∨ ∃ b off c, v = .slice (some ⟨b, off, none⟩) ts.length c ∧ b < w.heap.size ∧ RowAt w b off (cellsT ts) ∧ ts ≠ [] := by
  rcases hv with ⟨a, cap, rfl, rfl, _⟩ | ⟨b, off, cap, rfl, _, _, hb, h0, hr⟩
  · exact .inl ⟨a, cap, rfl, rfl⟩
  · exact .inr ⟨b, off, cap, rfl, hb, hr, h0⟩

set_option maxRecDepth 10000 in
set_option maxHeartbeats 400000 in
theorem rsl_none (a a' : Option Addr) (c c' : Nat) (w : World) :
    Calls Tryz.prog 51 #[.slice a 0 c, .slice a' 0 c'] w fun e w' => e = .returned (.bool true) ∧ Below w.heap.size w w' := by
  go_enter Tryz.func51, Tryz.ntmps51
  go_wp2_with fail
  go_loopg [13] 1 (fun _ s wr => s = .int .i64 0 ∧ wr = w)
  case atStart => exact ⟨rfl, rfl⟩
  case round =>
    obtain ⟨rfl, rfl⟩ := hrel
    go_wp2_with fail
    go_ret
    exact ⟨rfl, Below.refl _ _⟩

set_option maxRecDepth 10000 in
set_option maxHeartbeats 1000000 in
theorem rsl_some (b off c b' off' c' : Nat) (ts : List WTxn) (w : World) (hl : ts.length ≤ 1000000) (hr : RowAt w b off (cellsT ts)) (hr' : RowAt w b' off' (cellsT ts)) :
    Calls Tryz.prog 51 #[.slice (some ⟨b, off, none⟩) ts.length c, .slice (some ⟨b', off', none⟩) ts.length c'] w fun e w' => e = .returned (.bool true) ∧ Below w.heap.size w w' := by
  have HR := hide hr
  have HR' := hide hr'
  clear hr hr'
  go_enter Tryz.func51, Tryz.ntmps51
  go_wp2_with fail
  go_loopg [13] ts.length (fun kx s wr => ∃ (k : Nat) (q : Nat), s = .int .i64 k ∧ k ≤ ts.length ∧ ts.length - k ≤ kx ∧ wr = w.drewN q)
  case atStart => exact ⟨0, 0, rfl, Nat.zero_le _, by omega, rfl⟩
  case round =>
    obtain ⟨k, q, rfl, hk, hkx, rfl⟩ := hrel
    by_cases hlt : k < ts.length
    · obtain ⟨t, ht⟩ : ∃ t, ts[k]? = some t := ⟨_, List.getElem?_eq_getElem hlt⟩
      have r := unhide HR
      have e0 := r.z ht
      have e1 := r.o ht
      have e2 := r.s ht
      have e3 := r.p ht
      have e4 := r.d ht
      have e5 := r.v ht
      have e6 := r.w ht
      have r' := unhide HR'
      have e0' := r'.z ht
      have e1' := r'.o ht
      have e2' := r'.s ht
      have e3' := r'.p ht
      have e4' := r'.d ht
      have e5' := r'.v ht
      have e6' := r'.w ht
      have hlti : (k : Int) < (ts.length : Int) := by omega
      clear r r' ht
      go_wp2_with fail
      go_region
      go_wp2_with fail
      go_roundg (ts.length - (k + 1))
      case measure => omega
      case rel => exact ⟨k + 1, q + 1, rfl, by omega, Nat.le_refl _, rfl⟩
    · have hki : ¬ ((k : Int) < (ts.length : Int)) := by omega
      go_wp2_with fail
      go_ret
      exact ⟨rfl, ⟨rfl, rfl, rfl, Nat.le_refl _, fun _ _ => rfl⟩⟩

theorem rsl_any (v v' : Value) (ts : List WTxn) (w : World) (hl : ts.length ≤ 1000000) (hv : LogV w v ts) (hv' : LogV w v' ts) :
    Calls Tryz.prog 51 #[v, v'] w fun e w' => e = .returned (.bool true) ∧ Below w.heap.size w w' := by
  rcases log_len hv with ⟨a, c, rfl, h0⟩ | ⟨b, off, c, rfl, hb, hr, h0⟩
  · rcases log_len hv' with ⟨a', c', rfl, _⟩ | ⟨b', off', c', rfl, hb', hr', h0'⟩
    · exact rsl_none a a' c c' w
    · exact absurd h0 h0'
  · rcases log_len hv' with ⟨a', c', rfl, h0'⟩ | ⟨b', off', c', rfl, hb', hr', h0'⟩
    · exact absurd h0' h0
    · exact rsl_some b off c b' off' c' ts w hl hr hr'
end Go.Proofs.YtfejpbkapikdiaaGreatDoor
