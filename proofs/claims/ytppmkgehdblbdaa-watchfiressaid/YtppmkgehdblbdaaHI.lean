/-
  What aviaryref's Fire answers: the walk.
-/
import Derived.Test.YtppmkgehdblbdaaHH
namespace Go.Proofs.Ytppmkgehdblbdaa
open Go.RowKit

theorem one_newT2 (w : World) (o : Obj) (n : Nt) : OneR ((w.alloc o).alloc (.cells #[.int .i64 n.s, .int .i64 n.k, .string ⟨n.p.toArray⟩] 37)) (w.heap.size + 1) n := by
  have h := one_newT (w.alloc o) n
  rw [show (w.alloc o).heap.size = w.heap.size + 1 by simp] at h
  exact h
theorem one_newW2 (w : World) (o : Obj) (n : Wa) : OneR ((w.alloc o).alloc (.cells #[.int .i64 n.s, .int .i64 n.k, .string ⟨n.p.toArray⟩] 29)) (w.heap.size + 1) n := by
  have h := one_newW (w.alloc o) n
  rw [show (w.alloc o).heap.size = w.heap.size + 1 by simp] at h
  exact h

set_option maxRecDepth 20000 in
set_option maxHeartbeats 8000000 in
theorem rfire_any (v u : Value) (ws : List Wa) (es : List Ev) (w : World) (hv : SeqV w v ws) (hu : SeqV w u es) (hl : ws.length * 32 ≤ 140737488351232) (hle : es.length ≤ 140737488355328) :
    Calls Try.prog 9 #[v, u] w fun r w' => ∃ vn vl, r = .returned (.tuple #[vn, vl]) ∧ OwnS w' w.heap.size vn (fireN ws es) ∧ OwnS w' w.heap.size vl (fireW ws es) ∧ Below w.heap.size w w' := by
  have KR : ∀ W, Below w.heap.size w W → ∀ (k : Nat) (x : Ev), es[k]? = some x → ∃ b off cap, u = .slice (some ⟨b, off, none⟩) es.length cap ∧ b < w.heap.size ∧ RowAt W b off (cellsL es) := fun W hW k x hx => by
    obtain ⟨b, off, cap, e, hb, hr, _, _⟩ := seq_row hu (fun h0 => by obtain ⟨h1, _⟩ := List.getElem?_eq_some_iff.1 hx; rw [h0] at h1; simp at h1)
    exact ⟨b, off, cap, e, hb, hr.kept hW hb⟩
  have HKR := hide KR
  have HV := hide hv
  have HFL := hide (fun k => fire_len (es.take k) ws)
  obtain ⟨i0, hi0, hz0, hz1, hz2⟩ := winfo
  obtain ⟨va, vc, rfl⟩ := seq_slice hv
  obtain ⟨ua, uc, rfl⟩ := seq_slice hu
  clear hv hu KR
  go_enter Try.func9, Try.ntmps9
  go_wp2_with fail
  go_loopg [0, 6, 16] es.length (fun kx s0 s6 s16 wr => ∃ (k : Nat) (N : List Nt) (L : List Wa) (la : Option Addr) (lc : Nat) (na : Option Addr) (nc : Nat), s16 = .int .i64 k ∧ s0 = .slice la L.length lc ∧ s6 = .slice na N.length nc ∧ k ≤ es.length ∧ es.length - k ≤ kx ∧
    Hid (fireN ws (es.take k) = N) ∧ Hid (fireW ws (es.take k) = L) ∧ Hid (SeqV wr (.slice la L.length lc) L) ∧ Hid (L ≠ [] → ∀ b, (Value.slice la L.length lc).ownBlock = some b → (Value.slice na N.length nc).ownBlock ≠ some b) ∧ Hid (OwnS wr w.heap.size (.slice na N.length nc) N) ∧ Hid (Below w.heap.size w wr))
  case atStart => exact ⟨0, [], ws, va, vc, none, 0, rfl, rfl, rfl, Nat.zero_le _, Nat.le_refl _, hide rfl, hide rfl, HV, hide (fun _ _ _ h => by cases h), hide (.inl ⟨rfl, rfl⟩), hide (Below.refl _ _)⟩
  case round =>
    obtain ⟨k, N, L, la, lc, na, nc, rfl, rfl, rfl, hk, hg, hN, hL, hS, hap, hO, hB⟩ := hrel
    have hfl := unhide HFL k
    rw [unhide hN, unhide hL] at hfl
    by_cases hlt : k < es.length
    · obtain ⟨e, hx⟩ : ∃ e, es[k]? = some e := ⟨_, List.getElem?_eq_getElem hlt⟩
      obtain ⟨b, off, cap, he, hb, qr⟩ := unhide HKR wr (unhide hB) k e hx
      simp only [Value.slice.injEq] at he
      obtain ⟨rfl, _, rfl⟩ := he
      have d0 := qr.e0 hx
      have d1 := qr.e1 hx
      have HTN := hide (take_fireN ws es k e hx)
      have HTW := hide (take_fireW ws es k e hx)
      rw [unhide hN] at HTN
      rw [unhide hL] at HTN HTW
      have hbw : b < wr.heap.size := Nat.lt_of_lt_of_le hb (unhide hB).size
      have F0 : FI w (wr.alloc (.cells #[.int .i64 e.k, .string ⟨e.p.toArray⟩] 31)) (wr.heap.size + 1) wr.heap.size e (.slice la L.length lc) L (.slice na N.length nc) N (.slice none ([] : List Wa).length 0) [] := by
        have hb0 := allocB wr (.cells #[.int .i64 e.k, .string ⟨e.p.toArray⟩] 31)
        have hBs := (unhide hB).size
        refine ⟨(unhide hO).next hb0, .inl ⟨rfl, rfl⟩, fun j hj => ⟨(fun h => by cases h), (fun h => by have := (unhide hO).low j hj; omega)⟩, by omega, fun i x hx => ?_, one_new wr e.k e.p, nnext (unhide hB) hb0, by omega, by simp⟩
        obtain ⟨b', off', cap', e', h1, h2, _, _⟩ := seq_row (unhide hS) (fun h0 => by obtain ⟨h1, _⟩ := List.getElem?_eq_some_iff.1 hx; rw [h0] at h1; simp at h1)
        exact ⟨b', off', cap', e', by omega, unhide hap (fun h0 => by obtain ⟨h1, _⟩ := List.getElem?_eq_some_iff.1 hx; rw [h0] at h1; simp at h1) b' (by rw [e']; rfl), h2.kept hb0 h1⟩
      have HF0 := hide F0
      have HtL := hide (fun i => told_le L e i)
      obtain ⟨ek, ep⟩ := e
      clear qr hx F0 hN hL hS hap hO
      go_wp2_with fail
      generalize wr.heap.size = be at HF0 ⊢
      go_loopg [6, 9, 22] L.length (fun kx s6 s9 s22 wq => ∃ (i : Nat) (N' : List Nt) (F' : List Wa) (na : Option Addr) (nc : Nat) (fa : Option Addr) (fc : Nat), s22 = .int .i64 i ∧ s6 = .slice na N'.length nc ∧ s9 = .slice fa F'.length fc ∧ i ≤ L.length ∧ L.length - i ≤ kx ∧
        Hid (N' = N ++ toldL (L.take i) ⟨ek, ep⟩) ∧ Hid (F' = leftL (L.take i) ⟨ek, ep⟩) ∧ Hid (FI w wq (be + 1) be ⟨ek, ep⟩ (.slice la L.length lc) L (.slice na N'.length nc) N' (.slice fa F'.length fc) F'))
      case atStart => exact ⟨0, N, [], na, nc, none, 0, rfl, rfl, rfl, Nat.zero_le _, Nat.le_refl _, hide (by simp [toldL]), hide rfl, HF0⟩
      case round =>
        obtain ⟨i, N', F', na, nc, fa, fc, rfl, rfl, rfl, hi, hgi, hN', hF', HQ⟩ := hrel
        by_cases hli : i < L.length
        · obtain ⟨x, hx⟩ : ∃ x, L[i]? = some x := ⟨_, List.getElem?_eq_getElem hli⟩
          obtain ⟨b1, o1, cc1, he, hb1, _, q1⟩ := (unhide HQ).rd i x hx
          simp only [Value.slice.injEq] at he
          obtain ⟨rfl, _, rfl⟩ := he
          have d0 := q1.w0 hx
          have d1 := q1.w1 hx
          have d2 := q1.w2 hx
          have c0 : wr.cell? ⟨be, 0, none⟩ = some (.int .i64 ek) := by simpa using (unhide HQ).e.row 0 _ rfl
          have c1 : wr.cell? ⟨be, 1, none⟩ = some (.string ⟨ep.toArray⟩) := by simpa using (unhide HQ).e.row 1 _ rfl
          have hmz := (unhide HQ).mz
          have hbl : be < wr.heap.size := by omega
          have hbq : be ≠ wr.heap.size := by omega
          have hb1q : b1 ≠ wr.heap.size := by omega
          have hNl : (N'.length + 1) * 32 ≤ 140737488355328 := by
            have h1 := unhide HtL i
            rw [unhide hN', List.length_append]
            omega
          have hFl : (F'.length + 1) * 32 ≤ 140737488355328 := by
            rw [unhide hF']
            have h1 : (leftL (L.take i) ⟨ek, ep⟩).length ≤ (L.take i).length := List.length_filter_le _ _
            have h2 : (L.take i).length ≤ i := by simp; omega
            omega
          obtain ⟨xs, xk, xp⟩ := x
          simp only at d0 d1 d2
          clear q1
          by_cases h1 : ek = 1
          · subst h1
            by_cases hp : xp = ep
            · have hpb : (xp == ep) = true := by simpa using hp
              have HP := hide hp
              clear hp
              by_cases hk : xk = 2
              · subst hk
                have OFF : offB ⟨xs, 2, xp⟩ ⟨1, ep⟩ = false := by simp [offB, unhide HP]
                have hN2 : Hid (N' ++ [] = N ++ toldL (L.take (i + 1)) ⟨1, ep⟩) := hide (by rw [told_snoc hx, OFF, unhide hN', List.append_assoc]; rfl)
                have hF2 : Hid (F' ++ [⟨xs, 2, xp⟩] = leftL (L.take (i + 1)) ⟨1, ep⟩) := hide (by rw [left_snoc hx, OFF, unhide hF']; rfl)
                clear hx OFF

                rw [List.append_nil] at hN2
                go_wp2_with (at_builtin; refine wpList_app_wa rfl _ _ rfl (.slice fa F'.length fc) F' rfl (((unhide HQ).f.next (allocB _ _)).next (allocB _ _) |>.lower (Nat.zero_le _)) (wr.heap.size + 1) rfl ⟨xs, 2, xp⟩ (one_newW2 wr _ ⟨xs, 2, xp⟩) hFl ?_)
                intro a3 c3 w3 ho3 hg3 hl3
                have HF3 := hide ((((unhide HQ).next (allocB _ _)).next (allocB _ _)).left hg3 ho3 (by simpa using hl3))
                clear ho3 hg3 hl3
                go_wp2_with fail
                go_roundg (L.length - (i + 1))
                case measure => omega
                case rel => exact ⟨i + 1, N', F' ++ [⟨xs, 2, xp⟩], na, nc, a3, c3, rfl, rfl, by rw [List.length_append]; rfl, by omega, Nat.le_refl _, hN2, hF2, by rw [List.length_append]; exact HF3⟩
              · have hkb : (xk == 2) = false := by simpa using hk
                have hkn : (xk != 2) = true := by simpa using hk
                have OFF : offB ⟨xs, xk, xp⟩ ⟨1, ep⟩ = true := by simp [offB, unhide HP, hk]
                have hN2 : Hid (N' ++ [⟨xs, 1, ep⟩] = N ++ toldL (L.take (i + 1)) ⟨1, ep⟩) := hide (by rw [told_snoc hx, OFF, unhide hN', List.append_assoc]; rfl)
                have hF2 : Hid (F' ++ [] = leftL (L.take (i + 1)) ⟨1, ep⟩) := hide (by rw [left_snoc hx, OFF, unhide hF']; rfl)
                clear hx OFF

                rw [List.append_nil] at hF2
                go_wp2_with (at_builtin; refine wpList_app_nt rfl _ _ rfl (.slice na N'.length nc) N' rfl (((unhide HQ).n.next (allocB _ _)).next (allocB _ _) |>.lower (Nat.zero_le _)) (wr.heap.size + 1) rfl ⟨xs, 1, ep⟩ (one_newT2 wr _ ⟨xs, 1, ep⟩) hNl ?_)
                intro a3 c3 w3 ho3 hg3 hl3
                have HF3 := hide ((((unhide HQ).next (allocB _ _)).next (allocB _ _)).note hg3 ho3 (by simpa using hl3))
                clear ho3 hg3 hl3
                go_wp2_with fail
                go_roundg (L.length - (i + 1))
                case measure => omega
                case rel => exact ⟨i + 1, N' ++ [⟨xs, 1, ep⟩], F', a3, c3, fa, fc, rfl, by rw [List.length_append]; rfl, rfl, by omega, Nat.le_refl _, hN2, hF2, by rw [List.length_append]; exact HF3⟩
            · have hpb : (xp == ep) = false := by simpa using hp
              have OFF : offB ⟨xs, xk, xp⟩ ⟨1, ep⟩ = false := by simp [offB, hp]
              have hN2 : Hid (N' ++ [] = N ++ toldL (L.take (i + 1)) ⟨1, ep⟩) := hide (by rw [told_snoc hx, OFF, unhide hN', List.append_assoc]; rfl)
              have hF2 : Hid (F' ++ [⟨xs, xk, xp⟩] = leftL (L.take (i + 1)) ⟨1, ep⟩) := hide (by rw [left_snoc hx, OFF, unhide hF']; rfl)
              clear hx OFF

              rw [List.append_nil] at hN2
              go_wp2_with (at_builtin; refine wpList_app_wa rfl _ _ rfl (.slice fa F'.length fc) F' rfl (((unhide HQ).f.next (allocB _ _)).next (allocB _ _) |>.lower (Nat.zero_le _)) (wr.heap.size + 1) rfl ⟨xs, xk, xp⟩ (one_newW2 wr _ ⟨xs, xk, xp⟩) hFl ?_)
              intro a3 c3 w3 ho3 hg3 hl3
              have HF3 := hide ((((unhide HQ).next (allocB _ _)).next (allocB _ _)).left hg3 ho3 (by simpa using hl3))
              clear ho3 hg3 hl3
              go_wp2_with fail
              go_roundg (L.length - (i + 1))
              case measure => omega
              case rel => exact ⟨i + 1, N', F' ++ [⟨xs, xk, xp⟩], na, nc, a3, c3, rfl, rfl, by rw [List.length_append]; rfl, by omega, Nat.le_refl _, hN2, hF2, by rw [List.length_append]; exact HF3⟩
          by_cases h2 : ek = 2
          · subst h2
            by_cases hp : xp = ep
            · have hpb : (xp == ep) = true := by simpa using hp
              have HP := hide hp
              clear hp
              by_cases hk : xk = 2
              · subst hk
                have OFF : offB ⟨xs, 2, xp⟩ ⟨2, ep⟩ = true := by simp [offB, unhide HP]
                have hN2 : Hid (N' ++ [⟨xs, 2, ep⟩] = N ++ toldL (L.take (i + 1)) ⟨2, ep⟩) := hide (by rw [told_snoc hx, OFF, unhide hN', List.append_assoc]; rfl)
                have hF2 : Hid (F' ++ [] = leftL (L.take (i + 1)) ⟨2, ep⟩) := hide (by rw [left_snoc hx, OFF, unhide hF']; rfl)
                clear hx OFF

                rw [List.append_nil] at hF2
                go_wp2_with (at_builtin; refine wpList_app_nt rfl _ _ rfl (.slice na N'.length nc) N' rfl (((unhide HQ).n.next (allocB _ _)).next (allocB _ _) |>.lower (Nat.zero_le _)) (wr.heap.size + 1) rfl ⟨xs, 2, ep⟩ (one_newT2 wr _ ⟨xs, 2, ep⟩) hNl ?_)
                intro a3 c3 w3 ho3 hg3 hl3
                have HF3 := hide ((((unhide HQ).next (allocB _ _)).next (allocB _ _)).note hg3 ho3 (by simpa using hl3))
                clear ho3 hg3 hl3
                go_wp2_with fail
                go_roundg (L.length - (i + 1))
                case measure => omega
                case rel => exact ⟨i + 1, N' ++ [⟨xs, 2, ep⟩], F', a3, c3, fa, fc, rfl, by rw [List.length_append]; rfl, rfl, by omega, Nat.le_refl _, hN2, hF2, by rw [List.length_append]; exact HF3⟩
              · have hkb : (xk == 2) = false := by simpa using hk
                have hkn : (xk != 2) = true := by simpa using hk
                have OFF : offB ⟨xs, xk, xp⟩ ⟨2, ep⟩ = true := by simp [offB, unhide HP, hk]
                have hN2 : Hid (N' ++ [⟨xs, 2, ep⟩] = N ++ toldL (L.take (i + 1)) ⟨2, ep⟩) := hide (by rw [told_snoc hx, OFF, unhide hN', List.append_assoc]; rfl)
                have hF2 : Hid (F' ++ [] = leftL (L.take (i + 1)) ⟨2, ep⟩) := hide (by rw [left_snoc hx, OFF, unhide hF']; rfl)
                clear hx OFF

                rw [List.append_nil] at hF2
                go_wp2_with (at_builtin; refine wpList_app_nt rfl _ _ rfl (.slice na N'.length nc) N' rfl (((unhide HQ).n.next (allocB _ _)).next (allocB _ _) |>.lower (Nat.zero_le _)) (wr.heap.size + 1) rfl ⟨xs, 2, ep⟩ (one_newT2 wr _ ⟨xs, 2, ep⟩) hNl ?_)
                intro a3 c3 w3 ho3 hg3 hl3
                have HF3 := hide ((((unhide HQ).next (allocB _ _)).next (allocB _ _)).note hg3 ho3 (by simpa using hl3))
                clear ho3 hg3 hl3
                go_wp2_with fail
                go_roundg (L.length - (i + 1))
                case measure => omega
                case rel => exact ⟨i + 1, N' ++ [⟨xs, 2, ep⟩], F', a3, c3, fa, fc, rfl, by rw [List.length_append]; rfl, rfl, by omega, Nat.le_refl _, hN2, hF2, by rw [List.length_append]; exact HF3⟩
            · have hpb : (xp == ep) = false := by simpa using hp
              have OFF : offB ⟨xs, xk, xp⟩ ⟨2, ep⟩ = false := by simp [offB, hp]
              have hN2 : Hid (N' ++ [] = N ++ toldL (L.take (i + 1)) ⟨2, ep⟩) := hide (by rw [told_snoc hx, OFF, unhide hN', List.append_assoc]; rfl)
              have hF2 : Hid (F' ++ [⟨xs, xk, xp⟩] = leftL (L.take (i + 1)) ⟨2, ep⟩) := hide (by rw [left_snoc hx, OFF, unhide hF']; rfl)
              clear hx OFF

              rw [List.append_nil] at hN2
              go_wp2_with (at_builtin; refine wpList_app_wa rfl _ _ rfl (.slice fa F'.length fc) F' rfl (((unhide HQ).f.next (allocB _ _)).next (allocB _ _) |>.lower (Nat.zero_le _)) (wr.heap.size + 1) rfl ⟨xs, xk, xp⟩ (one_newW2 wr _ ⟨xs, xk, xp⟩) hFl ?_)
              intro a3 c3 w3 ho3 hg3 hl3
              have HF3 := hide ((((unhide HQ).next (allocB _ _)).next (allocB _ _)).left hg3 ho3 (by simpa using hl3))
              clear ho3 hg3 hl3
              go_wp2_with fail
              go_roundg (L.length - (i + 1))
              case measure => omega
              case rel => exact ⟨i + 1, N', F' ++ [⟨xs, xk, xp⟩], na, nc, a3, c3, rfl, rfl, by rw [List.length_append]; rfl, by omega, Nat.le_refl _, hN2, hF2, by rw [List.length_append]; exact HF3⟩
          by_cases h3 : ek = 3
          · subst h3
            by_cases hp : xp = ep
            · have hpb : (xp == ep) = true := by simpa using hp
              have HP := hide hp
              clear hp
              by_cases hk : xk = 2
              · subst hk
                have OFF : offB ⟨xs, 2, xp⟩ ⟨3, ep⟩ = false := by simp [offB, unhide HP]
                have hN2 : Hid (N' ++ [] = N ++ toldL (L.take (i + 1)) ⟨3, ep⟩) := hide (by rw [told_snoc hx, OFF, unhide hN', List.append_assoc]; rfl)
                have hF2 : Hid (F' ++ [⟨xs, 2, xp⟩] = leftL (L.take (i + 1)) ⟨3, ep⟩) := hide (by rw [left_snoc hx, OFF, unhide hF']; rfl)
                clear hx OFF

                rw [List.append_nil] at hN2
                go_wp2_with (at_builtin; refine wpList_app_wa rfl _ _ rfl (.slice fa F'.length fc) F' rfl (((unhide HQ).f.next (allocB _ _)).next (allocB _ _) |>.lower (Nat.zero_le _)) (wr.heap.size + 1) rfl ⟨xs, 2, xp⟩ (one_newW2 wr _ ⟨xs, 2, xp⟩) hFl ?_)
                intro a3 c3 w3 ho3 hg3 hl3
                have HF3 := hide ((((unhide HQ).next (allocB _ _)).next (allocB _ _)).left hg3 ho3 (by simpa using hl3))
                clear ho3 hg3 hl3
                go_wp2_with fail
                go_roundg (L.length - (i + 1))
                case measure => omega
                case rel => exact ⟨i + 1, N', F' ++ [⟨xs, 2, xp⟩], na, nc, a3, c3, rfl, rfl, by rw [List.length_append]; rfl, by omega, Nat.le_refl _, hN2, hF2, by rw [List.length_append]; exact HF3⟩
              · have hkb : (xk == 2) = false := by simpa using hk
                have hkn : (xk != 2) = true := by simpa using hk
                have OFF : offB ⟨xs, xk, xp⟩ ⟨3, ep⟩ = true := by simp [offB, unhide HP, hk]
                have hN2 : Hid (N' ++ [⟨xs, 3, ep⟩] = N ++ toldL (L.take (i + 1)) ⟨3, ep⟩) := hide (by rw [told_snoc hx, OFF, unhide hN', List.append_assoc]; rfl)
                have hF2 : Hid (F' ++ [] = leftL (L.take (i + 1)) ⟨3, ep⟩) := hide (by rw [left_snoc hx, OFF, unhide hF']; rfl)
                clear hx OFF

                rw [List.append_nil] at hF2
                go_wp2_with (at_builtin; refine wpList_app_nt rfl _ _ rfl (.slice na N'.length nc) N' rfl (((unhide HQ).n.next (allocB _ _)).next (allocB _ _) |>.lower (Nat.zero_le _)) (wr.heap.size + 1) rfl ⟨xs, 3, ep⟩ (one_newT2 wr _ ⟨xs, 3, ep⟩) hNl ?_)
                intro a3 c3 w3 ho3 hg3 hl3
                have HF3 := hide ((((unhide HQ).next (allocB _ _)).next (allocB _ _)).note hg3 ho3 (by simpa using hl3))
                clear ho3 hg3 hl3
                go_wp2_with fail
                go_roundg (L.length - (i + 1))
                case measure => omega
                case rel => exact ⟨i + 1, N' ++ [⟨xs, 3, ep⟩], F', a3, c3, fa, fc, rfl, by rw [List.length_append]; rfl, rfl, by omega, Nat.le_refl _, hN2, hF2, by rw [List.length_append]; exact HF3⟩
            · have hpb : (xp == ep) = false := by simpa using hp
              have OFF : offB ⟨xs, xk, xp⟩ ⟨3, ep⟩ = false := by simp [offB, hp]
              have hN2 : Hid (N' ++ [] = N ++ toldL (L.take (i + 1)) ⟨3, ep⟩) := hide (by rw [told_snoc hx, OFF, unhide hN', List.append_assoc]; rfl)
              have hF2 : Hid (F' ++ [⟨xs, xk, xp⟩] = leftL (L.take (i + 1)) ⟨3, ep⟩) := hide (by rw [left_snoc hx, OFF, unhide hF']; rfl)
              clear hx OFF

              rw [List.append_nil] at hN2
              go_wp2_with (at_builtin; refine wpList_app_wa rfl _ _ rfl (.slice fa F'.length fc) F' rfl (((unhide HQ).f.next (allocB _ _)).next (allocB _ _) |>.lower (Nat.zero_le _)) (wr.heap.size + 1) rfl ⟨xs, xk, xp⟩ (one_newW2 wr _ ⟨xs, xk, xp⟩) hFl ?_)
              intro a3 c3 w3 ho3 hg3 hl3
              have HF3 := hide ((((unhide HQ).next (allocB _ _)).next (allocB _ _)).left hg3 ho3 (by simpa using hl3))
              clear ho3 hg3 hl3
              go_wp2_with fail
              go_roundg (L.length - (i + 1))
              case measure => omega
              case rel => exact ⟨i + 1, N', F' ++ [⟨xs, xk, xp⟩], na, nc, a3, c3, rfl, rfl, by rw [List.length_append]; rfl, by omega, Nat.le_refl _, hN2, hF2, by rw [List.length_append]; exact HF3⟩
          by_cases h4 : ek = 4
          · subst h4
            by_cases hp : xp = ep
            · have hpb : (xp == ep) = true := by simpa using hp
              have HP := hide hp
              clear hp
              by_cases hk : xk = 2
              · subst hk
                have OFF : offB ⟨xs, 2, xp⟩ ⟨4, ep⟩ = true := by simp [offB, unhide HP]
                have hN2 : Hid (N' ++ [⟨xs, 4, ep⟩] = N ++ toldL (L.take (i + 1)) ⟨4, ep⟩) := hide (by rw [told_snoc hx, OFF, unhide hN', List.append_assoc]; rfl)
                have hF2 : Hid (F' ++ [] = leftL (L.take (i + 1)) ⟨4, ep⟩) := hide (by rw [left_snoc hx, OFF, unhide hF']; rfl)
                clear hx OFF

                rw [List.append_nil] at hF2
                go_wp2_with (at_builtin; refine wpList_app_nt rfl _ _ rfl (.slice na N'.length nc) N' rfl (((unhide HQ).n.next (allocB _ _)).next (allocB _ _) |>.lower (Nat.zero_le _)) (wr.heap.size + 1) rfl ⟨xs, 4, ep⟩ (one_newT2 wr _ ⟨xs, 4, ep⟩) hNl ?_)
                intro a3 c3 w3 ho3 hg3 hl3
                have HF3 := hide ((((unhide HQ).next (allocB _ _)).next (allocB _ _)).note hg3 ho3 (by simpa using hl3))
                clear ho3 hg3 hl3
                go_wp2_with fail
                go_roundg (L.length - (i + 1))
                case measure => omega
                case rel => exact ⟨i + 1, N' ++ [⟨xs, 4, ep⟩], F', a3, c3, fa, fc, rfl, by rw [List.length_append]; rfl, rfl, by omega, Nat.le_refl _, hN2, hF2, by rw [List.length_append]; exact HF3⟩
              · have hkb : (xk == 2) = false := by simpa using hk
                have hkn : (xk != 2) = true := by simpa using hk
                have OFF : offB ⟨xs, xk, xp⟩ ⟨4, ep⟩ = false := by simp [offB, unhide HP, hk]
                have hN2 : Hid (N' ++ [] = N ++ toldL (L.take (i + 1)) ⟨4, ep⟩) := hide (by rw [told_snoc hx, OFF, unhide hN', List.append_assoc]; rfl)
                have hF2 : Hid (F' ++ [⟨xs, xk, xp⟩] = leftL (L.take (i + 1)) ⟨4, ep⟩) := hide (by rw [left_snoc hx, OFF, unhide hF']; rfl)
                clear hx OFF

                rw [List.append_nil] at hN2
                go_wp2_with (at_builtin; refine wpList_app_wa rfl _ _ rfl (.slice fa F'.length fc) F' rfl (((unhide HQ).f.next (allocB _ _)).next (allocB _ _) |>.lower (Nat.zero_le _)) (wr.heap.size + 1) rfl ⟨xs, xk, xp⟩ (one_newW2 wr _ ⟨xs, xk, xp⟩) hFl ?_)
                intro a3 c3 w3 ho3 hg3 hl3
                have HF3 := hide ((((unhide HQ).next (allocB _ _)).next (allocB _ _)).left hg3 ho3 (by simpa using hl3))
                clear ho3 hg3 hl3
                go_wp2_with fail
                go_roundg (L.length - (i + 1))
                case measure => omega
                case rel => exact ⟨i + 1, N', F' ++ [⟨xs, xk, xp⟩], na, nc, a3, c3, rfl, rfl, by rw [List.length_append]; rfl, by omega, Nat.le_refl _, hN2, hF2, by rw [List.length_append]; exact HF3⟩
            · have hpb : (xp == ep) = false := by simpa using hp
              have OFF : offB ⟨xs, xk, xp⟩ ⟨4, ep⟩ = false := by simp [offB, hp]
              have hN2 : Hid (N' ++ [] = N ++ toldL (L.take (i + 1)) ⟨4, ep⟩) := hide (by rw [told_snoc hx, OFF, unhide hN', List.append_assoc]; rfl)
              have hF2 : Hid (F' ++ [⟨xs, xk, xp⟩] = leftL (L.take (i + 1)) ⟨4, ep⟩) := hide (by rw [left_snoc hx, OFF, unhide hF']; rfl)
              clear hx OFF

              rw [List.append_nil] at hN2
              go_wp2_with (at_builtin; refine wpList_app_wa rfl _ _ rfl (.slice fa F'.length fc) F' rfl (((unhide HQ).f.next (allocB _ _)).next (allocB _ _) |>.lower (Nat.zero_le _)) (wr.heap.size + 1) rfl ⟨xs, xk, xp⟩ (one_newW2 wr _ ⟨xs, xk, xp⟩) hFl ?_)
              intro a3 c3 w3 ho3 hg3 hl3
              have HF3 := hide ((((unhide HQ).next (allocB _ _)).next (allocB _ _)).left hg3 ho3 (by simpa using hl3))
              clear ho3 hg3 hl3
              go_wp2_with fail
              go_roundg (L.length - (i + 1))
              case measure => omega
              case rel => exact ⟨i + 1, N', F' ++ [⟨xs, xk, xp⟩], na, nc, a3, c3, rfl, rfl, by rw [List.length_append]; rfl, by omega, Nat.le_refl _, hN2, hF2, by rw [List.length_append]; exact HF3⟩
          have hb1 : (ek == 1) = false := by simpa using h1
          have hb2 : (ek == 2) = false := by simpa using h2
          have hb3 : (ek == 3) = false := by simpa using h3
          have hb4 : (ek == 4) = false := by simpa using h4
          by_cases hp : xp = ep
          · have hpb : (xp == ep) = true := by simpa using hp
            have HP := hide hp
            clear hp
            by_cases hk : xk = 2
            · subst hk
              have OFF : offB ⟨xs, 2, xp⟩ ⟨ek, ep⟩ = false := by simp [offB, unhide HP, h2, h4]
              have hN2 : Hid (N' ++ [] = N ++ toldL (L.take (i + 1)) ⟨ek, ep⟩) := hide (by rw [told_snoc hx, OFF, unhide hN', List.append_assoc]; rfl)
              have hF2 : Hid (F' ++ [⟨xs, 2, xp⟩] = leftL (L.take (i + 1)) ⟨ek, ep⟩) := hide (by rw [left_snoc hx, OFF, unhide hF']; rfl)
              clear hx OFF

              rw [List.append_nil] at hN2
              go_wp2_with (at_builtin; refine wpList_app_wa rfl _ _ rfl (.slice fa F'.length fc) F' rfl (((unhide HQ).f.next (allocB _ _)).next (allocB _ _) |>.lower (Nat.zero_le _)) (wr.heap.size + 1) rfl ⟨xs, 2, xp⟩ (one_newW2 wr _ ⟨xs, 2, xp⟩) hFl ?_)
              intro a3 c3 w3 ho3 hg3 hl3
              have HF3 := hide ((((unhide HQ).next (allocB _ _)).next (allocB _ _)).left hg3 ho3 (by simpa using hl3))
              clear ho3 hg3 hl3
              go_wp2_with fail
              go_roundg (L.length - (i + 1))
              case measure => omega
              case rel => exact ⟨i + 1, N', F' ++ [⟨xs, 2, xp⟩], na, nc, a3, c3, rfl, rfl, by rw [List.length_append]; rfl, by omega, Nat.le_refl _, hN2, hF2, by rw [List.length_append]; exact HF3⟩
            · have hkb : (xk == 2) = false := by simpa using hk
              have hkn : (xk != 2) = true := by simpa using hk
              have OFF : offB ⟨xs, xk, xp⟩ ⟨ek, ep⟩ = false := by simp [offB, unhide HP, hk, h1, h2, h3]
              have hN2 : Hid (N' ++ [] = N ++ toldL (L.take (i + 1)) ⟨ek, ep⟩) := hide (by rw [told_snoc hx, OFF, unhide hN', List.append_assoc]; rfl)
              have hF2 : Hid (F' ++ [⟨xs, xk, xp⟩] = leftL (L.take (i + 1)) ⟨ek, ep⟩) := hide (by rw [left_snoc hx, OFF, unhide hF']; rfl)
              clear hx OFF

              rw [List.append_nil] at hN2
              go_wp2_with (at_builtin; refine wpList_app_wa rfl _ _ rfl (.slice fa F'.length fc) F' rfl (((unhide HQ).f.next (allocB _ _)).next (allocB _ _) |>.lower (Nat.zero_le _)) (wr.heap.size + 1) rfl ⟨xs, xk, xp⟩ (one_newW2 wr _ ⟨xs, xk, xp⟩) hFl ?_)
              intro a3 c3 w3 ho3 hg3 hl3
              have HF3 := hide ((((unhide HQ).next (allocB _ _)).next (allocB _ _)).left hg3 ho3 (by simpa using hl3))
              clear ho3 hg3 hl3
              go_wp2_with fail
              go_roundg (L.length - (i + 1))
              case measure => omega
              case rel => exact ⟨i + 1, N', F' ++ [⟨xs, xk, xp⟩], na, nc, a3, c3, rfl, rfl, by rw [List.length_append]; rfl, by omega, Nat.le_refl _, hN2, hF2, by rw [List.length_append]; exact HF3⟩
          · have hpb : (xp == ep) = false := by simpa using hp
            have OFF : offB ⟨xs, xk, xp⟩ ⟨ek, ep⟩ = false := by simp [offB, hp]
            have hN2 : Hid (N' ++ [] = N ++ toldL (L.take (i + 1)) ⟨ek, ep⟩) := hide (by rw [told_snoc hx, OFF, unhide hN', List.append_assoc]; rfl)
            have hF2 : Hid (F' ++ [⟨xs, xk, xp⟩] = leftL (L.take (i + 1)) ⟨ek, ep⟩) := hide (by rw [left_snoc hx, OFF, unhide hF']; rfl)
            clear hx OFF

            rw [List.append_nil] at hN2
            go_wp2_with (at_builtin; refine wpList_app_wa rfl _ _ rfl (.slice fa F'.length fc) F' rfl (((unhide HQ).f.next (allocB _ _)).next (allocB _ _) |>.lower (Nat.zero_le _)) (wr.heap.size + 1) rfl ⟨xs, xk, xp⟩ (one_newW2 wr _ ⟨xs, xk, xp⟩) hFl ?_)
            intro a3 c3 w3 ho3 hg3 hl3
            have HF3 := hide ((((unhide HQ).next (allocB _ _)).next (allocB _ _)).left hg3 ho3 (by simpa using hl3))
            clear ho3 hg3 hl3
            go_wp2_with fail
            go_roundg (L.length - (i + 1))
            case measure => omega
            case rel => exact ⟨i + 1, N', F' ++ [⟨xs, xk, xp⟩], na, nc, a3, c3, rfl, rfl, by rw [List.length_append]; rfl, by omega, Nat.le_refl _, hN2, hF2, by rw [List.length_append]; exact HF3⟩
        · obtain rfl : i = L.length := by omega
          have hN2 := unhide hN'
          have hF2 := unhide hF'
          rw [List.take_length] at hN2 hF2
          have HN3 : Hid (fireN ws (es.take (k + 1)) = N') := hide (by rw [unhide HTN, hN2])
          have HF3 : Hid (fireW ws (es.take (k + 1)) = F') := hide (by rw [unhide HTW, hF2])
          have HS3 := hide (unhide HQ).f.seq
          have HAP := hide (fun (_ : F' ≠ []) b (h : (Value.slice fa F'.length fc).ownBlock = some b) (h' : (Value.slice na N'.length nc).ownBlock = some b) => ((unhide HQ).nf b h').1 h)
          have HNO := hide (unhide HQ).n
          have HBB := hide (unhide HQ).b
          clear hN2 hF2 hN' hF' HQ
          go_wp2_with fail
          go_roundg (es.length - (k + 1))
          case measure => omega
          case rel => exact ⟨k + 1, N', F', fa, fc, na, nc, rfl, rfl, rfl, by omega, Nat.le_refl _, HN3, HF3, HS3, HAP, HNO, HBB⟩
    · obtain rfl : k = es.length := by omega
      have hN2 := unhide hN
      have hL2 := unhide hL
      rw [List.take_length] at hN2 hL2
      have HN3 := hide hN2
      have HL3 := hide hL2
      have hLl : (0 + L.length) * 32 ≤ 140737488355328 := by omega
      clear hN2 hL2 hN hL
      go_wp2_with (at_builtin; refine wpList_app_was rfl _ _ rfl (.slice none 0 0) (.slice la L.length lc) [] L wr.heap.size rfl (.inl ⟨rfl, rfl⟩) (Nat.le_refl _) rfl (unhide hS) hLl ?_)
      intro a2 c2 w2 ho2 hg2
      have hb2 : Below wr.heap.size wr w2 := grownO hg2 _ (Nat.le_refl _) (by intro k hk; cases hk)
      have HB2 := hide (nnext (unhide hB) hb2)
      have HN2 := hide ((unhide hO).next hb2)
      have HA2 := hide (ho2.lower (unhide hB).size)
      clear ho2 hg2 hb2
      try simp only [List.length_nil, Nat.zero_add, List.nil_append] at HA2
      try simp only [List.length_nil, Nat.zero_add]
      go_wp2_with fail
      go_ret2
      exact ⟨_, _, rfl, by rw [unhide HN3]; exact unhide HN2, by rw [unhide HL3]; exact unhide HA2, unhide HB2⟩

end Go.Proofs.Ytppmkgehdblbdaa
