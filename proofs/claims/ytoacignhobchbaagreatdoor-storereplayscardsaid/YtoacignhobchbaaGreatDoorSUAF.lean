/-
  What watch.told answers: the walk.
  What slices.DeleteFunc answers at watches, with the closures of Fire and Drop: the walk.
-/
import Derived.Test.YtoacignhobchbaaGreatDoorSUAE
import Derived.Deep.RegionLaw
import Derived.Maps.AppendAt
namespace Go.Proofs.YtoacignhobchbaaGreatDoor
open Go.RowKit

theorem ownS_base {α : Type} [Lay α] {W : World} {B C : Nat} {v : Value} {xs : List α} (h : OwnS W C v xs) (hB : ∀ k, v.ownBlock = some k → B ≤ k) : OwnS W B v xs := by
  rcases h with h | ⟨g, cap, rfl, _, h⟩
  · exact .inl h
  · exact .inr ⟨g, cap, rfl, hB g rfl, h⟩
theorem ownS_above {α : Type} [Lay α] {W : World} {B : Nat} {v : Value} {xs : List α} (h : OwnS W B v xs) : ∀ k, v.ownBlock = some k → B ≤ k := by
  rcases h with ⟨rfl, _⟩ | ⟨g, cap, rfl, h1, h⟩
  · intro k hk; cases hk
  · intro k hk; simp only [Value.ownBlock, Option.some.injEq] at hk; omega
theorem one_newT (w : World) (n : Nt) : OneR (w.alloc (.cells #[.int .i64 n.s, .int .i64 n.k, .string ⟨n.p.toArray⟩] 130)) w.heap.size n := heap_alloc_new w _
theorem step_app_nt {w : World} {ops : Array Oper} {o : Oper} {a : Act} {K : Act → World → Prop} {Q : Exit → Act → World → Prop} {E : Prop} (hgd : Region.wanted o (yielded ops a.tmps) = true) (s x : Operand)
    (ho : o.op = .call { callee := .builtin .append, args := #[s, x], argTypes := #[42, 42] })
    (v : Value) (ns : List Nt) (hs : a.eval s = v) (hown : OwnS w 0 v ns)
    (q : Nat) (hx : a.eval x = .slice (some ⟨q, 0, none⟩) 1 1) (t : Nt) (hnews : OneR w q t) (hl : (ns.length + 1) * 32 ≤ 140737488355328)
    (h : ∀ a' c' w', OwnS w' 0 (.slice a' (ns.length + 1) c') (ns ++ [t]) → w.grownBy w' v.ownBlock → ((Value.slice a' (ns.length + 1) c').ownBlock = v.ownBlock ∨ (Value.slice a' (ns.length + 1) c').ownBlock = some w.heap.size) → K (a.put o.dst (.slice a' (ns.length + 1) c')) w') :
    if Region.wanted o (yielded ops a.tmps) = true then Oper.wp Tryz.prog o a w K Q else E := by
  rw [if_pos hgd]
  obtain ⟨i0, hi0, hz0, hz1, hz2⟩ := tinfo
  obtain ⟨v', w', hr, h2, h3, _, h5⟩ := run_append_own_at (P := Tryz.prog) w 0 42 o.type 130 i0 _ 3 32 Tryz.underlying42 hi0 hz0 hz1 hz2 rfl (by decide) v ns.length (cellsL ns) hown.row ⟨q, 0, none⟩ 1 1 (ntcells t) rfl (one_news hnews) (Lay.one t) (by simp only [maxLen]; omega) hl (Nat.zero_le _)
  have h2' : OwnS w' 0 v' (ns ++ [t]) := OwnS.of_row (by rw [List.length_append, cellsL_snoc]; exact h2)
  obtain ⟨a', c', rfl, _⟩ := h2'.slice
  have hlen : (ns ++ [t]).length = ns.length + 1 := by simp
  rw [hlen] at h2' hr h5
  unfold Oper.wp execOp
  simp only [ho, resolve, invoke, builtin, Sem.run_bind, Sem.run_pure, Result.andThen_ok, List.map_toArray, List.map_cons, List.map_nil, hs, hx, hr]
  exact h a' c' w' h2' h3 h5

theorem told_snoc {ws : List Wa} {k : Nat} {x : Wa} {e : Ev} (h : ws[k]? = some x) : toldL (ws.take (k + 1)) e = toldL (ws.take k) e ++ (if offB x e = true then [noteOf e x] else []) := by
  rw [snoc_take h]
  simp only [toldL, List.filter_append, List.map_append]
  cases hx : offB x e <;> simp [hx]
theorem told_le (ws : List Wa) (e : Ev) (k : Nat) : (toldL (ws.take k) e).length ≤ k := by
  have := told_len (ws.take k) e
  have h2 : (ws.take k).length ≤ k := by simp; omega
  omega

set_option maxRecDepth 20000 in
set_option maxHeartbeats 4000000 in
theorem told_any (q cap B : Nat) (ws : List Wa) (e : Ev) (w : World) (hq : q < w.heap.size) (hr : RowAt w q 0 (cellsL ws)) (hE : OneR w B e) (hl : ws.length * 32 ≤ 140737488351232) (hp : e.p.length ≤ 140737488355328) :
    Calls Tryz.prog 42 #[.slice (some ⟨q, 0, none⟩) ws.length cap, evV e, .func (.func 40) #[] #[.pointer (some ⟨B, 0, none⟩)]] w fun r w' =>
      ∃ v', r = .returned v' ∧ OwnS w' w.heap.size v' (toldL ws e) ∧ Below w.heap.size w w' := by
  obtain ⟨w0, hw0⟩ : ∃ w0, w.alloc (.cells #[.int .i64 e.k, .string ⟨e.p.toArray⟩] 97) = w0 := ⟨_, rfl⟩
  have hz0 : w0.heap.size = w.heap.size + 1 := by rw [← hw0]; simp
  have hb0 : Below w.heap.size w w0 := by rw [← hw0]; exact allocB _ _
  have X0 : OneR w0 w.heap.size e := by rw [← hw0]; exact one_new w e.k e.p
  have HR := hide (fun W (hW : Below w0.heap.size w0 W) => (hr.kept hb0 hq).kept hW (by omega))
  have HX := hide (fun W (hW : Below w0.heap.size w0 W) => (⟨by simpa using (OneR.row ((hW.block _ (by omega)).trans X0) 0 _ rfl), by simpa using (OneR.row ((hW.block _ (by omega)).trans X0) 1 _ rfl)⟩ : W.cell? ⟨w.heap.size, 0, none⟩ = some (.int .i64 e.k) ∧ W.cell? ⟨w.heap.size, 1, none⟩ = some (.string ⟨e.p.toArray⟩)))
  have CF := hide (fun W (hW : Below w0.heap.size w0 W) x => fire1_any x e B W ((hW.block _ (by have := (Array.getElem?_eq_some_iff.1 hE).1; omega)).trans ((hb0.block _ (Array.getElem?_eq_some_iff.1 hE).1).trans hE)))
  have CC := fun W => hclone_any e.p W (by omega)
  have HB0 := hide hb0
  clear hr hE X0 hb0
  unfold evV
  unfold waV at CF
  go_enter Tryz.func42, Tryz.ntmps42
  go_wp2_with fail
  try rw [hw0]
  go_loopg [7, 12] ws.length (fun kx s7 s12 wr => ∃ (k : Nat) (va : Option Addr) (vc : Nat), s12 = .int .i64 k ∧ s7 = .slice va (toldL (ws.take k) e).length vc ∧ k ≤ ws.length ∧ ws.length - k ≤ kx ∧ Hid (OwnS wr w0.heap.size (.slice va (toldL (ws.take k) e).length vc) (toldL (ws.take k) e)) ∧ Hid (Below w0.heap.size w0 wr))
  case atStart => exact ⟨0, none, 0, rfl, rfl, Nat.zero_le _, Nat.le_refl _, hide (.inl ⟨rfl, rfl⟩), hide (Below.refl _ _)⟩
  case round =>
    obtain ⟨k, va, vc, rfl, rfl, hk, hg, hO, hB⟩ := hrel
    by_cases hlt : k < ws.length
    · obtain ⟨x, hx⟩ : ∃ x, ws[k]? = some x := ⟨_, List.getElem?_eq_getElem hlt⟩
      have qr := unhide HR wr (unhide hB)
      have d0 := qr.w0 hx
      have d1 := qr.w1 hx
      have d2 := qr.w2 hx
      simp only [Nat.zero_add] at d0 d1 d2
      have hqw : q < wr.heap.size := by have := (unhide hB).size; omega
      have hts := told_snoc (e := e) hx
      have hnl := told_le ws e k
      obtain ⟨N, hN⟩ : ∃ N, toldL (ws.take k) e = N := ⟨_, rfl⟩
      rw [hN] at hO hts hnl
      have hB1 := nnext (unhide hB) (allocB wr (.cells #[.int .i64 x.s, .int .i64 x.k, .string ⟨x.p.toArray⟩] 72))
      have CX := unhide CF _ hB1 x
      have HB1 := hide hB1
      rw [hN]
      clear qr hx hN hB1
      cases hpx : offB x e
      · rw [hpx] at CX hts
        simp only [Bool.false_eq_true, if_false, List.append_nil] at hts
        have HTS := hide hts
        clear hts hpx
        go_wp2_with fail
        refine CX.mono ?_
        rintro r w1 ⟨rfl, hb1⟩
        have HB2 := hide (nnext (unhide HB1) hb1)
        have HO2 := hide (((unhide hO).next (allocB wr (.cells #[.int .i64 x.s, .int .i64 x.k, .string ⟨x.p.toArray⟩] 72))).next hb1)
        clear CX hb1
        go_wp2_with fail
        go_roundg (ws.length - (k + 1))
        case measure => omega
        case rel => exact ⟨k + 1, va, vc, rfl, by rw [unhide HTS], by omega, Nat.le_refl _, by rw [unhide HTS]; exact HO2, HB2⟩
      · rw [hpx] at CX hts
        simp only [if_true] at hts
        have HTS := hide hts
        clear hts hpx
        go_wp2_with fail
        refine CX.mono ?_
        rintro r w1 ⟨rfl, hb1⟩
        have HB2 := hide (nnext (unhide HB1) hb1)
        have O2 := ((unhide hO).next (allocB wr (.cells #[.int .i64 x.s, .int .i64 x.k, .string ⟨x.p.toArray⟩] 72))).next hb1
        have K1 : ∀ w2, Below w1.heap.size w1 w2 → w2.cell? ⟨wr.heap.size, 0, none⟩ = some (.int .i64 x.s) ∧ w2.cell? ⟨w.heap.size, 0, none⟩ = some (.int .i64 e.k) ∧ w2.cell? ⟨w.heap.size, 1, none⟩ = some (.string ⟨e.p.toArray⟩) := by
          intro w2 hb2
          have hbb := nnext (unhide HB2) hb2
          refine ⟨?_, (unhide HX w2 hbb).1, (unhide HX w2 hbb).2⟩
          have hz : wr.heap.size < w1.heap.size := by have := hb1.size; simp at this; omega
          rw [hb2.cell (p := ⟨wr.heap.size, 0, none⟩) hz, hb1.cell (p := ⟨wr.heap.size, 0, none⟩) (by simp)]
          simp
        obtain ⟨m0, m1, m2⟩ := K1 w1 (Below.refl _ _)
        have HK1 := hide K1
        have KE := hide (fun w2 (hb2 : Below w1.heap.size w1 w2) => ((O2.next hb2).next (allocB w2 (.cells #[.int .i64 x.s, .int .i64 e.k, .string ⟨e.p.toArray⟩] 130))).lower (Nat.zero_le w0.heap.size))
        have KA := hide (ownS_above O2)
        have K2 : ∀ (w2 w3 : World) (a3 : Option Addr) (c3 : Nat), Below w1.heap.size w1 w2 → OwnS w3 0 (.slice a3 (N.length + 1) c3) (N ++ [⟨x.s, e.k, e.p⟩]) → (w2.alloc (.cells #[.int .i64 x.s, .int .i64 e.k, .string ⟨e.p.toArray⟩] 130)).grownBy w3 (Value.slice va N.length vc).ownBlock →
            ((Value.slice a3 (N.length + 1) c3).ownBlock = (Value.slice va N.length vc).ownBlock ∨ (Value.slice a3 (N.length + 1) c3).ownBlock = some (w2.alloc (.cells #[.int .i64 x.s, .int .i64 e.k, .string ⟨e.p.toArray⟩] 130)).heap.size) →
            OwnS w3 w0.heap.size (.slice a3 (N.length + 1) c3) (N ++ [⟨x.s, e.k, e.p⟩]) ∧ Below w0.heap.size w0 w3 := by
          intro w2 w3 a3 c3 hb2 ho3 hg3 hl3
          have hbb := nnext (nnext (unhide HB2) hb2) (allocB w2 (.cells #[.int .i64 x.s, .int .i64 e.k, .string ⟨e.p.toArray⟩] 130))
          refine ⟨ownS_base ho3 (fun j hj => ?_), hbb.grown hg3 hbb.size (unhide KA)⟩
          rcases hl3 with h | h
          · rw [h] at hj; exact unhide KA j hj
          · rw [h] at hj; cases hj; exact hbb.size
        have HK2 := hide K2
        have hsz1 : wr.heap.size < w1.heap.size := by have := hb1.size; simp at this; omega
        have hsz2 : w.heap.size < w1.heap.size := by have := (unhide HB2).size; omega
        have hNl : (N.length + 1) * 32 ≤ 140737488355328 := by omega
        clear CX hb1 K1 K2 O2
        go_wp2_with fail
        go_region_law (first
          | (refine step_app_nt (by kernel_rfl) _ _ (by rfl) (.slice va N.length vc) N (by rfl) (unhide KE w2 (unhide HB3)) w2.heap.size (by rfl) ⟨x.s, e.k, e.p⟩ (one_newT w2 ⟨x.s, e.k, e.p⟩) hNl ?_; intro a3 c3 w3 ho3 hg3 hl3; obtain ⟨o3, b3⟩ := unhide HK2 w2 w3 a3 c3 (unhide HB3) ho3 hg3 hl3; have HO3 := hide o3; have HB4 := hide b3; clear ho3 hg3 hl3 o3 b3)
          | (go_simp; refine (CC _).mono ?_; rintro r w2 ⟨rfl, hb2⟩; have HB3 : Hid (Below w1.heap.size w1 w2) := (by first | exact hb2 | exact nbelow_drew hb2); obtain ⟨p0, p1, p2⟩ := unhide HK1 w2 (unhide HB3); clear hb2))
        all_goals
          go_wp2_with fail
          go_roundg (ws.length - (k + 1))
          case measure => omega
          case rel => exact ⟨k + 1, _, _, rfl, by rw [unhide HTS, List.length_append]; rfl, by omega, Nat.le_refl _, by rw [unhide HTS, List.length_append]; exact HO3, HB4⟩
    · obtain rfl : k = ws.length := by omega
      rw [List.take_length] at hO ⊢
      have HB := hide (nnext (unhide HB0) (unhide hB))
      have hO2 : Hid (OwnS wr w.heap.size (.slice va (toldL ws e).length vc) (toldL ws e)) := hide ((unhide hO).lower (by omega))
      clear hO
      go_wp2_with fail
      go_ret
      exact ⟨_, rfl, unhide hO2, unhide HB⟩

end Go.Proofs.YtoacignhobchbaaGreatDoor

namespace Go.Proofs.YtoacignhobchbaaGreatDoor
open Go.RowKit

theorem first_at (pr : Wa → Bool) : ∀ ws : List Wa, (∀ a ∈ ws, pr a = false) ∨ ∃ A x R, ws = A ++ x :: R ∧ (∀ a ∈ A, pr a = false) ∧ pr x = true
  | [] => .inl (by simp)
  | y :: r => by
    cases h : pr y
    · rcases first_at pr r with h1 | ⟨A, x, R, rfl, h1, h2⟩
      · exact .inl (by intro a ha; rcases List.mem_cons.1 ha with rfl | ha; exact h; exact h1 a ha)
      · exact .inr ⟨y :: A, x, R, rfl, (by intro a ha; rcases List.mem_cons.1 ha with rfl | ha; exact h; exact h1 a ha), h2⟩
    · exact .inr ⟨[], y, r, rfl, by simp, h⟩
theorem filt_none {pr : Wa → Bool} {ws : List Wa} (h : ∀ a ∈ ws, pr a = false) : ws.filter (fun x => !pr x) = ws := by
  rw [List.filter_eq_self]
  intro a ha
  simp [h a ha]

set_option maxRecDepth 10000 in
set_option maxHeartbeats 4000000 in
theorem hdel_any {g : FuncId} {B q : Nat} {pr : Wa → Bool} {I : World → Prop} (C : Clos g B q pr I) (cap : Nat) (ws : List Wa) (w : World) (hi : I w) (ho : OwnR w q cap ws) (hl : ws.length ≤ 140737488355328) :
    Calls Tryz.prog 43 #[.slice (some ⟨q, 0, none⟩) ws.length cap, .func (.func g) #[] #[.pointer (some ⟨B, 0, none⟩)]] w fun e w' =>
      e = .returned (.slice (some ⟨q, 0, none⟩) (ws.filter (fun x => !pr x)).length cap) ∧ OwnR w' q cap (ws.filter (fun x => !pr x)) ∧ w.grownBy w' (some q) := by
  rcases first_at pr ws with hA | ⟨A, x, R, hws, hA, hx⟩
  · rw [filt_none hA]
    have CN := hidx_none C _ ws w hi (OwnS.seq (.inr ⟨q, cap, rfl, Nat.zero_le _, ho⟩)) hl hA
    have HO := hide ho
    have two := C.two
    clear C hA hi ho
    rcases two with rfl | rfl
    all_goals
      go_enter Tryz.func43, Tryz.ntmps43
      go_wp2_with fail
      refine CN.mono ?_
      rintro e w1 ⟨rfl, hb1⟩
      have HB := hide hb1
      clear CN hb1
      go_wp2_with fail
      go_ret
      exact ⟨rfl, (unhide HO).next (unhide HB), hgrown_of (unhide HB)⟩
  · obtain ⟨n, hn⟩ : ∃ n, ws.length = n := ⟨_, rfl⟩
    have hAn : A.length < n := by rw [← hn, hws]; simp
    have hnc : n ≤ cap := by rw [← hn]; exact ho.le
    have hcl := ho.capLe
    simp only [maxLen] at hcl
    have CA := hidx_at C q 0 cap A x R w hi ho.lt (by rw [← hws]; exact ho.row) (by rw [← hws]; exact hl) hA hx
    rw [← hws, hn] at CA
    obtain ⟨T, hT⟩ : ∃ T, ws.filter (fun x => !pr x) = T := ⟨_, rfl⟩
    rw [hn] at hl ⊢
    rw [hT]
    have HTk : Hid (∀ j, n ≤ j → (ws.take j).filter (fun x => !pr x) = T) := hide (fun j hj => by rw [List.take_of_length_le (by omega)]; exact hT)
    have HF0 : Hid ((ws.take (A.length + 1)).filter (fun x => !pr x) = A) := hide (by
      rw [hws, List.take_append, List.take_of_length_le (by omega), List.filter_append, filt_none hA]
      simp [hx])
    have HG0 : Hid (ws = A ++ [x] ++ ws.drop (A.length + 1)) := hide (by
      rw [hws]; simp)
    have HN := hide hn
    have HO := hide ho
    have HC := hide C
    have HI := hide (fun W (hW : w.grownBy W (some q)) => C.keep w W hi hW)
    have two := C.two
    clear hn hws hA hx ho C hT hi
    rcases two with rfl | rfl
    all_goals
      go_enter Tryz.func43, Tryz.ntmps43
      go_wp2_with fail
      refine CA.mono ?_
      rintro e w1 ⟨rfl, hb1⟩
      have HB := hide hb1
      clear CA hb1
      go_wp2_with fail
      go_loopg [5, 6] n (fun kx s5 s6 wr => ∃ (j : Nat) (F G : List Wa), s5 = .int .i64 F.length ∧ s6 = .int .i64 j ∧ j ≤ n ∧ n - j ≤ kx ∧ F.length + G.length = j ∧ 0 < G.length ∧ Hid ((ws.take j).filter (fun x => !pr x) = F) ∧ Hid (OwnR wr q cap (F ++ G ++ ws.drop j)) ∧ Hid (w.grownBy wr (some q)))
      case atStart => exact ⟨A.length + 1, A, [x], rfl, rfl, by omega, by omega, rfl, by simp, HF0, hide (by rw [← unhide HG0]; exact (unhide HO).next (unhide HB)), hide (hgrown_of (unhide HB))⟩
      case round =>
        obtain ⟨j, F, G, rfl, rfl, hj, hg, hFG, hG0, hF, hO, hW⟩ := hrel
        have hFj : F.length < j := by omega
        by_cases hlt : j < n
        · obtain ⟨y, hy⟩ : ∃ y, ws[j]? = some y := ⟨_, List.getElem?_eq_getElem (by rw [unhide HN]; exact hlt)⟩
          have hd : ws.drop j = y :: ws.drop (j + 1) := by
            obtain ⟨h1, h2⟩ := List.getElem?_eq_some_iff.1 hy
            rw [List.drop_eq_getElem_cons h1, h2]
          have hf : (ws.take (j + 1)).filter (fun x => !pr x) = F ++ (if pr y = true then [] else [y]) := by
            rw [snoc_take hy, List.filter_append, unhide hF]
            cases hpy : pr y <;> simp [hpy]
          rw [hd] at hO
          have hyr : (F ++ G ++ y :: ws.drop (j + 1))[j]? = some y := by
            rw [List.getElem?_append_right (by simp; omega)]
            simp [hFG]
          obtain ⟨z, G', rfl⟩ : ∃ z G', G = z :: G' := by
            cases G with
            | nil => simp at hG0
            | cons z G' => exact ⟨z, G', rfl⟩
          have hzr : (F ++ z :: G' ++ y :: ws.drop (j + 1))[F.length]? = some z := by simp
          have d0 := (unhide hO).row.w0 hyr
          have d1 := (unhide hO).row.w1 hyr
          have d2 := (unhide hO).row.w2 hyr
          have hq := (unhide hO).lt
          have hqn : q ≠ wr.heap.size := by omega
          simp only [Nat.zero_add] at d0 d1 d2
          have HW1 := hide (ngrown_trans (unhide hW) (hgrown_of (allocB wr (.cells #[.int .i64 y.s, .int .i64 y.k, .string ⟨y.p.toArray⟩] 72))))
          have CX := (unhide HC).gives _ y (unhide HI _ (unhide HW1))
          have hjn : (j : Int) < (n : Int) := by omega
          by_cases hp : pr y = true
          · rw [hp] at CX hf
            rw [if_pos rfl, List.append_nil] at hf
            have HF := hide hf
            clear hy hd hf hyr hp hzr
            go_wp2_with fail
            refine CX.mono ?_
            rintro e w2 ⟨rfl, hb2⟩
            have HO2 : Hid (OwnR w2 q cap (F ++ (z :: G' ++ [y]) ++ ws.drop (j + 1))) := hide (by
              have := ((unhide hO).next (allocB wr (.cells #[.int .i64 y.s, .int .i64 y.k, .string ⟨y.p.toArray⟩] 72))).next hb2
              simpa using this)
            have HW2 := hide (ngrown_trans (unhide HW1) (hgrown_of hb2))
            clear CX hb2
            go_wp2_with fail
            go_roundg (n - (j + 1))
            case measure => omega
            case rel => exact ⟨j + 1, F, z :: G' ++ [y], rfl, rfl, by omega, Nat.le_refl _, by simp at hFG ⊢; omega, by simp, HF, HO2, HW2⟩
          · have hp' : pr y = false := by simpa using hp
            rw [hp'] at CX
            rw [if_neg hp] at hf
            have HF := hide hf
            clear hy hd hf hyr hp hp'
            have hFn : (F.length : Int) < (n : Int) := by omega
            go_wp2_with fail
            refine CX.mono ?_
            rintro e w2 ⟨rfl, hb2⟩
            have O2 := ((unhide hO).next (allocB wr (.cells #[.int .i64 y.s, .int .i64 y.k, .string ⟨y.p.toArray⟩] 72))).next hb2
            have c0 : w2.cell? ⟨wr.heap.size, 0, none⟩ = some (.int .i64 y.s) := by rw [hb2.cell (p := ⟨wr.heap.size, 0, none⟩) (by simp)]; simp
            have c1 : w2.cell? ⟨wr.heap.size, 1, none⟩ = some (.int .i64 y.k) := by rw [hb2.cell (p := ⟨wr.heap.size, 1, none⟩) (by simp)]; simp
            have c2 : w2.cell? ⟨wr.heap.size, 2, none⟩ = some (.string ⟨y.p.toArray⟩) := by rw [hb2.cell (p := ⟨wr.heap.size, 2, none⟩) (by simp)]; simp
            have e0 := O2.row.w0 hzr
            have e1 := O2.row.w1 hzr
            have e2 := O2.row.w2 hzr
            simp only [Nat.zero_add] at e0 e1 e2
            have f0 := O2.frozen (F.length * 3)
            have f1 := O2.frozen (F.length * 3 + 1)
            have f2 := O2.frozen (F.length * 3 + 2)
            have hz2 : wr.heap.size < w2.heap.size := by have := hb2.size; simp at this; omega
            have HO3 : Hid (OwnR (((w2.setCell ⟨q, F.length * 3, none⟩ (.int .i64 y.s)).setCell ⟨q, F.length * 3 + 1, none⟩ (.int .i64 y.k)).setCell ⟨q, F.length * 3 + 2, none⟩ (.string ⟨y.p.toArray⟩)) q cap ((F ++ [y]) ++ (G' ++ [y]) ++ ws.drop (j + 1))) := hide (by
              have O2' : OwnR w2 q cap (F ++ z :: (G' ++ y :: ws.drop (j + 1))) := by simpa using O2
              have := O2'.swap1 y
              have e : F ++ [y] ++ (G' ++ [y]) ++ ws.drop (j + 1) = F ++ y :: (G' ++ y :: ws.drop (j + 1)) := by simp
              rw [e]
              exact this)
            have HW3 : Hid (w.grownBy (((w2.setCell ⟨q, F.length * 3, none⟩ (.int .i64 y.s)).setCell ⟨q, F.length * 3 + 1, none⟩ (.int .i64 y.k)).setCell ⟨q, F.length * 3 + 2, none⟩ (.string ⟨y.p.toArray⟩)) (some q)) :=
              hide (ngrown_trans (ngrown_trans (ngrown_trans (ngrown_trans (unhide HW1) (hgrown_of hb2)) (ngrown_set _)) (ngrown_set _)) (ngrown_set _))
            clear CX hb2 O2 hzr
            go_wp2_with fail
            go_roundg (n - (j + 1))
            case measure => omega
            case rel => exact ⟨j + 1, F ++ [y], G' ++ [y], by rw [List.length_append]; rfl, rfl, by omega, Nat.le_refl _, by simp at hFG ⊢; omega, by simp, HF, HO3, HW3⟩
        · obtain rfl : j = n := by omega
          have hTF : T = F := ((unhide HTk j (Nat.le_refl _)).symm.trans (unhide hF))
          have OF : OwnR wr q cap F := OwnR.head (B := G ++ ws.drop j) (by have := unhide hO; rwa [List.append_assoc] at this)
          have hclr : ∀ ty c, (Builtin.clear_ #[23] ty #[.slice (some ⟨q, F.length * 3, none⟩) (j - F.length) c]).run Tryz.prog wr = .ok (.tuple #[]) (wr.setCells q (F.length * 3) (zerosW (j - F.length))) := fun ty c =>
            run_clearW wr ty q _ _ c (by omega) (fun i hi => OF.some (show F.length * 3 + i < cap * 3 by omega)) (fun i hi => OF.frozen _)
          have FIN : Hid (OwnR (wr.setCells q (F.length * 3) (zerosW (j - F.length))) q cap F ∧ w.grownBy (wr.setCells q (F.length * 3) (zerosW (j - F.length))) (some q)) :=
            hide ⟨OF.spare _ _ (Nat.le_refl _) (by rw [zerosW_length]; show _ ≤ cap * 3; omega), ngrown_trans (unhide hW) (ngrown_setCells _ _ _)⟩
          have hcn : ¬ (cap = F.length) := by omega
          have hFc : F.length ≤ cap := by omega
          have hFn : F.length ≤ j := by omega
          have hjj : ¬ ((j : Int) < (j : Int)) := by omega
          clear OF hO hW hF HTk HF0 HG0
          subst hTF
          go_wp2_with fail
          go_ret
          exact ⟨rfl, (unhide FIN).1, (unhide FIN).2⟩

end Go.Proofs.YtoacignhobchbaaGreatDoor
