/-
  What watch.told answers: the walk.
  What watch.Fire and watch.Drop answer: the walks.
-/
import Derived.Test.YtppmkgehdblbdaaDoorHB
import Derived.Deep.RegionLaw
import Derived.Maps.AppendAt
import Derived.Test.YtppmkgehdblbdaaDoorHC
import Derived.Laws.AppendOwnNone
namespace Go.Proofs.YtppmkgehdblbdaaDoor
open Go.RowKit

theorem ownS_base {α : Type} [Lay α] {W : World} {B C : Nat} {v : Value} {xs : List α} (h : OwnS W C v xs) (hB : ∀ k, v.ownBlock = some k → B ≤ k) : OwnS W B v xs := by
  rcases h with h | ⟨g, cap, rfl, _, h⟩
  · exact .inl h
  · exact .inr ⟨g, cap, rfl, hB g rfl, h⟩
theorem ownS_above {α : Type} [Lay α] {W : World} {B : Nat} {v : Value} {xs : List α} (h : OwnS W B v xs) : ∀ k, v.ownBlock = some k → B ≤ k := by
  rcases h with ⟨rfl, _⟩ | ⟨g, cap, rfl, h1, h⟩
  · intro k hk; cases hk
  · intro k hk; simp only [Value.ownBlock, Option.some.injEq] at hk; omega
theorem one_newT (w : World) (n : Nt) : OneR (w.alloc (.cells #[.int .i64 n.s, .int .i64 n.k, .string ⟨n.p.toArray⟩] 58)) w.heap.size n := heap_alloc_new w _
theorem step_app_nt {w : World} {ops : Array Oper} {o : Oper} {a : Act} {K : Act → World → Prop} {Q : Exit → Act → World → Prop} {E : Prop} (hgd : Region.wanted o (yielded ops a.tmps) = true) (s x : Operand)
    (ho : o.op = .call { callee := .builtin .append, args := #[s, x], argTypes := #[39, 39] })
    (v : Value) (ns : List Nt) (hs : a.eval s = v) (hown : OwnS w 0 v ns)
    (q : Nat) (hx : a.eval x = .slice (some ⟨q, 0, none⟩) 1 1) (t : Nt) (hnews : OneR w q t) (hl : (ns.length + 1) * 32 ≤ 140737488355328)
    (h : ∀ a' c' w', OwnS w' 0 (.slice a' (ns.length + 1) c') (ns ++ [t]) → w.grownBy w' v.ownBlock → ((Value.slice a' (ns.length + 1) c').ownBlock = v.ownBlock ∨ (Value.slice a' (ns.length + 1) c').ownBlock = some w.heap.size) → K (a.put o.dst (.slice a' (ns.length + 1) c')) w') :
    if Region.wanted o (yielded ops a.tmps) = true then Oper.wp Tryd.prog o a w K Q else E := by
  rw [if_pos hgd]
  obtain ⟨i0, hi0, hz0, hz1, hz2⟩ := tinfo
  obtain ⟨v', w', hr, h2, h3, _, h5⟩ := run_append_own_at (P := Tryd.prog) w 0 39 o.type 58 i0 _ 3 32 Tryd.underlying39 hi0 hz0 hz1 hz2 rfl (by decide) v ns.length (cellsL ns) hown.row ⟨q, 0, none⟩ 1 1 (ntcells t) rfl (one_news hnews) (Lay.one t) (by simp only [maxLen]; omega) hl (Nat.zero_le _)
  have h2' : OwnS w' 0 v' (ns ++ [t]) := OwnS.of_row (by rw [List.length_append, cellsL_snoc]; exact h2)
  obtain ⟨a', c', rfl, _⟩ := h2'.slice
  have hlen : (ns ++ [t]).length = ns.length + 1 := by simp
  rw [hlen] at h2' hr h5
  unfold Oper.wp execOp
  simp only [ho, resolve, invoke, builtin, Sem.run_bind, Sem.run_pure, Result.andThen_ok, List.map_toArray, List.map_cons, List.map_nil, hs, hx, hr]
  exact h a' c' w' h2' h3 h5

theorem told_snoc {ws : List Wa} {k : Nat} {x : Wa} {e : Ev} (h : ws[k]? = some x) : toldL (ws.take (k + 1)) e = toldL (ws.take k) e ++ (if offB x e = true then [noteOf e x] else []) := by
  rw [snoc_take h]
  simp only [toldL, List.filter_append, List.map_append]
  cases hx : offB x e <;> simp [hx]
theorem told_le (ws : List Wa) (e : Ev) (k : Nat) : (toldL (ws.take k) e).length ≤ k := by
  have := told_len (ws.take k) e
  have h2 : (ws.take k).length ≤ k := by simp; omega
  omega

set_option maxRecDepth 20000 in
set_option maxHeartbeats 4000000 in
theorem told_any (q cap B : Nat) (ws : List Wa) (e : Ev) (w : World) (hq : q < w.heap.size) (hr : RowAt w q 0 (cellsL ws)) (hE : OneR w B e) (hl : ws.length * 32 ≤ 140737488351232) (hp : e.p.length ≤ 140737488355328) :
    Calls Tryd.prog 30 #[.slice (some ⟨q, 0, none⟩) ws.length cap, evV e, .func (.func 28) #[] #[.pointer (some ⟨B, 0, none⟩)]] w fun r w' =>
      ∃ v', r = .returned v' ∧ OwnS w' w.heap.size v' (toldL ws e) ∧ Below w.heap.size w w' := by
  obtain ⟨w0, hw0⟩ : ∃ w0, w.alloc (.cells #[.int .i64 e.k, .string ⟨e.p.toArray⟩] 43) = w0 := ⟨_, rfl⟩
  have hz0 : w0.heap.size = w.heap.size + 1 := by rw [← hw0]; simp
  have hb0 : Below w.heap.size w w0 := by rw [← hw0]; exact allocB _ _
  have X0 : OneR w0 w.heap.size e := by rw [← hw0]; exact one_new w e.k e.p
  have HR := hide (fun W (hW : Below w0.heap.size w0 W) => (hr.kept hb0 hq).kept hW (by omega))
  have HX := hide (fun W (hW : Below w0.heap.size w0 W) => (⟨by simpa using (OneR.row ((hW.block _ (by omega)).trans X0) 0 _ rfl), by simpa using (OneR.row ((hW.block _ (by omega)).trans X0) 1 _ rfl)⟩ : W.cell? ⟨w.heap.size, 0, none⟩ = some (.int .i64 e.k) ∧ W.cell? ⟨w.heap.size, 1, none⟩ = some (.string ⟨e.p.toArray⟩)))
  have CF := hide (fun W (hW : Below w0.heap.size w0 W) x => fire1_any x e B W ((hW.block _ (by have := (Array.getElem?_eq_some_iff.1 hE).1; omega)).trans ((hb0.block _ (Array.getElem?_eq_some_iff.1 hE).1).trans hE)))
  have CC := fun W => hclone_any e.p W (by omega)
  have HB0 := hide hb0
  clear hr hE X0 hb0
  unfold evV
  unfold waV at CF
  go_enter Tryd.func30, Tryd.ntmps30
  go_wp2_with fail
  try rw [hw0]
  go_loopg [7, 12] ws.length (fun kx s7 s12 wr => ∃ (k : Nat) (va : Option Addr) (vc : Nat), s12 = .int .i64 k ∧ s7 = .slice va (toldL (ws.take k) e).length vc ∧ k ≤ ws.length ∧ ws.length - k ≤ kx ∧ Hid (OwnS wr w0.heap.size (.slice va (toldL (ws.take k) e).length vc) (toldL (ws.take k) e)) ∧ Hid (Below w0.heap.size w0 wr))
  case atStart => exact ⟨0, none, 0, rfl, rfl, Nat.zero_le _, Nat.le_refl _, hide (.inl ⟨rfl, rfl⟩), hide (Below.refl _ _)⟩
  case round =>
    obtain ⟨k, va, vc, rfl, rfl, hk, hg, hO, hB⟩ := hrel
    by_cases hlt : k < ws.length
    · obtain ⟨x, hx⟩ : ∃ x, ws[k]? = some x := ⟨_, List.getElem?_eq_getElem hlt⟩
      have qr := unhide HR wr (unhide hB)
      have d0 := qr.w0 hx
      have d1 := qr.w1 hx
      have d2 := qr.w2 hx
      simp only [Nat.zero_add] at d0 d1 d2
      have hqw : q < wr.heap.size := by have := (unhide hB).size; omega
      have hts := told_snoc (e := e) hx
      have hnl := told_le ws e k
      obtain ⟨N, hN⟩ : ∃ N, toldL (ws.take k) e = N := ⟨_, rfl⟩
      rw [hN] at hO hts hnl
      have hB1 := nnext (unhide hB) (allocB wr (.cells #[.int .i64 x.s, .int .i64 x.k, .string ⟨x.p.toArray⟩] 24))
      have CX := unhide CF _ hB1 x
      have HB1 := hide hB1
      rw [hN]
      clear qr hx hN hB1
      cases hpx : offB x e
      · rw [hpx] at CX hts
        simp only [Bool.false_eq_true, if_false, List.append_nil] at hts
        have HTS := hide hts
        clear hts hpx
        go_wp2_with fail
        refine CX.mono ?_
        rintro r w1 ⟨rfl, hb1⟩
        have HB2 := hide (nnext (unhide HB1) hb1)
        have HO2 := hide (((unhide hO).next (allocB wr (.cells #[.int .i64 x.s, .int .i64 x.k, .string ⟨x.p.toArray⟩] 24))).next hb1)
        clear CX hb1
        go_wp2_with fail
        go_roundg (ws.length - (k + 1))
        case measure => omega
        case rel => exact ⟨k + 1, va, vc, rfl, by rw [unhide HTS], by omega, Nat.le_refl _, by rw [unhide HTS]; exact HO2, HB2⟩
      · rw [hpx] at CX hts
        simp only [if_true] at hts
        have HTS := hide hts
        clear hts hpx
        go_wp2_with fail
        refine CX.mono ?_
        rintro r w1 ⟨rfl, hb1⟩
        have HB2 := hide (nnext (unhide HB1) hb1)
        have O2 := ((unhide hO).next (allocB wr (.cells #[.int .i64 x.s, .int .i64 x.k, .string ⟨x.p.toArray⟩] 24))).next hb1
        have K1 : ∀ w2, Below w1.heap.size w1 w2 → w2.cell? ⟨wr.heap.size, 0, none⟩ = some (.int .i64 x.s) ∧ w2.cell? ⟨w.heap.size, 0, none⟩ = some (.int .i64 e.k) ∧ w2.cell? ⟨w.heap.size, 1, none⟩ = some (.string ⟨e.p.toArray⟩) := by
          intro w2 hb2
          have hbb := nnext (unhide HB2) hb2
          refine ⟨?_, (unhide HX w2 hbb).1, (unhide HX w2 hbb).2⟩
          have hz : wr.heap.size < w1.heap.size := by have := hb1.size; simp at this; omega
          rw [hb2.cell (p := ⟨wr.heap.size, 0, none⟩) hz, hb1.cell (p := ⟨wr.heap.size, 0, none⟩) (by simp)]
          simp
        obtain ⟨m0, m1, m2⟩ := K1 w1 (Below.refl _ _)
        have HK1 := hide K1
        have KE := hide (fun w2 (hb2 : Below w1.heap.size w1 w2) => ((O2.next hb2).next (allocB w2 (.cells #[.int .i64 x.s, .int .i64 e.k, .string ⟨e.p.toArray⟩] 58))).lower (Nat.zero_le w0.heap.size))
        have KA := hide (ownS_above O2)
        have K2 : ∀ (w2 w3 : World) (a3 : Option Addr) (c3 : Nat), Below w1.heap.size w1 w2 → OwnS w3 0 (.slice a3 (N.length + 1) c3) (N ++ [⟨x.s, e.k, e.p⟩]) → (w2.alloc (.cells #[.int .i64 x.s, .int .i64 e.k, .string ⟨e.p.toArray⟩] 58)).grownBy w3 (Value.slice va N.length vc).ownBlock →
            ((Value.slice a3 (N.length + 1) c3).ownBlock = (Value.slice va N.length vc).ownBlock ∨ (Value.slice a3 (N.length + 1) c3).ownBlock = some (w2.alloc (.cells #[.int .i64 x.s, .int .i64 e.k, .string ⟨e.p.toArray⟩] 58)).heap.size) →
            OwnS w3 w0.heap.size (.slice a3 (N.length + 1) c3) (N ++ [⟨x.s, e.k, e.p⟩]) ∧ Below w0.heap.size w0 w3 := by
          intro w2 w3 a3 c3 hb2 ho3 hg3 hl3
          have hbb := nnext (nnext (unhide HB2) hb2) (allocB w2 (.cells #[.int .i64 x.s, .int .i64 e.k, .string ⟨e.p.toArray⟩] 58))
          refine ⟨ownS_base ho3 (fun j hj => ?_), hbb.grown hg3 hbb.size (unhide KA)⟩
          rcases hl3 with h | h
          · rw [h] at hj; exact unhide KA j hj
          · rw [h] at hj; cases hj; exact hbb.size
        have HK2 := hide K2
        have hsz1 : wr.heap.size < w1.heap.size := by have := hb1.size; simp at this; omega
        have hsz2 : w.heap.size < w1.heap.size := by have := (unhide HB2).size; omega
        have hNl : (N.length + 1) * 32 ≤ 140737488355328 := by omega
        clear CX hb1 K1 K2 O2
        go_wp2_with fail
        go_region_law (first
          | (refine step_app_nt (by kernel_rfl) _ _ (by rfl) (.slice va N.length vc) N (by rfl) (unhide KE w2 (unhide HB3)) w2.heap.size (by rfl) ⟨x.s, e.k, e.p⟩ (one_newT w2 ⟨x.s, e.k, e.p⟩) hNl ?_; intro a3 c3 w3 ho3 hg3 hl3; obtain ⟨o3, b3⟩ := unhide HK2 w2 w3 a3 c3 (unhide HB3) ho3 hg3 hl3; have HO3 := hide o3; have HB4 := hide b3; clear ho3 hg3 hl3 o3 b3)
          | (go_simp; refine (CC _).mono ?_; rintro r w2 ⟨rfl, hb2⟩; have HB3 : Hid (Below w1.heap.size w1 w2) := (by first | exact hb2 | exact nbelow_drew hb2); obtain ⟨p0, p1, p2⟩ := unhide HK1 w2 (unhide HB3); clear hb2))
        all_goals
          go_wp2_with fail
          go_roundg (ws.length - (k + 1))
          case measure => omega
          case rel => exact ⟨k + 1, _, _, rfl, by rw [unhide HTS, List.length_append]; rfl, by omega, Nat.le_refl _, by rw [unhide HTS, List.length_append]; exact HO3, HB4⟩
    · obtain rfl : k = ws.length := by omega
      rw [List.take_length] at hO ⊢
      have HB := hide (nnext (unhide HB0) (unhide hB))
      have hO2 : Hid (OwnS wr w.heap.size (.slice va (toldL ws e).length vc) (toldL ws e)) := hide ((unhide hO).lower (by omega))
      clear hO
      go_wp2_with fail
      go_ret
      exact ⟨_, rfl, unhide hO2, unhide HB⟩

end Go.Proofs.YtppmkgehdblbdaaDoor

namespace Go.Proofs.YtppmkgehdblbdaaDoor
open Go.RowKit

theorem take_fireN (ws : List Wa) (es : List Ev) (k : Nat) (e : Ev) (h : es[k]? = some e) : fireN ws (es.take (k + 1)) = fireN ws (es.take k) ++ toldL (fireW ws (es.take k)) e := by
  rw [snoc_take h, fireN_app]; simp [fireN]
theorem take_fireW (ws : List Wa) (es : List Ev) (k : Nat) (e : Ev) (h : es[k]? = some e) : fireW ws (es.take (k + 1)) = leftL (fireW ws (es.take k)) e := by
  rw [snoc_take h, fireW_app]; simp [fireW]
/-- notes behind notes -/
theorem wpList_app_nts {w : World} {ops : Array Oper} {rest : List Oper} {o : Oper} {a : Act} {Q : Exit → Act → World → Prop} (hgd : o.guard = none) (s x : Operand)
    (ho : o.op = .call { callee := .builtin .append, args := #[s, x], argTypes := #[39, 39] })
    (v u : Value) (ns ms : List Nt) (C : Nat) (hs : a.eval s = v) (hown : OwnS w 0 v ns) (hx : a.eval x = u) (hu : OwnS w C u ms) (hl : (ns.length + ms.length) * 32 ≤ 140737488355328)
    (h : ∀ a' c' w', OwnS w' 0 (.slice a' (ns.length + ms.length) c') (ns ++ ms) → w.grownBy w' v.ownBlock → ((Value.slice a' (ns.length + ms.length) c').ownBlock = v.ownBlock ∨ (Value.slice a' (ns.length + ms.length) c').ownBlock = some w.heap.size) → wpList Tryd.prog ops Q rest (a.put o.dst (.slice a' (ns.length + ms.length) c')) w') :
    wpList Tryd.prog ops Q (o :: rest) a w := by
  refine wpList_plain hgd fun K hK => ?_
  obtain ⟨i0, hi0, hz0, hz1, hz2⟩ := tinfo
  rcases hu with ⟨rfl, rfl⟩ | ⟨g, cap, rfl, _, hr⟩
  · obtain ⟨a', c', rfl, _⟩ := hown.slice
    have hrun := run_append_owned_none (P := Tryd.prog) (w := w) 0 39 o.type 58 i0 3 Tryd.underlying39 hi0 _ ns.length (cellsL ns) hown.row
    unfold Oper.wp execOp
    simp only [ho, resolve, invoke, builtin, Sem.run_bind, Sem.run_pure, Result.andThen_ok, List.map_toArray, List.map_cons, List.map_nil, hs, hx, hrun]
    exact hK _ _ (h a' c' w (by rw [List.append_nil]; exact hown) (World.grownBy.refl _ _) (.inl rfl))
  · obtain ⟨v', w', hrun, h2, h3, _, h5⟩ := run_append_own_at (P := Tryd.prog) w 0 39 o.type 58 i0 _ 3 32 Tryd.underlying39 hi0 hz0 hz1 hz2 rfl (by decide) v ns.length (cellsL ns) hown.row ⟨g, 0, none⟩ ms.length cap (cellsL ms) (cellsL_length ms) (fun j y hj => by rw [Addr.add_lit]; exact hr.row j y hj) (cellsL_one ms) (by simp only [maxLen]; omega) hl (Nat.zero_le _)
    have h2' : OwnS w' 0 v' (ns ++ ms) := OwnS.of_row (by rw [List.length_append, cellsL_append]; exact h2)
    obtain ⟨a', c', rfl, _⟩ := h2'.slice
    rw [List.length_append] at h2' hrun h5
    unfold Oper.wp execOp
    simp only [ho, resolve, invoke, builtin, Sem.run_bind, Sem.run_pure, Result.andThen_ok, List.map_toArray, List.map_cons, List.map_nil, hs, hx, hrun]
    exact hK _ _ (h a' c' w' h2' h3 h5)
theorem OneR.grown {W V : World} {B q : Nat} {e : Ev} (h : OneR W B e) (hg : W.grownBy V (some q)) (hne : B ≠ q) : OneR V B e :=
  (hg.block B (Array.getElem?_eq_some_iff.1 h).1 (by simp [hne])).trans h
theorem fire1_clos (B q : Nat) (e : Ev) (hne : B ≠ q) : Clos 28 B q (fun x => offB x e) (fun W => OneR W B e) :=
  ⟨.inl rfl, fun _ _ h hg => h.grown hg hne, fun W x h => fire1_any x e B W h⟩

set_option maxRecDepth 20000 in
set_option maxHeartbeats 4000000 in
theorem fire_any (v u : Value) (ws : List Wa) (es : List Ev) (w : World) (hv : SeqV w v ws) (hu : SeqV w u es) (hs : Short ws) (he : ShortE es) (hl : ws.length * 32 ≤ 140737488351232) (hle : es.length ≤ 140737488355328) :
    Calls Tryd.prog 21 #[v, u] w fun r w' => ∃ vn vl, r = .returned (.tuple #[vn, vl]) ∧ OwnS w' w.heap.size vn (fireN ws es) ∧ (∃ g, vl = .slice (some ⟨g, 0, none⟩) (fireW ws es).length (ws.length + 1) ∧ w.heap.size ≤ g ∧ OwnR w' g (ws.length + 1) (fireW ws es)) ∧ Below w.heap.size w w' := by
  have CC := hcopied_any v ws w hv hs hl
  have KR : ∀ W, Below w.heap.size w W → ∀ k x, es[k]? = some x → ∃ b off cap, u = .slice (some ⟨b, off, none⟩) es.length cap ∧ b < w.heap.size ∧ RowAt W b off (cellsL es) := fun W hW k x hx => by
    obtain ⟨b, off, cap, e, hb, hr, _, _⟩ := seq_row hu (fun h0 => by obtain ⟨h1, _⟩ := List.getElem?_eq_some_iff.1 hx; rw [h0] at h1; simp at h1)
    exact ⟨b, off, cap, e, hb, hr.kept hW hb⟩
  have HKR := hide KR
  have HE := hide he
  obtain ⟨va, vc, rfl⟩ := seq_slice hv
  obtain ⟨ua, uc, rfl⟩ := seq_slice hu
  obtain ⟨i0, hi0, hz0, hz1, hz2⟩ := tinfo
  clear hv hu hs he KR
  go_enter Tryd.func21, Tryd.ntmps21
  go_wp2_with fail
  refine CC.mono ?_
  rintro r w0 ⟨q, rfl, hq, ho, hb⟩
  have HO : Hid (OwnR w0 q (ws.length + 1) ws) := hide ho
  have HB := hide hb
  clear CC ho hb
  go_wp2_with fail
  go_loopg [6, 7, 15] es.length (fun kx s6 s7 s15 wr => ∃ (k : Nat) (na : Option Addr) (nc : Nat), s15 = .int .i64 k ∧ s6 = .slice na (fireN ws (es.take k)).length nc ∧ s7 = .slice (some ⟨q, 0, none⟩) (fireW ws (es.take k)).length (ws.length + 1) ∧ k ≤ es.length ∧ es.length - k ≤ kx ∧
    Hid (OwnS wr w.heap.size (.slice na (fireN ws (es.take k)).length nc) (fireN ws (es.take k))) ∧ Hid ((Value.slice na (fireN ws (es.take k)).length nc).ownBlock ≠ some q) ∧ Hid (OwnR wr q (ws.length + 1) (fireW ws (es.take k))) ∧ Hid (Below w.heap.size w wr))
  case atStart => exact ⟨0, none, 0, rfl, rfl, rfl, Nat.zero_le _, Nat.le_refl _, hide (.inl ⟨rfl, rfl⟩), hide (by simp [Value.ownBlock]), HO, HB⟩
  case round =>
    obtain ⟨k, na, nc, rfl, rfl, rfl, hk, hg, hN, hnq, hO, hB⟩ := hrel
    by_cases hlt : k < es.length
    · obtain ⟨e, hx⟩ : ∃ e, es[k]? = some e := ⟨_, List.getElem?_eq_getElem hlt⟩
      obtain ⟨b, off, cap, he, hb, qr⟩ := unhide HKR wr (unhide hB) k e hx
      simp only [Value.slice.injEq] at he
      obtain ⟨rfl, _, rfl⟩ := he
      have d0 := qr.e0 hx
      have d1 := qr.e1 hx
      have hep := unhide HE e (List.mem_of_getElem? hx)
      have hbw : b < wr.heap.size := Nat.lt_of_lt_of_le hb (unhide hB).size
      have HTN := hide (take_fireN ws es k e hx)
      have HTW := hide (take_fireW ws es k e hx)
      have hfl := fire_len (es.take k) ws
      obtain ⟨N, hN'⟩ : ∃ N, fireN ws (es.take k) = N := ⟨_, rfl⟩
      obtain ⟨L, hL'⟩ : ∃ L, fireW ws (es.take k) = L := ⟨_, rfl⟩
      rw [hN'] at hN hnq HTN hfl ⊢
      rw [hL'] at hO HTN HTW hfl ⊢
      have htl := told_len L e
      clear qr hx hN' hL'
      obtain ⟨wx, hwx⟩ : ∃ wx, wr.alloc (.cells #[.int .i64 e.k, .string ⟨e.p.toArray⟩] 43) = wx := ⟨_, rfl⟩
      have hbx : Below wr.heap.size wr wx := by rw [← hwx]; exact allocB _ _
      have hzx : wx.heap.size = wr.heap.size + 1 := by rw [← hwx]; simp
      have X : OneR wx wr.heap.size e := by rw [← hwx]; exact one_new wr e.k e.p
      have hqr := (unhide hO).lt
      have x0 : wx.cell? ⟨wr.heap.size, 0, none⟩ = some (.int .i64 e.k) := by simpa using X.row 0 _ rfl
      have x1 : wx.cell? ⟨wr.heap.size, 1, none⟩ = some (.string ⟨e.p.toArray⟩) := by simpa using X.row 1 _ rfl
      have CT := told_any q (ws.length + 1) wr.heap.size L e wx (by omega) ((unhide hO).next hbx).row X (by omega) hep
      unfold evV at CT
      have KT : ∀ w2 v2, OwnS w2 wx.heap.size v2 (toldL L e) → Below wx.heap.size wx w2 →
          OwnS w2 w.heap.size (.slice na N.length nc) N ∧ OwnR w2 q (ws.length + 1) L ∧ OneR w2 wr.heap.size e ∧ Below w.heap.size w w2 ∧ (∀ j, v2.ownBlock = some j → j ≠ q ∧ w.heap.size ≤ j ∧ j ≠ wr.heap.size) ∧ SeqV w2 v2 (toldL L e) := by
        intro w2 v2 h2 hb2
        have hb3 := nnext hbx hb2
        refine ⟨(unhide hN).next hb3, (unhide hO).next hb3, (hb2.block _ (by omega)).trans X, nnext (unhide hB) hb3, fun j hj => ?_, h2.seq⟩
        have := ownS_above h2 j hj
        have := (unhide hB).size
        omega
      have HKT := hide KT
      have HXZ := hide hzx
      have hno : (Value.slice na N.length nc).ownBlock ≠ some wr.heap.size := fun h => by have := (unhide hN).low _ h; omega
      have HNO := hide hno
      clear KT X hno
      go_wp2_with fail
      refine CT.mono ?_
      rintro r w2 ⟨v2, rfl, ho2, hb2⟩
      obtain ⟨n2, o2, x2, b2, k2, s2⟩ := unhide HKT w2 v2 ho2 hb2
      have hzz : wr.heap.size < w2.heap.size := by have := hb2.size; omega
      have hq2 := o2.lt
      have HQ := hide (show wr.heap.size ≠ q by omega)
      have HN2 := hide n2
      have HO2 := hide o2
      have HX2 := hide x2
      have HB2 := hide b2
      have HV2 := hide ho2
      have hml : (N.length + (toldL L e).length) * 32 ≤ 140737488355328 := by omega
      have hLl : L.length ≤ 140737488355328 := by omega
      obtain ⟨M, hM⟩ : ∃ M, toldL L e = M := ⟨_, rfl⟩
      rw [hM] at HV2 hml HTN
      have HTL : Hid (∀ L', L.filter (fun x => !offB x e) = L' → fireW ws (es.take (k + 1)) = L') := hide (fun L' h => (unhide HTW).trans h)
      obtain ⟨v2a, v2c, rfl, _⟩ := (unhide HV2).slice
      clear n2 o2 x2 b2 k2 s2 ho2 hb2 CT hM hfl htl hbx hzx hep HKT x0 x1 hwx
      go_wp2_with (at_builtin; refine wpList_app_nts rfl _ _ rfl (.slice na N.length nc) (.slice v2a M.length v2c) N M wx.heap.size rfl ((unhide HN2).lower (Nat.zero_le _)) rfl (unhide HV2) hml ?_)
      intro a3 c3 w3 ho3 hg3 hl3
      have hab := ownS_above (unhide HN2)
      have B3 : Below w.heap.size w w3 := (unhide HB2).grown hg3 (unhide HB2).size hab
      have N3 : OwnS w3 w.heap.size (.slice a3 (N.length + M.length) c3) (N ++ M) := ownS_base ho3 (fun j hj => by
        rcases hl3 with h | h
        · rw [h] at hj; exact hab j hj
        · rw [h] at hj; cases hj; exact (unhide HB2).size)
      have Q3 : (Value.slice a3 (N.length + M.length) c3).ownBlock ≠ some q := by
        rcases hl3 with h | h
        · rw [h]; exact unhide hnq
        · rw [h]; intro h'; cases h'; omega
      have O3 : OwnR w3 q (ws.length + 1) L := by
        obtain ⟨rest, h1, h2⟩ := unhide HO2
        exact ⟨rest, (hg3.block q hq2 (fun h => unhide hnq h.symm)).trans h1, h2⟩
      have X3 : OneR w3 wr.heap.size e := (hg3.block _ hzz (fun h => unhide HNO h.symm)).trans (unhide HX2)
      have CD := hdel_any (fire1_clos wr.heap.size q e (unhide HQ)) (ws.length + 1) L w3 X3 O3 hLl
      have HB3 := hide B3
      have HN3 := hide N3
      have HQ3 := hide Q3
      obtain ⟨L', hL'⟩ : ∃ L', L.filter (fun x => !offB x e) = L' := ⟨_, rfl⟩
      have HL' := hide (unhide HTL L' hL')
      rw [hL'] at CD
      clear ho3 hg3 hl3 hab B3 N3 Q3 O3 X3 hL'
      go_wp2_with fail
      refine CD.mono ?_
      rintro r w4 ⟨rfl, ho4, hg4⟩
      have HB4 := hide ((unhide HB3).grown hg4 (unhide HB3).size (fun j hj => by cases hj; exact hq))
      have HN4 := hide ((unhide HN3).grown hg4 (fun j hj h => unhide HQ3 (hj.trans h)))
      have HO4 := hide ho4
      clear CD ho4 hg4
      go_wp2_with fail
      go_roundg (es.length - (k + 1))
      case measure => omega
      case rel =>
        refine ⟨k + 1, a3, c3, rfl, ?_, ?_, by omega, Nat.le_refl _, ?_, ?_, ?_, HB4⟩
        · rw [unhide HTN, List.length_append]
        · rw [unhide HL']
        · rw [unhide HTN, List.length_append]; exact HN4
        · rw [unhide HTN, List.length_append]; exact HQ3
        · rw [unhide HL']; exact HO4
    · obtain rfl : k = es.length := by omega
      rw [List.take_length] at hN hnq hO ⊢
      go_wp2_with fail
      go_ret2
      exact ⟨_, _, rfl, unhide hN, ⟨q, rfl, hq, unhide hO⟩, unhide hB⟩

set_option maxHeartbeats 1000000 in
theorem drop_any (v : Value) (s : Int) (ws : List Wa) (w : World) (hv : SeqV w v ws) (hs : Short ws) (hl : ws.length * 32 ≤ 140737488351232) :
    Calls Tryd.prog 9 #[v, .int .i64 s] w fun r w' => ∃ g, r = .returned (.slice (some ⟨g, 0, none⟩) (dropW ws s).length (ws.length + 1)) ∧ w.heap.size ≤ g ∧ OwnR w' g (ws.length + 1) (dropW ws s) ∧ Below w.heap.size w w' := by
  have CC := hcopied_any v ws (w.alloc (.cells #[.int .i64 s] 3)) (hv.next (allocB _ _)) hs hl
  obtain ⟨va, vc, rfl⟩ := seq_slice hv
  have hLl : ws.length ≤ 140737488355328 := by omega
  obtain ⟨D, hD⟩ : ∃ D, dropW ws s = D := ⟨_, rfl⟩
  rw [hD]
  have HD : Hid (ws.filter (fun x => !decide (x.s = s)) = D) := hide hD
  clear hv hs hD
  go_enter Tryd.func9, Tryd.ntmps9
  go_wp2_with fail
  refine CC.mono ?_
  rintro r w1 ⟨q, rfl, hq, ho, hb⟩
  have hq1 : w.heap.size + 1 ≤ q := by simpa using hq
  have c1 : w1.cell? ⟨w.heap.size, 0, none⟩ = some (.int .i64 s) := by rw [hb.cell (p := ⟨w.heap.size, 0, none⟩) (by simp)]; simp
  have hz1 : w.heap.size < w1.heap.size := by have := hb.size; simp at this; omega
  have K : Clos 20 w.heap.size q (fun x => decide (x.s = s)) (fun W => W.cell? ⟨w.heap.size, 0, none⟩ = some (.int .i64 s) ∧ w.heap.size < W.heap.size) :=
    ⟨.inr rfl, fun _ _ h hg => ⟨hg.cell h.1 (by show some w.heap.size ≠ some q; simp; omega), Nat.lt_of_lt_of_le h.2 hg.size⟩, fun W x h => drop1_any x s w.heap.size W h.1 h.2⟩
  have CD := hdel_any K (ws.length + 1) ws w1 ⟨c1, hz1⟩ ho hLl
  have HB := hide (nbox_then hb)
  rw [unhide HD] at CD
  clear CC K ho hb c1 hq
  go_wp2_with fail
  refine CD.mono ?_
  rintro r w2 ⟨rfl, ho2, hg2⟩
  have HB2 := hide ((unhide HB).grown hg2 (unhide HB).size (fun j hj => by cases hj; omega))
  clear CD hg2
  go_wp2_with fail
  go_ret
  exact ⟨q, rfl, by omega, ho2, unhide HB2⟩

end Go.Proofs.YtppmkgehdblbdaaDoor
