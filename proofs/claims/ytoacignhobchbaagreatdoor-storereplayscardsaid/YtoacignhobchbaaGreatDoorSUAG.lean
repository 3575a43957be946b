/-
  What watch.Fire and watch.Drop answer: the walks.
  What zxid's functions on numbers answer, for every number: the walks.
-/
import Derived.Test.YtoacignhobchbaaGreatDoorSUAF
import Derived.Laws.AppendOwnNone
import Derived.Test.YtoacignhobchbaaGreatDoorRows
import Derived.Test.YtoacignhobchbaaGreatDoorSUJ
import Derived.WalkKit
import Derived.WalkSpells
import Derived.WalkLawsBesides
namespace Go.Proofs.YtoacignhobchbaaGreatDoor
open Go.RowKit

theorem take_fireN (ws : List Wa) (es : List Ev) (k : Nat) (e : Ev) (h : es[k]? = some e) : fireN ws (es.take (k + 1)) = fireN ws (es.take k) ++ toldL (fireW ws (es.take k)) e := by
  rw [snoc_take h, fireN_app]; simp [fireN]
theorem take_fireW (ws : List Wa) (es : List Ev) (k : Nat) (e : Ev) (h : es[k]? = some e) : fireW ws (es.take (k + 1)) = leftL (fireW ws (es.take k)) e := by
  rw [snoc_take h, fireW_app]; simp [fireW]
/-- notes behind notes -/
theorem wpList_app_nts {w : World} {ops : Array Oper} {rest : List Oper} {o : Oper} {a : Act} {Q : Exit → Act → World → Prop} (hgd : o.guard = none) (s x : Operand)
    (ho : o.op = .call { callee := .builtin .append, args := #[s, x], argTypes := #[42, 42] })
    (v u : Value) (ns ms : List Nt) (C : Nat) (hs : a.eval s = v) (hown : OwnS w 0 v ns) (hx : a.eval x = u) (hu : OwnS w C u ms) (hl : (ns.length + ms.length) * 32 ≤ 140737488355328)
    (h : ∀ a' c' w', OwnS w' 0 (.slice a' (ns.length + ms.length) c') (ns ++ ms) → w.grownBy w' v.ownBlock → ((Value.slice a' (ns.length + ms.length) c').ownBlock = v.ownBlock ∨ (Value.slice a' (ns.length + ms.length) c').ownBlock = some w.heap.size) → wpList Tryz.prog ops Q rest (a.put o.dst (.slice a' (ns.length + ms.length) c')) w') :
    wpList Tryz.prog ops Q (o :: rest) a w := by
  refine wpList_plain hgd fun K hK => ?_
  obtain ⟨i0, hi0, hz0, hz1, hz2⟩ := tinfo
  rcases hu with ⟨rfl, rfl⟩ | ⟨g, cap, rfl, _, hr⟩
  · obtain ⟨a', c', rfl, _⟩ := hown.slice
    have hrun := run_append_owned_none (P := Tryz.prog) (w := w) 0 42 o.type 130 i0 3 Tryz.underlying42 hi0 _ ns.length (cellsL ns) hown.row
    unfold Oper.wp execOp
    simp only [ho, resolve, invoke, builtin, Sem.run_bind, Sem.run_pure, Result.andThen_ok, List.map_toArray, List.map_cons, List.map_nil, hs, hx, hrun]
    exact hK _ _ (h a' c' w (by rw [List.append_nil]; exact hown) (World.grownBy.refl _ _) (.inl rfl))
  · obtain ⟨v', w', hrun, h2, h3, _, h5⟩ := run_append_own_at (P := Tryz.prog) w 0 42 o.type 130 i0 _ 3 32 Tryz.underlying42 hi0 hz0 hz1 hz2 rfl (by decide) v ns.length (cellsL ns) hown.row ⟨g, 0, none⟩ ms.length cap (cellsL ms) (cellsL_length ms) (fun j y hj => by rw [Addr.add_lit]; exact hr.row j y hj) (cellsL_one ms) (by simp only [maxLen]; omega) hl (Nat.zero_le _)
    have h2' : OwnS w' 0 v' (ns ++ ms) := OwnS.of_row (by rw [List.length_append, cellsL_append]; exact h2)
    obtain ⟨a', c', rfl, _⟩ := h2'.slice
    rw [List.length_append] at h2' hrun h5
    unfold Oper.wp execOp
    simp only [ho, resolve, invoke, builtin, Sem.run_bind, Sem.run_pure, Result.andThen_ok, List.map_toArray, List.map_cons, List.map_nil, hs, hx, hrun]
    exact hK _ _ (h a' c' w' h2' h3 h5)
theorem OneR.grown {W V : World} {B q : Nat} {e : Ev} (h : OneR W B e) (hg : W.grownBy V (some q)) (hne : B ≠ q) : OneR V B e :=
  (hg.block B (Array.getElem?_eq_some_iff.1 h).1 (by simp [hne])).trans h
theorem fire1_clos (B q : Nat) (e : Ev) (hne : B ≠ q) : Clos 40 B q (fun x => offB x e) (fun W => OneR W B e) :=
  ⟨.inl rfl, fun _ _ h hg => h.grown hg hne, fun W x h => fire1_any x e B W h⟩

set_option maxRecDepth 20000 in
set_option maxHeartbeats 4000000 in
theorem fire_any (v u : Value) (ws : List Wa) (es : List Ev) (w : World) (hv : SeqV w v ws) (hu : SeqV w u es) (hs : Short ws) (he : ShortE es) (hl : ws.length * 32 ≤ 140737488351232) (hle : es.length ≤ 140737488355328) :
    Calls Tryz.prog 19 #[v, u] w fun r w' => ∃ vn vl, r = .returned (.tuple #[vn, vl]) ∧ OwnS w' w.heap.size vn (fireN ws es) ∧ (∃ g, vl = .slice (some ⟨g, 0, none⟩) (fireW ws es).length (ws.length + 1) ∧ w.heap.size ≤ g ∧ OwnR w' g (ws.length + 1) (fireW ws es)) ∧ Below w.heap.size w w' := by
  have CC := hcopied_any v ws w hv hs hl
  have KR : ∀ W, Below w.heap.size w W → ∀ k x, es[k]? = some x → ∃ b off cap, u = .slice (some ⟨b, off, none⟩) es.length cap ∧ b < w.heap.size ∧ RowAt W b off (cellsL es) := fun W hW k x hx => by
    obtain ⟨b, off, cap, e, hb, hr, _, _⟩ := seq_row hu (fun h0 => by obtain ⟨h1, _⟩ := List.getElem?_eq_some_iff.1 hx; rw [h0] at h1; simp at h1)
    exact ⟨b, off, cap, e, hb, hr.kept hW hb⟩
  have HKR := hide KR
  have HE := hide he
  obtain ⟨va, vc, rfl⟩ := seq_slice hv
  obtain ⟨ua, uc, rfl⟩ := seq_slice hu
  obtain ⟨i0, hi0, hz0, hz1, hz2⟩ := tinfo
  clear hv hu hs he KR
  go_enter Tryz.func19, Tryz.ntmps19
  go_wp2_with fail
  refine CC.mono ?_
  rintro r w0 ⟨q, rfl, hq, ho, hb⟩
  have HO : Hid (OwnR w0 q (ws.length + 1) ws) := hide ho
  have HB := hide hb
  clear CC ho hb
  go_wp2_with fail
  go_loopg [6, 7, 15] es.length (fun kx s6 s7 s15 wr => ∃ (k : Nat) (na : Option Addr) (nc : Nat), s15 = .int .i64 k ∧ s6 = .slice na (fireN ws (es.take k)).length nc ∧ s7 = .slice (some ⟨q, 0, none⟩) (fireW ws (es.take k)).length (ws.length + 1) ∧ k ≤ es.length ∧ es.length - k ≤ kx ∧
    Hid (OwnS wr w.heap.size (.slice na (fireN ws (es.take k)).length nc) (fireN ws (es.take k))) ∧ Hid ((Value.slice na (fireN ws (es.take k)).length nc).ownBlock ≠ some q) ∧ Hid (OwnR wr q (ws.length + 1) (fireW ws (es.take k))) ∧ Hid (Below w.heap.size w wr))
  case atStart => exact ⟨0, none, 0, rfl, rfl, rfl, Nat.zero_le _, Nat.le_refl _, hide (.inl ⟨rfl, rfl⟩), hide (by simp [Value.ownBlock]), HO, HB⟩
  case round =>
    obtain ⟨k, na, nc, rfl, rfl, rfl, hk, hg, hN, hnq, hO, hB⟩ := hrel
    by_cases hlt : k < es.length
    · obtain ⟨e, hx⟩ : ∃ e, es[k]? = some e := ⟨_, List.getElem?_eq_getElem hlt⟩
      obtain ⟨b, off, cap, he, hb, qr⟩ := unhide HKR wr (unhide hB) k e hx
      simp only [Value.slice.injEq] at he
      obtain ⟨rfl, _, rfl⟩ := he
      have d0 := qr.e0 hx
      have d1 := qr.e1 hx
      have hep := unhide HE e (List.mem_of_getElem? hx)
      have hbw : b < wr.heap.size := Nat.lt_of_lt_of_le hb (unhide hB).size
      have HTN := hide (take_fireN ws es k e hx)
      have HTW := hide (take_fireW ws es k e hx)
      have hfl := fire_len (es.take k) ws
      obtain ⟨N, hN'⟩ : ∃ N, fireN ws (es.take k) = N := ⟨_, rfl⟩
      obtain ⟨L, hL'⟩ : ∃ L, fireW ws (es.take k) = L := ⟨_, rfl⟩
      rw [hN'] at hN hnq HTN hfl ⊢
      rw [hL'] at hO HTN HTW hfl ⊢
      have htl := told_len L e
      clear qr hx hN' hL'
      obtain ⟨wx, hwx⟩ : ∃ wx, wr.alloc (.cells #[.int .i64 e.k, .string ⟨e.p.toArray⟩] 97) = wx := ⟨_, rfl⟩
      have hbx : Below wr.heap.size wr wx := by rw [← hwx]; exact allocB _ _
      have hzx : wx.heap.size = wr.heap.size + 1 := by rw [← hwx]; simp
      have X : OneR wx wr.heap.size e := by rw [← hwx]; exact one_new wr e.k e.p
      have hqr := (unhide hO).lt
      have x0 : wx.cell? ⟨wr.heap.size, 0, none⟩ = some (.int .i64 e.k) := by simpa using X.row 0 _ rfl
      have x1 : wx.cell? ⟨wr.heap.size, 1, none⟩ = some (.string ⟨e.p.toArray⟩) := by simpa using X.row 1 _ rfl
      have CT := told_any q (ws.length + 1) wr.heap.size L e wx (by omega) ((unhide hO).next hbx).row X (by omega) hep
      unfold evV at CT
      have KT : ∀ w2 v2, OwnS w2 wx.heap.size v2 (toldL L e) → Below wx.heap.size wx w2 →
          OwnS w2 w.heap.size (.slice na N.length nc) N ∧ OwnR w2 q (ws.length + 1) L ∧ OneR w2 wr.heap.size e ∧ Below w.heap.size w w2 ∧ (∀ j, v2.ownBlock = some j → j ≠ q ∧ w.heap.size ≤ j ∧ j ≠ wr.heap.size) ∧ SeqV w2 v2 (toldL L e) := by
        intro w2 v2 h2 hb2
        have hb3 := nnext hbx hb2
        refine ⟨(unhide hN).next hb3, (unhide hO).next hb3, (hb2.block _ (by omega)).trans X, nnext (unhide hB) hb3, fun j hj => ?_, h2.seq⟩
        have := ownS_above h2 j hj
        have := (unhide hB).size
        omega
      have HKT := hide KT
      have HXZ := hide hzx
      have hno : (Value.slice na N.length nc).ownBlock ≠ some wr.heap.size := fun h => by have := (unhide hN).low _ h; omega
      have HNO := hide hno
      clear KT X hno
      go_wp2_with fail
      refine CT.mono ?_
      rintro r w2 ⟨v2, rfl, ho2, hb2⟩
      obtain ⟨n2, o2, x2, b2, k2, s2⟩ := unhide HKT w2 v2 ho2 hb2
      have hzz : wr.heap.size < w2.heap.size := by have := hb2.size; omega
      have hq2 := o2.lt
      have HQ := hide (show wr.heap.size ≠ q by omega)
      have HN2 := hide n2
      have HO2 := hide o2
      have HX2 := hide x2
      have HB2 := hide b2
      have HV2 := hide ho2
      have hml : (N.length + (toldL L e).length) * 32 ≤ 140737488355328 := by omega
      have hLl : L.length ≤ 140737488355328 := by omega
      obtain ⟨M, hM⟩ : ∃ M, toldL L e = M := ⟨_, rfl⟩
      rw [hM] at HV2 hml HTN
      have HTL : Hid (∀ L', L.filter (fun x => !offB x e) = L' → fireW ws (es.take (k + 1)) = L') := hide (fun L' h => (unhide HTW).trans h)
      obtain ⟨v2a, v2c, rfl, _⟩ := (unhide HV2).slice
      clear n2 o2 x2 b2 k2 s2 ho2 hb2 CT hM hfl htl hbx hzx hep HKT x0 x1 hwx
      go_wp2_with (at_builtin; refine wpList_app_nts rfl _ _ rfl (.slice na N.length nc) (.slice v2a M.length v2c) N M wx.heap.size rfl ((unhide HN2).lower (Nat.zero_le _)) rfl (unhide HV2) hml ?_)
      intro a3 c3 w3 ho3 hg3 hl3
      have hab := ownS_above (unhide HN2)
      have B3 : Below w.heap.size w w3 := (unhide HB2).grown hg3 (unhide HB2).size hab
      have N3 : OwnS w3 w.heap.size (.slice a3 (N.length + M.length) c3) (N ++ M) := ownS_base ho3 (fun j hj => by
        rcases hl3 with h | h
        · rw [h] at hj; exact hab j hj
        · rw [h] at hj; cases hj; exact (unhide HB2).size)
      have Q3 : (Value.slice a3 (N.length + M.length) c3).ownBlock ≠ some q := by
        rcases hl3 with h | h
        · rw [h]; exact unhide hnq
        · rw [h]; intro h'; cases h'; omega
      have O3 : OwnR w3 q (ws.length + 1) L := by
        obtain ⟨rest, h1, h2⟩ := unhide HO2
        exact ⟨rest, (hg3.block q hq2 (fun h => unhide hnq h.symm)).trans h1, h2⟩
      have X3 : OneR w3 wr.heap.size e := (hg3.block _ hzz (fun h => unhide HNO h.symm)).trans (unhide HX2)
      have CD := hdel_any (fire1_clos wr.heap.size q e (unhide HQ)) (ws.length + 1) L w3 X3 O3 hLl
      have HB3 := hide B3
      have HN3 := hide N3
      have HQ3 := hide Q3
      obtain ⟨L', hL'⟩ : ∃ L', L.filter (fun x => !offB x e) = L' := ⟨_, rfl⟩
      have HL' := hide (unhide HTL L' hL')
      rw [hL'] at CD
      clear ho3 hg3 hl3 hab B3 N3 Q3 O3 X3 hL'
      go_wp2_with fail
      refine CD.mono ?_
      rintro r w4 ⟨rfl, ho4, hg4⟩
      have HB4 := hide ((unhide HB3).grown hg4 (unhide HB3).size (fun j hj => by cases hj; exact hq))
      have HN4 := hide ((unhide HN3).grown hg4 (fun j hj h => unhide HQ3 (hj.trans h)))
      have HO4 := hide ho4
      clear CD ho4 hg4
      go_wp2_with fail
      go_roundg (es.length - (k + 1))
      case measure => omega
      case rel =>
        refine ⟨k + 1, a3, c3, rfl, ?_, ?_, by omega, Nat.le_refl _, ?_, ?_, ?_, HB4⟩
        · rw [unhide HTN, List.length_append]
        · rw [unhide HL']
        · rw [unhide HTN, List.length_append]; exact HN4
        · rw [unhide HTN, List.length_append]; exact HQ3
        · rw [unhide HL']; exact HO4
    · obtain rfl : k = es.length := by omega
      rw [List.take_length] at hN hnq hO ⊢
      go_wp2_with fail
      go_ret2
      exact ⟨_, _, rfl, unhide hN, ⟨q, rfl, hq, unhide hO⟩, unhide hB⟩

set_option maxRecDepth 10000 in
set_option maxHeartbeats 1000000 in
theorem drop_any (v : Value) (s : Int) (ws : List Wa) (w : World) (hv : SeqV w v ws) (hs : Short ws) (hl : ws.length * 32 ≤ 140737488351232) :
    Calls Tryz.prog 20 #[v, .int .i64 s] w fun r w' => ∃ g, r = .returned (.slice (some ⟨g, 0, none⟩) (dropW ws s).length (ws.length + 1)) ∧ w.heap.size ≤ g ∧ OwnR w' g (ws.length + 1) (dropW ws s) ∧ Below w.heap.size w w' := by
  have CC := hcopied_any v ws (w.alloc (.cells #[.int .i64 s] 3)) (hv.next (allocB _ _)) hs hl
  obtain ⟨va, vc, rfl⟩ := seq_slice hv
  have hLl : ws.length ≤ 140737488355328 := by omega
  obtain ⟨D, hD⟩ : ∃ D, dropW ws s = D := ⟨_, rfl⟩
  rw [hD]
  have HD : Hid (ws.filter (fun x => !decide (x.s = s)) = D) := hide hD
  clear hv hs hD
  go_enter Tryz.func20, Tryz.ntmps20
  go_wp2_with fail
  refine CC.mono ?_
  rintro r w1 ⟨q, rfl, hq, ho, hb⟩
  have hq1 : w.heap.size + 1 ≤ q := by simpa using hq
  have c1 : w1.cell? ⟨w.heap.size, 0, none⟩ = some (.int .i64 s) := by rw [hb.cell (p := ⟨w.heap.size, 0, none⟩) (by simp)]; simp
  have hz1 : w.heap.size < w1.heap.size := by have := hb.size; simp at this; omega
  have K : Clos 44 w.heap.size q (fun x => decide (x.s = s)) (fun W => W.cell? ⟨w.heap.size, 0, none⟩ = some (.int .i64 s) ∧ w.heap.size < W.heap.size) :=
    ⟨.inr rfl, fun _ _ h hg => ⟨hg.cell h.1 (by show some w.heap.size ≠ some q; simp; omega), Nat.lt_of_lt_of_le h.2 hg.size⟩, fun W x h => drop1_any x s w.heap.size W h.1 h.2⟩
  have CD := hdel_any K (ws.length + 1) ws w1 ⟨c1, hz1⟩ ho hLl
  have HB := hide (nbox_then hb)
  rw [unhide HD] at CD
  clear CC K ho hb c1 hq
  go_wp2_with fail
  refine CD.mono ?_
  rintro r w2 ⟨rfl, ho2, hg2⟩
  have HB2 := hide ((unhide HB).grown hg2 (unhide HB).size (fun j hj => by cases hj; omega))
  clear CD hg2
  go_wp2_with fail
  go_ret
  exact ⟨q, rfl, by omega, ho2, unhide HB2⟩

end Go.Proofs.YtoacignhobchbaaGreatDoor

namespace Go.Proofs.YtoacignhobchbaaGreatDoor
open Go.RowKit
set_option maxRecDepth 10000 in

set_option maxHeartbeats 400000 in
theorem zmake_any (e c : Int) (w : World) :
    Calls Tryz.prog 103 #[.int .i64 e, .int .i64 c] w fun x w' => x = .returned (.tuple #[.int .i64 (zMake e c), .int .i64 (zMakeE e c)]) ∧ w' = w := by
  by_cases h1 : e < 0
  · have H := hide (zMake_no (e := e) (c := c) (.inl (zIn_no (by omega))))
    go_enter Tryz.func103, Tryz.ntmps103
    go_wp2
    go_ret2
    exact ⟨ret_int2 (unhide H).1.symm (unhide H).2.symm, rfl⟩
  by_cases h2 : 2147483647 < e
  · have H := hide (zMake_no (e := e) (c := c) (.inl (zIn_no (by omega))))
    go_enter Tryz.func103, Tryz.ntmps103
    go_wp2
    go_ret2
    exact ⟨ret_int2 (unhide H).1.symm (unhide H).2.symm, rfl⟩
  by_cases h3 : c < 0
  · have H := hide (zMake_no (e := e) (c := c) (.inr (zIn_no (by omega))))
    go_enter Tryz.func103, Tryz.ntmps103
    go_wp2
    go_ret2
    exact ⟨ret_int2 (unhide H).1.symm (unhide H).2.symm, rfl⟩
  by_cases h4 : 2147483647 < c
  · have H := hide (zMake_no (e := e) (c := c) (.inr (zIn_no (by omega))))
    go_enter Tryz.func103, Tryz.ntmps103
    go_wp2
    go_ret2
    exact ⟨ret_int2 (unhide H).1.symm (unhide H).2.symm, rfl⟩
  have H := hide (zMake_yes (e := e) (c := c) (zIn_iff.2 (by omega)) (zIn_iff.2 (by omega)))
  go_enter Tryz.func103, Tryz.ntmps103
  go_wp2
  go_ret2
  exact ⟨ret_int2 ((or_join (by omega) (by omega) (by omega) (by omega)).trans (unhide H).1.symm) (unhide H).2.symm, rfl⟩

set_option maxRecDepth 10000 in
set_option maxHeartbeats 400000 in
theorem zepoch_any (z : Int) (w : World) :
    Calls Tryz.prog 65 #[.int .i64 z] w fun e w' => e = .returned (.int .i64 (zEpoch z)) ∧ w' = w := by
  cases hg : zGood z
  · have H := hide (zEpoch_no hg)
    have Hg := hide hg
    clear hg
    go_enter Tryz.func65, Tryz.ntmps65
    go_wp2_with fail
    refine (zgood_any z _).mono ?_
    rintro e w1 ⟨rfl, rfl⟩
    rw [unhide Hg]
    go_wp2_with fail
    go_ret
    exact ⟨ret_int (unhide H).symm, rfl⟩
  · have H := hide (zEpoch_yes hg)
    have Hg := hide hg
    clear hg
    go_enter Tryz.func65, Tryz.ntmps65
    go_wp2_with fail
    refine (zgood_any z _).mono ?_
    rintro e w1 ⟨rfl, rfl⟩
    rw [unhide Hg]
    go_wp2_with fail
    go_ret
    exact ⟨ret_int (unhide H).symm, rfl⟩

end Go.Proofs.YtoacignhobchbaaGreatDoor
