/-
  What watch.Fire and watch.Drop answer: the walks.
  store.Commit's closure: the walk.
  Transactions done one behind the other: plain lemmas.
  What zxid's functions on numbers answer, for every number: the walks.
  What zxid.part and zxid.Read answer, for every text: the walks; strings.Cut at a separator of one byte beside them.
-/
import Derived.Test.YtoacignhobchbaaGreatDoorSRT
import Derived.Laws.AppendOwnNone
import Derived.Test.YtoacignhobchbaaGreatDoorSRL
import Derived.Test.YtoacignhobchbaaGreatDoorSRR
import Derived.Test.YtoacignhobchbaaGreatDoorRows
import Derived.Test.YtoacignhobchbaaGreatDoorSRK
import Derived.WalkKit
import Derived.WalkSpells
import Derived.WalkLawsBesides
import Derived.Test.YtoacignhobchbaaGreatDoorSRB
import Derived.Test.YtoacignhobchbaaGreatDoorShelf
import Derived.WalkSmall
import Derived.RegionTactic
namespace Go.Proofs.YtoacignhobchbaaGreatDoor
open Go.RowKit

theorem take_fireN (ws : List Wa) (es : List Ev) (k : Nat) (e : Ev) (h : es[k]? = some e) : fireN ws (es.take (k + 1)) = fireN ws (es.take k) ++ toldL (fireW ws (es.take k)) e := by
  rw [snoc_take h, fireN_app]; simp [fireN]
theorem take_fireW (ws : List Wa) (es : List Ev) (k : Nat) (e : Ev) (h : es[k]? = some e) : fireW ws (es.take (k + 1)) = leftL (fireW ws (es.take k)) e := by
  rw [snoc_take h, fireW_app]; simp [fireW]
/-- notes behind notes -/
theorem wpList_app_nts {w : World} {ops : Array Oper} {rest : List Oper} {o : Oper} {a : Act} {Q : Exit → Act → World → Prop} (hgd : o.guard = none) (s x : Operand)
    (ho : o.op = .call { callee := .builtin .append, args := #[s, x], argTypes := #[42, 42] })
    (v u : Value) (ns ms : List Nt) (C : Nat) (hs : a.eval s = v) (hown : OwnS w 0 v ns) (hx : a.eval x = u) (hu : OwnS w C u ms) (hl : (ns.length + ms.length) * 32 ≤ 140737488355328)
    (h : ∀ a' c' w', OwnS w' 0 (.slice a' (ns.length + ms.length) c') (ns ++ ms) → w.grownBy w' v.ownBlock → ((Value.slice a' (ns.length + ms.length) c').ownBlock = v.ownBlock ∨ (Value.slice a' (ns.length + ms.length) c').ownBlock = some w.heap.size) → wpList Tryz.prog ops Q rest (a.put o.dst (.slice a' (ns.length + ms.length) c')) w') :
    wpList Tryz.prog ops Q (o :: rest) a w := by
  refine wpList_plain hgd fun K hK => ?_
  obtain ⟨i0, hi0, hz0, hz1, hz2⟩ := tinfo
  rcases hu with ⟨rfl, rfl⟩ | ⟨g, cap, rfl, _, hr⟩
  · obtain ⟨a', c', rfl, _⟩ := hown.slice
    have hrun := run_append_owned_none (P := Tryz.prog) (w := w) 0 42 o.type 130 i0 3 Tryz.underlying42 hi0 _ ns.length (cellsL ns) hown.row
    unfold Oper.wp execOp
    simp only [ho, resolve, invoke, builtin, Sem.run_bind, Sem.run_pure, Result.andThen_ok, List.map_toArray, List.map_cons, List.map_nil, hs, hx, hrun]
    exact hK _ _ (h a' c' w (by rw [List.append_nil]; exact hown) (World.grownBy.refl _ _) (.inl rfl))
  · obtain ⟨v', w', hrun, h2, h3, _, h5⟩ := run_append_own_at (P := Tryz.prog) w 0 42 o.type 130 i0 _ 3 32 Tryz.underlying42 hi0 hz0 hz1 hz2 rfl (by decide) v ns.length (cellsL ns) hown.row ⟨g, 0, none⟩ ms.length cap (cellsL ms) (cellsL_length ms) (fun j y hj => by rw [Addr.add_lit]; exact hr.row j y hj) (cellsL_one ms) (by simp only [maxLen]; omega) hl (Nat.zero_le _)
    have h2' : OwnS w' 0 v' (ns ++ ms) := OwnS.of_row (by rw [List.length_append, cellsL_append]; exact h2)
    obtain ⟨a', c', rfl, _⟩ := h2'.slice
    rw [List.length_append] at h2' hrun h5
    unfold Oper.wp execOp
    simp only [ho, resolve, invoke, builtin, Sem.run_bind, Sem.run_pure, Result.andThen_ok, List.map_toArray, List.map_cons, List.map_nil, hs, hx, hrun]
    exact hK _ _ (h a' c' w' h2' h3 h5)
theorem OneR.grown {W V : World} {B q : Nat} {e : Ev} (h : OneR W B e) (hg : W.grownBy V (some q)) (hne : B ≠ q) : OneR V B e :=
  (hg.block B (Array.getElem?_eq_some_iff.1 h).1 (by simp [hne])).trans h
theorem fire1_clos (B q : Nat) (e : Ev) (hne : B ≠ q) : Clos 40 B q (fun x => offB x e) (fun W => OneR W B e) :=
  ⟨.inl rfl, fun _ _ h hg => h.grown hg hne, fun W x h => fire1_any x e B W h⟩

set_option maxRecDepth 20000 in
set_option maxHeartbeats 4000000 in
theorem fire_any (v u : Value) (ws : List Wa) (es : List Ev) (w : World) (hv : SeqV w v ws) (hu : SeqV w u es) (hs : Short ws) (he : ShortE es) (hl : ws.length * 32 ≤ 140737488351232) (hle : es.length ≤ 140737488355328) :
    Calls Tryz.prog 19 #[v, u] w fun r w' => ∃ vn vl, r = .returned (.tuple #[vn, vl]) ∧ OwnS w' w.heap.size vn (fireN ws es) ∧ (∃ g, vl = .slice (some ⟨g, 0, none⟩) (fireW ws es).length (ws.length + 1) ∧ w.heap.size ≤ g ∧ OwnR w' g (ws.length + 1) (fireW ws es)) ∧ Below w.heap.size w w' := by
  have CC := hcopied_any v ws w hv hs hl
  have KR : ∀ W, Below w.heap.size w W → ∀ k x, es[k]? = some x → ∃ b off cap, u = .slice (some ⟨b, off, none⟩) es.length cap ∧ b < w.heap.size ∧ RowAt W b off (cellsL es) := fun W hW k x hx => by
    obtain ⟨b, off, cap, e, hb, hr, _, _⟩ := seq_row hu (fun h0 => by obtain ⟨h1, _⟩ := List.getElem?_eq_some_iff.1 hx; rw [h0] at h1; simp at h1)
    exact ⟨b, off, cap, e, hb, hr.kept hW hb⟩
  have HKR := hide KR
  have HE := hide he
  obtain ⟨va, vc, rfl⟩ := seq_slice hv
  obtain ⟨ua, uc, rfl⟩ := seq_slice hu
  obtain ⟨i0, hi0, hz0, hz1, hz2⟩ := tinfo
  clear hv hu hs he KR
  go_enter Tryz.func19, Tryz.ntmps19
  go_wp2_with fail
  refine CC.mono ?_
  rintro r w0 ⟨q, rfl, hq, ho, hb⟩
  have HO : Hid (OwnR w0 q (ws.length + 1) ws) := hide ho
  have HB := hide hb
  clear CC ho hb
  go_wp2_with fail
  go_loopg [6, 7, 15] es.length (fun kx s6 s7 s15 wr => ∃ (k : Nat) (na : Option Addr) (nc : Nat), s15 = .int .i64 k ∧ s6 = .slice na (fireN ws (es.take k)).length nc ∧ s7 = .slice (some ⟨q, 0, none⟩) (fireW ws (es.take k)).length (ws.length + 1) ∧ k ≤ es.length ∧ es.length - k ≤ kx ∧
    Hid (OwnS wr w.heap.size (.slice na (fireN ws (es.take k)).length nc) (fireN ws (es.take k))) ∧ Hid ((Value.slice na (fireN ws (es.take k)).length nc).ownBlock ≠ some q) ∧ Hid (OwnR wr q (ws.length + 1) (fireW ws (es.take k))) ∧ Hid (Below w.heap.size w wr))
  case atStart => exact ⟨0, none, 0, rfl, rfl, rfl, Nat.zero_le _, Nat.le_refl _, hide (.inl ⟨rfl, rfl⟩), hide (by simp [Value.ownBlock]), HO, HB⟩
  case round =>
    obtain ⟨k, na, nc, rfl, rfl, rfl, hk, hg, hN, hnq, hO, hB⟩ := hrel
    by_cases hlt : k < es.length
    · obtain ⟨e, hx⟩ : ∃ e, es[k]? = some e := ⟨_, List.getElem?_eq_getElem hlt⟩
      obtain ⟨b, off, cap, he, hb, qr⟩ := unhide HKR wr (unhide hB) k e hx
      simp only [Value.slice.injEq] at he
      obtain ⟨rfl, _, rfl⟩ := he
      have d0 := qr.e0 hx
      have d1 := qr.e1 hx
      have hep := unhide HE e (List.mem_of_getElem? hx)
      have hbw : b < wr.heap.size := Nat.lt_of_lt_of_le hb (unhide hB).size
      have HTN := hide (take_fireN ws es k e hx)
      have HTW := hide (take_fireW ws es k e hx)
      have hfl := fire_len (es.take k) ws
      obtain ⟨N, hN'⟩ : ∃ N, fireN ws (es.take k) = N := ⟨_, rfl⟩
      obtain ⟨L, hL'⟩ : ∃ L, fireW ws (es.take k) = L := ⟨_, rfl⟩
      rw [hN'] at hN hnq HTN hfl ⊢
      rw [hL'] at hO HTN HTW hfl ⊢
      have htl := told_len L e
      clear qr hx hN' hL'
      obtain ⟨wx, hwx⟩ : ∃ wx, wr.alloc (.cells #[.int .i64 e.k, .string ⟨e.p.toArray⟩] 97) = wx := ⟨_, rfl⟩
      have hbx : Below wr.heap.size wr wx := by rw [← hwx]; exact allocB _ _
      have hzx : wx.heap.size = wr.heap.size + 1 := by rw [← hwx]; simp
      have X : OneR wx wr.heap.size e := by rw [← hwx]; exact one_new wr e.k e.p
      have hqr := (unhide hO).lt
      have x0 : wx.cell? ⟨wr.heap.size, 0, none⟩ = some (.int .i64 e.k) := by simpa using X.row 0 _ rfl
      have x1 : wx.cell? ⟨wr.heap.size, 1, none⟩ = some (.string ⟨e.p.toArray⟩) := by simpa using X.row 1 _ rfl
      have CT := told_any q (ws.length + 1) wr.heap.size L e wx (by omega) ((unhide hO).next hbx).row X (by omega) hep
      unfold evV at CT
      have KT : ∀ w2 v2, OwnS w2 wx.heap.size v2 (toldL L e) → Below wx.heap.size wx w2 →
          OwnS w2 w.heap.size (.slice na N.length nc) N ∧ OwnR w2 q (ws.length + 1) L ∧ OneR w2 wr.heap.size e ∧ Below w.heap.size w w2 ∧ (∀ j, v2.ownBlock = some j → j ≠ q ∧ w.heap.size ≤ j ∧ j ≠ wr.heap.size) ∧ SeqV w2 v2 (toldL L e) := by
        intro w2 v2 h2 hb2
        have hb3 := nnext hbx hb2
        refine ⟨(unhide hN).next hb3, (unhide hO).next hb3, (hb2.block _ (by omega)).trans X, nnext (unhide hB) hb3, fun j hj => ?_, h2.seq⟩
        have := ownS_above h2 j hj
        have := (unhide hB).size
        omega
      have HKT := hide KT
      have HXZ := hide hzx
      have hno : (Value.slice na N.length nc).ownBlock ≠ some wr.heap.size := fun h => by have := (unhide hN).low _ h; omega
      have HNO := hide hno
      clear KT X hno
      go_wp2_with fail
      refine CT.mono ?_
      rintro r w2 ⟨v2, rfl, ho2, hb2⟩
      obtain ⟨n2, o2, x2, b2, k2, s2⟩ := unhide HKT w2 v2 ho2 hb2
      have hzz : wr.heap.size < w2.heap.size := by have := hb2.size; omega
      have hq2 := o2.lt
      have HQ := hide (show wr.heap.size ≠ q by omega)
      have HN2 := hide n2
      have HO2 := hide o2
      have HX2 := hide x2
      have HB2 := hide b2
      have HV2 := hide ho2
      have hml : (N.length + (toldL L e).length) * 32 ≤ 140737488355328 := by omega
      have hLl : L.length ≤ 140737488355328 := by omega
      obtain ⟨M, hM⟩ : ∃ M, toldL L e = M := ⟨_, rfl⟩
      rw [hM] at HV2 hml HTN
      have HTL : Hid (∀ L', L.filter (fun x => !offB x e) = L' → fireW ws (es.take (k + 1)) = L') := hide (fun L' h => (unhide HTW).trans h)
      obtain ⟨v2a, v2c, rfl, _⟩ := (unhide HV2).slice
      clear n2 o2 x2 b2 k2 s2 ho2 hb2 CT hM hfl htl hbx hzx hep HKT x0 x1 hwx
      go_wp2_with (at_builtin; refine wpList_app_nts rfl _ _ rfl (.slice na N.length nc) (.slice v2a M.length v2c) N M wx.heap.size rfl ((unhide HN2).lower (Nat.zero_le _)) rfl (unhide HV2) hml ?_)
      intro a3 c3 w3 ho3 hg3 hl3
      have hab := ownS_above (unhide HN2)
      have B3 : Below w.heap.size w w3 := (unhide HB2).grown hg3 (unhide HB2).size hab
      have N3 : OwnS w3 w.heap.size (.slice a3 (N.length + M.length) c3) (N ++ M) := ownS_base ho3 (fun j hj => by
        rcases hl3 with h | h
        · rw [h] at hj; exact hab j hj
        · rw [h] at hj; cases hj; exact (unhide HB2).size)
      have Q3 : (Value.slice a3 (N.length + M.length) c3).ownBlock ≠ some q := by
        rcases hl3 with h | h
        · rw [h]; exact unhide hnq
        · rw [h]; intro h'; cases h'; omega
      have O3 : OwnR w3 q (ws.length + 1) L := by
        obtain ⟨rest, h1, h2⟩ := unhide HO2
        exact ⟨rest, (hg3.block q hq2 (fun h => unhide hnq h.symm)).trans h1, h2⟩
      have X3 : OneR w3 wr.heap.size e := (hg3.block _ hzz (fun h => unhide HNO h.symm)).trans (unhide HX2)
      have CD := hdel_any (fire1_clos wr.heap.size q e (unhide HQ)) (ws.length + 1) L w3 X3 O3 hLl
      have HB3 := hide B3
      have HN3 := hide N3
      have HQ3 := hide Q3
      obtain ⟨L', hL'⟩ : ∃ L', L.filter (fun x => !offB x e) = L' := ⟨_, rfl⟩
      have HL' := hide (unhide HTL L' hL')
      rw [hL'] at CD
      clear ho3 hg3 hl3 hab B3 N3 Q3 O3 X3 hL'
      go_wp2_with fail
      refine CD.mono ?_
      rintro r w4 ⟨rfl, ho4, hg4⟩
      have HB4 := hide ((unhide HB3).grown hg4 (unhide HB3).size (fun j hj => by cases hj; exact hq))
      have HN4 := hide ((unhide HN3).grown hg4 (fun j hj h => unhide HQ3 (hj.trans h)))
      have HO4 := hide ho4
      clear CD ho4 hg4
      go_wp2_with fail
      go_roundg (es.length - (k + 1))
      case measure => omega
      case rel =>
        refine ⟨k + 1, a3, c3, rfl, ?_, ?_, by omega, Nat.le_refl _, ?_, ?_, ?_, HB4⟩
        · rw [unhide HTN, List.length_append]
        · rw [unhide HL']
        · rw [unhide HTN, List.length_append]; exact HN4
        · rw [unhide HTN, List.length_append]; exact HQ3
        · rw [unhide HL']; exact HO4
    · obtain rfl : k = es.length := by omega
      rw [List.take_length] at hN hnq hO ⊢
      go_wp2_with fail
      go_ret2
      exact ⟨_, _, rfl, unhide hN, ⟨q, rfl, hq, unhide hO⟩, unhide hB⟩

set_option maxRecDepth 10000 in
set_option maxHeartbeats 1000000 in
theorem drop_any (v : Value) (s : Int) (ws : List Wa) (w : World) (hv : SeqV w v ws) (hs : Short ws) (hl : ws.length * 32 ≤ 140737488351232) :
    Calls Tryz.prog 20 #[v, .int .i64 s] w fun r w' => ∃ g, r = .returned (.slice (some ⟨g, 0, none⟩) (dropW ws s).length (ws.length + 1)) ∧ w.heap.size ≤ g ∧ OwnR w' g (ws.length + 1) (dropW ws s) ∧ Below w.heap.size w w' := by
  have CC := hcopied_any v ws (w.alloc (.cells #[.int .i64 s] 3)) (hv.next (allocB _ _)) hs hl
  obtain ⟨va, vc, rfl⟩ := seq_slice hv
  have hLl : ws.length ≤ 140737488355328 := by omega
  obtain ⟨D, hD⟩ : ∃ D, dropW ws s = D := ⟨_, rfl⟩
  rw [hD]
  have HD : Hid (ws.filter (fun x => !decide (x.s = s)) = D) := hide hD
  clear hv hs hD
  go_enter Tryz.func20, Tryz.ntmps20
  go_wp2_with fail
  refine CC.mono ?_
  rintro r w1 ⟨q, rfl, hq, ho, hb⟩
  have hq1 : w.heap.size + 1 ≤ q := by simpa using hq
  have c1 : w1.cell? ⟨w.heap.size, 0, none⟩ = some (.int .i64 s) := by rw [hb.cell (p := ⟨w.heap.size, 0, none⟩) (by simp)]; simp
  have hz1 : w.heap.size < w1.heap.size := by have := hb.size; simp at this; omega
  have K : Clos 44 w.heap.size q (fun x => decide (x.s = s)) (fun W => W.cell? ⟨w.heap.size, 0, none⟩ = some (.int .i64 s) ∧ w.heap.size < W.heap.size) :=
    ⟨.inr rfl, fun _ _ h hg => ⟨hg.cell h.1 (by show some w.heap.size ≠ some q; simp; omega), Nat.lt_of_lt_of_le h.2 hg.size⟩, fun W x h => drop1_any x s w.heap.size W h.1 h.2⟩
  have CD := hdel_any K (ws.length + 1) ws w1 ⟨c1, hz1⟩ ho hLl
  have HB := hide (nbox_then hb)
  rw [unhide HD] at CD
  clear CC K ho hb c1 hq
  go_wp2_with fail
  refine CD.mono ?_
  rintro r w2 ⟨rfl, ho2, hg2⟩
  have HB2 := hide ((unhide HB).grown hg2 (unhide HB).size (fun j hj => by cases hj; omega))
  clear CD hg2
  go_wp2_with fail
  go_ret
  exact ⟨q, rfl, by omega, ho2, unhide HB2⟩

end Go.Proofs.YtoacignhobchbaaGreatDoor

namespace Go.Proofs.YtoacignhobchbaaGreatDoor
open Go.RowKit

/-- one transaction done -/
noncomputable def stepW (s : Sv) (x : WTxn) : List Wa := if x.o = 2 then dropW (fireW s.ws (appV s.tr x)) x.s else fireW s.ws (appV s.tr x)
noncomputable def cstepS (s : Sv) (x : WTxn) : Sv := ⟨s.up, s.fs, s.id, s.ep, s.ts, s.dn, appT s.tr x, stepW s x⟩
theorem own_box {α : Type} [Lay α] {W : World} {B k : Nat} {v : Value} {xs : List α} {c : Array Value} {T : TypeId} {fz : Nat × Nat} (h : OwnS W B v xs) (hk : W.heap[k]? = some (.cells c T fz)) (hne : T ≠ Lay.ty α) : v.ownBlock ≠ some k := by
  intro e
  rcases h with ⟨rfl, _⟩ | ⟨g, cap, rfl, _, rest, h1, _⟩
  · simp [Value.ownBlock] at e
  · simp only [Value.ownBlock, Option.some.injEq] at e
    subst e
    rw [h1] at hk
    simp at hk
    exact hne hk.2.1.symm
theorem own_apart {α β : Type} [Lay α] [Lay β] {W : World} {B C : Nat} {u v : Value} {xs : List α} {ys : List β} (h : OwnS W B u xs) (k : OwnS W C v ys) (hne : Lay.ty α ≠ Lay.ty β) : ∀ q, u.ownBlock = some q → some q ≠ v.ownBlock := by
  intro q hq e
  rcases h with ⟨rfl, rfl⟩ | ⟨g, cap, rfl, _, rest, h1, _⟩
  · simp [Value.ownBlock] at hq
  · rcases k with ⟨rfl, rfl⟩ | ⟨g', cap', rfl, _, rest', h1', _⟩
    · simp [Value.ownBlock] at e
    · simp only [Value.ownBlock, Option.some.injEq] at hq e
      subst hq e
      rw [h1] at h1'
      simp at h1'
      exact hne h1'.2

theorem own_boxS {α : Type} [Lay α] {W : World} {B k : Nat} {v : Value} {xs : List α} {up : Bool} {id ep dn z : Int} {vd vl vn vs vw : Value} (h : OwnS W B v xs) (hb : Box10 W k up vd id ep vl dn z vn vs vw) (hne : 36 ≠ Lay.ty α) : v.ownBlock ≠ some k := by
  unfold Box10 at hb
  exact own_box h hb hne
/-- the boxes of Commit: the server's, the notes'; all rows its own -/
structure CI (w W : World) (ka kn kr : Nat) (s : Sv) (N : List Nt) (vd vl vn vs vw vN : Value) : Prop where
  box : Box10 W ka s.up vd s.id s.ep vl s.dn s.tr.z vn vs vw
  nb : W.heap[kn]? = some (.cells #[vN] 42 (0, 0))
  d : OwnS W w.heap.size vd s.fs
  l : OwnS W w.heap.size vl s.ts
  n : OwnS W w.heap.size vn s.tr.ns
  i : OwnS W w.heap.size vs s.tr.ss
  o : OwnS W w.heap.size vw s.ws
  t : OwnS W w.heap.size vN N
  below : Below w.heap.size w W
  ha : w.heap.size ≤ ka
  hn : w.heap.size ≤ kn
  ne : ka ≠ kn
  r : Box10 W kr false (.slice none 0 0) 0 0 (.slice none 0 0) 0 0 (.slice none 0 0) (.slice none 0 0) (.slice none 0 0)
  r1 : kr ≠ ka
  r2 : kr ≠ kn
  hr : w.heap.size ≤ kr
theorem CI.next {w W V : World} {ka kn kr : Nat} {s : Sv} {N : List Nt} {vd vl vn vs vw vN : Value} (h : CI w W ka kn kr s N vd vl vn vs vw vN) (hb : Below W.heap.size W V) : CI w V ka kn kr s N vd vl vn vs vw vN :=
  ⟨h.box.next hb, (hb.block kn (Array.getElem?_eq_some_iff.1 h.nb).1).trans h.nb, h.d.next hb, h.l.next hb, h.n.next hb, h.i.next hb, h.o.next hb, h.t.next hb, nnext h.below hb, h.ha, h.hn, h.ne, h.r.next hb, h.r1, h.r2, h.hr⟩
/-- a store into the server's box -/
theorem own_setB {α : Type} [Lay α] {W : World} {B k j : Nat} {v : Value} {xs : List α} {up : Bool} {id ep dn z : Int} {vd vl vn vs vw : Value} (h : OwnS W B v xs) (hb : Box10 W k up vd id ep vl dn z vn vs vw) (hne : 36 ≠ Lay.ty α) (u : Value) : OwnS (W.setCell ⟨k, j, none⟩ u) B v xs :=
  h.other (own_boxS h hb hne) u
theorem CI.tree {w W : World} {ka kn kr : Nat} {s : Sv} {N : List Nt} {vd vl vn vs vw vN vn' vs' vw' : Value} {t' : Tr} {ws' : List Wa} (h : CI w W ka kn kr s N vd vl vn vs vw vN) (hn' : OwnS W w.heap.size vn' t'.ns) (hs' : OwnS W w.heap.size vs' t'.ss) (hw' : OwnS W w.heap.size vw' ws') :
    CI w ((((W.setCell ⟨ka, 6, none⟩ (.int .i64 t'.z)).setCell ⟨ka, 7, none⟩ vn').setCell ⟨ka, 8, none⟩ vs').setCell ⟨ka, 9, none⟩ vw') ka kn kr ⟨s.up, s.fs, s.id, s.ep, s.ts, s.dn, t', ws'⟩ N vd vl vn' vs' vw' vN := by
  have b1 : Box10 (W.setCell ⟨ka, 6, none⟩ (.int .i64 t'.z)) ka s.up vd s.id s.ep vl s.dn t'.z vn vs vw := block_set (j := 6) _ h.box
  have b2 : Box10 ((W.setCell ⟨ka, 6, none⟩ (.int .i64 t'.z)).setCell ⟨ka, 7, none⟩ vn') ka s.up vd s.id s.ep vl s.dn t'.z vn' vs vw := block_set (j := 7) _ b1
  have b3 : Box10 (((W.setCell ⟨ka, 6, none⟩ (.int .i64 t'.z)).setCell ⟨ka, 7, none⟩ vn').setCell ⟨ka, 8, none⟩ vs') ka s.up vd s.id s.ep vl s.dn t'.z vn' vs' vw := block_set (j := 8) _ b2
  have b4 : Box10 ((((W.setCell ⟨ka, 6, none⟩ (.int .i64 t'.z)).setCell ⟨ka, 7, none⟩ vn').setCell ⟨ka, 8, none⟩ vs').setCell ⟨ka, 9, none⟩ vw') ka s.up vd s.id s.ep vl s.dn t'.z vn' vs' vw' := block_set (j := 9) _ b3
  have keep : ∀ {α : Type} [Lay α] {v : Value} {xs : List α}, OwnS W w.heap.size v xs → 36 ≠ Lay.ty α → OwnS ((((W.setCell ⟨ka, 6, none⟩ (.int .i64 t'.z)).setCell ⟨ka, 7, none⟩ vn').setCell ⟨ka, 8, none⟩ vs').setCell ⟨ka, 9, none⟩ vw') w.heap.size v xs :=
    fun h0 hne => own_setB (own_setB (own_setB (own_setB h0 h.box hne _) b1 hne _) b2 hne _) b3 hne _
  refine ⟨b4, ?_, keep h.d (by decide), keep h.l (by decide), keep hn' (by decide), keep hs' (by decide), keep hw' (by decide), keep h.t (by decide), (((h.below.setCell h.ha _).setCell h.ha _).setCell h.ha _).setCell h.ha _, h.ha, h.hn, h.ne, (((h.r.other h.r1).other h.r1).other h.r1).other h.r1, h.r1, h.r2, h.hr⟩
  exact (Below.heap_setCell _ _ _ _ (Ne.symm h.ne)).trans ((Below.heap_setCell _ _ _ _ (Ne.symm h.ne)).trans ((Below.heap_setCell _ _ _ _ (Ne.symm h.ne)).trans ((Below.heap_setCell _ _ _ _ (Ne.symm h.ne)).trans h.nb)))
theorem CI.note {w W V : World} {ka kn kr : Nat} {s : Sv} {N N' : List Nt} {vd vl vn vs vw vN vN' : Value} (h : CI w W ka kn kr s N vd vl vn vs vw vN) (hg : W.grownBy V vN.ownBlock) (ho : OwnS V w.heap.size vN' N') :
    CI w (V.setCell ⟨kn, 0, none⟩ vN') ka kn kr s N' vd vl vn vs vw vN' := by
  have na : some ka ≠ vN.ownBlock := fun e => own_boxS h.t h.box (by decide) e.symm
  have nn : some kn ≠ vN.ownBlock := fun e => own_box h.t h.nb (by decide) e.symm
  have bV : Box10 V ka s.up vd s.id s.ep vl s.dn s.tr.z vn vs vw := (hg.block ka h.box.lt na).trans h.box
  have nV : V.heap[kn]? = some (.cells #[vN] 42 (0, 0)) := (hg.block kn (Array.getElem?_eq_some_iff.1 h.nb).1 nn).trans h.nb
  have keep : ∀ {α : Type} [Lay α] {v : Value} {xs : List α}, OwnS W w.heap.size v xs → Lay.ty α ≠ 130 → 42 ≠ Lay.ty α → OwnS (V.setCell ⟨kn, 0, none⟩ vN') w.heap.size v xs := fun h0 h1 h2 => by
    have k := h0.grown hg (own_apart h0 h.t h1)
    exact k.other (own_box k nV h2) _
  refine ⟨bV.other h.ne, ?_, keep h.d (by decide) (by decide), keep h.l (by decide) (by decide), keep h.n (by decide) (by decide), keep h.i (by decide) (by decide), keep h.o (by decide) (by decide), ho.other (own_box ho nV (by decide)) _, (h.below.grown hg h.below.size (fun g e => ?_)).setCell h.hn _, h.ha, h.hn, h.ne, Box10.other ((hg.block kr h.r.lt (fun e => own_boxS h.t h.r (by decide) e.symm)).trans h.r) h.r2, h.r1, h.r2, h.hr⟩
  · rw [block_set _ nV]; rfl
  · rcases h.t with ⟨e1, _⟩ | ⟨g', cap, e1, hB, _⟩
    · rw [e1] at e; simp [Value.ownBlock] at e
    · rw [e1] at e; simp only [Value.ownBlock, Option.some.injEq] at e; omega
theorem own_slice' {α : Type} [Lay α] {W : World} {B : Nat} {v : Value} {xs : List α} (h : OwnS W B v xs) : ∃ a c, v = .slice a xs.length c := by
  obtain ⟨a, c, e, _⟩ := h.slice
  exact ⟨a, c, e⟩
set_option maxRecDepth 10000 in
/-- append(notes, told...) -/
theorem run_notes (W : World) (ty : TypeId) (B C : Nat) (v u : Value) (N T : List Nt) (hv : OwnS W B v N) (hu : OwnS W C u T) (hl : (N.length + T.length) * 32 ≤ 140737488355328) (hB : B ≤ W.heap.size) :
    ∃ v' w', (Builtin.append_ #[42, 42] ty #[v, u]).run Tryz.prog W = .ok v' w' ∧ OwnS w' B v' (N ++ T) ∧ W.grownBy w' v.ownBlock := by
  obtain ⟨i0, hi0, hz0, hz1, hz2⟩ := tinfo
  rcases hu with ⟨rfl, rfl⟩ | ⟨g, cap, rfl, _, hr⟩
  · refine ⟨v, W, run_append_owned_none (P := Tryz.prog) (w := W) B 42 ty 130 i0 3 Tryz.underlying42 hi0 v N.length (cellsL N) hv.row, by rw [List.append_nil]; exact hv, ⟨rfl, rfl, rfl, Nat.le_refl _, fun _ _ _ => rfl⟩⟩
  · obtain ⟨v', w', h1, h2, h3, _⟩ := run_append_own (P := Tryz.prog) W B 42 ty 130 i0 _ 3 32 Tryz.underlying42 hi0 hz0 hz1 hz2 rfl (by decide) v N.length (cellsL N) hv.row ⟨g, 0, none⟩ T.length cap (cellsL T) (cellsL_length T) (fun j x hj => by rw [Addr.add_lit]; exact hr.row j x hj) (cellsL_one T) (by simp only [maxLen]; omega) hl hB
    exact ⟨v', w', h1, OwnS.of_row (by rw [List.length_append, cellsL_append]; exact h2), h3⟩
theorem wpList_notes {w : World} {ops : Array Oper} {rest : List Oper} {o : Oper} {a : Act} {Q : Exit → Act → World → Prop} (hgd : o.guard = none) (s x : Operand)
    (ho : o.op = .call { callee := .builtin .append, args := #[s, x], argTypes := #[42, 42] })
    (B C : Nat) (v u : Value) (N T : List Nt) (hs : a.eval s = v) (hx : a.eval x = u) (hv : OwnS w B v N) (hu : OwnS w C u T) (hl : (N.length + T.length) * 32 ≤ 140737488355328) (hB : B ≤ w.heap.size)
    (h : ∀ a' c' w', OwnS w' B (.slice a' (N ++ T).length c') (N ++ T) → w.grownBy w' v.ownBlock → wpList Tryz.prog ops Q rest (a.put o.dst (.slice a' (N ++ T).length c')) w') : wpList Tryz.prog ops Q (o :: rest) a w := by
  refine wpList_plain hgd fun K hK => ?_
  obtain ⟨v', w', hr, h2, h3⟩ := run_notes w o.type B C v u N T hv hu hl hB
  obtain ⟨a', c', rfl⟩ := own_slice' h2
  unfold Oper.wp execOp
  simp only [ho, resolve, invoke, builtin, Sem.run_bind, Sem.run_pure, Result.andThen_ok, List.map_toArray, List.map_cons, List.map_nil, hs, hx, hr]
  exact hK _ _ (h a' c' w' h2 h3)

/-- rows of notes stay when the server's box is stored into -/
theorem note_after {W : World} {B ka : Nat} {v : Value} {T : List Nt} {up : Bool} {id ep dn z : Int} {vd vl vn vs vw : Value} (h : OwnS W B v T) (hb : Box10 W ka up vd id ep vl dn z vn vs vw) (x6 x7 x8 x9 : Value) : OwnS ((((W.setCell ⟨ka, 6, none⟩ x6).setCell ⟨ka, 7, none⟩ x7).setCell ⟨ka, 8, none⟩ x8).setCell ⟨ka, 9, none⟩ x9) B v T := by
  have hk := own_boxS h hb (by decide)
  exact (((h.other hk x6).other hk x7).other hk x8).other hk x9
/-- what Commit's closure asks of a server and a transaction -/
structure CFit (s : Sv) (N : List Nt) (x : WTxn) : Prop where
  wf : WfT s.tr
  xd : x.d.length ≤ 140737488355328
  xp : x.p.length ≤ 140737488355328
  sh : Short s.ws
  wl : s.ws.length * 32 ≤ 140737488351232
  nl : (N.length + s.ws.length) * 32 ≤ 140737488351232
/-- what is left behind Commit's closure -/
def C1Out (w W w' : World) (ka kn kr : Nat) (s : Sv) (N : List Nt) (x : WTxn) (E : Int) (T : Tr) (V : List Ev) (SW : List Wa) : Prop :=
  Below w.heap.size w w' ∧ (E ≠ 0 → Below W.heap.size W w') ∧
  (E = 0 → ∃ ad nd cd al cl an cn ai ci aw cw aN cN, CI w w' ka kn kr (cstepS s x) (N ++ fireN s.ws V) (.slice ad nd cd) (.slice al s.ts.length cl) (.slice an T.ns.length cn) (.slice ai T.ss.length ci) (.slice aw SW.length cw) (.slice aN (N.length + (fireN s.ws V).length) cN))
theorem cshort_fire {ws : List Wa} (h : Short ws) (es : List Ev) : Short (fireW ws es) := fun x hx => h x (fireW_sub ws es x hx)
theorem appV_short {t : Tr} {x : WTxn} (hw : WfT t) (hp : x.p.length ≤ 140737488355328) : ShortE (appV t x) := by
  have hdl : ∀ p : List UInt8, (dirOf p).length ≤ 140737488355328 := fun p => by have := dirOf_len p; omega
  intro e he
  by_cases h : appE t x = 0
  · rw [appV, if_pos h, chgV] at he
    by_cases h2 : x.o = 2
    · rw [if_pos h2] at he
      obtain ⟨q, hq, he⟩ := List.mem_flatMap.1 he
      obtain ⟨n, hn, rfl⟩ := List.mem_map.1 hq
      have hn' := hw.slim n (List.mem_filter.1 hn).1
      simp only [List.mem_cons, List.not_mem_nil, or_false] at he
      rcases he with rfl | rfl
      · exact hn'.1
      · exact hdl _
    · rw [if_neg h2] at he
      by_cases h3 : x.o = 3
      · rw [if_pos h3] at he
        simp only [List.mem_cons, List.not_mem_nil, or_false] at he
        rcases he with rfl | rfl
        · exact hp
        · exact hdl _
      · rw [if_neg h3] at he
        by_cases h4 : x.o = 4
        · rw [if_pos h4] at he
          simp only [List.mem_cons, List.not_mem_nil, or_false] at he
          rcases he with rfl | rfl
          · exact hp
          · exact hdl _
        · rw [if_neg h4] at he
          by_cases h5 : x.o = 5
          · rw [if_pos h5] at he
            simp only [List.mem_cons, List.not_mem_nil, or_false] at he
            subst he
            exact hp
          · rw [if_neg h5] at he
            simp at he
  · rw [appV, if_neg h] at he
    simp at he
set_option maxRecDepth 10000 in
set_option maxHeartbeats 4000000 in
theorem commit1_any (w W : World) (ka kn kr : Nat) (s : Sv) (N : List Nt) (x : WTxn) (ad al an ai aw aN : Option Addr) (nd cd cl cn ci cw cN : Nat)
    (h : CI w W ka kn kr s N (.slice ad nd cd) (.slice al s.ts.length cl) (.slice an s.tr.ns.length cn) (.slice ai s.tr.ss.length ci) (.slice aw s.ws.length cw) (.slice aN N.length cN)) (hf : CFit s N x) :
    Calls Tryz.prog 18 #[txnV x, .pointer (some ⟨ka, 0, none⟩), .pointer (some ⟨kn, 0, none⟩)] W fun e w' => e = .returned (.int .i64 (appE s.tr x)) ∧ C1Out w W w' ka kn kr s N x (appE s.tr x) (appT s.tr x) (appV s.tr x) (stepW s x) := by
  have h1 := h.next (allocB W (.cells #[.int .i64 x.z, .int .i64 x.o, .int .i64 x.s, .string ⟨x.p.toArray⟩, .string ⟨x.d.toArray⟩, .int .i64 x.v, .int .i64 x.w] 53))
  have T1 := TAt.new W x
  have CA := hide (fun vn vs V (h2 : SeqV V vn s.tr.ns) (h3 : SeqV V vs s.tr.ss) => apply_any s.tr vn vs x V h2 h3 hf.wf hf.xd)
  have CFi := hide (fun v u V (h2 : SeqV V v s.ws) (h3 : SeqV V u (appV s.tr x)) => fire_any v u s.ws (appV s.tr x) V h2 h3 hf.sh (appV_short hf.wf hf.xp) hf.wl (app_short s.tr x).2.2)
  have hfl := fire_len (appV s.tr x) s.ws
  have CD := hide (fun v V (h2 : SeqV V v (fireW s.ws (appV s.tr x))) => drop_any v x.s (fireW s.ws (appV s.tr x)) V h2 (cshort_fire hf.sh _) (by have := hf.wl; omega))
  have HNL : Hid ((N.length + (fireN s.ws (appV s.tr x)).length) * 32 ≤ 140737488355328) := hide (by have := hf.nl; omega)
  have HSW : Hid ((x.o = 2 → stepW s x = dropW (fireW s.ws (appV s.tr x)) x.s) ∧ (x.o ≠ 2 → stepW s x = fireW s.ws (appV s.tr x))) := hide ⟨fun e => by simp [stepW, e], fun e => by simp [stepW, e]⟩
  have HC1 := hide h1
  have HBA := hide (allocB W (.cells #[.int .i64 x.z, .int .i64 x.o, .int .i64 x.s, .string ⟨x.p.toArray⟩, .string ⟨x.d.toArray⟩, .int .i64 x.v, .int .i64 x.w] 53))
  have HT1 := hide T1
  have HSS : Hid (cstepS s x = ⟨s.up, s.fs, s.id, s.ep, s.ts, s.dn, appT s.tr x, stepW s x⟩) := hide rfl
  obtain ⟨x0, x1, x2, x3, x4, x5, x6, x7, x8, x9⟩ := h1.box.cells
  have t0 := T1.c0
  have t1 := T1.c1
  have t2 := T1.c2
  have t3 := T1.c3
  have t4 := T1.c4
  have t5 := T1.c5
  have t6 := T1.c6
  unfold GivesA at CA
  clear h h1 T1 hf hfl
  obtain ⟨z, o, u, p, d, y, v⟩ := x
  generalize appE s.tr ⟨z, o, u, p, d, y, v⟩ = E at *
  generalize appT s.tr ⟨z, o, u, p, d, y, v⟩ = T at *
  generalize appV s.tr ⟨z, o, u, p, d, y, v⟩ = V at *
  generalize stepW s ⟨z, o, u, p, d, y, v⟩ = SW at *
  unfold txnV at *
  simp only at *
  go_enter Tryz.func18, Tryz.ntmps18
  go_upto_region 1 with fail
  generalize W.alloc (.cells #[.int .i64 z, .int .i64 o, .int .i64 u, .string ⟨p.toArray⟩, .string ⟨d.toArray⟩, .int .i64 y, .int .i64 v] 53) = W1 at *
  obtain ⟨kx, hkx⟩ : ∃ kx, W.heap.size = kx := ⟨_, rfl⟩
  rw [hkx]
  rw [hkx] at t0 t1 t2 t3 t4 t5 t6 HT1
  clear hkx
  go_wp2_with fail
  refine (unhide CA _ _ _ (unhide HC1).n.seq (unhide HC1).i.seq).mono ?_
  rintro e w2 ⟨vn2, vs2, ve2, rfl, on2, oi2, oe2, hb2⟩
  obtain ⟨bn, fn, rfl⟩ := own_slice' on2
  obtain ⟨bi, fi, rfl⟩ := own_slice' oi2
  obtain ⟨be, fe, rfl⟩ := own_slice' oe2
  have hal := allocB w2 (.cells #[.int .i64 T.z, .slice bn T.ns.length fn, .slice bi T.ss.length fi] 34)
  have HC2 := hide (((unhide HC1).next hb2).next hal)
  have HT2 := hide (((unhide HT1).next hb2).next hal)
  have HZ1 := (unhide HC1).below.size
  have HBE := hide (nnext (nnext (unhide HBA) hb2) hal)
  have HON := hide ((on2.next hal).lower HZ1)
  have HOI := hide ((oi2.next hal).lower HZ1)
  have HOE := hide (oe2.next hal)
  have HTB : Hid ((w2.alloc (.cells #[.int .i64 T.z, .slice bn T.ns.length fn, .slice bi T.ss.length fi] 34)).heap[w2.heap.size]? = some (.cells #[.int .i64 T.z, .slice bn T.ns.length fn, .slice bi T.ss.length fi] 34 (0, 0))) := hide (heap_alloc_new w2 _)
  clear on2 oi2 oe2 hb2 hal HZ1 HC1 HT1 CA x0 x1 x2 x3 x4 x5 x6 x7 x8 x9 t0 t1 t2 t3 t4 t5 t6
  go_upto_region 2 with fail
  generalize w2.heap.size = kt at *
  generalize w2.alloc (.cells #[.int .i64 T.z, .slice bn T.ns.length fn, .slice bi T.ss.length fi] 34) = W2 at *
  by_cases hE : E = 0
  · subst hE
    obtain ⟨x0, x1, x2, x3, x4, x5, x6, x7, x8, x9⟩ := (unhide HC2).box.cells
    go_wp2_with fail
    refine (unhide CFi _ _ _ (unhide HC2).o.seq (unhide HOE).seq).mono ?_
    rintro e w3 ⟨vn3, vl3, rfl, on3, ⟨g3, rfl, hg3, or3⟩, hb3⟩
    obtain ⟨bN, fN, rfl⟩ := own_slice' on3
    have HC3 := hide ((unhide HC2).next hb3)
    have hz2 := (unhide HC2).below.size
    have HON3 := hide ((unhide HON).next hb3)
    have HOI3 := hide ((unhide HOI).next hb3)
    have HT3 := (unhide HT2).next hb3
    have HTB3 := hide ((hb3.block kt (Array.getElem?_eq_some_iff.1 (unhide HTB)).1).trans (unhide HTB))
    have HNT3 := hide (on3.lower hz2)
    have HOL3 : Hid (OwnS w3 w.heap.size (.slice (some ⟨g3, 0, none⟩) (fireW s.ws V).length (s.ws.length + 1)) (fireW s.ws V)) := hide (.inr ⟨g3, _, rfl, by omega, or3⟩)
    have t1 := HT3.c1
    have t2 := HT3.c2
    simp only at t1 t2
    clear on3 hg3 or3 hb3 hz2 HC2 HON HOI HT2 HTB HOE CFi x0 x1 x2 x3 x4 x5 x6 x7 x8 x9 HT3
    by_cases ho : o = 2
    · have hsw := (unhide HSW).1 ho
      subst hsw
      subst ho
      go_wp2_with fail
      refine (unhide CD _ _ (unhide HOL3).seq).mono ?_
      rintro e w4 ⟨g4, rfl, hg4, or4, hb4⟩
      have hz3 := (unhide HC3).below.size
      have HCX := hide ((unhide HC3).next hb4)
      have HONX := hide ((unhide HON3).next hb4)
      have HOIX := hide ((unhide HOI3).next hb4)
      have HTBX := hide ((hb4.block kt (Array.getElem?_eq_some_iff.1 (unhide HTB3)).1).trans (unhide HTB3))
      have HNTX := hide ((unhide HNT3).next hb4)
      have HOLX : Hid (OwnS w4 w.heap.size (.slice (some ⟨g4, 0, none⟩) (dropW (fireW s.ws V) u).length ((fireW s.ws V).length + 1)) (dropW (fireW s.ws V) u)) := hide (.inr ⟨g4, _, rfl, by omega, or4⟩)
      clear hg4 or4 hb4 hz3 HC3 HON3 HOI3 HTB3 HNT3 HOL3 CD t1 t2
      have HTR := hide ((unhide HCX).tree (t' := T) (vn' := .slice bn T.ns.length fn) (vs' := .slice bi T.ss.length fi) (unhide HONX) (unhide HOIX) (unhide HOLX))
      obtain ⟨x0, x1, x2, x3, x4, x5, x6, x7, x8, x9⟩ := (unhide HCX).box.cells
      have xf6 := (unhide HCX).box.froz 6
      have xf7 := (unhide HCX).box.froz 7
      have xf8 := (unhide HCX).box.froz 8
      have xf9 := (unhide HCX).box.froz 9
      have k0 : w4.cell? ⟨kt, 0, none⟩ = some (.int .i64 T.z) := by simp [World.cell?, unhide HTBX]
      have k1 : w4.cell? ⟨kt, 1, none⟩ = some (.slice bn T.ns.length fn) := by simp [World.cell?, unhide HTBX]
      have k2 : w4.cell? ⟨kt, 2, none⟩ = some (.slice bi T.ss.length fi) := by simp [World.cell?, unhide HTBX]
      go_upto_region 8 with fail
      have HNT2 := hide (note_after (unhide HNTX) (unhide HCX).box (.int .i64 T.z) (.slice bn T.ns.length fn) (.slice bi T.ss.length fi) (.slice (some ⟨g4, 0, none⟩) (dropW (fireW s.ws V) u).length ((fireW s.ws V).length + 1)))
      generalize (((w4.setCell ⟨ka, 6, none⟩ (.int .i64 T.z)).setCell ⟨ka, 7, none⟩ (.slice bn T.ns.length fn)).setCell ⟨ka, 8, none⟩ (.slice bi T.ss.length fi)).setCell ⟨ka, 9, none⟩ (.slice (some ⟨g4, 0, none⟩) (dropW (fireW s.ws V) u).length ((fireW s.ws V).length + 1)) = W5 at *
      clear x0 x1 x2 x3 x4 x5 x6 x7 x8 x9 xf6 xf7 xf8 xf9 k0 k1 k2 HCX HONX HOIX HOLX HNTX HTBX
      have n0 : W5.cell? ⟨kn, 0, none⟩ = some (.slice aN N.length cN) := by simp [World.cell?, (unhide HTR).nb]
      go_wp2_with (at_builtin; refine wpList_notes rfl _ _ rfl w.heap.size w.heap.size (.slice aN N.length cN) _ N (fireN s.ws V) rfl rfl (unhide HTR).t (unhide HNT2) (unhide HNL) (unhide HTR).below.size ?_)
      intro a6 c6 w6 ho6 hg6
      have HFI := hide ((unhide HTR).note hg6 ho6)
      have m0 : w6.cell? ⟨kn, 0, none⟩ = some (.slice aN N.length cN) := hg6.cell n0 (fun e => own_box (unhide HTR).t (unhide HTR).nb (by decide) e.symm)
      have mf : w6.frozen? ⟨kn, 0, none⟩ = false := by
        have := (hg6.block kn (Array.getElem?_eq_some_iff.1 (unhide HTR).nb).1 (fun e => own_box (unhide HTR).t (unhide HTR).nb (by decide) e.symm)).trans (unhide HTR).nb
        simp [World.frozen?, this]
      clear ho6 hg6 n0
      go_wp2_with fail
      go_ret
      exact ⟨rfl, (unhide HFI).below, fun h => absurd rfl h, fun _ => ⟨ad, nd, cd, al, cl, bn, fn, bi, fi, (some ⟨g4, 0, none⟩), ((fireW s.ws V).length + 1), a6, c6, by rw [unhide HSS]; exact unhide HFI⟩⟩
    · have hsw := (unhide HSW).2 ho
      subst hsw
      have HCX := HC3
      have HONX := HON3
      have HOIX := HOI3
      have HTBX := HTB3
      have HNTX := HNT3
      have HOLX := HOL3
      clear HC3 HON3 HOI3 HTB3 HNT3 HOL3 CD
      have HTR := hide ((unhide HCX).tree (t' := T) (vn' := .slice bn T.ns.length fn) (vs' := .slice bi T.ss.length fi) (unhide HONX) (unhide HOIX) (unhide HOLX))
      obtain ⟨x0, x1, x2, x3, x4, x5, x6, x7, x8, x9⟩ := (unhide HCX).box.cells
      have xf6 := (unhide HCX).box.froz 6
      have xf7 := (unhide HCX).box.froz 7
      have xf8 := (unhide HCX).box.froz 8
      have xf9 := (unhide HCX).box.froz 9
      have k0 : w3.cell? ⟨kt, 0, none⟩ = some (.int .i64 T.z) := by simp [World.cell?, unhide HTBX]
      have k1 : w3.cell? ⟨kt, 1, none⟩ = some (.slice bn T.ns.length fn) := by simp [World.cell?, unhide HTBX]
      have k2 : w3.cell? ⟨kt, 2, none⟩ = some (.slice bi T.ss.length fi) := by simp [World.cell?, unhide HTBX]
      go_upto_region 8 with fail
      have HNT2 := hide (note_after (unhide HNTX) (unhide HCX).box (.int .i64 T.z) (.slice bn T.ns.length fn) (.slice bi T.ss.length fi) (.slice (some ⟨g3, 0, none⟩) (fireW s.ws V).length (s.ws.length + 1)))
      generalize (((w3.setCell ⟨ka, 6, none⟩ (.int .i64 T.z)).setCell ⟨ka, 7, none⟩ (.slice bn T.ns.length fn)).setCell ⟨ka, 8, none⟩ (.slice bi T.ss.length fi)).setCell ⟨ka, 9, none⟩ (.slice (some ⟨g3, 0, none⟩) (fireW s.ws V).length (s.ws.length + 1)) = W5 at *
      clear x0 x1 x2 x3 x4 x5 x6 x7 x8 x9 xf6 xf7 xf8 xf9 k0 k1 k2 HCX HONX HOIX HOLX HNTX HTBX
      have n0 : W5.cell? ⟨kn, 0, none⟩ = some (.slice aN N.length cN) := by simp [World.cell?, (unhide HTR).nb]
      go_wp2_with (at_builtin; refine wpList_notes rfl _ _ rfl w.heap.size w.heap.size (.slice aN N.length cN) _ N (fireN s.ws V) rfl rfl (unhide HTR).t (unhide HNT2) (unhide HNL) (unhide HTR).below.size ?_)
      intro a6 c6 w6 ho6 hg6
      have HFI := hide ((unhide HTR).note hg6 ho6)
      have m0 : w6.cell? ⟨kn, 0, none⟩ = some (.slice aN N.length cN) := hg6.cell n0 (fun e => own_box (unhide HTR).t (unhide HTR).nb (by decide) e.symm)
      have mf : w6.frozen? ⟨kn, 0, none⟩ = false := by
        have := (hg6.block kn (Array.getElem?_eq_some_iff.1 (unhide HTR).nb).1 (fun e => own_box (unhide HTR).t (unhide HTR).nb (by decide) e.symm)).trans (unhide HTR).nb
        simp [World.frozen?, this]
      clear ho6 hg6 n0
      go_wp2_with fail
      go_ret
      exact ⟨rfl, (unhide HFI).below, fun h => absurd rfl h, fun _ => ⟨ad, nd, cd, al, cl, bn, fn, bi, fi, (some ⟨g3, 0, none⟩), (s.ws.length + 1), a6, c6, by rw [unhide HSS]; exact unhide HFI⟩⟩
  · go_wp2_with fail
    go_ret
    exact ⟨rfl, (unhide HC2).below, fun _ => unhide HBE, fun h => absurd h hE⟩
end Go.Proofs.YtoacignhobchbaaGreatDoor

namespace Go.Proofs.YtoacignhobchbaaGreatDoor
open Go.RowKit

noncomputable def stP (p : Sv × List Nt) (x : WTxn) : Sv × List Nt := (cstepS p.1 x, p.2 ++ fireN p.1.ws (appV p.1.tr x))
noncomputable def csP (s : Sv) (xs : List WTxn) (i : Nat) : Sv × List Nt := (xs.take i).foldl stP (s, [])
theorem csP_zero (s : Sv) (xs : List WTxn) : csP s xs 0 = (s, []) := by simp [csP]
theorem csP_succ {s : Sv} {xs : List WTxn} {i : Nat} {x : WTxn} (h : xs[i]? = some x) : csP s xs (i + 1) = stP (csP s xs i) x := by
  unfold csP
  rw [take_more1 h, List.foldl_append]
  rfl
/-- so many can be done -/
structure Chn (s : Sv) (xs : List WTxn) (k : Nat) : Prop where
  le : k ≤ xs.length
  ok : ∀ i x, i < k → xs[i]? = some x → appE (csP s xs i).1.tr x = 0
  stop : ∀ x, xs[k]? = some x → appE (csP s xs k).1.tr x ≠ 0
structure CBase (s : Sv) (xs : List WTxn) : Prop where
  wf : WfT s.tr
  sh : Short s.ws
  wl : s.ws.length * 32 ≤ 140737488351232
  xd : ∀ x ∈ xs, x.d.length ≤ 140737488355328
  xp : ∀ x ∈ xs, x.p.length ≤ 140737488355328
theorem dropW_len (ws : List Wa) (s : Int) : (dropW ws s).length ≤ ws.length := List.length_filter_le _ _
theorem chn_at {s : Sv} {xs : List WTxn} {k : Nat} (hB : CBase s xs) (h : Chn s xs k) : ∀ i, i ≤ k →
    (WfT (csP s xs i).1.tr ∧ Short (csP s xs i).1.ws ∧ (csP s xs i).2.length + (csP s xs i).1.ws.length ≤ s.ws.length) ∧
    ((csP s xs i).1.up = s.up ∧ (csP s xs i).1.fs = s.fs ∧ (csP s xs i).1.id = s.id ∧ (csP s xs i).1.ep = s.ep ∧ (csP s xs i).1.ts = s.ts ∧ (csP s xs i).1.dn = s.dn) := by
  intro i
  induction i with
  | zero =>
    intro _
    rw [csP_zero]
    exact ⟨⟨hB.wf, hB.sh, by simp⟩, rfl, rfl, rfl, rfl, rfl, rfl⟩
  | succ i ih =>
    intro hi
    obtain ⟨⟨a1, a2, a3⟩, b1, b2, b3, b4, b5, b6⟩ := ih (by omega)
    obtain ⟨x, hx⟩ : ∃ x, xs[i]? = some x := ⟨_, List.getElem?_eq_getElem (by have := h.le; omega)⟩
    have h0 := h.ok i x (by omega) hx
    rw [csP_succ hx]
    generalize csP s xs i = c at *
    have hl := fire_len (appV c.1.tr x) c.1.ws
    refine ⟨⟨(app_good h0).1.wf, ?_, ?_⟩, b1, b2, b3, b4, b5, b6⟩
    · show Short (stepW c.1 x)
      unfold stepW
      split
      · exact fun y hy => cshort_fire a2 _ y (List.mem_filter.1 hy).1
      · exact cshort_fire a2 _
    · show (c.2 ++ fireN c.1.ws (appV c.1.tr x)).length + (stepW c.1 x).length ≤ s.ws.length
      have : (stepW c.1 x).length ≤ (fireW c.1.ws (appV c.1.tr x)).length := by
        unfold stepW
        split
        · exact dropW_len _ _
        · exact Nat.le_refl _
      rw [List.length_append]
      omega
theorem chn_fit {s : Sv} {xs : List WTxn} {k : Nat} (hB : CBase s xs) (h : Chn s xs k) {i : Nat} (hi : i ≤ k) {x : WTxn} (hx : xs[i]? = some x) : CFit (csP s xs i).1 (csP s xs i).2 x := by
  obtain ⟨⟨a1, a2, a3⟩, _⟩ := chn_at hB h i hi
  have hm := List.mem_of_getElem? hx
  have := hB.wl
  exact ⟨a1, hB.xd x hm, hB.xp x hm, a2, by omega, by omega⟩
end Go.Proofs.YtoacignhobchbaaGreatDoor

namespace Go.Proofs.YtoacignhobchbaaGreatDoor
open Go.RowKit
set_option maxRecDepth 10000 in

set_option maxHeartbeats 400000 in
theorem zmake_any (e c : Int) (w : World) :
    Calls Tryz.prog 103 #[.int .i64 e, .int .i64 c] w fun x w' => x = .returned (.tuple #[.int .i64 (zMake e c), .int .i64 (zMakeE e c)]) ∧ w' = w := by
  by_cases h1 : e < 0
  · have H := hide (zMake_no (e := e) (c := c) (.inl (zIn_no (by omega))))
    go_enter Tryz.func103, Tryz.ntmps103
    go_wp2
    go_ret2
    exact ⟨ret_int2 (unhide H).1.symm (unhide H).2.symm, rfl⟩
  by_cases h2 : 2147483647 < e
  · have H := hide (zMake_no (e := e) (c := c) (.inl (zIn_no (by omega))))
    go_enter Tryz.func103, Tryz.ntmps103
    go_wp2
    go_ret2
    exact ⟨ret_int2 (unhide H).1.symm (unhide H).2.symm, rfl⟩
  by_cases h3 : c < 0
  · have H := hide (zMake_no (e := e) (c := c) (.inr (zIn_no (by omega))))
    go_enter Tryz.func103, Tryz.ntmps103
    go_wp2
    go_ret2
    exact ⟨ret_int2 (unhide H).1.symm (unhide H).2.symm, rfl⟩
  by_cases h4 : 2147483647 < c
  · have H := hide (zMake_no (e := e) (c := c) (.inr (zIn_no (by omega))))
    go_enter Tryz.func103, Tryz.ntmps103
    go_wp2
    go_ret2
    exact ⟨ret_int2 (unhide H).1.symm (unhide H).2.symm, rfl⟩
  have H := hide (zMake_yes (e := e) (c := c) (zIn_iff.2 (by omega)) (zIn_iff.2 (by omega)))
  go_enter Tryz.func103, Tryz.ntmps103
  go_wp2
  go_ret2
  exact ⟨ret_int2 ((or_join (by omega) (by omega) (by omega) (by omega)).trans (unhide H).1.symm) (unhide H).2.symm, rfl⟩

set_option maxRecDepth 10000 in
set_option maxHeartbeats 400000 in
theorem zepoch_any (z : Int) (w : World) :
    Calls Tryz.prog 65 #[.int .i64 z] w fun e w' => e = .returned (.int .i64 (zEpoch z)) ∧ w' = w := by
  cases hg : zGood z
  · have H := hide (zEpoch_no hg)
    have Hg := hide hg
    clear hg
    go_enter Tryz.func65, Tryz.ntmps65
    go_wp2_with fail
    refine (zgood_any z _).mono ?_
    rintro e w1 ⟨rfl, rfl⟩
    rw [unhide Hg]
    go_wp2_with fail
    go_ret
    exact ⟨ret_int (unhide H).symm, rfl⟩
  · have H := hide (zEpoch_yes hg)
    have Hg := hide hg
    clear hg
    go_enter Tryz.func65, Tryz.ntmps65
    go_wp2_with fail
    refine (zgood_any z _).mono ?_
    rintro e w1 ⟨rfl, rfl⟩
    rw [unhide Hg]
    go_wp2_with fail
    go_ret
    exact ⟨ret_int (unhide H).symm, rfl⟩

end Go.Proofs.YtoacignhobchbaaGreatDoor

namespace Go.Proofs.YtoacignhobchbaaGreatDoor
open Go.RowKit

theorem zsize_list (s : ByteArray) : s.data.toList.length = s.size := by simp
theorem ret_part {i j : Int} {a b : Bool} (h : i = j) (h' : a = b) : Ending.returned (.tuple #[.int .i64 i, .bool a]) = .returned (.tuple #[.int .i64 j, .bool b]) := by rw [h, h']
theorem zhead (s : ByteArray) (h : 0 < s.size) : s.data.toList.head? = some s[0] := by
  rw [List.head?_eq_getElem?, List.getElem?_eq_getElem (by simpa using h)]; rfl
theorem num_take (s : ByteArray) (k : Nat) (h : k < s.size) : num (s.data.toList.take (k + 1)) = 10 * num (s.data.toList.take k) + (s[k].toNat - 48) := by
  rw [take_snoc s k h, num_snoc]
theorem num_small (s : ByteArray) (k : Nat) (h : k < 10) (ha : (s.data.toList.take k).all isD = true) : num (s.data.toList.take k) < 1000000000 := by
  have h1 := num_lt _ ha
  have h2 : (s.data.toList.take k).length ≤ 9 := by rw [List.length_take]; omega
  have h3 : 10 ^ (s.data.toList.take k).length ≤ 10 ^ 9 := Nat.pow_le_pow_right (by decide) h2
  have h4 : (10 : Nat) ^ 9 = 1000000000 := by decide
  omega

set_option maxRecDepth 10000 in
set_option maxHeartbeats 400000 in
theorem part_any (s : ByteArray) (w : World) (hs : s.size ≤ 140737488355328) :
    Calls Tryz.prog 102 #[.string s] w fun e w' => e = .returned (.tuple #[.int .i64 (partN s.data.toList), .bool (partB s.data.toList)]) ∧ w' = w := by
  have hz := zsize_list s
  by_cases h1 : s.size < 1
  · have hp : partB s.data.toList = false := partB_no (by omega)
    have H := hide hp
    clear hp
    go_enter Tryz.func102, Tryz.ntmps102
    go_wp2
    go_ret2
    exact ⟨ret_part (partN_no (unhide H)).symm (unhide H).symm, rfl⟩
  by_cases h2 : 10 < s.size
  · have hp : partB s.data.toList = false := partB_no (by omega)
    have H := hide hp
    clear hp
    go_enter Tryz.func102, Tryz.ntmps102
    go_wp2
    go_ret2
    exact ⟨ret_part (partN_no (unhide H)).symm (unhide H).symm, rfl⟩
  have hhd := zhead s (by omega)
  have h0 : 0 < s.size := by omega
  by_cases h3 : 1 < s.size ∧ s[0] = 48
  · have hp : partB s.data.toList = false := partB_no (by
      rintro ⟨_, _, h, _⟩
      exact h (by omega) (by rw [hhd, h3.2]))
    have H := hide hp
    have h4 : ((s[0].toNat : Int) == 48) = true := by rw [h3.2]; rfl
    have h5 := h3.1
    clear hp h3 hhd
    go_enter Tryz.func102, Tryz.ntmps102
    go_wp2
    go_ret2
    exact ⟨ret_part (partN_no (unhide H)).symm (unhide H).symm, rfl⟩
  have Hok : Hid (s.data.toList.all isD = true → partB s.data.toList = true) := hide (fun h => partB_iff.2 ⟨by omega, by omega, fun hl e => h3 ⟨by omega, by rw [hhd] at e; exact Option.some.inj e⟩, h⟩)
  have Hno : Hid (s.data.toList.all isD = false → partB s.data.toList = false) := hide (fun h => partB_no (fun hh => by rw [h] at hh; exact absurd hh.2.2.2 (by decide)))
  have h4 : 1 < s.size → ((s[0].toNat : Int) == 48) = false := fun hl => by
    rw [beq_eq_false_iff_ne]
    intro e
    exact h3 ⟨hl, UInt8.toNat_inj.1 (by show s[0].toNat = 48; omega)⟩
  clear h3 hhd
  by_cases h5 : 1 < s.size
  · have h6 := h4 h5
    clear h4
    go_enter Tryz.func102, Tryz.ntmps102
    go_wp2
    clear h6
    go_loop [4, 26] (fun n i => ∃ k : Nat, k ≤ s.size ∧ i = .int .i64 k ∧ n = .int .i64 (num (s.data.toList.take k) : Int) ∧ (s.data.toList.take k).all isD = true) (fun _ i => s.size - (intOf i).toNat)
    case atStart => exact ⟨0, Nat.zero_le _, rfl, rfl, by simp⟩
    case round =>
      obtain ⟨k, hk, rfl, rfl, hall⟩ := hrel
      have Hall := hide hall
      by_cases hlt : k < s.size
      · have hsm := num_small s k (by omega) hall
        have Hnt := hide (num_take s k hlt)
        clear hall
        obtain ⟨n, hn⟩ : ∃ n, num (s.data.toList.take k) = n := ⟨_, rfl⟩
        rw [hn] at hsm Hnt ⊢
        clear hn
        by_cases hd : isD s[k] = true
        · have hd1 := (isD_iff.1 hd).1
          have hd2 := (isD_iff.1 hd).2
          have Hd := hide hd
          clear hd
          go_wp2
          go_round
          case rel => exact ⟨k + 1, by omega, by go_num, by rw [unhide Hnt]; go_num, all_take_succ s k hlt isD (unhide Hall) (unhide Hd)⟩
          case measure => simp [intOf]; omega
        · have hd' : isD s[k] = false := by simpa using hd
          have hp := unhide Hno (not_all_of s k hlt isD hd')
          have hq : s[k].toNat < 48 ∨ 57 < s[k].toNat := by
            by_cases hc : 48 ≤ s[k].toNat ∧ s[k].toNat ≤ 57
            · exact absurd (isD_iff.2 hc) hd
            · omega
          have H := hide hp
          clear hp hd hd'
          rcases hq with hq | hq
          · go_wp2
            go_ret2
            exact ⟨ret_part (partN_no (unhide H)).symm (unhide H).symm, rfl⟩
          · go_wp2
            go_ret2
            exact ⟨ret_part (partN_no (unhide H)).symm (unhide H).symm, rfl⟩
      · have hp := unhide Hok (all_of_size s k (by omega) isD hall)
        have H := hide hp
        have hkk : s.data.toList.take k = s.data.toList := List.take_of_length_le (by omega)
        rw [hkk]
        clear hp hall Hall hkk
        go_wp2
        go_ret2
        exact ⟨ret_part (partN_yes (unhide H)).symm (unhide H).symm, rfl⟩
  · clear h4
    go_enter Tryz.func102, Tryz.ntmps102
    go_wp2
    go_loop [4, 26] (fun n i => ∃ k : Nat, k ≤ s.size ∧ i = .int .i64 k ∧ n = .int .i64 (num (s.data.toList.take k) : Int) ∧ (s.data.toList.take k).all isD = true) (fun _ i => s.size - (intOf i).toNat)
    case atStart => exact ⟨0, Nat.zero_le _, rfl, rfl, by simp⟩
    case round =>
      obtain ⟨k, hk, rfl, rfl, hall⟩ := hrel
      have Hall := hide hall
      by_cases hlt : k < s.size
      · have hsm := num_small s k (by omega) hall
        have Hnt := hide (num_take s k hlt)
        clear hall
        obtain ⟨n, hn⟩ : ∃ n, num (s.data.toList.take k) = n := ⟨_, rfl⟩
        rw [hn] at hsm Hnt ⊢
        clear hn
        by_cases hd : isD s[k] = true
        · have hd1 := (isD_iff.1 hd).1
          have hd2 := (isD_iff.1 hd).2
          have Hd := hide hd
          clear hd
          go_wp2
          go_round
          case rel => exact ⟨k + 1, by omega, by go_num, by rw [unhide Hnt]; go_num, all_take_succ s k hlt isD (unhide Hall) (unhide Hd)⟩
          case measure => simp [intOf]; omega
        · have hd' : isD s[k] = false := by simpa using hd
          have hp := unhide Hno (not_all_of s k hlt isD hd')
          have hq : s[k].toNat < 48 ∨ 57 < s[k].toNat := by
            by_cases hc : 48 ≤ s[k].toNat ∧ s[k].toNat ≤ 57
            · exact absurd (isD_iff.2 hc) hd
            · omega
          have H := hide hp
          clear hp hd hd'
          rcases hq with hq | hq
          · go_wp2
            go_ret2
            exact ⟨ret_part (partN_no (unhide H)).symm (unhide H).symm, rfl⟩
          · go_wp2
            go_ret2
            exact ⟨ret_part (partN_no (unhide H)).symm (unhide H).symm, rfl⟩
      · have hp := unhide Hok (all_of_size s k (by omega) isD hall)
        have H := hide hp
        have hkk : s.data.toList.take k = s.data.toList := List.take_of_length_le (by omega)
        rw [hkk]
        clear hp hall Hall hkk
        go_wp2
        go_ret2
        exact ⟨ret_part (partN_yes (unhide H)).symm (unhide H).symm, rfl⟩

theorem index_hit {a b : List UInt8} (h : ∀ c ∈ a, c ≠ 46) : Lib.indexByte (a ++ 46 :: b) 46 = (a.length : Int) := by
  induction a with
  | nil => rfl
  | cons x a ih =>
    have hx : (x == 46) = false := by simpa using h x (by simp)
    have ih' := ih (fun c hc => h c (by simp [hc]))
    show Lib.indexByte (x :: (a ++ 46 :: b)) 46 = _
    rw [Lib.indexByte, if_neg (by simp [hx]), ih', if_neg (by simp)]
    simp
theorem index_miss {l : List UInt8} (h : ∀ c ∈ l, c ≠ 46) : Lib.indexByte l 46 = -1 := by
  induction l with
  | nil => rfl
  | cons x a ih =>
    have hx : (x == 46) = false := by simpa using h x (by simp)
    have ih' := ih (fun c hc => h c (by simp [hc]))
    rw [Lib.indexByte, if_neg (by simp [hx]), ih']
    rfl
theorem zba_eq {a : ByteArray} {l : List UInt8} (h : a.data.toList = l) : a = ⟨l.toArray⟩ := by rw [← h]
theorem ext_front (a b : List UInt8) : (ByteArray.mk (a ++ 46 :: b).toArray).extract 0 a.length = ⟨a.toArray⟩ := by
  apply zba_eq
  rw [← Lib.toList_data, Lib.extract_toList]
  show ((a ++ 46 :: b).drop 0).take (a.length - 0) = a
  simp
theorem ext_back (a b : List UInt8) (n : Nat) (hn : n = (a ++ 46 :: b).length) : (ByteArray.mk (a ++ 46 :: b).toArray).extract (a.length + 1) n = ⟨b.toArray⟩ := by
  subst hn
  apply zba_eq
  rw [← Lib.toList_data, Lib.extract_toList]
  show ((a ++ 46 :: b).drop (a.length + 1)).take ((a ++ 46 :: b).length - (a.length + 1)) = b
  rw [show (a ++ 46 :: b).drop (a.length + 1) = b from by simp]
  exact List.take_of_length_le (by simp; omega)
theorem ret_cut {a b c d : ByteArray} {x : Bool} (h : a = b) (h' : c = d) : Ending.returned (.tuple #[.string a, .string c, .bool x]) = .returned (.tuple #[.string b, .string d, .bool x]) := by rw [h, h']

set_option maxRecDepth 10000 in
set_option maxHeartbeats 400000 in
theorem cutlite_any (l : List UInt8) (w : World) (hl : l.length ≤ 140737488355328) :
    Calls Tryz.prog 133 #[.string ⟨l.toArray⟩, .string ⟨#[46]⟩] w fun e w' => ∃ b, e = .returned (.tuple #[.string ⟨(cutA l).toArray⟩, .string ⟨(cutZ l).toArray⟩, .bool b]) ∧ Below w.heap.size w w' := by
  have hz : (ByteArray.mk l.toArray).size = l.length := Lib.size_eq ⟨l.toArray⟩
  rcases dot_cases l with hd | ⟨a, b, rfl, hd⟩
  · have H := hide (cut_miss hd)
    have HI := hide (index_miss hd)
    clear hd
    go_enter Tryz.func133, Tryz.ntmps133
    go_wp2_with fail
    refine (Tryz.stringslite_Index_one ⟨l.toArray⟩ 46 _).mono ?_
    rintro e w1 ⟨rfl, rfl⟩
    rw [show Lib.indexByte (ByteArray.mk l.toArray).data.toList 46 = -1 from unhide HI]
    go_wp2_with fail
    go_ret3
    exact ⟨_, ret_cut (by rw [(unhide H).1]) (by rw [(unhide H).2]), Below.refl _ _⟩
  · have H := hide (cut_hit (b := b) hd)
    have HI := hide (index_hit (b := b) hd)
    have hlen : (a ++ 46 :: b).length = a.length + 1 + b.length := by simp; omega
    rw [hlen] at hz hl
    have HL := hide hlen
    have H1 := hide (ext_front a b)
    have H2 := hide (ext_back a b _ rfl)
    clear hd hlen
    obtain ⟨S, hS⟩ : ∃ S, (ByteArray.mk (a ++ 46 :: b).toArray) = S := ⟨_, rfl⟩
    rw [hS] at hz H1 H2 ⊢
    have HI' : Hid (Lib.indexByte S.data.toList 46 = (a.length : Int)) := hide (by rw [← hS]; exact unhide HI)
    have HE : Hid (S.extract (a.length + 1) (a.length + 1 + b.length) = ⟨b.toArray⟩) := hide (by rw [← unhide HL]; exact unhide H2)
    clear hS HI H2
    have c1 : (0 : Int) ≤ (a.length : Int) := by omega
    have c2 : (a.length : Int) ≤ (S.size : Int) := by omega
    have c3 : (0 : Int) ≤ (a.length : Int) + 1 := by omega
    have c4 : (a.length : Int) + 1 ≤ (S.size : Int) := by omega
    go_enter Tryz.func133, Tryz.ntmps133
    go_wp2_with fail
    refine (Tryz.stringslite_Index_one S 46 _).mono ?_
    rintro e w1 ⟨rfl, rfl⟩
    rw [unhide HI']
    go_wp2_with fail
    go_region
    go_wp2
    go_ret3
    exact ⟨_, ret_cut (by rw [(unhide H).1]; exact unhide H1) (by rw [(unhide H).2]; exact unhide HE), (Below.refl _ _).drew⟩

set_option maxRecDepth 10000 in
set_option maxHeartbeats 400000 in
theorem cut_any (l : List UInt8) (w : World) (hl : l.length ≤ 140737488355328) :
    Calls Tryz.prog 101 #[.string ⟨l.toArray⟩, .string ⟨#[46]⟩] w fun e w' => ∃ b, e = .returned (.tuple #[.string ⟨(cutA l).toArray⟩, .string ⟨(cutZ l).toArray⟩, .bool b]) ∧ Below w.heap.size w w' := by
  go_enter Tryz.func101, Tryz.ntmps101
  go_wp2_with fail
  refine (cutlite_any l _ hl).mono ?_
  rintro e w1 ⟨b, rfl, hb1⟩
  go_wp2_with fail
  go_ret3
  exact ⟨_, rfl, hb1⟩
theorem cut_len (l : List UInt8) : (cutA l).length ≤ l.length ∧ (cutZ l).length ≤ l.length := by
  constructor
  · exact (List.takeWhile_prefix _).length_le
  · rw [cutZ, List.length_drop]
    have := (List.dropWhile_suffix (l := l) (fun c => c != 46)).length_le
    omega

set_option maxRecDepth 10000 in
set_option maxHeartbeats 400000 in
theorem zread_any (l : List UInt8) (w : World) (hl : l.length ≤ 140737488355328) :
    Calls Tryz.prog 64 #[.string ⟨l.toArray⟩] w fun e w' => e = .returned (.tuple #[.int .i64 (zRead l), .int .i64 (zReadE l)]) ∧ Below w.heap.size w w' := by
  have hc := cut_len l
  have c1 := hc.1
  have c2 := hc.2
  clear hc
  cases h1 : partB (cutA l)
  · have H := hide (zRead_no (.inl h1))
    have HA : Hid (partN (cutA l) = 0 ∧ partB (cutA l) = false) := hide ⟨partN_no h1, h1⟩
    clear h1
    go_enter Tryz.func64, Tryz.ntmps64
    go_wp2_with fail
    refine (cut_any l _ hl).mono ?_
    rintro e w1 ⟨b, rfl, hb1⟩
    go_wp2_with fail
    refine (part_any ⟨(cutA l).toArray⟩ _ (by rw [Lib.size_eq]; show (cutA l).length ≤ _; omega)).mono ?_
    rintro e w2 ⟨rfl, rfl⟩
    rw [show (ByteArray.mk (cutA l).toArray).data.toList = cutA l from rfl, (unhide HA).1, (unhide HA).2]
    go_wp2_with fail
    refine (part_any ⟨(cutZ l).toArray⟩ _ (by rw [Lib.size_eq]; show (cutZ l).length ≤ _; omega)).mono ?_
    rintro e w2 ⟨rfl, rfl⟩
    rw [show (ByteArray.mk (cutZ l).toArray).data.toList = cutZ l from rfl]
    obtain ⟨B, hB⟩ : ∃ B, partB (cutZ l) = B := ⟨_, rfl⟩
    obtain ⟨M, hM⟩ : ∃ M, partN (cutZ l) = M := ⟨_, rfl⟩
    rw [hB, hM]
    clear hB hM HA
    go_wp2_with fail
    go_ret2
    exact ⟨ret_int2 (unhide H).1.symm (unhide H).2.symm, hb1⟩
  cases h2 : partB (cutZ l)
  · have H := hide (zRead_no (.inr h2))
    have HA : Hid (partN (cutA l) = num (cutA l) ∧ partB (cutA l) = true) := hide ⟨partN_yes h1, h1⟩
    have HZ : Hid (partN (cutZ l) = 0 ∧ partB (cutZ l) = false) := hide ⟨partN_no h2, h2⟩
    clear h1 h2
    go_enter Tryz.func64, Tryz.ntmps64
    go_wp2_with fail
    refine (cut_any l _ hl).mono ?_
    rintro e w1 ⟨b, rfl, hb1⟩
    go_wp2_with fail
    refine (part_any ⟨(cutA l).toArray⟩ _ (by rw [Lib.size_eq]; show (cutA l).length ≤ _; omega)).mono ?_
    rintro e w2 ⟨rfl, rfl⟩
    rw [show (ByteArray.mk (cutA l).toArray).data.toList = cutA l from rfl, (unhide HA).1, (unhide HA).2]
    go_wp2_with fail
    refine (part_any ⟨(cutZ l).toArray⟩ _ (by rw [Lib.size_eq]; show (cutZ l).length ≤ _; omega)).mono ?_
    rintro e w2 ⟨rfl, rfl⟩
    rw [show (ByteArray.mk (cutZ l).toArray).data.toList = cutZ l from rfl, (unhide HZ).1, (unhide HZ).2]
    go_wp2_with fail
    go_ret2
    exact ⟨ret_int2 (unhide H).1.symm (unhide H).2.symm, hb1⟩
  have H := hide (zRead_yes h1 h2)
  have HA : Hid (partN (cutA l) = num (cutA l) ∧ partB (cutA l) = true) := hide ⟨partN_yes h1, h1⟩
  have HZ : Hid (partN (cutZ l) = num (cutZ l) ∧ partB (cutZ l) = true) := hide ⟨partN_yes h2, h2⟩
  clear h1 h2
  go_enter Tryz.func64, Tryz.ntmps64
  go_wp2_with fail
  refine (cut_any l _ hl).mono ?_
  rintro e w1 ⟨b, rfl, hb1⟩
  go_wp2_with fail
  refine (part_any ⟨(cutA l).toArray⟩ _ (by rw [Lib.size_eq]; show (cutA l).length ≤ _; omega)).mono ?_
  rintro e w2 ⟨rfl, rfl⟩
  rw [show (ByteArray.mk (cutA l).toArray).data.toList = cutA l from rfl, (unhide HA).1, (unhide HA).2]
  go_wp2_with fail
  refine (part_any ⟨(cutZ l).toArray⟩ _ (by rw [Lib.size_eq]; show (cutZ l).length ≤ _; omega)).mono ?_
  rintro e w2 ⟨rfl, rfl⟩
  rw [show (ByteArray.mk (cutZ l).toArray).data.toList = cutZ l from rfl, (unhide HZ).1, (unhide HZ).2]
  go_wp2_with fail
  refine (zmake_any _ _ _).mono ?_
  rintro e w3 ⟨rfl, rfl⟩
  obtain ⟨X, hX⟩ : ∃ X, zMake (num (cutA l)) (num (cutZ l)) = X := ⟨_, rfl⟩
  obtain ⟨E, hE⟩ : ∃ E, zMakeE (num (cutA l)) (num (cutZ l)) = E := ⟨_, rfl⟩
  rw [hX, hE]
  rw [hX, hE] at H
  clear hX hE HA HZ
  go_wp2_with fail
  go_ret2
  exact ⟨ret_int2 (unhide H).1.symm (unhide H).2.symm, hb1⟩

end Go.Proofs.YtoacignhobchbaaGreatDoor
