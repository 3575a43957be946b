/-
  What aviaryref's Fire, SameNotes, SameWatches (of alike ones) and aviarylaw's watches answer; the law WatchFires: the walks.
  What aviarylaw's watches and aviaryref's SameWatches, SameNotes (of alike ones) answer: the walks.
-/
import Derived.Test.YtppmkgehdblbdaaDoorHD
import Derived.Laws.StructEq
import Derived.Deep.QuietTactic
import Derived.Test.YtppmkgehdblbdaaDoorHE
namespace Go.Proofs.YtppmkgehdblbdaaDoor
open Go.RowKit

theorem RowAt.grown {W V : World} {b off : Nat} {cs : List Value} {r : Option Nat} (h : RowAt W b off cs) (hg : W.grownBy V r) (hr : some b ≠ r) : RowAt V b off cs := fun j v hj => hg.cell (h j v hj) hr
theorem SeqV.grown {α : Type} [Lay α] {W V : World} {v : Value} {xs : List α} {r : Option Nat} (h : SeqV W v xs) (hg : W.grownBy V r) (hr : ∀ k, v.ownBlock = some k → some k ≠ r) : SeqV V v xs := by
  rcases h with h | ⟨b, off, cap, rfl, h1, h2, h3, h0, h4⟩
  · exact .inl h
  · exact .inr ⟨b, off, cap, rfl, h1, h2, Nat.lt_of_lt_of_le h3 hg.size, h0, h4.grown hg (hr b rfl)⟩
/-- the document's Fire within one event -/
structure FI (w wq : World) (m be : Nat) (e : Ev) (lv : Value) (L : List Wa) (nv : Value) (N : List Nt) (fv : Value) (F : List Wa) : Prop where
  n : OwnS wq w.heap.size nv N
  f : OwnS wq m fv F
  nf : ∀ k, nv.ownBlock = some k → fv.ownBlock ≠ some k ∧ k ≠ be
  bm : be < m
  rd : ∀ (i : Nat) (x : Wa), L[i]? = some x → ∃ b off cap, lv = .slice (some ⟨b, off, none⟩) L.length cap ∧ b < m ∧ nv.ownBlock ≠ some b ∧ RowAt wq b off (cellsL L)
  e : OneR wq be e
  b : Below w.heap.size w wq
  wm : w.heap.size ≤ m
  mz : m ≤ wq.heap.size
theorem FI.next {w wq V : World} {m be : Nat} {e : Ev} {lv : Value} {L : List Wa} {nv : Value} {N : List Nt} {fv : Value} {F : List Wa} (h : FI w wq m be e lv L nv N fv F) (hb : Below wq.heap.size wq V) : FI w V m be e lv L nv N fv F :=
  ⟨h.n.next hb, h.f.next hb, h.nf, h.bm, fun i x hx => by
    obtain ⟨b, off, cap, e1, h1, h2, h3⟩ := h.rd i x hx
    exact ⟨b, off, cap, e1, h1, h2, h3.kept hb (Nat.lt_of_lt_of_le h1 h.mz)⟩, (hb.block _ (Nat.lt_of_lt_of_le h.bm h.mz)).trans h.e, nnext h.b hb, h.wm, Nat.le_trans h.mz hb.size⟩
theorem FI.note {w wq V : World} {m be : Nat} {e : Ev} {lv : Value} {L : List Wa} {nv nv' : Value} {N N' : List Nt} {fv : Value} {F : List Wa} (h : FI w wq m be e lv L nv N fv F) (hg : wq.grownBy V nv.ownBlock) (ho : OwnS V 0 nv' N') (hl : nv'.ownBlock = nv.ownBlock ∨ nv'.ownBlock = some wq.heap.size) : FI w V m be e lv L nv' N' fv F := by
  have hmz := h.mz
  have hbm := h.bm
  refine ⟨ownS_base ho (fun k hk => ?_), h.f.grown hg (fun k hk e => (h.nf k e.symm).1 hk), fun k hk => ?_, h.bm, fun i x hx => ?_, (hg.block _ (by omega) (fun e => (h.nf _ e.symm).2 rfl)).trans h.e, h.b.grown hg h.b.size (ownS_above h.n), h.wm, Nat.le_trans h.mz hg.size⟩
  · rcases hl with e | e
    · rw [e] at hk; exact ownS_above h.n k hk
    · rw [e] at hk; cases hk; exact h.b.size
  · rcases hl with e | e
    · rw [e] at hk; exact h.nf k hk
    · rw [e] at hk; cases hk
      exact ⟨fun e' => by have := h.f.low _ e'; omega, by omega⟩
  · obtain ⟨b, off, cap, e1, h1, h2, h3⟩ := h.rd i x hx
    refine ⟨b, off, cap, e1, h1, ?_, h3.grown hg (fun e => h2 e.symm)⟩
    rcases hl with e | e
    · rw [e]; exact h2
    · rw [e]; intro e'; cases e'; omega
theorem FI.left {w wq V : World} {m be : Nat} {e : Ev} {lv : Value} {L : List Wa} {nv : Value} {N : List Nt} {fv fv' : Value} {F F' : List Wa} (h : FI w wq m be e lv L nv N fv F) (hg : wq.grownBy V fv.ownBlock) (ho : OwnS V 0 fv' F') (hl : fv'.ownBlock = fv.ownBlock ∨ fv'.ownBlock = some wq.heap.size) : FI w V m be e lv L nv N fv' F' := by
  have hmz := h.mz
  have hbm := h.bm
  have hab := ownS_above h.f
  refine ⟨h.n.grown hg (fun k hk e => (h.nf k hk).1 e.symm), ownS_base ho (fun k hk => ?_), fun k hk => ⟨?_, (h.nf k hk).2⟩, h.bm, fun i x hx => ?_, (hg.block _ (by omega) (fun e => by have := hab _ e.symm; omega)).trans h.e, h.b.grown hg h.b.size (fun k hk => Nat.le_trans h.wm (hab k hk)), h.wm, Nat.le_trans h.mz hg.size⟩
  · rcases hl with e | e
    · rw [e] at hk; exact hab k hk
    · rw [e] at hk; cases hk; exact h.mz
  · rcases hl with e | e
    · rw [e]; exact (h.nf k hk).1
    · rw [e]; intro e'; cases e'
      have := h.n.low _ hk
      omega
  · obtain ⟨b, off, cap, e1, h1, h2, h3⟩ := h.rd i x hx
    exact ⟨b, off, cap, e1, h1, h2, h3.grown hg (fun e => by have := hab _ e.symm; omega)⟩
/-- one element behind a row of the call's own -/
theorem wpList_app_nt {w : World} {ops : Array Oper} {rest : List Oper} {o : Oper} {a : Act} {Q : Exit → Act → World → Prop} (hgd : o.guard = none) (s x : Operand)
    (ho : o.op = .call { callee := .builtin .append, args := #[s, x], argTypes := #[39, 39] })
    (v : Value) (ns : List Nt) (hs : a.eval s = v) (hown : OwnS w 0 v ns) (q : Nat) (hx : a.eval x = .slice (some ⟨q, 0, none⟩) 1 1) (t : Nt) (hnews : OneR w q t) (hl : (ns.length + 1) * 32 ≤ 140737488355328)
    (h : ∀ a' c' w', OwnS w' 0 (.slice a' (ns.length + 1) c') (ns ++ [t]) → w.grownBy w' v.ownBlock → ((Value.slice a' (ns.length + 1) c').ownBlock = v.ownBlock ∨ (Value.slice a' (ns.length + 1) c').ownBlock = some w.heap.size) → wpList Tryd.prog ops Q rest (a.put o.dst (.slice a' (ns.length + 1) c')) w') :
    wpList Tryd.prog ops Q (o :: rest) a w := by
  refine wpList_plain hgd fun K hK => ?_
  obtain ⟨i0, hi0, hz0, hz1, hz2⟩ := tinfo
  obtain ⟨v', w', hr, h2, h3, _, h5⟩ := run_append_own_at (P := Tryd.prog) w 0 39 o.type 58 i0 _ 3 32 Tryd.underlying39 hi0 hz0 hz1 hz2 rfl (by decide) v ns.length (cellsL ns) hown.row ⟨q, 0, none⟩ 1 1 (ntcells t) rfl (one_news hnews) (Lay.one t) (by simp only [maxLen]; omega) hl (Nat.zero_le _)
  have h2' : OwnS w' 0 v' (ns ++ [t]) := OwnS.of_row (by rw [List.length_append, cellsL_snoc]; exact h2)
  obtain ⟨a', c', rfl, _⟩ := h2'.slice
  rw [List.length_append, List.length_singleton] at h2' hr h5
  unfold Oper.wp execOp
  simp only [ho, resolve, invoke, builtin, Sem.run_bind, Sem.run_pure, Result.andThen_ok, List.map_toArray, List.map_cons, List.map_nil, hs, hx, hr]
  exact hK _ _ (h a' c' w' h2' h3 h5)
theorem wpList_app_wa {w : World} {ops : Array Oper} {rest : List Oper} {o : Oper} {a : Act} {Q : Exit → Act → World → Prop} (hgd : o.guard = none) (s x : Operand)
    (ho : o.op = .call { callee := .builtin .append, args := #[s, x], argTypes := #[22, 22] })
    (v : Value) (ns : List Wa) (hs : a.eval s = v) (hown : OwnS w 0 v ns) (q : Nat) (hx : a.eval x = .slice (some ⟨q, 0, none⟩) 1 1) (t : Wa) (hnews : OneR w q t) (hl : (ns.length + 1) * 32 ≤ 140737488355328)
    (h : ∀ a' c' w', OwnS w' 0 (.slice a' (ns.length + 1) c') (ns ++ [t]) → w.grownBy w' v.ownBlock → ((Value.slice a' (ns.length + 1) c').ownBlock = v.ownBlock ∨ (Value.slice a' (ns.length + 1) c').ownBlock = some w.heap.size) → wpList Tryd.prog ops Q rest (a.put o.dst (.slice a' (ns.length + 1) c')) w') :
    wpList Tryd.prog ops Q (o :: rest) a w := by
  refine wpList_plain hgd fun K hK => ?_
  obtain ⟨i0, hi0, hz0, hz1, hz2⟩ := winfo
  obtain ⟨v', w', hr, h2, h3, _, h5⟩ := run_append_own_at (P := Tryd.prog) w 0 22 o.type 24 i0 _ 3 32 Tryd.underlying22 hi0 hz0 hz1 hz2 rfl (by decide) v ns.length (cellsL ns) hown.row ⟨q, 0, none⟩ 1 1 (wcells t) rfl (one_news hnews) (Lay.one t) (by simp only [maxLen]; omega) hl (Nat.zero_le _)
  have h2' : OwnS w' 0 v' (ns ++ [t]) := OwnS.of_row (by rw [List.length_append, cellsL_snoc]; exact h2)
  obtain ⟨a', c', rfl, _⟩ := h2'.slice
  rw [List.length_append, List.length_singleton] at h2' hr h5
  unfold Oper.wp execOp
  simp only [ho, resolve, invoke, builtin, Sem.run_bind, Sem.run_pure, Result.andThen_ok, List.map_toArray, List.map_cons, List.map_nil, hs, hx, hr]
  exact hK _ _ (h a' c' w' h2' h3 h5)
theorem left_snoc {ws : List Wa} {k : Nat} {x : Wa} {e : Ev} (h : ws[k]? = some x) : leftL (ws.take (k + 1)) e = leftL (ws.take k) e ++ (if offB x e = true then [] else [x]) := by
  rw [snoc_take h]
  simp only [leftL, List.filter_append]
  cases hx : offB x e <;> simp [hx]
theorem run_app_noneW {P : Program} {w : World} (base : Nat) (t ty e : TypeId) (i : TypeInfo) (size : Nat) (ht : P.underlying t = some (.slice e)) (hi : P.info? e = some i)
    (v : Value) (n : Nat) (xs : List Value) (hown : w.ownsRow base e size v n xs) (c : Nat) :
    (Builtin.append_ #[t, t] ty #[v, .slice none 0 c]).run P w = .ok v w := by
  rcases hown.2 with ⟨rfl, rfl⟩ | ⟨g, cap, cur, rfl, _, _, hnc, _⟩
  · simp [Builtin.append_, run_underlying ht, sizeOf, typeInfo, hi, Builtin.lenOf, Builtin.firstCells]
  · simp [Builtin.append_, run_underlying ht, sizeOf, typeInfo, hi, Builtin.lenOf, Builtin.firstCells, hnc, storeCells]
/-- watches behind watches -/
theorem wpList_app_was {w : World} {ops : Array Oper} {rest : List Oper} {o : Oper} {a : Act} {Q : Exit → Act → World → Prop} (hgd : o.guard = none) (s x : Operand)
    (ho : o.op = .call { callee := .builtin .append, args := #[s, x], argTypes := #[22, 22] })
    (v u : Value) (ns ms : List Wa) (B : Nat) (hs : a.eval s = v) (hown : OwnS w B v ns) (hB : B ≤ w.heap.size) (hx : a.eval x = u) (hu : SeqV w u ms) (hl : (ns.length + ms.length) * 32 ≤ 140737488355328)
    (h : ∀ a' c' w', OwnS w' B (.slice a' (ns.length + ms.length) c') (ns ++ ms) → w.grownBy w' v.ownBlock → wpList Tryd.prog ops Q rest (a.put o.dst (.slice a' (ns.length + ms.length) c')) w') :
    wpList Tryd.prog ops Q (o :: rest) a w := by
  refine wpList_plain hgd fun K hK => ?_
  obtain ⟨i0, hi0, hz0, hz1, hz2⟩ := winfo
  have some_case : ∀ (ad : Addr) (cap : Nat), u = .slice (some ad) ms.length cap → (∀ j y, (cellsL ms)[j]? = some y → w.cell? (ad.add j) = some y) → Oper.wp Tryd.prog o a w K Q := by
    intro ad cap hu' hc
    obtain ⟨v', w', hrun, h2, h3, _, h5⟩ := run_append_own_at (P := Tryd.prog) w B 22 o.type 24 i0 _ 3 32 Tryd.underlying22 hi0 hz0 hz1 hz2 rfl (by decide) v ns.length (cellsL ns) hown.row ad ms.length cap (cellsL ms) (cellsL_length ms) hc (cellsL_one ms) (by simp only [maxLen]; omega) hl hB
    have h2' : OwnS w' B v' (ns ++ ms) := OwnS.of_row (by rw [List.length_append, cellsL_append]; exact h2)
    obtain ⟨a', c', rfl, _⟩ := h2'.slice
    rw [List.length_append] at h2' hrun h5
    subst hu'
    unfold Oper.wp execOp
    simp only [ho, resolve, invoke, builtin, Sem.run_bind, Sem.run_pure, Result.andThen_ok, List.map_toArray, List.map_cons, List.map_nil, hs, hx, hrun]
    exact hK _ _ (h a' c' w' h2' h3)
  rcases hu with ⟨ao, cap, rfl, rfl, _⟩ | ⟨b, off, cap, rfl, _, _, hb, _, hr⟩
  · cases ao with
    | none =>
      obtain ⟨a', c', rfl, _⟩ := hown.slice
      have hrun := run_app_noneW (P := Tryd.prog) (w := w) B 22 o.type 24 i0 3 Tryd.underlying22 hi0 _ ns.length (cellsL ns) hown.row cap
      unfold Oper.wp execOp
      simp only [ho, resolve, invoke, builtin, Sem.run_bind, Sem.run_pure, Result.andThen_ok, List.map_toArray, List.map_cons, List.map_nil, hs, hx, hrun]
      exact hK _ _ (h a' c' w (by rw [List.append_nil]; exact hown) (World.grownBy.refl _ _))
    | some ad => exact some_case ad cap rfl (fun j y hj => by simp [cellsL_nil] at hj)
  · exact some_case ⟨b, off, none⟩ cap rfl (fun j y hj => by rw [Addr.add_lit]; exact hr j y hj)
theorem one_newT2 (w : World) (o : Obj) (n : Nt) : OneR ((w.alloc o).alloc (.cells #[.int .i64 n.s, .int .i64 n.k, .string ⟨n.p.toArray⟩] 58)) (w.heap.size + 1) n := by
  have h := one_newT (w.alloc o) n
  rw [show (w.alloc o).heap.size = w.heap.size + 1 by simp] at h
  exact h
theorem one_newW2 (w : World) (o : Obj) (n : Wa) : OneR ((w.alloc o).alloc (.cells #[.int .i64 n.s, .int .i64 n.k, .string ⟨n.p.toArray⟩] 24)) (w.heap.size + 1) n := by
  have h := one_newW (w.alloc o) n
  rw [show (w.alloc o).heap.size = w.heap.size + 1 by simp] at h
  exact h

end Go.Proofs.YtppmkgehdblbdaaDoor

namespace Go.Proofs.YtppmkgehdblbdaaDoor
open Go.RowKit

set_option maxHeartbeats 1000000 in
theorem wats_some (a : Addr) (cap : Nat) (ws : List Wa) (w : World) (hl : ws.length * 32 ≤ 140737488355328) (hc : ∀ j u, (cellsL ws)[j]? = some u → w.cell? (a.add j) = some u) :
    Calls Tryd.prog 6 #[.slice (some a) ws.length cap] w fun e w' => ∃ v', e = .returned v' ∧ OwnS w' w.heap.size v' ws ∧ Below w.heap.size w w' := by
  obtain ⟨i0, hi0, hz0, hz1, hz2⟩ := winfo
  have HR := hide hc
  clear hc
  go_enter Tryd.func6, Tryd.ntmps6
  go_wp2_with (at_builtin; refine wpList_append_own _ rfl _ _ 22 rfl w.heap.size 24 i0 _ 3 32 Tryd.underlying22 hi0 hz0 hz1 hz2 rfl (by decide) _ 0 [] rfl (World.ownsRow_nil _ _ _ _) a ws.length cap (cellsL ws) rfl (cellsL_length ws) ?qc2 (cellsL_one ws) ?qc4 ?qc5 ?qc6 ?_)
  case qc2 => exact unhide HR
  case qc4 => simp only [maxLen]; omega
  case qc5 => omega
  case qc6 => exact Nat.le_refl _
  intro v' w1 hown hgrow _
  have HO : Hid (OwnS w1 w.heap.size v' ws) := hide (OwnS.of_row (α := Wa) hown)
  have HB : Hid (Below w.heap.size w w1) := hide (grownO hgrow _ (Nat.le_refl _) (by intro k hk; cases hk))
  clear hown hgrow
  go_wp2
  go_ret
  exact ⟨_, rfl, unhide HO, unhide HB⟩
set_option maxHeartbeats 400000 in
theorem wats_nil (cap : Nat) (w : World) :
    Calls Tryd.prog 6 #[.slice none 0 cap] w fun e w' => ∃ v', e = .returned v' ∧ OwnS w' w.heap.size v' ([] : List Wa) ∧ Below w.heap.size w w' := by
  go_enter Tryd.func6, Tryd.ntmps6
  go_wp2_with fail
  go_ret
  exact ⟨_, rfl, .inl ⟨rfl, rfl⟩, Below.refl _ _⟩
theorem wats_any (v : Value) (ws : List Wa) (w : World) (hv : SeqV w v ws) (hl : ws.length * 32 ≤ 140737488355328) :
    Calls Tryd.prog 6 #[v] w fun e w' => ∃ v', e = .returned v' ∧ OwnS w' w.heap.size v' ws ∧ Below w.heap.size w w' := by
  rcases hv with ⟨a, cap, rfl, rfl, _⟩ | ⟨b, off, cap, rfl, _, _, hb, _, hr⟩
  · cases a with
    | none => exact wats_nil cap w
    | some a => exact wats_some a cap [] w (by simp) (fun j u h => by simp [cellsL_nil] at h)
  · exact wats_some ⟨b, off, none⟩ cap ws w hl (fun j u h => by rw [Addr.add_lit]; exact hr j u h)

set_option maxRecDepth 20000 in
set_option maxHeartbeats 2000000 in
theorem rsameW_any (va vb : Value) (ws : List Wa) (w : World) (ha : SeqV w va ws) (hb : SeqV w vb ws) (hl : ws.length ≤ 140737488355328) :
    Calls Tryd.prog 8 #[va, vb] w fun e w' => e = .returned (.bool true) ∧ Below w.heap.size w w' := by
  have K : ∀ (v : Value), SeqV w v ws → ∀ W, Below w.heap.size w W → ∀ (i : Nat) (x : Wa), ws[i]? = some x → ∃ b off c, v = .slice (some ⟨b, off, none⟩) ws.length c ∧ b < w.heap.size ∧ RowAt W b off (cellsL ws) := by
    intro v hv W hW i x hx
    obtain ⟨b, off, c, e, hb, hr, _, _⟩ := seq_row hv (by intro h0; rw [h0] at hx; simp at hx)
    exact ⟨b, off, c, e, hb, hr.kept hW hb⟩
  have K1 := hide (K va ha)
  have K2 := hide (K vb hb)
  obtain ⟨aa, ac, rfl⟩ := seq_slice ha
  obtain ⟨ba, bc, rfl⟩ := seq_slice hb
  clear ha hb K
  go_enter Tryd.func8, Tryd.ntmps8
  go_wp2_with fail
  go_loopg [13] ws.length (fun kx s13 wr => ∃ k : Nat, s13 = .int .i64 k ∧ k ≤ ws.length ∧ ws.length - k ≤ kx ∧ Hid (Below w.heap.size w wr))
  case atStart => exact ⟨0, rfl, Nat.zero_le _, Nat.le_refl _, hide (Below.refl _ _)⟩
  case round =>
    obtain ⟨k, rfl, hk, hg, hB⟩ := hrel
    by_cases hlt : k < ws.length
    · obtain ⟨x, hx⟩ : ∃ x, ws[k]? = some x := ⟨_, List.getElem?_eq_getElem hlt⟩
      obtain ⟨b1, o1, cc1, he, hb1, q1⟩ := unhide K1 wr (unhide hB) k x hx
      simp only [Value.slice.injEq] at he
      obtain ⟨rfl, _, rfl⟩ := he
      obtain ⟨b2, o2, cc2, he, hb2, q2⟩ := unhide K2 wr (unhide hB) k x hx
      simp only [Value.slice.injEq] at he
      obtain ⟨rfl, _, rfl⟩ := he
      have d0 := q1.w0 hx
      have d1 := q1.w1 hx
      have d2 := q1.w2 hx
      have r0 := q2.w0 hx
      have r1 := q2.w1 hx
      have r2 := q2.w2 hx
      have hlti : (k : Int) < (ws.length : Int) := by omega
      clear q1 q2 hx
      go_wp2_with fail
      go_region
      go_wp2_with fail
      go_roundg (ws.length - (k + 1))
      case measure => omega
      case rel => exact ⟨k + 1, rfl, by omega, Nat.le_refl _, hide (nnext (unhide hB) (Below.refl _ _).drew)⟩
    · obtain rfl : k = ws.length := by omega
      go_wp2_with fail
      go_ret
      exact ⟨rfl, unhide hB⟩

end Go.Proofs.YtppmkgehdblbdaaDoor
