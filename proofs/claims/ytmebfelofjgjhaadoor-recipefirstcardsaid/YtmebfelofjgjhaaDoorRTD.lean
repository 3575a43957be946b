/-
  A tree under change: what tree.copied and growth's tell and parentChanges do: the walks.
  What growth's parentChanges does: the walks.
  What growth's open, owned and close do: the walks.
  What slices.Clone of numbers and tree.begun do: the walks.
  Copies of a tree (aviarykeep.own, aviaryref.CopyTree), tree.New and tree.Get: the walks.
  tree.Get and tree.Kids: the walks.
  Locks, lines, barriers, as plain data: what a fence answers, where a node below another lies. No program is named here.
  recipe.numbered, with strings.ContainsFunc's own text: the walks.
  Rows of the call's own, whatever their elements are: their heads, their values.
  What slices.IndexFunc answers at texts, with the closure of Line: the walks.
  What slices.DeleteFunc answers at texts, with the closure of Line: the walk.
-/
import Derived.Test.YtmebfelofjgjhaaDoorRTC
import Derived.Test.YtmebfelofjgjhaaDoorRTA
import Derived.Test.YtmebfelofjgjhaaDoorProg
import Derived.WalkKit
import Derived.Test.YtmebfelofjgjhaaDoorRTB
import Derived.Deep.RegionHeld3
import Derived.Deep.CutRange
import Derived.Test.YtmebfelofjgjhaaDoorRows
import Derived.Test.YtmebfelofjgjhaaDoorShelf
import Derived.WalkSpells
import Derived.WalkLawsBesides
import Derived.Lib.OthersKept
import Derived.Deep.LoopGhost
import Derived.Lib.SliceRun
import Derived.Lib.AppendZerosOnto
namespace Go.Proofs.YtmebfelofjgjhaaDoor
open Go.RowKit

theorem nclone_any (s : List UInt8) (w : World) (hs : s.length ≤ 281474976710656) :
    Calls Tryd.prog 43 #[.string ⟨s.toArray⟩] w fun e w' => e = .returned (.string ⟨s.toArray⟩) ∧ Below w.heap.size w w' := clone_any ⟨s.toArray⟩ w hs
theorem OneR.cellN {W : World} {b : Nat} {n : Nd} (h : OneR W b n) (j : Nat) (v : Value) (hj : (ncells n)[j]? = some v) : W.cell? ⟨b, j, none⟩ = some v := by
  have := h.row j v hj
  rwa [Nat.zero_add] at this
theorem OneR.frozenN {W : World} {b : Nat} {n : Nd} (h : OneR W b n) (j : Nat) : W.frozen? ⟨b, j, none⟩ = false := by
  unfold OneR at h
  simp [World.frozen?, h]
theorem OneR.keptN {W V : World} {b : Nat} {n : Nd} (h : OneR W b n) (hb : Below W.heap.size W V) : OneR V b n := by
  unfold OneR at h ⊢
  exact (hb.block _ (Array.getElem?_eq_some_iff.1 h).1).trans h
def nzero : Nd := ⟨[], [], 0, 0, 0, 0, 0, 0, 0⟩

set_option maxRecDepth 20000 in
set_option maxHeartbeats 1000000 in
theorem tcopied_any (n : Nd) (w : World) (hp : n.p.length ≤ 140737488355328) (hd : n.d.length ≤ 140737488355328) :
    Calls Tryd.prog 29 #[nodeV n] w fun e w' => e = .returned (nodeV n) ∧ Below w.heap.size w w' := by
  have C1 := fun W => nclone_any n.p W (by omega)
  have C2 := fun W => nclone_any n.d W (by omega)
  have X0 : ∀ W, W = (w.alloc (.cells (ncells n).toArray 40)).alloc (.cells (ncells nzero).toArray 40) → OneR W w.heap.size n ∧ OneR W (w.heap.size + 1) nzero ∧ Below w.heap.size w W := by
    rintro W rfl
    refine ⟨?_, ?_, ((Below.refl _ _).alloc (Nat.le_refl _) _).alloc (by simp) _⟩
    · unfold OneR
      exact (((Below.refl (w.heap.size + 1) (w.alloc (.cells (ncells n).toArray 40))).alloc (by simp) (.cells (ncells nzero).toArray 40)).block _ (by omega)).trans (heap_alloc_new w _)
    · have := heap_alloc_new (w.alloc (.cells (ncells n).toArray 40)) (.cells (ncells nzero).toArray 40)
      rw [show (w.alloc (.cells (ncells n).toArray 40)).heap.size = w.heap.size + 1 by simp] at this
      exact this
  have X := hide X0
  clear X0
  unfold nodeV
  go_enter Tryd.func29, Tryd.ntmps29
  go_wp2_with fail
  generalize hW0 : (w.alloc _).alloc _ = W0
  obtain ⟨x1, x2, x3⟩ := unhide X W0 hW0.symm
  clear hW0 X
  refine (C1 _).mono ?_
  rintro e w1 ⟨rfl, hb1⟩
  have y1 := x1.keptN hb1
  have e0 := y1.cellN 0 _ rfl
  have e1 := y1.cellN 1 _ rfl
  have f0 := y1.frozenN 0
  have hs0 := nset_same e0
  have Y1 := hide y1
  have Y2 := hide (x2.keptN hb1)
  have B1 := hide (nnext x3 hb1)
  clear y1 x1 x2 x3 hb1 C1
  go_wp2_with fail
  refine (C2 _).mono ?_
  rintro e w2 ⟨rfl, hb2⟩
  have y1 := (unhide Y1).keptN hb2
  have y2 := (unhide Y2).keptN hb2
  have B2 := hide (nnext (unhide B1) hb2)
  clear e0 e1 f0 hs0 C2 hb2 Y1 Y2
  have c0 := y1.cellN 0 _ rfl
  have c1 := y1.cellN 1 _ rfl
  have c2 := y1.cellN 2 _ rfl
  have c3 := y1.cellN 3 _ rfl
  have c4 := y1.cellN 4 _ rfl
  have c5 := y1.cellN 5 _ rfl
  have c6 := y1.cellN 6 _ rfl
  have c7 := y1.cellN 7 _ rfl
  have c8 := y1.cellN 8 _ rfl
  have d0 := y2.cellN 0 _ rfl
  have d1 := y2.cellN 1 _ rfl
  have d2 := y2.cellN 2 _ rfl
  have d3 := y2.cellN 3 _ rfl
  have d4 := y2.cellN 4 _ rfl
  have d5 := y2.cellN 5 _ rfl
  have d6 := y2.cellN 6 _ rfl
  have d7 := y2.cellN 7 _ rfl
  have d8 := y2.cellN 8 _ rfl
  have f1 := y1.frozenN 1
  have g0 := y2.frozenN 0
  have g1 := y2.frozenN 1
  have g2 := y2.frozenN 2
  have g3 := y2.frozenN 3
  have g4 := y2.frozenN 4
  have g5 := y2.frozenN 5
  have g6 := y2.frozenN 6
  have g7 := y2.frozenN 7
  have g8 := y2.frozenN 8
  have hs1 := nset_same c1
  have hne : w.heap.size ≠ w.heap.size + 1 := by omega
  clear y1 y2
  go_wp2_with fail
  have BB := unhide B2
  exact bodyPost_ret (v := nodeV n) (by simp [results, Tryd.results29, go_sem, nodeV, d0, d1, d2, d3, d4, d5, d6, d7, d8]) rfl
    ⟨rfl, ((((((((BB.setCell (by simp) _).setCell (by simp) _).setCell (by simp) _).setCell (by simp) _).setCell (by simp) _).setCell (by simp) _).setCell (by simp) _).setCell (by simp) _).setCell (by simp) _⟩

end Go.Proofs.YtmebfelofjgjhaaDoor

namespace Go.Proofs.YtmebfelofjgjhaaDoor
open Go.RowKit

theorem nat_at (A : List Nd) (x : Nd) (B : List Nd) : (A ++ x :: B)[A.length]? = some x := by simp

end Go.Proofs.YtmebfelofjgjhaaDoor

namespace Go.Proofs.YtmebfelofjgjhaaDoor
open Go.RowKit
theorem one_newS (w : World) (x : List UInt8) : OneR (w.alloc (.cells #[.string ⟨x.toArray⟩] 9)) w.heap.size x := heap_alloc_new w _

/- owned -/
theorem sinfo0 : (Tryd.prog.info? 9).map (fun i => (i.zero, i.size, i.bytes)) = some (some (.string ⟨#[]⟩), 1, 16) := by kernel_rfl
theorem sinfo : ∃ i0, Tryd.prog.info? 9 = some i0 ∧ i0.zero = some (.string ⟨#[]⟩) ∧ i0.size = 1 ∧ i0.bytes = 16 := by
  obtain ⟨i0, h, e⟩ := Option.map_eq_some_iff.1 sinfo0
  simp only [Prod.mk.injEq] at e
  exact ⟨i0, h, e⟩
end Go.Proofs.YtmebfelofjgjhaaDoor

namespace Go.Proofs.YtmebfelofjgjhaaDoor
open Go.RowKit
theorem one_newN (w : World) (n : Nd) : OneR (w.alloc (.cells #[.string ⟨n.p.toArray⟩, .string ⟨n.d.toArray⟩, .int .i64 n.c, .int .i64 n.m, .int .i64 n.q, .int .i64 n.v, .int .i64 n.k, .int .i64 n.o, .int .i64 n.n] 40)) w.heap.size n := heap_alloc_new w _

end Go.Proofs.YtmebfelofjgjhaaDoor

namespace Go.Proofs.YtmebfelofjgjhaaDoor
open Go.RowKit

/- append(nil, l...) -/
theorem run_copyN (W : World) (ty : TypeId) (v : Value) (xs : List Nd) (hv : SeqV W v xs) (hl : xs.length * 88 ≤ 140737488355328) :
    ∃ v' w', (Builtin.append_ #[22, 22] ty #[.slice none 0 0, v]).run Tryd.prog W = .ok v' w' ∧ OwnS w' W.heap.size v' xs ∧ W.grownBy w' none := by
  obtain ⟨i0, hi0, hz0, hz1, hz2⟩ := ninfo
  have main : ∀ (a : Addr) (cap : Nat), v = .slice (some a) xs.length cap → (∀ j u, (cellsL xs)[j]? = some u → W.cell? (a.add j) = some u) →
      ∃ v' w', (Builtin.append_ #[22, 22] ty #[.slice none 0 0, v]).run Tryd.prog W = .ok v' w' ∧ OwnS w' W.heap.size v' xs ∧ W.grownBy w' none := by
    intro a cap e hc
    subst e
    obtain ⟨v', w', h1, h2, h3, _⟩ := run_append_own (P := Tryd.prog) W W.heap.size 22 ty 40 i0 _ 9 88 Tryd.underlying22 hi0 hz0 hz1 hz2 rfl (by decide) (.slice none 0 0) 0 [] (World.ownsRow_nil _ _ _ _) a xs.length cap (cellsL xs) (cellsL_length xs) hc (cellsL_one xs)
      (by simp only [maxLen]; omega) (by omega) (Nat.le_refl _)
    refine ⟨v', w', h1, OwnS.of_row (by simp only [List.nil_append, Nat.zero_add] at h2; exact h2), h3⟩
  rcases hv with ⟨a, cap, rfl, rfl, _⟩ | ⟨b, off, cap, rfl, _, _, _, _, hr⟩
  · cases a with
    | none =>
      refine ⟨.slice none 0 0, W, ?_, .inl ⟨rfl, rfl⟩, ⟨rfl, rfl, rfl, Nat.le_refl _, fun _ _ _ => rfl⟩⟩
      simp [Builtin.append_, run_underlying Tryd.underlying22, sizeOf, typeInfo, hi0, Builtin.lenOf, Builtin.firstCells]
    | some a => exact main a cap rfl (fun j u h => by simp [cellsL] at h)
  · exact main ⟨b, off, none⟩ cap rfl (fun j u h => by rw [Addr.add_lit]; exact hr j u h)
theorem step_copyN {w : World} {ops : Array Oper} {o : Oper} {a : Act} {K : Act → World → Prop} {Q : Exit → Act → World → Prop} {E : Prop} (hgd : Region.wanted o (yielded ops a.tmps) = true) (s x : Operand)
    (ho : o.op = .call { callee := .builtin .append, args := #[s, x], argTypes := #[22, 22] })
    (hs : a.eval s = .slice none 0 0) (v : Value) (hx : a.eval x = v) (xs : List Nd) (hv : SeqV w v xs) (hl : xs.length * 88 ≤ 140737488355328)
    (h : ∀ a' c' w', OwnS w' w.heap.size (.slice a' xs.length c') xs → w.grownBy w' none → K (a.put o.dst (.slice a' xs.length c')) w') :
    if Region.wanted o (yielded ops a.tmps) = true then Oper.wp Tryd.prog o a w K Q else E := by
  rw [if_pos hgd]
  obtain ⟨v', w', hr, h2, h3⟩ := run_copyN w o.type v xs hv hl
  obtain ⟨a', c', rfl, _⟩ := h2.slice
  unfold Oper.wp execOp
  simp only [ho, resolve, invoke, builtin, Sem.run_bind, Sem.run_pure, Result.andThen_ok, List.map_toArray, List.map_cons, List.map_nil, hs, hx, hr]
  exact h a' c' w' h2 h3
theorem run_copyI (W : World) (ty : TypeId) (v : Value) (xs : List Int) (hv : SeqV W v xs) (hl : xs.length * 8 ≤ 140737488355328) :
    ∃ v' w', (Builtin.append_ #[23, 23] ty #[.slice none 0 0, v]).run Tryd.prog W = .ok v' w' ∧ OwnS w' W.heap.size v' xs ∧ W.grownBy w' none := by
  obtain ⟨i0, hi0, hz0, hz1, hz2⟩ := iinfo
  have main : ∀ (a : Addr) (cap : Nat), v = .slice (some a) xs.length cap → (∀ j u, (cellsL xs)[j]? = some u → W.cell? (a.add j) = some u) →
      ∃ v' w', (Builtin.append_ #[23, 23] ty #[.slice none 0 0, v]).run Tryd.prog W = .ok v' w' ∧ OwnS w' W.heap.size v' xs ∧ W.grownBy w' none := by
    intro a cap e hc
    subst e
    obtain ⟨v', w', h1, h2, h3, _⟩ := run_append_own (P := Tryd.prog) W W.heap.size 23 ty 3 i0 _ 1 8 Tryd.underlying23 hi0 hz0 hz1 hz2 rfl (by decide) (.slice none 0 0) 0 [] (World.ownsRow_nil _ _ _ _) a xs.length cap (cellsL xs) (cellsL_length xs) hc (cellsL_one xs)
      (by simp only [maxLen]; omega) (by omega) (Nat.le_refl _)
    refine ⟨v', w', h1, OwnS.of_row (by simp only [List.nil_append, Nat.zero_add] at h2; exact h2), h3⟩
  rcases hv with ⟨a, cap, rfl, rfl, _⟩ | ⟨b, off, cap, rfl, _, _, _, _, hr⟩
  · cases a with
    | none =>
      refine ⟨.slice none 0 0, W, ?_, .inl ⟨rfl, rfl⟩, ⟨rfl, rfl, rfl, Nat.le_refl _, fun _ _ _ => rfl⟩⟩
      simp [Builtin.append_, run_underlying Tryd.underlying23, sizeOf, typeInfo, hi0, Builtin.lenOf, Builtin.firstCells]
    | some a => exact main a cap rfl (fun j u h => by simp [cellsL] at h)
  · exact main ⟨b, off, none⟩ cap rfl (fun j u h => by rw [Addr.add_lit]; exact hr j u h)
theorem step_copyI {w : World} {ops : Array Oper} {o : Oper} {a : Act} {K : Act → World → Prop} {Q : Exit → Act → World → Prop} {E : Prop} (hgd : Region.wanted o (yielded ops a.tmps) = true) (s x : Operand)
    (ho : o.op = .call { callee := .builtin .append, args := #[s, x], argTypes := #[23, 23] })
    (hs : a.eval s = .slice none 0 0) (v : Value) (hx : a.eval x = v) (xs : List Int) (hv : SeqV w v xs) (hl : xs.length * 8 ≤ 140737488355328)
    (h : ∀ a' c' w', OwnS w' w.heap.size (.slice a' xs.length c') xs → w.grownBy w' none → K (a.put o.dst (.slice a' xs.length c')) w') :
    if Region.wanted o (yielded ops a.tmps) = true then Oper.wp Tryd.prog o a w K Q else E := by
  rw [if_pos hgd]
  obtain ⟨v', w', hr, h2, h3⟩ := run_copyI w o.type v xs hv hl
  obtain ⟨a', c', rfl, _⟩ := h2.slice
  unfold Oper.wp execOp
  simp only [ho, resolve, invoke, builtin, Sem.run_bind, Sem.run_pure, Result.andThen_ok, List.map_toArray, List.map_cons, List.map_nil, hs, hx, hr]
  exact h a' c' w' h2 h3

/-- a tree's box at q, a box for the answer behind it -/
structure OB (w W : World) (z : Int) (vn vs : Value) : Prop where
  t : W.heap[w.heap.size]? = some (.cells #[.int .i64 z, vn, vs] 25 (0, 0))
  r : W.heap[w.heap.size + 1]? = some (.cells #[.int .i64 0, .slice none 0 0, .slice none 0 0] 25 (0, 0))
  b : Below w.heap.size w W
theorem OB.new (w : World) (z : Int) (vn vs : Value) : OB w ((w.alloc (.cells #[.int .i64 z, vn, vs] 25)).alloc (.cells #[.int .i64 0, .slice none 0 0, .slice none 0 0] 25)) z vn vs := by
  refine ⟨?_, ?_, nnext (allocB _ _) (allocB _ _)⟩
  · rw [(allocB _ _).block _ (by simp)]
    exact heap_alloc_new w _
  · have h := heap_alloc_new (w.alloc (.cells #[.int .i64 z, vn, vs] 25)) (.cells #[.int .i64 0, .slice none 0 0, .slice none 0 0] 25)
    rw [show (w.alloc (.cells #[.int .i64 z, vn, vs] 25)).heap.size = w.heap.size + 1 by simp] at h
    exact h
theorem OB.lt {w W : World} {z : Int} {vn vs : Value} (h : OB w W z vn vs) : w.heap.size + 1 < W.heap.size := (Array.getElem?_eq_some_iff.1 h.r).1
theorem OB.next {w W V : World} {z : Int} {vn vs : Value} (h : OB w W z vn vs) (hb : Below W.heap.size W V) : OB w V z vn vs := by
  have := h.lt
  exact ⟨(hb.block _ (by omega)).trans h.t, (hb.block _ (by omega)).trans h.r, nnext h.b hb⟩
theorem OB.drew {w W : World} {z : Int} {vn vs : Value} (h : OB w W z vn vs) : OB w W.drew z vn vs := h.next (Below.refl _ _).drew
theorem grown_below {W V : World} (h : W.grownBy V none) : Below W.heap.size W V := ⟨h.os, h.tape, h.output, h.size, fun k hk => h.block k hk (by simp)⟩
theorem OB.grown {w W V : World} {z : Int} {vn vs : Value} (h : OB w W z vn vs) (hg : W.grownBy V none) : OB w V z vn vs := h.next (grown_below hg)
theorem OB.cells {w W : World} {z : Int} {vn vs : Value} (h : OB w W z vn vs) : W.cell? ⟨w.heap.size, 0, none⟩ = some (.int .i64 z) ∧ W.cell? ⟨w.heap.size, 1, none⟩ = some vn ∧ W.cell? ⟨w.heap.size, 2, none⟩ = some vs ∧ W.frozen? ⟨w.heap.size, 1, none⟩ = false ∧ W.frozen? ⟨w.heap.size, 2, none⟩ = false := by
  have h1 := h.t
  refine ⟨?_, ?_, ?_, ?_, ?_⟩ <;> simp [World.cell?, World.frozen?, h1]
theorem OB.res {w W : World} {z : Int} {vn vs : Value} (h : OB w W z vn vs) : W.cell? ⟨w.heap.size + 1, 0, none⟩ = some (.int .i64 0) ∧ W.cell? ⟨w.heap.size + 1, 1, none⟩ = some (.slice none 0 0) ∧ W.cell? ⟨w.heap.size + 1, 2, none⟩ = some (.slice none 0 0) ∧ W.frozen? ⟨w.heap.size + 1, 0, none⟩ = false ∧ W.frozen? ⟨w.heap.size + 1, 1, none⟩ = false ∧ W.frozen? ⟨w.heap.size + 1, 2, none⟩ = false := by
  have h1 := h.r
  refine ⟨?_, ?_, ?_, ?_, ?_, ?_⟩ <;> simp [World.cell?, World.frozen?, h1]
theorem OB.put {w W : World} {z : Int} {vn vs : Value} (h : OB w W z vn vs) (v : Value) (c : Nat) (vn' vs' : Value) (hc : (#[.int .i64 z, vn, vs] : Array Value).set! c v = #[.int .i64 z, vn', vs']) : OB w (W.setCell ⟨w.heap.size, c, none⟩ v) z vn' vs' := by
  refine ⟨?_, (Below.heap_setCell _ _ _ _ (by simp)).trans h.r, h.b.setCell (by simp) _⟩
  rw [block_set v h.t, ← hc]
  simp
/-- copied, but for the answer -/
def OwnQ (w : World) (z : Int) (ns : List Nd) (ss : List Int) (wx : World) : Prop :=
  ∃ an cn ai ci, OB w wx z (.slice an ns.length cn) (.slice ai ss.length ci) ∧ OwnS wx (w.heap.size + 2) (.slice an ns.length cn) ns ∧ OwnS wx (w.heap.size + 2) (.slice ai ss.length ci) ss
theorem own_fin {w W : World} {z : Int} {vn vs : Value} {an ai : Option Addr} {cn ci : Nat} {ns : List Nd} {ss : List Int} (h : OB w W z vn vs) (hn : OwnS W (w.heap.size + 2) (.slice an ns.length cn) ns) (hs : OwnS W (w.heap.size + 2) (.slice ai ss.length ci) ss) :
    OwnQ w z ns ss ((W.setCell ⟨w.heap.size, 1, none⟩ (.slice an ns.length cn)).setCell ⟨w.heap.size, 2, none⟩ (.slice ai ss.length ci)) := by
  have no : ∀ {α : Type} [Lay α] {v : Value} {xs : List α}, OwnS W (w.heap.size + 2) v xs → v.ownBlock ≠ some w.heap.size := by
    intro α _ v xs ho e
    rcases ho with ⟨rfl, _⟩ | ⟨g, cap, rfl, hB, _⟩
    · cases e
    · simp [Value.ownBlock] at e; omega
  exact ⟨an, cn, ai, ci, (h.put _ 1 _ _ rfl).put _ 2 _ _ rfl, (hn.other (no hn) _).other (no hn) _, (hs.other (no hs) _).other (no hs) _⟩
theorem OwnQ.next {w W V : World} {z : Int} {ns : List Nd} {ss : List Int} (h : OwnQ w z ns ss W) (hb : Below W.heap.size W V) : OwnQ w z ns ss V := by
  obtain ⟨an, cn, ai, ci, h1, h2, h3⟩ := h
  exact ⟨an, cn, ai, ci, h1.next hb, h2.next hb, h3.next hb⟩
/-- what a copy gives -/
def GivesT (w : World) (t : Tr) (e : Ending) (w' : World) : Prop :=
  ∃ vn vs, e = .returned (.agg #[.int .i64 t.z, vn, vs]) ∧ OwnS w' w.heap.size vn t.ns ∧ OwnS w' w.heap.size vs t.ss ∧ Below w.heap.size w w'
theorem gives_copy {w W : World} {t : Tr} {an ai : Option Addr} {cn ci : Nat} {v0 v1 v2 : Value} (h : OB w W t.z (.slice an t.ns.length cn) (.slice ai t.ss.length ci)) (hn : OwnS W (w.heap.size + 2) (.slice an t.ns.length cn) t.ns) (hs : OwnS W (w.heap.size + 2) (.slice ai t.ss.length ci) t.ss) :
    GivesT w t (.returned (.agg #[.int .i64 t.z, .slice an t.ns.length cn, .slice ai t.ss.length ci])) (((W.setCell ⟨w.heap.size + 1, 0, none⟩ v0).setCell ⟨w.heap.size + 1, 1, none⟩ v1).setCell ⟨w.heap.size + 1, 2, none⟩ v2) := by
  have no : ∀ {α : Type} [Lay α] {v : Value} {xs : List α}, OwnS W (w.heap.size + 2) v xs → v.ownBlock ≠ some (w.heap.size + 1) := by
    intro α _ v xs ho e
    rcases ho with ⟨rfl, _⟩ | ⟨g, cap, rfl, hB, _⟩
    · cases e
    · simp [Value.ownBlock] at e; omega
  exact ⟨_, _, rfl, (((hn.lower (by omega)).other (no hn) _).other (no hn) _).other (no hn) _, (((hs.lower (by omega)).other (no hs) _).other (no hs) _).other (no hs) _, ((h.b.setCell (by simp) _).setCell (by simp) _).setCell (by simp) _⟩

set_option maxRecDepth 20000 in
set_option maxHeartbeats 2000000 in
theorem own_any (t : Tr) (vn vs : Value) (w : World) (hn : SeqV w vn t.ns) (hs : SeqV w vs t.ss) (hl : t.ns.length * 88 ≤ 140737488355328) (hls : t.ss.length * 8 ≤ 140737488355328) :
    Calls Tryd.prog 7 #[.agg #[.int .i64 t.z, vn, vs]] w (GivesT w t) := by
  have HN := hide (fun W (hW : Below w.heap.size w W) => hn.next hW)
  have HS := hide (fun W (hW : Below w.heap.size w W) => hs.next hW)
  obtain ⟨na, nc, rfl⟩ := seq_slice hn
  obtain ⟨sa, sc, rfl⟩ := seq_slice hs
  have O0 := hide (OB.new w t.z (.slice na t.ns.length nc) (.slice sa t.ss.length sc))
  clear hn hs
  go_enter Tryd.func7, Tryd.ntmps7
  go_upto_region 1 with fail
  go_cut [2] from 3 (fun t2 wx => t2 = .pointer (some ⟨w.heap.size + 1, 0, none⟩) ∧ Hid (OwnQ w t.z t.ns t.ss wx))
  case first =>
    go_region_law (first
      | (refine step_copyN (by kernel_rfl) _ _ (by rfl) (by rfl) (.slice na t.ns.length nc) (by rfl) t.ns (unhide HN _ (OB.b (z := t.z) (vn := .slice na t.ns.length nc) (vs := .slice sa t.ss.length sc) (by first | exact unhide OI | exact (unhide O0).drew | exact unhide O0))) hl ?_; intro aN cN wN ho hg; have ON := hide (OB.grown (z := t.z) (vn := .slice na t.ns.length nc) (vs := .slice sa t.ss.length sc) (by first | exact unhide OI | exact (unhide O0).drew | exact unhide O0) hg); have GN := hide (OwnS.lower (C := w.heap.size + 2) ho (OB.lt (z := t.z) (vn := .slice na t.ns.length nc) (vs := .slice sa t.ss.length sc) (by first | exact unhide OI | exact (unhide O0).drew | exact unhide O0))); (try have GI' := hide ((unhide GI).next (grown_below hg))); obtain ⟨n0, n1, n2, n3, n4⟩ := (unhide ON).cells; clear ho hg)
      | (refine step_copyI (by kernel_rfl) _ _ (by rfl) (by rfl) (.slice sa t.ss.length sc) (by rfl) t.ss (unhide HS _ (OB.b (z := t.z) (vn := .slice na t.ns.length nc) (vs := .slice sa t.ss.length sc) (by first | exact unhide ON | exact (unhide O0).drew | exact unhide O0))) hls ?_; intro aI cI wI ho hg; have OI := hide (OB.grown (z := t.z) (vn := .slice na t.ns.length nc) (vs := .slice sa t.ss.length sc) (by first | exact unhide ON | exact (unhide O0).drew | exact unhide O0) hg); have GI := hide (OwnS.lower (C := w.heap.size + 2) ho (OB.lt (z := t.z) (vn := .slice na t.ns.length nc) (vs := .slice sa t.ss.length sc) (by first | exact unhide ON | exact (unhide O0).drew | exact unhide O0))); (try have GN' := hide ((unhide GN).next (grown_below hg))); obtain ⟨i0, i1, i2, i3, i4⟩ := (unhide OI).cells; clear ho hg))
    all_goals go_wp2_with fail
    all_goals go_meet
    all_goals first
      | exact ⟨rfl, hide (own_fin (unhide OI) (unhide GN') (unhide GI))⟩
      | exact ⟨rfl, hide (own_fin (unhide ON) (unhide GN) (unhide GI'))⟩
  case rest =>
    obtain ⟨rfl, hq⟩ := hcut
    clear HN HS O0
    obtain ⟨an, cn, ai, ci, q, qn, qs⟩ := unhide hq
    obtain ⟨c0, c1, c2, _, _⟩ := q.cells
    obtain ⟨r0, r1, r2, f0, f1, f2⟩ := q.res
    have FIN := hide (fun (v0 v1 v2 : Value) => gives_copy (v0 := v0) (v1 := v1) (v2 := v2) (t := t) q qn qs)
    have hne : w.heap.size ≠ w.heap.size + 1 := by omega
    clear q qn qs hq
    go_wp2_with fail
    exact bodyPost_ret (v := .agg #[.int .i64 t.z, .slice an t.ns.length cn, .slice ai t.ss.length ci]) (by simp [results, Tryd.results7, go_sem, r0, r1, r2]) rfl (unhide FIN _ _ _)

/- New, Get -/
end Go.Proofs.YtmebfelofjgjhaaDoor

namespace Go.Proofs.YtmebfelofjgjhaaDoor
open Go.RowKit

/-- a tree's box, and a node's for the answer -/
structure GB (w W : World) (z : Int) (vn vs : Value) : Prop where
  t : W.heap[w.heap.size]? = some (.cells #[.int .i64 z, vn, vs] 25 (0, 0))
  r : W.heap[w.heap.size + 1]? = some (.cells #[.string ⟨#[]⟩, .string ⟨#[]⟩, .int .i64 0, .int .i64 0, .int .i64 0, .int .i64 0, .int .i64 0, .int .i64 0, .int .i64 0] 40 (0, 0))
  b : Below w.heap.size w W
theorem GB.new (w : World) (z : Int) (vn vs : Value) : GB w ((w.alloc (.cells #[.int .i64 z, vn, vs] 25)).alloc (.cells #[.string ⟨#[]⟩, .string ⟨#[]⟩, .int .i64 0, .int .i64 0, .int .i64 0, .int .i64 0, .int .i64 0, .int .i64 0, .int .i64 0] 40)) z vn vs := by
  refine ⟨?_, ?_, nnext (allocB _ _) (allocB _ _)⟩
  · rw [(allocB _ _).block _ (by simp)]
    exact heap_alloc_new w _
  · have h := heap_alloc_new (w.alloc (.cells #[.int .i64 z, vn, vs] 25)) (.cells #[.string ⟨#[]⟩, .string ⟨#[]⟩, .int .i64 0, .int .i64 0, .int .i64 0, .int .i64 0, .int .i64 0, .int .i64 0, .int .i64 0] 40)
    rw [show (w.alloc (.cells #[.int .i64 z, vn, vs] 25)).heap.size = w.heap.size + 1 by simp] at h
    exact h
theorem GB.lt {w W : World} {z : Int} {vn vs : Value} (h : GB w W z vn vs) : w.heap.size + 1 < W.heap.size := (Array.getElem?_eq_some_iff.1 h.r).1
theorem GB.next {w W V : World} {z : Int} {vn vs : Value} (h : GB w W z vn vs) (hb : Below W.heap.size W V) : GB w V z vn vs := by
  have := h.lt
  exact ⟨(hb.block _ (by omega)).trans h.t, (hb.block _ (by omega)).trans h.r, nnext h.b hb⟩
theorem GB.c1 {w W : World} {z : Int} {vn vs : Value} (h : GB w W z vn vs) : W.cell? ⟨w.heap.size, 1, none⟩ = some vn := by simp [World.cell?, h.t]
theorem GB.one {w W : World} {z : Int} {vn vs : Value} (h : GB w W z vn vs) : OneR W (w.heap.size + 1) nzero := h.r

set_option maxRecDepth 20000 in
set_option maxHeartbeats 2000000 in
theorem tget_there (z : Int) (vn vs : Value) (ns A B : List Nd) (n : Nd) (p : List UInt8) (w : World) (hn : SeqV w vn ns) (hl : ns.length ≤ 100000) (T : NThere ns A n B p) (hp : n.p.length ≤ 140737488355328) (hd : n.d.length ≤ 140737488355328) :
    Calls Tryd.prog 10 #[.agg #[.int .i64 z, vn, vs], .string ⟨p.toArray⟩] w fun e w' => e = .returned (.tuple #[nodeV n, .int .i64 0]) ∧ Below w.heap.size w w' := by
  have CF := hide (fun W (hW : Below w.heap.size w W) => nfind_there vn ns A B n p W (hn.next hW) hl T)
  have CC := hide (fun W => tcopied_any n W hp hd)
  unfold nodeV at CC
  have hlt : A.length < ns.length := by rw [T.eq]; simp
  have hat : ns[A.length]? = some n := by rw [T.eq]; exact nat_at A n B
  obtain ⟨b, off, cap, rfl, hb, hr, _, _⟩ := seq_row hn (by rw [T.eq]; simp)
  have HR := hide (fun W (hW : Below w.heap.size w W) => hr.kept hW hb)
  have B0 := hide (GB.new w z (.slice (some ⟨b, off, none⟩) ns.length cap) vs)
  clear hn T hr
  have HAT := hide hat
  clear hat
  go_enter Tryd.func10, Tryd.ntmps10
  go_wp2_with fail
  refine (unhide CF _ (unhide B0).b).mono ?_
  rintro e w1 ⟨rfl, hb1⟩
  have b1 := (unhide B0).next hb1
  have HB1 := hide b1
  have e1 := b1.c1
  have q := unhide HR w1 b1.b
  have d0 := q.n0 (unhide HAT)
  have d1 := q.n1 (unhide HAT)
  have d2 := q.n2 (unhide HAT)
  have d3 := q.n3 (unhide HAT)
  have d4 := q.n4 (unhide HAT)
  have d5 := q.n5 (unhide HAT)
  have d6 := q.n6 (unhide HAT)
  have d7 := q.n7 (unhide HAT)
  have d8 := q.n8 (unhide HAT)
  clear q CF b1 hb1
  go_wp2_with fail
  refine (unhide CC _).mono ?_
  rintro e w2 ⟨rfl, hb2⟩
  have b2 := (unhide HB1).next hb2
  have o1 := b2.one
  have c0 := o1.cellN 0 _ rfl
  have c1 := o1.cellN 1 _ rfl
  have c2 := o1.cellN 2 _ rfl
  have c3 := o1.cellN 3 _ rfl
  have c4 := o1.cellN 4 _ rfl
  have c5 := o1.cellN 5 _ rfl
  have c6 := o1.cellN 6 _ rfl
  have c7 := o1.cellN 7 _ rfl
  have c8 := o1.cellN 8 _ rfl
  have f0 := o1.frozenN 0
  have f1 := o1.frozenN 1
  have f2 := o1.frozenN 2
  have f3 := o1.frozenN 3
  have f4 := o1.frozenN 4
  have f5 := o1.frozenN 5
  have f6 := o1.frozenN 6
  have f7 := o1.frozenN 7
  have f8 := o1.frozenN 8
  have HBB := hide b2.b
  clear b2 hb2 o1 CC d0 d1 d2 d3 d4 d5 d6 d7 d8 e1
  go_wp2_with fail
  have BB := unhide HBB
  exact bodyPost_ret (v := .tuple #[nodeV n, .int .i64 0]) (by simp [results, Tryd.results10, go_sem, nodeV, c0, c1, c2, c3, c4, c5, c6, c7, c8]) rfl
    ⟨rfl, ((((((((BB.setCell (by simp) _).setCell (by simp) _).setCell (by simp) _).setCell (by simp) _).setCell (by simp) _).setCell (by simp) _).setCell (by simp) _).setCell (by simp) _).setCell (by simp) _⟩

/- Kids -/
def kidsP (ns : List Nd) (p : List UInt8) : List (List UInt8) := (ns.filter fun n => decide (dirOf n.p = p)).map fun n => stepOf n.p
theorem kidsP_take {ns : List Nd} {k : Nat} {x : Nd} (hx : ns[k]? = some x) (p : List UInt8) : kidsP (ns.take (k + 1)) p = kidsP (ns.take k) p ++ (if dirOf x.p = p then [stepOf x.p] else []) := by
  rw [List.take_add_one, hx]
  simp only [kidsP, Option.toList_some, List.filter_append, List.map_append, List.filter_cons, List.filter_nil, decide_eq_true_eq]
  split <;> simp
theorem kidsP_len (ns : List Nd) (p : List UInt8) : (kidsP ns p).length = kidsN ns p := by
  rw [kidsP, List.length_map, kidsN, List.countP_eq_length_filter]

set_option maxRecDepth 20000 in
set_option maxHeartbeats 400000 in
theorem tkids_gap (z : Int) (vn vs : Value) (ns A B : List Nd) (p : List UInt8) (w : World) (hn : SeqV w vn ns) (hl : ns.length ≤ 100000) (G : NGap ns A B p) :
    Calls Tryd.prog 20 #[.agg #[.int .i64 z, vn, vs], .string ⟨p.toArray⟩] w fun e w' => e = .returned (.tuple #[.slice none 0 0, .int .i64 7]) ∧ Below w.heap.size w w' := by
  have CF := hide (fun W (hW : Below w.heap.size w W) => nfind_gap vn ns A B p W (hn.next hW) hl G)
  obtain ⟨na, nc, rfl⟩ := seq_slice hn
  clear hn G
  go_enter Tryd.func20, Tryd.ntmps20
  go_wp2_with fail
  refine (unhide CF _ (allocB _ _)).mono ?_
  rintro e w1 ⟨rfl, hb1⟩
  have HB := hide (nbox_then hb1)
  clear hb1 CF
  go_wp2_with fail
  go_ret2
  exact ⟨rfl, unhide HB⟩

set_option maxRecDepth 20000 in
set_option maxHeartbeats 4000000 in
theorem tkids_there (z : Int) (vn vs : Value) (ns A B : List Nd) (n : Nd) (p : List UInt8) (w : World) (hn : SeqV w vn ns) (hl : ns.length ≤ 400) (T : NThere ns A n B p) :
    Calls Tryd.prog 20 #[.agg #[.int .i64 z, vn, vs], .string ⟨p.toArray⟩] w fun e w' => ∃ v', e = .returned (.tuple #[v', .int .i64 0]) ∧ OwnS w' w.heap.size v' (kidsP ns p) ∧ Below w.heap.size w w' := by
  have CF := hide (fun W (hW : Below w.heap.size w W) => nfind_there vn ns A B n p W (hn.next hW) (by omega) T)
  have CS := hide (fun q W => split_any q W)
  obtain ⟨i0, hi0, hz0, hz1, hz2⟩ := sinfo
  obtain ⟨b, off, cap, rfl, hb, hr, _, _⟩ := seq_row hn (by rw [T.eq]; simp)
  have HR := hide (fun W (hW : Below w.heap.size w W) => hr.kept hW hb)
  clear hn T hr
  go_enter Tryd.func20, Tryd.ntmps20
  go_wp2_with fail
  refine (unhide CF _ (allocB _ _)).mono ?_
  rintro e w1 ⟨rfl, hb1⟩
  have c1 : w1.cell? ⟨w.heap.size, 1, none⟩ = some (.slice (some ⟨b, off, none⟩) ns.length cap) := by rw [hb1.cell (p := ⟨w.heap.size, 1, none⟩) (by simp)]; simp
  have HB := hide (nbox_then hb1)
  have hsz1 := (unhide HB).size
  clear hb1 CF
  go_wp2_with fail
  go_loopg [8, 26] ns.length (fun kx s8 s26 wr => ∃ k : Nat, s26 = .int .i64 k ∧ k ≤ ns.length ∧ ns.length - k ≤ kx ∧ Hid (OwnS wr w.heap.size s8 (kidsP (ns.take k) p)) ∧ Hid (Below w.heap.size w wr))
  case atStart => exact ⟨0, rfl, Nat.zero_le _, Nat.le_refl _, hide (.inl ⟨rfl, rfl⟩), HB⟩
  case round =>
    obtain ⟨k, rfl, hk, hg, hO, hB⟩ := hrel
    by_cases hlt : k < ns.length
    · obtain ⟨x, hx⟩ : ∃ x, ns[k]? = some x := ⟨_, List.getElem?_eq_getElem hlt⟩
      have q := unhide HR wr (unhide hB)
      have d0 := q.n0 hx
      have d1 := q.n1 hx
      have d2 := q.n2 hx
      have d3 := q.n3 hx
      have d4 := q.n4 hx
      have d5 := q.n5 hx
      have d6 := q.n6 hx
      have d7 := q.n7 hx
      have d8 := q.n8 hx
      have hbw : b < wr.heap.size := Nat.lt_of_lt_of_le hb (unhide hB).size
      have HT := hide (kidsP_take hx p)
      have hln : (kidsP (ns.take k) p).length ≤ 400 := by
        rw [kidsP_len]
        have h1 : kidsN (ns.take k) p ≤ (ns.take k).length := List.countP_le_length
        rw [List.length_take] at h1
        omega
      obtain ⟨va, vc, rfl, _⟩ := (unhide hO).slice
      obtain ⟨P, hP⟩ : ∃ P, kidsP (ns.take k) p = P := ⟨_, rfl⟩
      rw [hP] at hO hln HT
      rw [hP]
      clear q hx hP
      go_wp2_with fail
      refine (unhide CS x.p _).mono ?_
      rintro e w2 ⟨rfl, hb2⟩
      have hB2 := hide (nnext (unhide hB) (nbox_then hb2))
      have hO2 := hide ((unhide hO).next (nbox_then hb2))
      clear hb2 d0 d1 d2 d3 d4 d5 d6 d7 d8
      by_cases hs : dirOf x.p = p
      · have HS := hide hs
        obtain ⟨D, hD⟩ : ∃ D, dirOf x.p = D := ⟨_, rfl⟩
        rw [hD] at HT HS hs
        rw [hD]
        subst hs
        clear hD HS
        go_wp2_with (at_builtin; refine wpList_append_own _ rfl _ _ 28 rfl w.heap.size 9 i0 _ 1 16 Tryd.underlying28 hi0 hz0 hz1 hz2 rfl (by decide) _ P.length (cellsL P) rfl (((unhide hO2).next (allocB _ _)).row) ⟨w2.heap.size, 0, none⟩ 1 1 [.string ⟨(stepOf x.p).toArray⟩] rfl (by rfl) ?qc2 (by intro u hu; simp at hu; subst hu; rfl) ?qc4 ?qc5 ?qc6 ?_)
        case qc2 =>
          intro j u hj
          exact one_news (one_newS w2 (stepOf x.p)) j u hj
        case qc4 => simp only [maxLen]; omega
        case qc5 => omega
        case qc6 => have := (unhide hB2).size; simp; omega
        intro v' w3 hown hgrow _
        have O1 : OwnS w3 w.heap.size v' (P ++ [stepOf x.p]) := OwnS.of_row (by rw [List.length_append, cellsL_snoc]; exact hown)
        have B1 : Below w.heap.size w w3 := (nnext (unhide hB2) (allocB _ _)).grown hgrow (nnext (unhide hB2) (allocB _ _)).size (fun j hj => by
          rcases unhide hO2 with ⟨e, _⟩ | ⟨q, c, e, hq, _⟩
          · rw [e] at hj; cases hj
          · rw [e] at hj; cases hj; exact hq)
        have HO1 := hide O1
        have HB1 := hide B1
        obtain ⟨wa, wc, rfl, _⟩ := O1.slice
        clear O1 B1 hown hgrow
        go_wp2_with fail
        go_roundg (ns.length - (k + 1))
        case measure => omega
        case rel => exact ⟨k + 1, rfl, by omega, Nat.le_refl _, (by rw [unhide HT, if_pos (by trivial)]; exact HO1), HB1⟩
      · have hsb : (dirOf x.p == p) = false := by simpa using hs
        have HS := hide hs
        clear hs
        go_wp2_with fail
        go_roundg (ns.length - (k + 1))
        case measure => omega
        case rel => exact ⟨k + 1, rfl, by omega, Nat.le_refl _, (by rw [unhide HT, if_neg (unhide HS), List.append_nil]; exact hO2), hB2⟩
    · obtain rfl : k = ns.length := by omega
      have O1 := unhide hO
      rw [List.take_length] at O1
      have HO1 := hide O1
      obtain ⟨wa, wc, rfl, _⟩ := O1.slice
      clear O1
      go_wp2_with fail
      go_ret2
      exact ⟨_, rfl, unhide HO1, unhide hB⟩

end Go.Proofs.YtmebfelofjgjhaaDoor

namespace Go.Proofs.YtmebfelofjgjhaaDoor
open Go.RowKit

/-- the greater one -/
def fenN (a b : Int) : Int := if a ≤ b then b else a
/-- the path of a step below a node -/
def belL (d m : List UInt8) : List UInt8 := if d = [47] then 47 :: m else d ++ 47 :: m
theorem belL_root (m : List UInt8) : belL [47] m = 47 :: m := by rw [belL, if_pos rfl]
theorem belL_other {d : List UInt8} (h : d ≠ [47]) (m : List UInt8) : belL d m = d ++ 47 :: m := by rw [belL, if_neg h]
theorem rcat (l m : List UInt8) : (ByteArray.mk l.toArray) ++ (ByteArray.mk m.toArray) = ⟨(l ++ m).toArray⟩ := by
  have h : ((ByteArray.mk l.toArray) ++ (ByteArray.mk m.toArray)).data.toList = l ++ m := by simp [ByteArray.data_append]
  exact congrArg (fun l : List UInt8 => ByteArray.mk l.toArray) h
theorem rret_str {a b : ByteArray} (h : a = b) : Ending.returned (.string a) = .returned (.string b) := by rw [h]
end Go.Proofs.YtmebfelofjgjhaaDoor

namespace Go.Proofs.YtmebfelofjgjhaaDoor
open Go.RowKit Go.Lib

def digB (c : UInt8) : Bool := decide (48 ≤ c.toNat) && decide (c.toNat ≤ 57)
/-- a name, and ten digits behind it -/
def nmbB (m x : List UInt8) : Bool := Lib.hasPrefix x m && decide (x.length = m.length + 10) && (x.drop m.length).all digB
theorem rune_high (s : ByteArray) (pos : Nat) (h : ¬ (s.get! (pos + 0)).toNat < 128) : 128 ≤ (Utf8.decode s pos).1 := by
  unfold Utf8.decode
  simp only [h, if_false, Utf8.runeError]
  repeat' split
  all_goals (simp only [ge_iff_le, Bool.and_eq_true, decide_eq_true_eq] at *; omega)
theorem rune_dig (x : List UInt8) (pos : Nat) (h : pos < x.length) (hd : digB x[pos] = true) : Utf8.decode ⟨x.toArray⟩ pos = ((x[pos]).toNat, 1) := by
  have hs : pos < (ByteArray.mk x.toArray).size := h
  simp only [digB, Bool.and_eq_true, decide_eq_true_eq] at hd
  exact decode_ascii ⟨x.toArray⟩ pos hs (show (x[pos]).toNat < 128 by omega)
theorem rune_not (x : List UInt8) (pos : Nat) (h : pos < x.length) (hd : digB x[pos] = false) : (Utf8.decode ⟨x.toArray⟩ pos).1 < 48 ∨ 57 < (Utf8.decode ⟨x.toArray⟩ pos).1 := by
  have hs : pos < (ByteArray.mk x.toArray).size := h
  by_cases ha : (x[pos]).toNat < 128
  · have e : Utf8.decode ⟨x.toArray⟩ pos = ((x[pos]).toNat, 1) := decode_ascii ⟨x.toArray⟩ pos hs ha
    rw [e]
    simp only [digB, Bool.and_eq_false_iff, decide_eq_false_iff_not] at hd
    show (x[pos]).toNat < 48 ∨ 57 < (x[pos]).toNat
    omega
  · right
    have hg : (ByteArray.mk x.toArray).get! (pos + 0) = x[pos] := by
      show x.toArray[pos + 0]! = x[pos]
      simp [h]
    have := rune_high ⟨x.toArray⟩ pos (by rw [hg]; exact ha)
    omega

theorem rret_bool {a b : Bool} (h : a = b) : Ending.returned (.bool a) = .returned (.bool b) := by rw [h]
set_option maxRecDepth 10000 in
set_option maxHeartbeats 400000 in
theorem noDigit_any (r : Nat) (w : World) :
    Calls Tryd.prog 37 #[.int .i32 r] w fun e w' => e = .returned (.bool (decide (r < 48 ∨ 57 < r))) ∧ w' = w := by
  go_enter Tryd.func37, Tryd.ntmps37
  go_wp2
  all_goals go_ret
  all_goals exact ⟨rret_bool (by rw [Bool.eq_iff_iff]; simp; try omega), rfl⟩

theorem dall_take {x : List UInt8} {k : Nat} (h : k < x.length) (h1 : (x.take k).all digB = true) (h2 : digB x[k] = true) : (x.take (k + 1)).all digB = true := by
  rw [List.take_succ_eq_append_getElem h, List.all_append, h1]; simpa using h2
theorem dnot_all {x : List UInt8} {k : Nat} (h : k < x.length) (h2 : digB x[k] = false) : x.all digB = false := by
  rw [List.all_eq_false]
  exact ⟨x[k], List.getElem_mem h, by simp [h2]⟩

set_option maxRecDepth 10000 in
set_option maxHeartbeats 2000000 in
theorem sidxf_any (x : List UInt8) (w : World) :
    Calls Tryd.prog 57 #[.string ⟨x.toArray⟩, .func (.func 37) #[] #[], .bool true] w fun e w' => ∃ n : Int, e = .returned (.int .i64 n) ∧ decide (0 ≤ n) = !(x.all digB) ∧ Below w.heap.size w w' := by
  have hz : (ByteArray.mk x.toArray).size = x.length := Lib.size_eq ⟨x.toArray⟩
  go_enter Tryd.func57, Tryd.ntmps57
  go_wp2_with fail
  go_loopg [] x.length (fun gf wx => ∃ pos : Nat, wx.heap[w.heap.size]? = some (.stringIter ⟨x.toArray⟩ pos) ∧ Hid (Below w.heap.size w wx) ∧ Hid ((x.take pos).all digB = true) ∧ x.length - pos ≤ gf)
  case atStart => exact ⟨0, World.iter_heap w ⟨x.toArray⟩ 0, hide ((Below.refl _ w).alloc (Nat.le_refl _) _), hide rfl, by omega⟩
  case round =>
    obtain ⟨pos, hit, hbw, hall, hfu⟩ := hrel
    by_cases hps : pos < x.length
    · have hps' : pos < (ByteArray.mk x.toArray).size := hps
      have hnx : ∀ ty, (Instr.next (.pointer (some ⟨w.heap.size, 0, none⟩)) true ty).run Tryd.prog wr = _ := fun ty => run_next_any_at wr w.heap.size ⟨x.toArray⟩ pos ty hit hps'
      cases hd : digB x[pos] with
      | true =>
        have hA := hide (dall_take hps (unhide hall) hd)
        rw [rune_dig x pos hps hd] at hnx
        have hit2 := iterAt_heap wr w.heap.size ⟨x.toArray⟩ pos (pos + 1) hit
        have hbw2 := hide (below_iterAt (unhide hbw) (k := w.heap.size) (Nat.le_refl _) ⟨x.toArray⟩ (pos + 1))
        simp only at hnx
        have cS := fun W => noDigit_any (x[pos]).toNat W
        rw [decide_eq_false (show ¬ ((x[pos]).toNat < 48 ∨ 57 < (x[pos]).toNat) by simp only [digB, Bool.and_eq_true, decide_eq_true_eq] at hd; omega)] at cS
        obtain ⟨R, hR⟩ : ∃ R, (x[pos]).toNat = R := ⟨_, rfl⟩
        rw [hR] at hnx cS
        obtain ⟨W, hWd⟩ : ∃ W, wr.iterAt w.heap.size ⟨x.toArray⟩ (pos + 1) = W := ⟨_, rfl⟩
        rw [hWd] at hnx hit2 hbw2
        clear hR hd hWd hall hit hbw hz
        go_wp2_with fail
        refine (cS _).mono ?_
        rintro e W' ⟨rfl, rfl⟩
        go_wp2_with fail
        go_roundg (x.length - (pos + 1))
        case measure => omega
        case rel => exact ⟨pos + 1, hit2, hbw2, hA, Nat.le_refl _⟩
      | false =>
        have hn := rune_not x pos hps hd
        obtain ⟨R, hR⟩ : ∃ R, (Utf8.decode ⟨x.toArray⟩ pos).1 = R := ⟨_, rfl⟩
        obtain ⟨K, hK⟩ : ∃ K, (Utf8.decode ⟨x.toArray⟩ pos).2 = K := ⟨_, rfl⟩
        have hbw2 := hide (below_iterAt (unhide hbw) (k := w.heap.size) (Nat.le_refl _) ⟨x.toArray⟩ (pos + K))
        rw [hR] at hn
        rw [hR, hK] at hnx
        have cS := fun W => noDigit_any R W
        rw [decide_eq_true hn] at cS
        have hA := hide (dnot_all hps hd)
        obtain ⟨W, hWd⟩ : ∃ W, wr.iterAt w.heap.size ⟨x.toArray⟩ (pos + K) = W := ⟨_, rfl⟩
        rw [hWd] at hnx hbw2
        clear hR hd hWd hall hit hbw hz hn hK
        go_wp2_with fail
        refine (cS _).mono ?_
        rintro e W' ⟨rfl, rfl⟩
        go_wp2_with fail
        go_ret
        exact ⟨pos, rfl, by rw [unhide hA]; simp, unhide hbw2⟩
    · have hnx : ∀ ty, (Instr.next (.pointer (some ⟨w.heap.size, 0, none⟩)) true ty).run Tryd.prog wr = _ := fun ty => run_next_end_at wr w.heap.size ⟨x.toArray⟩ pos ty hit (by rw [hz]; exact hps)
      have hA : Hid (x.all digB = true) := hide (by have := unhide hall; rwa [List.take_of_length_le (by omega)] at this)
      go_wp2_with fail
      go_ret
      exact ⟨-1, rfl, by rw [unhide hA]; rfl, unhide hbw⟩

set_option maxRecDepth 10000 in
set_option maxHeartbeats 400000 in
theorem scont_any (x : List UInt8) (w : World) :
    Calls Tryd.prog 36 #[.string ⟨x.toArray⟩, .func (.func 37) #[] #[]] w fun e w' => e = .returned (.bool (!(x.all digB))) ∧ Below w.heap.size w w' := by
  have CI := hide (fun W => sidxf_any x W)
  have CX : ∀ W, Calls Tryd.prog 47 #[.string ⟨x.toArray⟩, .func (.func 37) #[] #[]] W fun e w' => ∃ n : Int, e = .returned (.int .i64 n) ∧ decide (0 ≤ n) = !(x.all digB) ∧ Below W.heap.size W w' := by
    intro W
    go_enter Tryd.func47, Tryd.ntmps47
    go_wp2_with fail
    refine (unhide CI _).mono ?_
    rintro e w1 ⟨n, rfl, hn, hb⟩
    have HN := hide hn
    clear hn
    go_wp2_with fail
    go_ret
    exact ⟨n, rfl, unhide HN, hb⟩
  clear CI
  have HC := hide CX
  clear CX
  cases hd : x.all digB
  · rw [hd] at HC
    go_enter Tryd.func36, Tryd.ntmps36
    go_wp2_with fail
    refine (unhide HC _).mono ?_
    rintro e w1 ⟨n, rfl, hn, hb⟩
    have h0 : 0 ≤ n := of_decide_eq_true hn
    clear hn
    go_wp2_with fail
    go_ret
    exact ⟨rfl, hb⟩
  · rw [hd] at HC
    go_enter Tryd.func36, Tryd.ntmps36
    go_wp2_with fail
    refine (unhide HC _).mono ?_
    rintro e w1 ⟨n, rfl, hn, hb⟩
    have h0 : n < 0 := by have := of_decide_eq_false hn; omega
    have h1 : decide (0 ≤ n) = false := hn
    clear hn
    go_wp2_with fail
    go_ret
    exact ⟨rfl, hb⟩

theorem hasPrefix_drop {x m : List UInt8} (h : Lib.hasPrefix x m = true) : x = m ++ x.drop m.length := by
  unfold Lib.hasPrefix at h
  obtain ⟨r, rfl⟩ := List.isPrefixOf_iff_prefix.1 h
  simp
set_option maxRecDepth 10000 in
set_option maxHeartbeats 1000000 in
theorem nmb_any (x m : List UInt8) (w : World) :
    Calls Tryd.prog 24 #[.string ⟨x.toArray⟩, .string ⟨m.toArray⟩] w fun e w' => e = .returned (.bool (nmbB m x)) ∧ Below w.heap.size w w' := by
  have CP := hide (fun W => Tryd.strings_CutPrefix ⟨x.toArray⟩ ⟨m.toArray⟩ W)
  rw [show (ByteArray.mk x.toArray).data.toList = x from rfl, show (ByteArray.mk m.toArray).data.toList = m from rfl] at CP
  cases hp : Lib.hasPrefix x m with
  | false =>
    have HN : Hid (nmbB m x = false) := hide (by rw [nmbB, hp]; rfl)
    rw [hp] at CP
    generalize Lib.trimPrefix x m = T at CP
    clear hp
    go_enter Tryd.func24, Tryd.ntmps24
    go_wp2_with fail
    refine (unhide CP _).mono ?_
    rintro e w1 ⟨rfl, rfl⟩
    go_wp2_with fail
    go_ret
    exact ⟨by rw [unhide HN]; rfl, Below.refl _ _⟩
  | true =>
    have e1 := hasPrefix_drop hp
    have hT : Lib.trimPrefix x m = x.drop m.length := by unfold Lib.trimPrefix; rw [if_pos hp]
    obtain ⟨T, hTd⟩ : ∃ T, x.drop m.length = T := ⟨_, rfl⟩
    rw [hp, hT, hTd] at CP
    have hxl : x.length = m.length + T.length := by rw [hTd] at e1; rw [e1]; simp
    have hNB : nmbB m x = (decide (T.length = 10) && T.all digB) := by
      rw [nmbB, hp, hTd, Bool.true_and, hxl]
      congr 1
      simp only [decide_eq_decide]
      omega
    have hzT : (ByteArray.mk T.toArray).size = T.length := Lib.size_eq ⟨T.toArray⟩
    have HN := hide hNB
    have CC := hide (fun W => scont_any T W)
    clear hNB hp e1 hT hTd hxl
    by_cases h10 : T.length = 10
    · rw [decide_eq_true h10, Bool.true_and] at HN
      cases hd : T.all digB
      · rw [hd] at CC HN
        go_enter Tryd.func24, Tryd.ntmps24
        go_wp2_with fail
        refine (unhide CP _).mono ?_
        rintro e w1 ⟨rfl, rfl⟩
        go_wp2_with fail
        refine (unhide CC _).mono ?_
        rintro e w2 ⟨rfl, hb2⟩
        go_wp2_with fail
        go_ret
        exact ⟨by rw [unhide HN]; rfl, hb2⟩
      · rw [hd] at CC HN
        go_enter Tryd.func24, Tryd.ntmps24
        go_wp2_with fail
        refine (unhide CP _).mono ?_
        rintro e w1 ⟨rfl, rfl⟩
        go_wp2_with fail
        refine (unhide CC _).mono ?_
        rintro e w2 ⟨rfl, hb2⟩
        go_wp2_with fail
        go_ret
        exact ⟨by rw [unhide HN]; rfl, hb2⟩
    · rw [decide_eq_false h10, Bool.false_and] at HN
      have h10i : ((T.length : Int) == 10) = false := by simp; omega
      go_enter Tryd.func24, Tryd.ntmps24
      go_wp2_with fail
      refine (unhide CP _).mono ?_
      rintro e w1 ⟨rfl, rfl⟩
      go_wp2_with fail
      go_ret
      exact ⟨by rw [unhide HN]; rfl, Below.refl _ _⟩
end Go.Proofs.YtmebfelofjgjhaaDoor

namespace Go.Proofs.YtmebfelofjgjhaaDoor
open Go.RowKit
theorem snoc_take {α : Type} {xs : List α} {k : Nat} {x : α} (h : xs[k]? = some x) : xs.take (k + 1) = xs.take k ++ [x] := by rw [List.take_add_one, h]; rfl
theorem grownO {w w' : World} {r : Option Nat} (h : w.grownBy w' r) (B : Nat) (hB : B ≤ w.heap.size) (hr : ∀ k, r = some k → B ≤ k) : Below B w w' := (Below.refl _ _).grown h hB hr
theorem hgrown_of {w w' : World} {r : Option Nat} (h : Below w.heap.size w w') : w.grownBy w' r := ⟨h.os, h.tape, h.output, h.size, fun k hk _ => h.block k hk⟩
theorem OwnR.head {α : Type} [Lay α] {W : World} {g cap : Nat} {A B : List α} (h : OwnR W g cap (A ++ B)) : OwnR W g cap A := by
  obtain ⟨rest, h1, h2, h4, h3⟩ := h
  refine ⟨cellsL B ++ rest, by rw [h1, cellsL_append, List.append_assoc], ?_, ?_, h3⟩
  · rw [List.length_append, cellsL_length B]
    rw [List.length_append, Nat.add_mul] at h2
    omega
  · rw [List.length_append] at h4; omega
end Go.Proofs.YtmebfelofjgjhaaDoor

namespace Go.Proofs.YtmebfelofjgjhaaDoor
open Go.RowKit

def zerosS (m : Nat) : List Value := (Builtin.zeroCells (Value.string ⟨#[]⟩).cells m).toList
theorem zerosS_length (m : Nat) : (zerosS m).length = m := by
  rw [zerosS, Array.length_toList, size_zeroCells]; show m * 1 = m; omega
theorem zerosS_one (m : Nat) : ∀ u ∈ zerosS m, u.oneCell' = true := by
  intro u hu
  simp only [zerosS, Builtin.zeroCells, Value.cells, Array.toList_map, List.mem_map] at hu
  obtain ⟨i, _, rfl⟩ := hu
  have : i % 1 = 0 := Nat.mod_one i
  show (#[Value.string ⟨#[]⟩][i % 1]!).oneCell' = true
  rw [this]; rfl
theorem run_clearS (w : World) (ty : TypeId) (b o m c : Nat) (hm : 0 < m) (hc : ∀ j, j < m → (w.cell? ⟨b, o + j, none⟩).isSome = true) (hf : ∀ j, j < m → w.frozen? ⟨b, o + j, none⟩ = false) :
    (Builtin.clear_ #[28] ty #[.slice (some ⟨b, o, none⟩) m c]).run Tryd.prog w = .ok (.tuple #[]) (w.setCells b o (zerosS m)) := by
  have hst := run_storeCells_cells (P := Tryd.prog) b o (zerosS m) 0 w (by rw [zerosS_length]; simpa using hc) (by rw [zerosS_length]; simpa using hf) (zerosS_one m)
  simp only [Nat.add_zero] at hst
  obtain ⟨k, rfl⟩ : ∃ k, m = k + 1 := ⟨m - 1, by omega⟩
  simp [Builtin.clear_, run_underlying Tryd.underlying28]
  exact (by
    have := hst
    unfold zerosS at this ⊢
    rw [this]
    rfl)

/-- a closure over block B that answers pr in every world of I -/
structure ClosS (g : FuncId) (B : Nat) (q : Nat) (pr : List UInt8 → Bool) (I : World → Prop) : Prop where
  two : g = 23
  keep : ∀ W V, I W → W.grownBy V (some q) → I V
  gives : ∀ W x, I W → Calls Tryd.prog g #[.string ⟨x.toArray⟩, .pointer (some ⟨B, 0, none⟩)] W fun r w' => r = .returned (.bool (pr x)) ∧ Below W.heap.size W w'

set_option maxRecDepth 10000 in
set_option maxHeartbeats 2000000 in
theorem sidx_at {g : FuncId} {B q : Nat} {pr : List UInt8 → Bool} {I : World → Prop} (C : ClosS g B q pr I) (b off cap : Nat) (A : List (List UInt8)) (x : List UInt8) (R : List (List UInt8)) (w : World) (hi : I w) (hb : b < w.heap.size) (hr : RowAt w b off (cellsL (A ++ x :: R))) (hl : (A ++ x :: R).length ≤ 140737488355328)
    (hA : ∀ a ∈ A, pr a = false) (hx : pr x = true) :
    Calls Tryd.prog 34 #[.slice (some ⟨b, off, none⟩) (A ++ x :: R).length cap, .func (.func g) #[] #[.pointer (some ⟨B, 0, none⟩)]] w fun e w' => e = .returned (.int .i64 A.length) ∧ Below w.heap.size w w' := by
  have HR := hide (fun W (hW : Below w.heap.size w W) => hr.kept hW hb)
  have HC := hide C
  have HI := hide (fun W (hW : Below w.heap.size w W) => C.keep w W hi (hgrown_of hW))
  have HX := hide hx
  have HA := hide hA
  have hAn : A.length < (A ++ x :: R).length := by simp
  obtain ⟨n, hn⟩ : ∃ n, (A ++ x :: R).length = n := ⟨_, rfl⟩
  rw [hn] at hl hAn ⊢
  have HN := hide hn
  have two := C.two
  clear hr C hi hx hA hn
  subst two
  all_goals
    go_enter Tryd.func34, Tryd.ntmps34
    go_wp2_with fail
    go_loopg [8] n (fun kx s8 wr => ∃ k : Nat, s8 = .int .i64 k ∧ k ≤ A.length ∧ n - k ≤ kx ∧ Hid (Below w.heap.size w wr))
    case atStart => exact ⟨0, rfl, Nat.zero_le _, Nat.le_refl _, hide (Below.refl _ _)⟩
    case round =>
      obtain ⟨k, rfl, hk, hg, hB⟩ := hrel
      have hlt : k < n := by omega
      obtain ⟨y, hy⟩ : ∃ y, (A ++ x :: R)[k]? = some y := ⟨_, List.getElem?_eq_getElem (by rw [unhide HN]; exact hlt)⟩
      have qr := unhide HR wr (unhide hB)
      have d0 := qr.s0 hy
      have hbw : b < wr.heap.size := Nat.lt_of_lt_of_le hb (unhide hB).size
      have CX := (unhide HC).gives wr y (unhide HI wr (unhide hB))
      by_cases hka : k < A.length
      · have hp : pr y = false := unhide HA y (by
          rw [List.getElem?_append_left hka] at hy
          exact List.mem_of_getElem? hy)
        rw [hp] at CX
        clear qr hy hp
        go_wp2_with fail
        refine CX.mono ?_
        rintro e w1 ⟨rfl, hb1⟩
        have hB1 := nnext (unhide hB) hb1
        clear CX hb1
        go_wp2_with fail
        go_roundg (n - (k + 1))
        case measure => omega
        case rel => exact ⟨k + 1, rfl, by omega, Nat.le_refl _, hide hB1⟩
      · obtain rfl : k = A.length := by omega
        have hp : pr y = true := by
          have : (A ++ x :: R)[A.length]? = some x := by simp
          rw [this] at hy
          cases hy
          exact unhide HX
        rw [hp] at CX
        clear qr hy hp
        go_wp2_with fail
        refine CX.mono ?_
        rintro e w1 ⟨rfl, hb1⟩
        have hB1 := nnext (unhide hB) hb1
        clear CX hb1
        go_wp2_with fail
        go_ret
        exact ⟨rfl, hB1⟩

set_option maxRecDepth 10000 in
set_option maxHeartbeats 2000000 in
theorem sidx_none {g : FuncId} {B q : Nat} {pr : List UInt8 → Bool} {I : World → Prop} (C : ClosS g B q pr I) (v : Value) (A : List (List UInt8)) (w : World) (hi : I w) (hv : SeqV w v A) (hl : A.length ≤ 140737488355328) (hA : ∀ a ∈ A, pr a = false) :
    Calls Tryd.prog 34 #[v, .func (.func g) #[] #[.pointer (some ⟨B, 0, none⟩)]] w fun e w' => e = .returned (.int .i64 (-1)) ∧ Below w.heap.size w w' := by
  have KR : ∀ W, Below w.heap.size w W → ∀ k x, A[k]? = some x → ∃ b off cap, v = .slice (some ⟨b, off, none⟩) A.length cap ∧ b < w.heap.size ∧ RowAt W b off (cellsL A) := fun W hW k x hx => by
    obtain ⟨b, off, cap, e, hb, hr, _, _⟩ := seq_row hv (fun h0 => by obtain ⟨h1, _⟩ := List.getElem?_eq_some_iff.1 hx; rw [h0] at h1; simp at h1)
    exact ⟨b, off, cap, e, hb, hr.kept hW hb⟩
  have HKR := hide KR
  have HC := hide C
  have HI := hide (fun W (hW : Below w.heap.size w W) => C.keep w W hi (hgrown_of hW))
  have HA := hide hA
  have two := C.two
  obtain ⟨va, vc, rfl⟩ := seq_slice hv
  clear C hi hA KR hv
  subst two
  all_goals
    go_enter Tryd.func34, Tryd.ntmps34
    go_wp2_with fail
    go_loopg [8] A.length (fun kx s8 wr => ∃ k : Nat, s8 = .int .i64 k ∧ k ≤ A.length ∧ A.length - k ≤ kx ∧ Hid (Below w.heap.size w wr))
    case atStart => exact ⟨0, rfl, Nat.zero_le _, Nat.le_refl _, hide (Below.refl _ _)⟩
    case round =>
      obtain ⟨k, rfl, hk, hg, hB⟩ := hrel
      by_cases hlt : k < A.length
      · obtain ⟨y, hy⟩ : ∃ y, A[k]? = some y := ⟨_, List.getElem?_eq_getElem hlt⟩
        obtain ⟨b, off, cap, he, hb, qr⟩ := unhide HKR wr (unhide hB) k y hy
        simp only [Value.slice.injEq] at he
        obtain ⟨rfl, _, rfl⟩ := he
        have d0 := qr.s0 hy
        have hbw : b < wr.heap.size := Nat.lt_of_lt_of_le hb (unhide hB).size
        have CX := (unhide HC).gives wr y (unhide HI wr (unhide hB))
        have hp : pr y = false := unhide HA y (List.mem_of_getElem? hy)
        rw [hp] at CX
        clear qr hy hp
        go_wp2_with fail
        refine CX.mono ?_
        rintro e w1 ⟨rfl, hb1⟩
        have hB1 := nnext (unhide hB) hb1
        clear CX hb1
        go_wp2_with fail
        go_roundg (A.length - (k + 1))
        case measure => omega
        case rel => exact ⟨k + 1, rfl, by omega, Nat.le_refl _, hide hB1⟩
      · obtain rfl : k = A.length := by omega
        go_wp2_with fail
        go_ret
        exact ⟨rfl, unhide hB⟩

end Go.Proofs.YtmebfelofjgjhaaDoor

namespace Go.Proofs.YtmebfelofjgjhaaDoor
open Go.RowKit

theorem sfirst_at (pr : List UInt8 → Bool) : ∀ ws : List (List UInt8), (∀ a ∈ ws, pr a = false) ∨ ∃ A x R, ws = A ++ x :: R ∧ (∀ a ∈ A, pr a = false) ∧ pr x = true
  | [] => .inl (by simp)
  | y :: r => by
    cases h : pr y
    · rcases sfirst_at pr r with h1 | ⟨A, x, R, rfl, h1, h2⟩
      · exact .inl (by intro a ha; rcases List.mem_cons.1 ha with rfl | ha; exact h; exact h1 a ha)
      · exact .inr ⟨y :: A, x, R, rfl, (by intro a ha; rcases List.mem_cons.1 ha with rfl | ha; exact h; exact h1 a ha), h2⟩
    · exact .inr ⟨[], y, r, rfl, by simp, h⟩
theorem sfilt_none {pr : List UInt8 → Bool} {ws : List (List UInt8)} (h : ∀ a ∈ ws, pr a = false) : ws.filter (fun x => !pr x) = ws := by
  rw [List.filter_eq_self]
  intro a ha
  simp [h a ha]

set_option maxRecDepth 10000 in
set_option maxHeartbeats 4000000 in
theorem sdel_any {g : FuncId} {B q : Nat} {pr : List UInt8 → Bool} {I : World → Prop} (C : ClosS g B q pr I) (cap : Nat) (ws : List (List UInt8)) (w : World) (hi : I w) (ho : OwnR w q cap ws) (hl : ws.length ≤ 140737488355328) :
    Calls Tryd.prog 22 #[.slice (some ⟨q, 0, none⟩) ws.length cap, .func (.func g) #[] #[.pointer (some ⟨B, 0, none⟩)]] w fun e w' =>
      e = .returned (.slice (some ⟨q, 0, none⟩) (ws.filter (fun x => !pr x)).length cap) ∧ OwnR w' q cap (ws.filter (fun x => !pr x)) ∧ w.grownBy w' (some q) := by
  rcases sfirst_at pr ws with hA | ⟨A, x, R, hws, hA, hx⟩
  · rw [sfilt_none hA]
    have CN := sidx_none C _ ws w hi (OwnS.seq (.inr ⟨q, cap, rfl, Nat.zero_le _, ho⟩)) hl hA
    have HO := hide ho
    have two := C.two
    clear C hA hi ho
    subst two
    all_goals
      go_enter Tryd.func22, Tryd.ntmps22
      go_wp2_with fail
      refine CN.mono ?_
      rintro e w1 ⟨rfl, hb1⟩
      have HB := hide hb1
      clear CN hb1
      go_wp2_with fail
      go_ret
      exact ⟨rfl, (unhide HO).next (unhide HB), hgrown_of (unhide HB)⟩
  · obtain ⟨n, hn⟩ : ∃ n, ws.length = n := ⟨_, rfl⟩
    have hAn : A.length < n := by rw [← hn, hws]; simp
    have hnc : n ≤ cap := by rw [← hn]; exact ho.le
    have hcl := ho.capLe
    simp only [maxLen] at hcl
    have CA := sidx_at C q 0 cap A x R w hi ho.lt (by rw [← hws]; exact ho.row) (by rw [← hws]; exact hl) hA hx
    rw [← hws, hn] at CA
    obtain ⟨T, hT⟩ : ∃ T, ws.filter (fun x => !pr x) = T := ⟨_, rfl⟩
    rw [hn] at hl ⊢
    rw [hT]
    have HTk : Hid (∀ j, n ≤ j → (ws.take j).filter (fun x => !pr x) = T) := hide (fun j hj => by rw [List.take_of_length_le (by omega)]; exact hT)
    have HF0 : Hid ((ws.take (A.length + 1)).filter (fun x => !pr x) = A) := hide (by
      rw [hws, List.take_append, List.take_of_length_le (by omega), List.filter_append, sfilt_none hA]
      simp [hx])
    have HG0 : Hid (ws = A ++ [x] ++ ws.drop (A.length + 1)) := hide (by
      rw [hws]; simp)
    have HN := hide hn
    have HO := hide ho
    have HC := hide C
    have HI := hide (fun W (hW : w.grownBy W (some q)) => C.keep w W hi hW)
    have two := C.two
    clear hn hws hA hx ho C hT hi
    subst two
    all_goals
      go_enter Tryd.func22, Tryd.ntmps22
      go_wp2_with fail
      refine CA.mono ?_
      rintro e w1 ⟨rfl, hb1⟩
      have HB := hide hb1
      clear CA hb1
      go_wp2_with fail
      go_loopg [5, 6] n (fun kx s5 s6 wr => ∃ (j : Nat) (F G : List (List UInt8)), s5 = .int .i64 F.length ∧ s6 = .int .i64 j ∧ j ≤ n ∧ n - j ≤ kx ∧ F.length + G.length = j ∧ 0 < G.length ∧ Hid ((ws.take j).filter (fun x => !pr x) = F) ∧ Hid (OwnR wr q cap (F ++ G ++ ws.drop j)) ∧ Hid (w.grownBy wr (some q)))
      case atStart => exact ⟨A.length + 1, A, [x], rfl, rfl, by omega, by omega, rfl, by simp, HF0, hide (by rw [← unhide HG0]; exact (unhide HO).next (unhide HB)), hide (hgrown_of (unhide HB))⟩
      case round =>
        obtain ⟨j, F, G, rfl, rfl, hj, hg, hFG, hG0, hF, hO, hW⟩ := hrel
        have hFj : F.length < j := by omega
        by_cases hlt : j < n
        · obtain ⟨y, hy⟩ : ∃ y, ws[j]? = some y := ⟨_, List.getElem?_eq_getElem (by rw [unhide HN]; exact hlt)⟩
          have hd : ws.drop j = y :: ws.drop (j + 1) := by
            obtain ⟨h1, h2⟩ := List.getElem?_eq_some_iff.1 hy
            rw [List.drop_eq_getElem_cons h1, h2]
          have hf : (ws.take (j + 1)).filter (fun x => !pr x) = F ++ (if pr y = true then [] else [y]) := by
            rw [snoc_take hy, List.filter_append, unhide hF]
            cases hpy : pr y <;> simp [hpy]
          rw [hd] at hO
          have hyr : (F ++ G ++ y :: ws.drop (j + 1))[j]? = some y := by
            rw [List.getElem?_append_right (by simp; omega)]
            simp [hFG]
          obtain ⟨z, G', rfl⟩ : ∃ z G', G = z :: G' := by
            cases G with
            | nil => simp at hG0
            | cons z G' => exact ⟨z, G', rfl⟩
          have hzr : (F ++ z :: G' ++ y :: ws.drop (j + 1))[F.length]? = some z := by simp
          have d0 := (unhide hO).row.s0 hyr
          have hq := (unhide hO).lt
          have hqn : q ≠ wr.heap.size := by omega
          simp only [Nat.zero_add] at d0
          have CX := (unhide HC).gives _ y (unhide HI _ (unhide hW))
          have hjn : (j : Int) < (n : Int) := by omega
          by_cases hp : pr y = true
          · rw [hp] at CX hf
            rw [if_pos rfl, List.append_nil] at hf
            have HF := hide hf
            clear hy hd hf hyr hp hzr
            go_wp2_with fail
            refine CX.mono ?_
            rintro e w2 ⟨rfl, hb2⟩
            have HO2 : Hid (OwnR w2 q cap (F ++ (z :: G' ++ [y]) ++ ws.drop (j + 1))) := hide (by
              have := (unhide hO).next hb2
              simpa using this)
            have HW2 := hide (ngrown_trans (unhide hW) (hgrown_of hb2))
            clear CX hb2
            go_wp2_with fail
            go_roundg (n - (j + 1))
            case measure => omega
            case rel => exact ⟨j + 1, F, z :: G' ++ [y], rfl, rfl, by omega, Nat.le_refl _, by simp at hFG ⊢; omega, by simp, HF, HO2, HW2⟩
          · have hp' : pr y = false := by simpa using hp
            rw [hp'] at CX
            rw [if_neg hp] at hf
            have HF := hide hf
            clear hy hd hf hyr hp hp'
            have hFn : (F.length : Int) < (n : Int) := by omega
            go_wp2_with fail
            refine CX.mono ?_
            rintro e w2 ⟨rfl, hb2⟩
            have O2 := (unhide hO).next hb2
            have e0 := O2.row.s0 hzr
            simp only [Nat.zero_add] at e0
            have f0 := O2.frozen (F.length)
            have HO3 : Hid (OwnR (w2.setCell ⟨q, F.length, none⟩ (.string ⟨y.toArray⟩)) q cap ((F ++ [y]) ++ (G' ++ [y]) ++ ws.drop (j + 1))) := hide (by
              have O2' : OwnR w2 q cap (F ++ z :: (G' ++ y :: ws.drop (j + 1))) := by simpa using O2
              have := O2'.swap1 y
              rw [show F.length * Lay.k (List UInt8) = F.length from Nat.mul_one _] at this
              have e : F ++ [y] ++ (G' ++ [y]) ++ ws.drop (j + 1) = F ++ y :: (G' ++ y :: ws.drop (j + 1)) := by simp
              rw [e]
              exact this)
            have HW3 : Hid (w.grownBy (w2.setCell ⟨q, F.length, none⟩ (.string ⟨y.toArray⟩)) (some q)) :=
              hide (ngrown_trans (ngrown_trans (unhide hW) (hgrown_of hb2)) (ngrown_set _))
            clear CX hb2 O2 hzr
            go_wp2_with fail
            go_roundg (n - (j + 1))
            case measure => omega
            case rel => exact ⟨j + 1, F ++ [y], G' ++ [y], by rw [List.length_append]; rfl, rfl, by omega, Nat.le_refl _, by simp at hFG ⊢; omega, by simp, HF, HO3, HW3⟩
        · obtain rfl : j = n := by omega
          have hTF : T = F := ((unhide HTk j (Nat.le_refl _)).symm.trans (unhide hF))
          have OF : OwnR wr q cap F := OwnR.head (B := G ++ ws.drop j) (by have := unhide hO; rwa [List.append_assoc] at this)
          have hclr : ∀ ty c, (Builtin.clear_ #[28] ty #[.slice (some ⟨q, F.length, none⟩) (j - F.length) c]).run Tryd.prog wr = .ok (.tuple #[]) (wr.setCells q (F.length) (zerosS (j - F.length))) := fun ty c =>
            run_clearS wr ty q _ _ c (by omega) (fun i hi => OF.some (show F.length + i < cap * 1 by omega)) (fun i hi => OF.frozen _)
          have FIN : Hid (OwnR (wr.setCells q (F.length) (zerosS (j - F.length))) q cap F ∧ w.grownBy (wr.setCells q (F.length) (zerosS (j - F.length))) (some q)) :=
            hide ⟨OF.spare _ _ (show F.length * 1 ≤ F.length by omega) (by rw [zerosS_length]; show _ ≤ cap * 1; omega), ngrown_trans (unhide hW) (ngrown_setCells _ _ _)⟩
          have hcn : ¬ (cap = F.length) := by omega
          have hFc : F.length ≤ cap := by omega
          have hFn : F.length ≤ j := by omega
          have hjj : ¬ ((j : Int) < (j : Int)) := by omega
          clear OF hO hW hF HTk HF0 HG0
          subst hTF
          go_wp2_with fail
          go_ret
          exact ⟨rfl, (unhide FIN).1, (unhide FIN).2⟩

end Go.Proofs.YtmebfelofjgjhaaDoor
