/-
  What slices.Clone of numbers and tree.begun do: the walks.
  What growth's open, owned and close do: the walks.
  Copies of a tree (aviarykeep.own, aviaryref.CopyTree), tree.New and tree.Get: the walks.
  tree.Get and tree.Kids: the walks.
  A tree as an argument: opened into its nodes and sessions; what its weights say of their lengths.
-/
import Derived.Test.YtmifdieofccjaaaDoorME
import Derived.Deep.CutRange
import Derived.Test.YtmifdieofccjaaaDoorMD
import Derived.Test.YtmifdieofccjaaaDoorMB
import Derived.ProofKit
import Derived.OpenShut
import Derived.SizedLaws
import Derived.Deep.Slices
import Derived.Carry
namespace Go.Proofs.YtmifdieofccjaaaDoor
open Go.RowKit
theorem step_app_nd {w : World} {ops : Array Oper} {o : Oper} {a : Act} {K : Act → World → Prop} {Q : Exit → Act → World → Prop} {E : Prop} (hgd : Region.wanted o (yielded ops a.tmps) = true) (s x : Operand)
    (ho : o.op = .call { callee := .builtin .append, args := #[s, x], argTypes := #[22, 22] })
    (v : Value) (ns : List Nd) (hs : a.eval s = v) (hown : OwnS w 0 v ns)
    (q : Nat) (hx : a.eval x = .slice (some ⟨q, 0, none⟩) 1 1) (t : Nd) (hnews : OneR w q t) (hl : ns.length ≤ 100000)
    (h : ∀ a' c' w', OwnS w' 0 (.slice a' (ns.length + 1) c') (ns ++ [t]) → w.grownBy w' v.ownBlock → ((Value.slice a' (ns.length + 1) c').ownBlock = v.ownBlock ∨ (Value.slice a' (ns.length + 1) c').ownBlock = some w.heap.size) → K (a.put o.dst (.slice a' (ns.length + 1) c')) w') :
    if Region.wanted o (yielded ops a.tmps) = true then Oper.wp Tryd.prog o a w K Q else E := by
  rw [if_pos hgd]
  obtain ⟨i0, hi0, hz0, hz1, hz2⟩ := ninfo
  obtain ⟨v', w', hr, h2, h3, _, h5⟩ := run_append_own_at (P := Tryd.prog) w 0 22 o.type 47 i0 _ 9 88 Tryd.underlying22 hi0 hz0 hz1 hz2 rfl (by decide) v ns.length (cellsL ns) hown.row ⟨q, 0, none⟩ 1 1 (ncells t) rfl (one_news hnews) (Lay.one t) (by simp only [maxLen]; omega) (by omega) (Nat.zero_le _)
  have h2' : OwnS w' 0 v' (ns ++ [t]) := OwnS.of_row (by rw [List.length_append, cellsL_snoc]; exact h2)
  obtain ⟨a', c', rfl, _⟩ := h2'.slice
  have hlen : (ns ++ [t]).length = ns.length + 1 := by simp
  rw [hlen] at h2' hr h5
  unfold Oper.wp execOp
  simp only [ho, resolve, invoke, builtin, Sem.run_bind, Sem.run_pure, Result.andThen_ok, List.map_toArray, List.map_cons, List.map_nil, hs, hx, hr]
  exact h a' c' w' h2' h3 h5
theorem one_newN (w : World) (n : Nd) : OneR (w.alloc (.cells #[.string ⟨n.p.toArray⟩, .string ⟨n.d.toArray⟩, .int .i64 n.c, .int .i64 n.m, .int .i64 n.q, .int .i64 n.v, .int .i64 n.k, .int .i64 n.o, .int .i64 n.n] 47)) w.heap.size n := heap_alloc_new w _

end Go.Proofs.YtmifdieofccjaaaDoor

namespace Go.Proofs.YtmifdieofccjaaaDoor
open Go.RowKit

theorem one_newI (w : World) (x : Int) : OneR (w.alloc (.cells #[.int .i64 x] 3)) w.heap.size x := heap_alloc_new w _
theorem one_newS (w : World) (x : List UInt8) : OneR (w.alloc (.cells #[.string ⟨x.toArray⟩] 9)) w.heap.size x := heap_alloc_new w _

/- owned -/
theorem sinfo0 : (Tryd.prog.info? 9).map (fun i => (i.zero, i.size, i.bytes)) = some (some (.string ⟨#[]⟩), 1, 16) := by kernel_rfl
theorem sinfo : ∃ i0, Tryd.prog.info? 9 = some i0 ∧ i0.zero = some (.string ⟨#[]⟩) ∧ i0.size = 1 ∧ i0.bytes = 16 := by
  obtain ⟨i0, h, e⟩ := Option.map_eq_some_iff.1 sinfo0
  simp only [Prod.mk.injEq] at e
  exact ⟨i0, h, e⟩
theorem owned_take {ns : List Nd} {k : Nat} {x : Nd} (hx : ns[k]? = some x) (s : Int) : ownedP (ns.take (k + 1)) s = ownedP (ns.take k) s ++ (if x.o = s then [x.p] else []) := by
  rw [List.take_add_one, hx]
  simp only [ownedP, Option.toList_some, List.filter_append, List.map_append, List.filter_cons, List.filter_nil, decide_eq_true_eq]
  split <;> simp
theorem owned_len (ns : List Nd) (s : Int) : (ownedP ns s).length ≤ ns.length := by
  rw [ownedP, List.length_map]
  exact List.length_filter_le _ _
end Go.Proofs.YtmifdieofccjaaaDoor

namespace Go.Proofs.YtmifdieofccjaaaDoor
open Go.RowKit

/- append(nil, l...) -/
theorem run_copyN (W : World) (ty : TypeId) (v : Value) (xs : List Nd) (hv : SeqV W v xs) (hl : xs.length * 88 ≤ 140737488355328) :
    ∃ v' w', (Builtin.append_ #[22, 22] ty #[.slice none 0 0, v]).run Tryd.prog W = .ok v' w' ∧ OwnS w' W.heap.size v' xs ∧ W.grownBy w' none := by
  obtain ⟨i0, hi0, hz0, hz1, hz2⟩ := ninfo
  have main : ∀ (a : Addr) (cap : Nat), v = .slice (some a) xs.length cap → (∀ j u, (cellsL xs)[j]? = some u → W.cell? (a.add j) = some u) →
      ∃ v' w', (Builtin.append_ #[22, 22] ty #[.slice none 0 0, v]).run Tryd.prog W = .ok v' w' ∧ OwnS w' W.heap.size v' xs ∧ W.grownBy w' none := by
    intro a cap e hc
    subst e
    obtain ⟨v', w', h1, h2, h3, _⟩ := run_append_own (P := Tryd.prog) W W.heap.size 22 ty 47 i0 _ 9 88 Tryd.underlying22 hi0 hz0 hz1 hz2 rfl (by decide) (.slice none 0 0) 0 [] (World.ownsRow_nil _ _ _ _) a xs.length cap (cellsL xs) (cellsL_length xs) hc (cellsL_one xs)
      (by simp only [maxLen]; omega) (by omega) (Nat.le_refl _)
    refine ⟨v', w', h1, OwnS.of_row (by simp only [List.nil_append, Nat.zero_add] at h2; exact h2), h3⟩
  rcases hv with ⟨a, cap, rfl, rfl, _⟩ | ⟨b, off, cap, rfl, _, _, _, _, hr⟩
  · cases a with
    | none =>
      refine ⟨.slice none 0 0, W, ?_, .inl ⟨rfl, rfl⟩, ⟨rfl, rfl, rfl, Nat.le_refl _, fun _ _ _ => rfl⟩⟩
      simp [Builtin.append_, run_underlying Tryd.underlying22, sizeOf, typeInfo, hi0, Builtin.lenOf, Builtin.firstCells]
    | some a => exact main a cap rfl (fun j u h => by simp [cellsL] at h)
  · exact main ⟨b, off, none⟩ cap rfl (fun j u h => by rw [Addr.add_lit]; exact hr j u h)
theorem wpList_copyN {w : World} {ops : Array Oper} {rest : List Oper} {o : Oper} {a : Act} {Q : Exit → Act → World → Prop} (hgd : Region.wanted o (yielded ops a.tmps) = true) (s x : Operand)
    (ho : o.op = .call { callee := .builtin .append, args := #[s, x], argTypes := #[22, 22] })
    (hs : a.eval s = .slice none 0 0) (v : Value) (hx : a.eval x = v) (xs : List Nd) (hv : SeqV w v xs) (hl : xs.length * 88 ≤ 140737488355328)
    (h : ∀ v' w', OwnS w' w.heap.size v' xs → w.grownBy w' none → wpList Tryd.prog ops Q rest (a.put o.dst v') w') : wpList Tryd.prog ops Q (o :: rest) a w := by
  obtain ⟨v', w', hr, h2, h3⟩ := run_copyN w o.type v xs hv hl
  refine wpList_step fun K hK => ?_
  rw [if_pos hgd]
  unfold Oper.wp execOp
  simp only [ho, resolve, invoke, builtin, Sem.run_bind, Sem.run_pure, Result.andThen_ok, List.map_toArray, List.map_cons, List.map_nil, hs, hx, hr]
  exact hK _ _ (h v' w' h2 h3)
theorem step_copyN {w : World} {ops : Array Oper} {o : Oper} {a : Act} {K : Act → World → Prop} {Q : Exit → Act → World → Prop} {E : Prop} (hgd : Region.wanted o (yielded ops a.tmps) = true) (s x : Operand)
    (ho : o.op = .call { callee := .builtin .append, args := #[s, x], argTypes := #[22, 22] })
    (hs : a.eval s = .slice none 0 0) (v : Value) (hx : a.eval x = v) (xs : List Nd) (hv : SeqV w v xs) (hl : xs.length * 88 ≤ 140737488355328)
    (h : ∀ a' c' w', OwnS w' w.heap.size (.slice a' xs.length c') xs → w.grownBy w' none → K (a.put o.dst (.slice a' xs.length c')) w') :
    if Region.wanted o (yielded ops a.tmps) = true then Oper.wp Tryd.prog o a w K Q else E := by
  rw [if_pos hgd]
  obtain ⟨v', w', hr, h2, h3⟩ := run_copyN w o.type v xs hv hl
  obtain ⟨a', c', rfl, _⟩ := h2.slice
  unfold Oper.wp execOp
  simp only [ho, resolve, invoke, builtin, Sem.run_bind, Sem.run_pure, Result.andThen_ok, List.map_toArray, List.map_cons, List.map_nil, hs, hx, hr]
  exact h a' c' w' h2 h3
theorem run_copyI (W : World) (ty : TypeId) (v : Value) (xs : List Int) (hv : SeqV W v xs) (hl : xs.length * 8 ≤ 140737488355328) :
    ∃ v' w', (Builtin.append_ #[23, 23] ty #[.slice none 0 0, v]).run Tryd.prog W = .ok v' w' ∧ OwnS w' W.heap.size v' xs ∧ W.grownBy w' none := by
  obtain ⟨i0, hi0, hz0, hz1, hz2⟩ := iinfo
  have main : ∀ (a : Addr) (cap : Nat), v = .slice (some a) xs.length cap → (∀ j u, (cellsL xs)[j]? = some u → W.cell? (a.add j) = some u) →
      ∃ v' w', (Builtin.append_ #[23, 23] ty #[.slice none 0 0, v]).run Tryd.prog W = .ok v' w' ∧ OwnS w' W.heap.size v' xs ∧ W.grownBy w' none := by
    intro a cap e hc
    subst e
    obtain ⟨v', w', h1, h2, h3, _⟩ := run_append_own (P := Tryd.prog) W W.heap.size 23 ty 3 i0 _ 1 8 Tryd.underlying23 hi0 hz0 hz1 hz2 rfl (by decide) (.slice none 0 0) 0 [] (World.ownsRow_nil _ _ _ _) a xs.length cap (cellsL xs) (cellsL_length xs) hc (cellsL_one xs)
      (by simp only [maxLen]; omega) (by omega) (Nat.le_refl _)
    refine ⟨v', w', h1, OwnS.of_row (by simp only [List.nil_append, Nat.zero_add] at h2; exact h2), h3⟩
  rcases hv with ⟨a, cap, rfl, rfl, _⟩ | ⟨b, off, cap, rfl, _, _, _, _, hr⟩
  · cases a with
    | none =>
      refine ⟨.slice none 0 0, W, ?_, .inl ⟨rfl, rfl⟩, ⟨rfl, rfl, rfl, Nat.le_refl _, fun _ _ _ => rfl⟩⟩
      simp [Builtin.append_, run_underlying Tryd.underlying23, sizeOf, typeInfo, hi0, Builtin.lenOf, Builtin.firstCells]
    | some a => exact main a cap rfl (fun j u h => by simp [cellsL] at h)
  · exact main ⟨b, off, none⟩ cap rfl (fun j u h => by rw [Addr.add_lit]; exact hr j u h)
theorem wpList_copyI {w : World} {ops : Array Oper} {rest : List Oper} {o : Oper} {a : Act} {Q : Exit → Act → World → Prop} (hgd : Region.wanted o (yielded ops a.tmps) = true) (s x : Operand)
    (ho : o.op = .call { callee := .builtin .append, args := #[s, x], argTypes := #[23, 23] })
    (hs : a.eval s = .slice none 0 0) (v : Value) (hx : a.eval x = v) (xs : List Int) (hv : SeqV w v xs) (hl : xs.length * 8 ≤ 140737488355328)
    (h : ∀ v' w', OwnS w' w.heap.size v' xs → w.grownBy w' none → wpList Tryd.prog ops Q rest (a.put o.dst v') w') : wpList Tryd.prog ops Q (o :: rest) a w := by
  obtain ⟨v', w', hr, h2, h3⟩ := run_copyI w o.type v xs hv hl
  refine wpList_step fun K hK => ?_
  rw [if_pos hgd]
  unfold Oper.wp execOp
  simp only [ho, resolve, invoke, builtin, Sem.run_bind, Sem.run_pure, Result.andThen_ok, List.map_toArray, List.map_cons, List.map_nil, hs, hx, hr]
  exact hK _ _ (h v' w' h2 h3)
theorem step_copyI {w : World} {ops : Array Oper} {o : Oper} {a : Act} {K : Act → World → Prop} {Q : Exit → Act → World → Prop} {E : Prop} (hgd : Region.wanted o (yielded ops a.tmps) = true) (s x : Operand)
    (ho : o.op = .call { callee := .builtin .append, args := #[s, x], argTypes := #[23, 23] })
    (hs : a.eval s = .slice none 0 0) (v : Value) (hx : a.eval x = v) (xs : List Int) (hv : SeqV w v xs) (hl : xs.length * 8 ≤ 140737488355328)
    (h : ∀ a' c' w', OwnS w' w.heap.size (.slice a' xs.length c') xs → w.grownBy w' none → K (a.put o.dst (.slice a' xs.length c')) w') :
    if Region.wanted o (yielded ops a.tmps) = true then Oper.wp Tryd.prog o a w K Q else E := by
  rw [if_pos hgd]
  obtain ⟨v', w', hr, h2, h3⟩ := run_copyI w o.type v xs hv hl
  obtain ⟨a', c', rfl, _⟩ := h2.slice
  unfold Oper.wp execOp
  simp only [ho, resolve, invoke, builtin, Sem.run_bind, Sem.run_pure, Result.andThen_ok, List.map_toArray, List.map_cons, List.map_nil, hs, hx, hr]
  exact h a' c' w' h2 h3

/-- a tree's box at q, a box for the answer behind it -/
structure OB (w W : World) (z : Int) (vn vs : Value) : Prop where
  t : W.heap[w.heap.size]? = some (.cells #[.int .i64 z, vn, vs] 25 (0, 0))
  r : W.heap[w.heap.size + 1]? = some (.cells #[.int .i64 0, .slice none 0 0, .slice none 0 0] 25 (0, 0))
  b : Below w.heap.size w W
theorem OB.new (w : World) (z : Int) (vn vs : Value) : OB w ((w.alloc (.cells #[.int .i64 z, vn, vs] 25)).alloc (.cells #[.int .i64 0, .slice none 0 0, .slice none 0 0] 25)) z vn vs := by
  refine ⟨?_, ?_, nnext (allocB _ _) (allocB _ _)⟩
  · rw [(allocB _ _).block _ (by simp)]
    exact heap_alloc_new w _
  · have h := heap_alloc_new (w.alloc (.cells #[.int .i64 z, vn, vs] 25)) (.cells #[.int .i64 0, .slice none 0 0, .slice none 0 0] 25)
    rw [show (w.alloc (.cells #[.int .i64 z, vn, vs] 25)).heap.size = w.heap.size + 1 by simp] at h
    exact h
theorem OB.lt {w W : World} {z : Int} {vn vs : Value} (h : OB w W z vn vs) : w.heap.size + 1 < W.heap.size := (Array.getElem?_eq_some_iff.1 h.r).1
theorem OB.next {w W V : World} {z : Int} {vn vs : Value} (h : OB w W z vn vs) (hb : Below W.heap.size W V) : OB w V z vn vs := by
  have := h.lt
  exact ⟨(hb.block _ (by omega)).trans h.t, (hb.block _ (by omega)).trans h.r, nnext h.b hb⟩
theorem OB.drew {w W : World} {z : Int} {vn vs : Value} (h : OB w W z vn vs) : OB w W.drew z vn vs := h.next (Below.refl _ _).drew
theorem grown_below {W V : World} (h : W.grownBy V none) : Below W.heap.size W V := ⟨h.os, h.tape, h.output, h.size, fun k hk => h.block k hk (by simp)⟩
theorem OB.grown {w W V : World} {z : Int} {vn vs : Value} (h : OB w W z vn vs) (hg : W.grownBy V none) : OB w V z vn vs := h.next (grown_below hg)
theorem OB.cells {w W : World} {z : Int} {vn vs : Value} (h : OB w W z vn vs) : W.cell? ⟨w.heap.size, 0, none⟩ = some (.int .i64 z) ∧ W.cell? ⟨w.heap.size, 1, none⟩ = some vn ∧ W.cell? ⟨w.heap.size, 2, none⟩ = some vs ∧ W.frozen? ⟨w.heap.size, 1, none⟩ = false ∧ W.frozen? ⟨w.heap.size, 2, none⟩ = false := by
  have h1 := h.t
  refine ⟨?_, ?_, ?_, ?_, ?_⟩ <;> simp [World.cell?, World.frozen?, h1]
theorem OB.res {w W : World} {z : Int} {vn vs : Value} (h : OB w W z vn vs) : W.cell? ⟨w.heap.size + 1, 0, none⟩ = some (.int .i64 0) ∧ W.cell? ⟨w.heap.size + 1, 1, none⟩ = some (.slice none 0 0) ∧ W.cell? ⟨w.heap.size + 1, 2, none⟩ = some (.slice none 0 0) ∧ W.frozen? ⟨w.heap.size + 1, 0, none⟩ = false ∧ W.frozen? ⟨w.heap.size + 1, 1, none⟩ = false ∧ W.frozen? ⟨w.heap.size + 1, 2, none⟩ = false := by
  have h1 := h.r
  refine ⟨?_, ?_, ?_, ?_, ?_, ?_⟩ <;> simp [World.cell?, World.frozen?, h1]
theorem OB.put {w W : World} {z : Int} {vn vs : Value} (h : OB w W z vn vs) (v : Value) (c : Nat) (vn' vs' : Value) (hc : (#[.int .i64 z, vn, vs] : Array Value).set! c v = #[.int .i64 z, vn', vs']) : OB w (W.setCell ⟨w.heap.size, c, none⟩ v) z vn' vs' := by
  refine ⟨?_, (Below.heap_setCell _ _ _ _ (by simp)).trans h.r, h.b.setCell (by simp) _⟩
  rw [block_set v h.t, ← hc]
  simp
/-- copied, but for the answer -/
def OwnQ (w : World) (z : Int) (ns : List Nd) (ss : List Int) (wx : World) : Prop :=
  ∃ an cn ai ci, OB w wx z (.slice an ns.length cn) (.slice ai ss.length ci) ∧ OwnS wx (w.heap.size + 2) (.slice an ns.length cn) ns ∧ OwnS wx (w.heap.size + 2) (.slice ai ss.length ci) ss
theorem own_fin {w W : World} {z : Int} {vn vs : Value} {an ai : Option Addr} {cn ci : Nat} {ns : List Nd} {ss : List Int} (h : OB w W z vn vs) (hn : OwnS W (w.heap.size + 2) (.slice an ns.length cn) ns) (hs : OwnS W (w.heap.size + 2) (.slice ai ss.length ci) ss) :
    OwnQ w z ns ss ((W.setCell ⟨w.heap.size, 1, none⟩ (.slice an ns.length cn)).setCell ⟨w.heap.size, 2, none⟩ (.slice ai ss.length ci)) := by
  have no : ∀ {α : Type} [Lay α] {v : Value} {xs : List α}, OwnS W (w.heap.size + 2) v xs → v.ownBlock ≠ some w.heap.size := by
    intro α _ v xs ho e
    rcases ho with ⟨rfl, _⟩ | ⟨g, cap, rfl, hB, _⟩
    · cases e
    · simp [Value.ownBlock] at e; omega
  exact ⟨an, cn, ai, ci, (h.put _ 1 _ _ rfl).put _ 2 _ _ rfl, (hn.other (no hn) _).other (no hn) _, (hs.other (no hs) _).other (no hs) _⟩
theorem OwnQ.next {w W V : World} {z : Int} {ns : List Nd} {ss : List Int} (h : OwnQ w z ns ss W) (hb : Below W.heap.size W V) : OwnQ w z ns ss V := by
  obtain ⟨an, cn, ai, ci, h1, h2, h3⟩ := h
  exact ⟨an, cn, ai, ci, h1.next hb, h2.next hb, h3.next hb⟩
theorem own_low {α : Type} [Lay α] {w W : World} {v : Value} {xs : List α} {B : Nat} (h : OwnS W B v xs) (hB : w.heap.size + 2 ≤ B) : OwnS W (w.heap.size + 2) v xs := h.lower hB
/-- what a copy gives -/
def GivesT (w : World) (t : Tr) (e : Ending) (w' : World) : Prop :=
  ∃ vn vs, e = .returned (.agg #[.int .i64 t.z, vn, vs]) ∧ OwnS w' w.heap.size vn t.ns ∧ OwnS w' w.heap.size vs t.ss ∧ Below w.heap.size w w'
theorem gives_copy {w W : World} {t : Tr} {an ai : Option Addr} {cn ci : Nat} {v0 v1 v2 : Value} (h : OB w W t.z (.slice an t.ns.length cn) (.slice ai t.ss.length ci)) (hn : OwnS W (w.heap.size + 2) (.slice an t.ns.length cn) t.ns) (hs : OwnS W (w.heap.size + 2) (.slice ai t.ss.length ci) t.ss) :
    GivesT w t (.returned (.agg #[.int .i64 t.z, .slice an t.ns.length cn, .slice ai t.ss.length ci])) (((W.setCell ⟨w.heap.size + 1, 0, none⟩ v0).setCell ⟨w.heap.size + 1, 1, none⟩ v1).setCell ⟨w.heap.size + 1, 2, none⟩ v2) := by
  have no : ∀ {α : Type} [Lay α] {v : Value} {xs : List α}, OwnS W (w.heap.size + 2) v xs → v.ownBlock ≠ some (w.heap.size + 1) := by
    intro α _ v xs ho e
    rcases ho with ⟨rfl, _⟩ | ⟨g, cap, rfl, hB, _⟩
    · cases e
    · simp [Value.ownBlock] at e; omega
  exact ⟨_, _, rfl, (((hn.lower (by omega)).other (no hn) _).other (no hn) _).other (no hn) _, (((hs.lower (by omega)).other (no hs) _).other (no hs) _).other (no hs) _, ((h.b.setCell (by simp) _).setCell (by simp) _).setCell (by simp) _⟩

set_option maxRecDepth 20000 in
set_option maxHeartbeats 2000000 in
theorem own_any (t : Tr) (vn vs : Value) (w : World) (hn : SeqV w vn t.ns) (hs : SeqV w vs t.ss) (hl : t.ns.length * 88 ≤ 140737488355328) (hls : t.ss.length * 8 ≤ 140737488355328) :
    Calls Tryd.prog 16 #[.agg #[.int .i64 t.z, vn, vs]] w (GivesT w t) := by
  have HN := hide (fun W (hW : Below w.heap.size w W) => hn.next hW)
  have HS := hide (fun W (hW : Below w.heap.size w W) => hs.next hW)
  obtain ⟨na, nc, rfl⟩ := seq_slice hn
  obtain ⟨sa, sc, rfl⟩ := seq_slice hs
  have O0 := hide (OB.new w t.z (.slice na t.ns.length nc) (.slice sa t.ss.length sc))
  clear hn hs
  go_enter Tryd.func16, Tryd.ntmps16
  go_upto_region 1 with fail
  go_cut [2] from 3 (fun t2 wx => t2 = .pointer (some ⟨w.heap.size + 1, 0, none⟩) ∧ Hid (OwnQ w t.z t.ns t.ss wx))
  case first =>
    go_region_law (first
      | (refine step_copyN (by kernel_rfl) _ _ (by rfl) (by rfl) (.slice na t.ns.length nc) (by rfl) t.ns (unhide HN _ (OB.b (z := t.z) (vn := .slice na t.ns.length nc) (vs := .slice sa t.ss.length sc) (by first | exact unhide OI | exact (unhide O0).drew | exact unhide O0))) hl ?_; intro aN cN wN ho hg; have ON := hide (OB.grown (z := t.z) (vn := .slice na t.ns.length nc) (vs := .slice sa t.ss.length sc) (by first | exact unhide OI | exact (unhide O0).drew | exact unhide O0) hg); have GN := hide (OwnS.lower (C := w.heap.size + 2) ho (OB.lt (z := t.z) (vn := .slice na t.ns.length nc) (vs := .slice sa t.ss.length sc) (by first | exact unhide OI | exact (unhide O0).drew | exact unhide O0))); (try have GI' := hide ((unhide GI).next (grown_below hg))); obtain ⟨n0, n1, n2, n3, n4⟩ := (unhide ON).cells; clear ho hg)
      | (refine step_copyI (by kernel_rfl) _ _ (by rfl) (by rfl) (.slice sa t.ss.length sc) (by rfl) t.ss (unhide HS _ (OB.b (z := t.z) (vn := .slice na t.ns.length nc) (vs := .slice sa t.ss.length sc) (by first | exact unhide ON | exact (unhide O0).drew | exact unhide O0))) hls ?_; intro aI cI wI ho hg; have OI := hide (OB.grown (z := t.z) (vn := .slice na t.ns.length nc) (vs := .slice sa t.ss.length sc) (by first | exact unhide ON | exact (unhide O0).drew | exact unhide O0) hg); have GI := hide (OwnS.lower (C := w.heap.size + 2) ho (OB.lt (z := t.z) (vn := .slice na t.ns.length nc) (vs := .slice sa t.ss.length sc) (by first | exact unhide ON | exact (unhide O0).drew | exact unhide O0))); (try have GN' := hide ((unhide GN).next (grown_below hg))); obtain ⟨i0, i1, i2, i3, i4⟩ := (unhide OI).cells; clear ho hg))
    all_goals go_wp2_with fail
    all_goals go_meet
    all_goals first
      | exact ⟨rfl, hide (own_fin (unhide OI) (unhide GN') (unhide GI))⟩
      | exact ⟨rfl, hide (own_fin (unhide ON) (unhide GN) (unhide GI'))⟩
  case rest =>
    obtain ⟨rfl, hq⟩ := hcut
    clear HN HS O0
    obtain ⟨an, cn, ai, ci, q, qn, qs⟩ := unhide hq
    obtain ⟨c0, c1, c2, _, _⟩ := q.cells
    obtain ⟨r0, r1, r2, f0, f1, f2⟩ := q.res
    have FIN := hide (fun (v0 v1 v2 : Value) => gives_copy (v0 := v0) (v1 := v1) (v2 := v2) (t := t) q qn qs)
    have hne : w.heap.size ≠ w.heap.size + 1 := by omega
    clear q qn qs hq
    go_wp2_with fail
    exact bodyPost_ret (v := .agg #[.int .i64 t.z, .slice an t.ns.length cn, .slice ai t.ss.length ci]) (by simp [results, Tryd.results16, go_sem, r0, r1, r2]) rfl (unhide FIN _ _ _)

set_option maxRecDepth 20000 in
set_option maxHeartbeats 2000000 in
theorem rcopyT_any (t : Tr) (vn vs : Value) (w : World) (hn : SeqV w vn t.ns) (hs : SeqV w vs t.ss) (hl : t.ns.length * 88 ≤ 140737488355328) (hls : t.ss.length * 8 ≤ 140737488355328) :
    Calls Tryd.prog 10 #[.agg #[.int .i64 t.z, vn, vs]] w (GivesT w t) := by
  have HN := hide (fun W (hW : Below w.heap.size w W) => hn.next hW)
  have HS := hide (fun W (hW : Below w.heap.size w W) => hs.next hW)
  obtain ⟨na, nc, rfl⟩ := seq_slice hn
  obtain ⟨sa, sc, rfl⟩ := seq_slice hs
  have O0 := hide (OB.new w t.z (.slice na t.ns.length nc) (.slice sa t.ss.length sc))
  clear hn hs
  go_enter Tryd.func10, Tryd.ntmps10
  go_wp2_with (at_builtin; refine wpList_copyN (by kernel_rfl) _ _ rfl rfl (.slice na t.ns.length nc) rfl t.ns (unhide HN _ (unhide O0).b) hl ?_)
  intro vN wN ho hg
  have ON := hide ((unhide O0).grown hg)
  have GN := hide (ho.lower (C := w.heap.size + 2) (by simp))
  obtain ⟨an, cn, rfl, _⟩ := ho.slice
  have q1 := (unhide ON).put (.slice an t.ns.length cn) 1 _ _ rfl
  have GN1 := hide ((unhide GN).other (a := ⟨w.heap.size, 1, none⟩) (by
    intro e
    rcases unhide GN with ⟨h, _⟩ | ⟨g, cap, h, hB, _⟩
    · rw [h] at e; cases e
    · rw [h] at e; simp [Value.ownBlock] at e; omega) (.slice an t.ns.length cn))
  have HO1 := hide q1
  obtain ⟨n0, n1, n2, n3, n4⟩ := (unhide ON).cells
  obtain ⟨m0, m1, m2, m3, m4⟩ := q1.cells
  clear ho hg q1
  go_wp2_with (at_builtin; refine wpList_copyI (by kernel_rfl) _ _ rfl rfl (.slice sa t.ss.length sc) rfl t.ss (unhide HS _ (unhide HO1).b) hls ?_)
  intro vI wI ho hg
  have OI := (unhide HO1).grown hg
  have SI := (unhide ON).lt
  have GI := ho.lower (C := w.heap.size + 2) SI
  have GN2 := (unhide GN1).next (grown_below hg)
  obtain ⟨ai, ci, rfl, _⟩ := ho.slice
  have nI : (Value.slice ai t.ss.length ci).ownBlock ≠ some w.heap.size := by
    intro e
    rcases GI with ⟨h, _⟩ | ⟨g, cap, h, hB, _⟩
    · rw [h] at e; cases e
    · rw [h] at e; simp [Value.ownBlock] at e; omega
  have nN : (Value.slice an t.ns.length cn).ownBlock ≠ some w.heap.size := by
    intro e
    rcases GN2 with ⟨h, _⟩ | ⟨g, cap, h, hB, _⟩
    · rw [h] at e; cases e
    · rw [h] at e; simp [Value.ownBlock] at e; omega
  have Q : Hid (OwnQ w t.z t.ns t.ss (wI.setCell ⟨w.heap.size, 2, none⟩ (.slice ai t.ss.length ci))) := ⟨an, cn, ai, ci, OI.put _ 2 _ _ rfl, GN2.other nN _, GI.other nI _⟩
  obtain ⟨i0, i1, i2, i3, i4⟩ := OI.cells
  clear ho hg GI GN2 nI nN OI HN HS O0 ON GN GN1 HO1
  go_upto_region 3 with fail
  generalize hwq : wI.setCell ⟨w.heap.size, 2, none⟩ (.slice ai t.ss.length ci) = wq at *
  · have hq := Q
    clear hwq Q
    obtain ⟨an, cn, ai, ci, q, qn, qs⟩ := unhide hq
    obtain ⟨c0, c1, c2, _, _⟩ := q.cells
    obtain ⟨r0, r1, r2, f0, f1, f2⟩ := q.res
    have FIN := hide (fun (v0 v1 v2 : Value) => gives_copy (v0 := v0) (v1 := v1) (v2 := v2) (t := t) q qn qs)
    have hne : w.heap.size ≠ w.heap.size + 1 := by omega
    clear q qn qs hq
    go_wp2_with fail
    exact bodyPost_ret (v := .agg #[.int .i64 t.z, .slice an t.ns.length cn, .slice ai t.ss.length ci]) (by simp [results, Tryd.results10, go_sem, r0, r1, r2]) rfl (unhide FIN _ _ _)

/- New, Get -/
theorem one_root (w : World) : OwnS (w.alloc (.cells #[.string ⟨#[47]⟩, .string ⟨#[]⟩, .int .i64 0, .int .i64 0, .int .i64 0, .int .i64 0, .int .i64 0, .int .i64 0, .int .i64 0] 47)) w.heap.size (.slice (some ⟨w.heap.size, 0, none⟩) 1 1) [nroot] :=
  .inr ⟨w.heap.size, 1, rfl, Nat.le_refl _, [], by rw [heap_alloc_new]; rfl, by decide, by decide, by decide⟩
set_option maxRecDepth 20000 in
set_option maxHeartbeats 1000000 in
theorem tnew_any (w : World) : Calls Tryd.prog 37 #[] w (GivesT w trNew) := by
  have H : Hid (GivesT w trNew (.returned (.agg #[.int .i64 0, .slice (some ⟨w.heap.size + 1, 0, none⟩) 1 1, .slice none 0 0])) ((w.alloc (.cells #[.int .i64 0, .slice (some ⟨w.heap.size + 1, 0, none⟩) 1 1, .slice none 0 0] 25)).alloc (.cells #[.string ⟨#[47]⟩, .string ⟨#[]⟩, .int .i64 0, .int .i64 0, .int .i64 0, .int .i64 0, .int .i64 0, .int .i64 0, .int .i64 0] 47))) := by
    have h := one_root (w.alloc (.cells #[.int .i64 0, .slice (some ⟨w.heap.size + 1, 0, none⟩) 1 1, .slice none 0 0] 25))
    rw [show (w.alloc (.cells #[.int .i64 0, .slice (some ⟨w.heap.size + 1, 0, none⟩) 1 1, .slice none 0 0] 25)).heap.size = w.heap.size + 1 by simp] at h
    exact ⟨_, _, rfl, h.lower (by omega), .inl ⟨rfl, rfl⟩, nnext (allocB _ _) (allocB _ _)⟩
  go_enter Tryd.func37, Tryd.ntmps37
  go_wp2_with fail
  exact bodyPost_ret (v := .agg #[.int .i64 0, .slice (some ⟨w.heap.size + 1, 0, none⟩) 1 1, .slice none 0 0]) (by simp [results, Tryd.results37, go_sem]) rfl (unhide H)
set_option maxRecDepth 20000 in
set_option maxHeartbeats 1000000 in
theorem rnew_any (w : World) : Calls Tryd.prog 14 #[] w (GivesT w trNew) := by
  have H : Hid (GivesT w trNew (.returned (.agg #[.int .i64 0, .slice (some ⟨w.heap.size + 1, 0, none⟩) 1 1, .slice none 0 0])) ((w.alloc (.cells #[.int .i64 0, .slice (some ⟨w.heap.size + 1, 0, none⟩) 1 1, .slice none 0 0] 25)).alloc (.cells #[.string ⟨#[47]⟩, .string ⟨#[]⟩, .int .i64 0, .int .i64 0, .int .i64 0, .int .i64 0, .int .i64 0, .int .i64 0, .int .i64 0] 47))) := by
    have h := one_root (w.alloc (.cells #[.int .i64 0, .slice (some ⟨w.heap.size + 1, 0, none⟩) 1 1, .slice none 0 0] 25))
    rw [show (w.alloc (.cells #[.int .i64 0, .slice (some ⟨w.heap.size + 1, 0, none⟩) 1 1, .slice none 0 0] 25)).heap.size = w.heap.size + 1 by simp] at h
    exact ⟨_, _, rfl, h.lower (by omega), .inl ⟨rfl, rfl⟩, nnext (allocB _ _) (allocB _ _)⟩
  go_enter Tryd.func14, Tryd.ntmps14
  go_wp2_with fail
  exact bodyPost_ret (v := .agg #[.int .i64 0, .slice (some ⟨w.heap.size + 1, 0, none⟩) 1 1, .slice none 0 0]) (by simp [results, Tryd.results14, go_sem]) rfl (unhide H)

end Go.Proofs.YtmifdieofccjaaaDoor

namespace Go.Proofs.YtmifdieofccjaaaDoor
open Go.RowKit

/-- a tree's box, and a node's for the answer -/
structure GB (w W : World) (z : Int) (vn vs : Value) : Prop where
  t : W.heap[w.heap.size]? = some (.cells #[.int .i64 z, vn, vs] 25 (0, 0))
  r : W.heap[w.heap.size + 1]? = some (.cells #[.string ⟨#[]⟩, .string ⟨#[]⟩, .int .i64 0, .int .i64 0, .int .i64 0, .int .i64 0, .int .i64 0, .int .i64 0, .int .i64 0] 47 (0, 0))
  b : Below w.heap.size w W
theorem GB.new (w : World) (z : Int) (vn vs : Value) : GB w ((w.alloc (.cells #[.int .i64 z, vn, vs] 25)).alloc (.cells #[.string ⟨#[]⟩, .string ⟨#[]⟩, .int .i64 0, .int .i64 0, .int .i64 0, .int .i64 0, .int .i64 0, .int .i64 0, .int .i64 0] 47)) z vn vs := by
  refine ⟨?_, ?_, nnext (allocB _ _) (allocB _ _)⟩
  · rw [(allocB _ _).block _ (by simp)]
    exact heap_alloc_new w _
  · have h := heap_alloc_new (w.alloc (.cells #[.int .i64 z, vn, vs] 25)) (.cells #[.string ⟨#[]⟩, .string ⟨#[]⟩, .int .i64 0, .int .i64 0, .int .i64 0, .int .i64 0, .int .i64 0, .int .i64 0, .int .i64 0] 47)
    rw [show (w.alloc (.cells #[.int .i64 z, vn, vs] 25)).heap.size = w.heap.size + 1 by simp] at h
    exact h
theorem GB.lt {w W : World} {z : Int} {vn vs : Value} (h : GB w W z vn vs) : w.heap.size + 1 < W.heap.size := (Array.getElem?_eq_some_iff.1 h.r).1
theorem GB.next {w W V : World} {z : Int} {vn vs : Value} (h : GB w W z vn vs) (hb : Below W.heap.size W V) : GB w V z vn vs := by
  have := h.lt
  exact ⟨(hb.block _ (by omega)).trans h.t, (hb.block _ (by omega)).trans h.r, nnext h.b hb⟩
theorem GB.c1 {w W : World} {z : Int} {vn vs : Value} (h : GB w W z vn vs) : W.cell? ⟨w.heap.size, 1, none⟩ = some vn := by simp [World.cell?, h.t]
theorem GB.one {w W : World} {z : Int} {vn vs : Value} (h : GB w W z vn vs) : OneR W (w.heap.size + 1) nzero := h.r

/- Kids -/
def kidsP (ns : List Nd) (p : List UInt8) : List (List UInt8) := (ns.filter fun n => decide (dirOf n.p = p)).map fun n => stepOf n.p
theorem kidsP_take {ns : List Nd} {k : Nat} {x : Nd} (hx : ns[k]? = some x) (p : List UInt8) : kidsP (ns.take (k + 1)) p = kidsP (ns.take k) p ++ (if dirOf x.p = p then [stepOf x.p] else []) := by
  rw [List.take_add_one, hx]
  simp only [kidsP, Option.toList_some, List.filter_append, List.map_append, List.filter_cons, List.filter_nil, decide_eq_true_eq]
  split <;> simp
theorem kidsP_len (ns : List Nd) (p : List UInt8) : (kidsP ns p).length = kidsN ns p := by
  rw [kidsP, List.length_map, kidsN, List.countP_eq_length_filter]

end Go.Proofs.YtmifdieofccjaaaDoor

namespace Go.Proofs.YtmifdieofccjaaaDoor
open Go.ChangeShapes Go.WideShapes Go.ChangeAt Go.RowKit Go.ChangeMaps

theorem ncellsStr : Tryd.prog.cellsOf 9 = 1 := by kernel_rfl
theorem ncellsInt : Tryd.prog.cellsOf 3 = 1 := by kernel_rfl
theorem ncellsNode : Tryd.prog.cellsOf 47 = 9 := by kernel_rfl
theorem ncellsStat : Tryd.prog.cellsOf 45 = 7 := by kernel_rfl
theorem ncellsNs : Tryd.prog.cellsOf 22 = 1 := by kernel_rfl
theorem ncellsIs : Tryd.prog.cellsOf 23 = 1 := by kernel_rfl
theorem ncellsTree : Tryd.prog.cellsOf 25 = 3 := by kernel_rfl
theorem nbytesNode : Tryd.prog.bytesOf 47 = 88 := by kernel_rfl
theorem nbytesInt : Tryd.prog.bytesOf 3 = 8 := by kernel_rfl
theorem nlaidOut : laidOutB Tryd.prog = true := by kernel_rfl
theorem nlist_of (s : ByteArray) : ∃ l : List UInt8, s = ⟨l.toArray⟩ := ⟨s.data.toList, rfl⟩

section
variable {H : Type} {enc : TypeId × Value → H} {W : World} {base : Nat} {spare : Nat → Bool} {held : Bool}
def nodeD (n : Nd) : DataW H := .agg [.lit (.string n.p), .lit (.string n.d), .agg [.lit (.int .i64 n.c), .lit (.int .i64 n.m), .lit (.int .i64 n.q), .lit (.int .i64 n.v), .lit (.int .i64 n.k), .lit (.int .i64 n.o), .lit (.int .i64 n.n)]]
set_option maxRecDepth 10000 in
theorem open_stat {n : Nat} {cs : List Value} {x : DataW H × List MemPlace} (hl : cs.length = 7) (h : DataW.trod enc Tryd.prog W base spare held n 45 cs = some x) :
    ∃ i0 i1 i2 i3 i4 i5 i6 : Int, cs = [.int .i64 i0, .int .i64 i1, .int .i64 i2, .int .i64 i3, .int .i64 i4, .int .i64 i5, .int .i64 i6] ∧ x.1 = .agg [.lit (.int .i64 i0), .lit (.int .i64 i1), .lit (.int .i64 i2), .lit (.int .i64 i3), .lit (.int .i64 i4), .lit (.int .i64 i5), .lit (.int .i64 i6)] := by
  match cs, hl with
  | [c0, c1, c2, c3, c4, c5, c6], _ =>
    obtain ⟨xs, k, _, hx, _, hlen, hfs⟩ := DataW.trod_struct Tryd.underlying45 h
    match xs, hlen with
    | [y0, y1, y2, y3, y4, y5, y6], _ =>
      obtain ⟨i0, e0, rfl, _⟩ := DataW.trod_int Tryd.underlying3 (show DataW.trod enc Tryd.prog W base spare held k 3 [c0] = some y0 by simpa [ncellsInt] using hfs 0 _ rfl)
      obtain ⟨i1, e1, rfl, _⟩ := DataW.trod_int Tryd.underlying3 (show DataW.trod enc Tryd.prog W base spare held k 3 [c1] = some y1 by simpa [ncellsInt] using hfs 1 _ rfl)
      obtain ⟨i2, e2, rfl, _⟩ := DataW.trod_int Tryd.underlying3 (show DataW.trod enc Tryd.prog W base spare held k 3 [c2] = some y2 by simpa [ncellsInt] using hfs 2 _ rfl)
      obtain ⟨i3, e3, rfl, _⟩ := DataW.trod_int Tryd.underlying3 (show DataW.trod enc Tryd.prog W base spare held k 3 [c3] = some y3 by simpa [ncellsInt] using hfs 3 _ rfl)
      obtain ⟨i4, e4, rfl, _⟩ := DataW.trod_int Tryd.underlying3 (show DataW.trod enc Tryd.prog W base spare held k 3 [c4] = some y4 by simpa [ncellsInt] using hfs 4 _ rfl)
      obtain ⟨i5, e5, rfl, _⟩ := DataW.trod_int Tryd.underlying3 (show DataW.trod enc Tryd.prog W base spare held k 3 [c5] = some y5 by simpa [ncellsInt] using hfs 5 _ rfl)
      obtain ⟨i6, e6, rfl, _⟩ := DataW.trod_int Tryd.underlying3 (show DataW.trod enc Tryd.prog W base spare held k 3 [c6] = some y6 by simpa [ncellsInt] using hfs 6 _ rfl)
      simp only [List.cons.injEq, and_true] at e0 e1 e2 e3 e4 e5 e6
      subst e0 e1 e2 e3 e4 e5 e6
      subst hx
      exact ⟨i0, i1, i2, i3, i4, i5, i6, rfl, rfl⟩
set_option maxRecDepth 10000 in
theorem open_node {n : Nat} {cs : List Value} {x : DataW H × List MemPlace} (hl : cs.length = 9) (h : DataW.trod enc Tryd.prog W base spare held n 47 cs = some x) : ∃ f : Nd, cs = ncells f ∧ x.1 = nodeD f := by
  match cs, hl with
  | [c0, c1, c2, c3, c4, c5, c6, c7, c8], _ =>
    obtain ⟨xs, k, _, hx, _, hlen, hfs⟩ := DataW.trod_struct Tryd.underlying47 h
    match xs, hlen with
    | [y0, y1, y2], _ =>
      obtain ⟨s0, e0, rfl, _⟩ := DataW.trod_string Tryd.underlying9 (show DataW.trod enc Tryd.prog W base spare held k 9 [c0] = some y0 by simpa [ncellsStr] using hfs 0 _ rfl)
      obtain ⟨s1, e1, rfl, _⟩ := DataW.trod_string Tryd.underlying9 (show DataW.trod enc Tryd.prog W base spare held k 9 [c1] = some y1 by simpa [ncellsStr] using hfs 1 _ rfl)
      obtain ⟨i0, i1, i2, i3, i4, i5, i6, e2, hy⟩ := open_stat (cs := [c2, c3, c4, c5, c6, c7, c8]) rfl (show DataW.trod enc Tryd.prog W base spare held k 45 [c2, c3, c4, c5, c6, c7, c8] = some y2 by simpa [ncellsStr, ncellsStat] using hfs 2 _ rfl)
      simp only [List.cons.injEq, and_true] at e0 e1 e2
      obtain ⟨rfl, rfl, rfl, rfl, rfl, rfl, rfl⟩ := e2
      subst e0 e1
      obtain ⟨l0, rfl⟩ := nlist_of s0
      obtain ⟨l1, rfl⟩ := nlist_of s1
      subst hx
      refine ⟨⟨l0, l1, i0, i1, i2, i3, i4, i5, i6⟩, rfl, ?_⟩
      simp [nodeD, hy]
theorem weights_node (n : Nd) : DataW.weights Tryd.prog 47 (nodeD n : DataW H) = [n.p.length, n.d.length] := by
  simp [DataW.weights, nodeD, Tryd.underlying47, Tryd.underlying45, DataW.weightsEach]
theorem nweightsAll_mem {e : TypeId} : ∀ (l : List (DataW H)) (d : DataW H) (x : Nat), d ∈ l → x ∈ DataW.weights Tryd.prog e d → x ∈ DataW.weightsAll Tryd.prog e l
  | d' :: r, d, x, h, hx => by
    rw [DataW.weightsAll]
    rcases List.mem_cons.1 h with rfl | h
    · exact List.mem_append.2 (.inl hx)
    · exact List.mem_append.2 (.inr (nweightsAll_mem r d x h hx))
set_option maxRecDepth 10000 in
theorem open_nodes {fuel : Nat} {v : Value} {y : DataW H × List MemPlace} (h : DataW.trod enc Tryd.prog W base spare held fuel 22 [v] = some y) :
    ∃ xs : List Nd, SeqV W v xs ∧ ∀ M, (∀ x ∈ DataW.weights Tryd.prog 22 y.1, x ≤ M) → (∀ f ∈ xs, f.p.length ≤ M ∧ f.d.length ≤ M) ∧ xs.length * 88 ≤ M := by
  rcases Go.Deep.open_slice Tryd.underlying22 h with ⟨h1, hx⟩ | ⟨a, len, cap, m, k, D, Pl, h1, hb, hl, hm, hmm, hx, hel⟩
  · simp only [List.cons.injEq, and_true] at h1
    rw [h1]
    exact ⟨[], SeqV.nil W, fun M _ => ⟨by simp, by simp⟩⟩
  · simp only [List.cons.injEq, and_true] at h1
    rw [h1]
    subst hx
    have hlm : len ≤ m := by rw [hmm]; split <;> omega
    have each : ∀ i, i < len → ∃ f : Nd, (∀ c, c < 9 → W.cell? (a.add (i * 9 + c)) = (Lay.cs f)[c]?) ∧ D i = nodeD f := by
      intro i hi
      obtain ⟨cs', g1, g2⟩ := hel i (by omega)
      rw [ncellsNode] at g1
      obtain ⟨_, hlen, hcell⟩ := World.cells?_some g1
      obtain ⟨f, rfl, hd⟩ := open_node hlen g2
      refine ⟨f, fun c hc => ?_, hd⟩
      have := hcell c hc
      rwa [Go.Deep.add_add] at this
    obtain ⟨F, hF⟩ := Go.Deep.choose_lt each
    refine ⟨(List.range len).map F, ?_, ?_⟩
    · by_cases h0 : len = 0
      · subst h0
        exact .inl ⟨some a, cap, rfl, rfl, hm⟩
      · have c0 := (hF 0 (by omega)).1 0 (by decide)
        obtain ⟨b, off, sp⟩ := a
        have hsp : sp = none := by
          cases sp with
          | none => rfl
          | some s => simp [World.cell?, Addr.add, Lay.cs, ncells] at c0; split at c0 <;> simp at c0
        subst hsp
        have hblt : b < W.heap.size := World.block_lt_of_cell? W _ (show W.cell? ((⟨b, off, none⟩ : Addr).add (0 * 9 + 0)) = some _ from c0) |> fun h => by simpa [Addr.add] using h
        refine .inr ⟨b, off, cap, by simp, by simpa using hl, hm, hblt, by simp; omega, fun j u hj => ?_⟩
        have hjl : j < len * 9 := by
          have := (List.getElem?_eq_some_iff.1 hj).1
          rw [cellsL_length, List.length_map, List.length_range] at this
          exact this
        have hi : j / 9 < len := by omega
        have hg := cellsL_get ((List.range len).map F) (j / 9) (F (j / 9)) (by rw [List.getElem?_map, List.getElem?_range hi]; rfl) (j % 9) (by show j % 9 < 9; omega)
        rw [show j / 9 * Lay.k Nd + j % 9 = j by show j / 9 * 9 + j % 9 = j; omega, hj] at hg
        have := (hF (j / 9) hi).1 (j % 9) (by omega)
        rw [show j / 9 * 9 + j % 9 = j by omega, Addr.add_lit, ← hg] at this
        exact this
    · intro M hM
      have hw : DataW.weights Tryd.prog 22 (.slice ((List.range len).map D) ((List.range (m - len)).map fun j => D (len + j)) : DataW H) =
          (len + (m - len)) * 88 :: (DataW.weightsAll Tryd.prog 47 ((List.range len).map D) ++ DataW.weightsAll Tryd.prog 47 ((List.range (m - len)).map fun j => D (len + j))) := by
        simp [DataW.weights, Tryd.underlying22, nbytesNode]
      rw [hw] at hM
      refine ⟨fun f hf => ?_, ?_⟩
      · obtain ⟨i, hi, rfl⟩ := List.mem_map.1 hf
        have hi' : i < len := by simpa using hi
        have key : ∀ x ∈ DataW.weights Tryd.prog 47 (D i), x ≤ M := fun x hx => hM x (List.mem_cons_of_mem _ (List.mem_append.2 (.inl (nweightsAll_mem _ (D i) x (List.mem_map.2 ⟨i, hi, rfl⟩) hx))))
        rw [(hF i hi').2, weights_node] at key
        exact ⟨key _ (by simp), key _ (by simp)⟩
      · have := hM _ (List.mem_cons_self ..)
        simp only [List.length_map, List.length_range]
        omega
set_option maxRecDepth 10000 in
theorem open_ints {fuel : Nat} {v : Value} {y : DataW H × List MemPlace} (h : DataW.trod enc Tryd.prog W base spare held fuel 23 [v] = some y) :
    ∃ xs : List Int, SeqV W v xs ∧ (∀ s ∈ xs, -9223372036854775808 ≤ s ∧ s ≤ 9223372036854775807) ∧ ∀ M, (∀ x ∈ DataW.weights Tryd.prog 23 y.1, x ≤ M) → xs.length * 8 ≤ M := by
  rcases Go.Deep.open_slice Tryd.underlying23 h with ⟨h1, hx⟩ | ⟨a, len, cap, m, k, D, Pl, h1, hb, hl, hm, hmm, hx, hel⟩
  · simp only [List.cons.injEq, and_true] at h1
    rw [h1]
    exact ⟨[], SeqV.nil W, by simp, fun M _ => by simp⟩
  · simp only [List.cons.injEq, and_true] at h1
    rw [h1]
    subst hx
    have hlm : len ≤ m := by rw [hmm]; split <;> omega
    have each : ∀ i, i < len → ∃ f : Int, (∀ c, c < 1 → W.cell? (a.add (i * 1 + c)) = (Lay.cs f)[c]?) ∧ (-9223372036854775808 ≤ f ∧ f ≤ 9223372036854775807) := by
      intro i hi
      obtain ⟨cs', g1, g2⟩ := hel i (by omega)
      rw [ncellsInt] at g1
      obtain ⟨_, hlen, hcell⟩ := World.cells?_some g1
      obtain ⟨c0, rfl⟩ : ∃ c0, cs' = [c0] := List.length_eq_one_iff.1 hlen
      obtain ⟨f, e0, _, hw⟩ := DataW.trod_int Tryd.underlying3 g2
      have hd := bounds_i64 hw
      simp only [List.cons.injEq, and_true] at e0
      subst e0
      refine ⟨f, fun c hc => ?_, hd⟩
      have := hcell c hc
      rwa [Go.Deep.add_add] at this
    obtain ⟨F, hF⟩ := Go.Deep.choose_lt each
    refine ⟨(List.range len).map F, ?_, ?_, ?_⟩
    · by_cases h0 : len = 0
      · subst h0
        exact .inl ⟨some a, cap, rfl, rfl, hm⟩
      · have c0 := (hF 0 (by omega)).1 0 (by decide)
        obtain ⟨b, off, sp⟩ := a
        have hsp : sp = none := by
          cases sp with
          | none => rfl
          | some s => simp [World.cell?, Addr.add, Lay.cs] at c0; split at c0 <;> simp at c0
        subst hsp
        have hblt : b < W.heap.size := World.block_lt_of_cell? W _ (show W.cell? ((⟨b, off, none⟩ : Addr).add (0 * 1 + 0)) = some _ from c0) |> fun h => by simpa [Addr.add] using h
        refine .inr ⟨b, off, cap, by simp, by simpa using hl, hm, hblt, by simp; omega, fun j u hj => ?_⟩
        have hjl : j < len * 1 := by
          have := (List.getElem?_eq_some_iff.1 hj).1
          rw [cellsL_length, List.length_map, List.length_range] at this
          exact this
        have hi : j / 1 < len := by omega
        have hg := cellsL_get ((List.range len).map F) (j / 1) (F (j / 1)) (by rw [List.getElem?_map, List.getElem?_range hi]; rfl) (j % 1) (by show j % 1 < 1; omega)
        rw [show j / 1 * Lay.k Int + j % 1 = j by show j / 1 * 1 + j % 1 = j; omega, hj] at hg
        have := (hF (j / 1) hi).1 (j % 1) (by omega)
        rw [show j / 1 * 1 + j % 1 = j by omega, Addr.add_lit, ← hg] at this
        exact this
    · intro s hs
      obtain ⟨i, hi, rfl⟩ := List.mem_map.1 hs
      exact (hF i (by simpa using hi)).2
    · intro M hM
      have hw : DataW.weights Tryd.prog 23 (.slice ((List.range len).map D) ((List.range (m - len)).map fun j => D (len + j)) : DataW H) =
          (len + (m - len)) * 8 :: (DataW.weightsAll Tryd.prog 3 ((List.range len).map D) ++ DataW.weightsAll Tryd.prog 3 ((List.range (m - len)).map fun j => D (len + j))) := by
        simp [DataW.weights, Tryd.underlying23, nbytesInt]
      rw [hw] at hM
      have := hM _ (List.mem_cons_self ..)
      simp only [List.length_map, List.length_range]
      omega
set_option maxRecDepth 10000 in
theorem open_tree {r : Reach} {b0 : Nat} {v : Value} {d : DataW H} {p : List MemPlace}
    (hv : Value.okWide Tryd.prog W r b0 25 v) (h : DataW.Trod enc Tryd.prog W base spare held 25 v d p) :
    ∃ vn vs t, v = .agg #[.int .i64 t.z, vn, vs] ∧ SeqV W vn t.ns ∧ SeqV W vs t.ss ∧ ∀ M, M ≤ 140737488355328 → (∀ x ∈ DataW.weights Tryd.prog 25 d, x ≤ M) → WfT t ∧ t.ns.length * 88 ≤ M ∧ t.ss.length * 8 ≤ M := by
  obtain ⟨cs, rfl, hsz⟩ := okWide_struct Tryd.underlying25 hv
  have hsz1 : cs.size = 3 := hsz.trans ncellsTree
  obtain ⟨l⟩ := cs
  match l, hsz1 with
  | [c0, c1, c2], _ =>
    obtain ⟨fuel, hf⟩ := h
    have hf' : DataW.trod enc Tryd.prog W base spare held fuel 25 [c0, c1, c2] = some (d, p) := by simpa [Value.cells] using hf
    obtain ⟨xs, k, _, hx, _, hlen, hfs⟩ := DataW.trod_struct Tryd.underlying25 hf'
    match xs, hlen with
    | [y0, y1, y2], _ =>
      obtain ⟨z, e0, rfl, _⟩ := DataW.trod_int Tryd.underlying3 (show DataW.trod enc Tryd.prog W base spare held k 3 [c0] = some y0 by simpa [ncellsInt] using hfs 0 _ rfl)
      obtain ⟨ns, hn, hN⟩ := open_nodes (show DataW.trod enc Tryd.prog W base spare held k 22 [c1] = some y1 by simpa [ncellsInt, ncellsNs] using hfs 1 _ rfl)
      obtain ⟨ss, hs, hb, hS⟩ := open_ints (show DataW.trod enc Tryd.prog W base spare held k 23 [c2] = some y2 by simpa [ncellsInt, ncellsNs, ncellsIs] using hfs 2 _ rfl)
      simp only [List.cons.injEq, and_true] at e0
      subst e0
      simp only [Prod.mk.injEq] at hx
      obtain ⟨rfl, _⟩ := hx
      refine ⟨c1, c2, ⟨z, ns, ss⟩, rfl, hn, hs, fun M hM hw => ?_⟩
      have hww : DataW.weights Tryd.prog 25 (.agg (List.map Prod.fst [(DataW.lit (.int .i64 z), []), y1, y2]) : DataW H) = DataW.weights Tryd.prog 22 y1.1 ++ DataW.weights Tryd.prog 23 y2.1 := by
        simp [DataW.weights, Tryd.underlying25, DataW.weightsEach]
      have hw1 : ∀ x ∈ DataW.weights Tryd.prog 22 y1.1, x ≤ M := fun x hx => hw x (by rw [hww]; exact List.mem_append.2 (.inl hx))
      have hw2 : ∀ x ∈ DataW.weights Tryd.prog 23 y2.1, x ≤ M := fun x hx => hw x (by rw [hww]; exact List.mem_append.2 (.inr hx))
      obtain ⟨h1, h2⟩ := hN M hw1
      exact ⟨⟨hb, fun n hn => by have := h1 n hn; omega⟩, h2, hS M hw2⟩
theorem sized_tree {ts : List TypeId} {ds : List (DataW H)} (h : (DataW.weightsEach Tryd.prog ts ds).all (· ≤ reachBytes) = true) {j : Nat} {d : DataW H} (ht : ts[j]? = some 25) (hd : ds[j]? = some d) : ∀ x ∈ DataW.weights Tryd.prog 25 d, x ≤ 140737488351232 := by
  intro x hx
  have e : reachBytes = 140737488351232 := by decide
  have h1 := List.all_eq_true.1 h _ (DataW.weights_mem_each ht hd x hx)
  rw [e] at h1
  simpa using h1
end
end Go.Proofs.YtmifdieofccjaaaDoor
