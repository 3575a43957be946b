/-
  How lists of elements lie in memory, whatever these are: rows of cells, so many each; a row of the call's own; runs of cells stored into it; what stays when other memory turns.
  How lists of nodes, numbers, events and texts lie in memory: rows of cells, so many each; a row of the call's own; what stays when other memory turns.
  What path.opening, path.Under and path.Join answer, for all texts: the walks.
  What lies below what: nothing below itself, no two below each other, below what is below a third is below that; and what the laws' own question 'joins' answers.
  What path.Split answers, for every text: the last slash, and the walk.
  What tree.find, tree.Open, tree.copied and tree.Get answer, with slices.BinarySearchFunc's and slices.BinarySearch's own texts: the walks.
  What slices.Delete and slices.Insert of one answer, into a row of the call's own of nodes: the walks.
  What slices.Delete and slices.Insert of one answer, into a row of the call's own of numbers: the walks.
  What a transaction makes of a tree, as plain lists; that good trees stay good. No program is named here.
  What zxid.Good answers, for every number: the walk.
-/
import Derived.Test.YtmebfelofjgjhaaDoorRTA
import Derived.Test.YtmebfelofjgjhaaDoorRTB
import Derived.Lib.QuietBelow
import Derived.Lib.LastIndexByte
import Derived.Test.YtmebfelofjgjhaaDoorShelf
import Derived.Laws.IdiomCopy
import Derived.Lib.AppendZeros
import Derived.Lib.JoinLaws
import Derived.Lib.SliceRun
import Derived.Deep.RegionHeld3
import Derived.BigQuiet
import Derived.Deep.RegionLaw
import Derived.Lib.AppendZerosOnto
import Derived.Lib.Overlaps
import Derived.Laws.Externs
import Derived.Maps.AppendAt
import Derived.Test.YtmebfelofjgjhaaDoorRows
import Derived.WalkKit
import Derived.WalkSpells
import Derived.WalkLawsBesides
namespace Go.Proofs.YtmebfelofjgjhaaDoor
open Go.RowKit

/-- how one element lies -/
class Lay (α : Type) where
  k : Nat
  cs : α → List Value
  ty : TypeId
  len : ∀ x, (cs x).length = k
  one : ∀ x, ∀ u ∈ cs x, u.oneCell' = true
instance layI : Lay Int := ⟨1, fun x => [.int .i64 x], 3, fun _ => rfl, fun x u hu => by simp at hu; subst hu; rfl⟩
instance layS : Lay (List UInt8) := ⟨1, fun x => [.string ⟨x.toArray⟩], 9, fun _ => rfl, fun x u hu => by simp at hu; subst hu; rfl⟩

section
variable {α : Type} [Lay α]
def cellsL (xs : List α) : List Value := xs.flatMap Lay.cs
theorem cellsL_cons (x : α) (r : List α) : cellsL (x :: r) = Lay.cs x ++ cellsL r := by simp [cellsL]
theorem cellsL_length (xs : List α) : (cellsL xs).length = xs.length * Lay.k α := by
  induction xs with
  | nil => simp [cellsL]
  | cons x r ih => rw [cellsL_cons, List.length_append, Lay.len, ih, List.length_cons, Nat.add_mul]; omega
theorem cellsL_append (a b : List α) : cellsL (a ++ b) = cellsL a ++ cellsL b := by simp [cellsL]
theorem cellsL_snoc (a : List α) (x : α) : cellsL (a ++ [x]) = cellsL a ++ Lay.cs x := by simp [cellsL]
theorem cellsL_at (A : List α) (x : α) (B : List α) (c : Nat) (hc : c < Lay.k α) : (cellsL (A ++ x :: B))[A.length * Lay.k α + c]? = (Lay.cs x)[c]? := by
  rw [cellsL_append, List.getElem?_append_right (by rw [cellsL_length]; omega), cellsL_length, Nat.add_sub_cancel_left, cellsL_cons, List.getElem?_append_left (by rw [Lay.len]; exact hc)]
theorem cellsL_get (xs : List α) (i : Nat) (x : α) (h : xs[i]? = some x) (c : Nat) (hc : c < Lay.k α) : (cellsL xs)[i * Lay.k α + c]? = (Lay.cs x)[c]? := by
  obtain ⟨hi, rfl⟩ := List.getElem?_eq_some_iff.1 h
  have e : xs = xs.take i ++ xs[i] :: xs.drop (i + 1) := by simp
  have := cellsL_at (xs.take i) xs[i] (xs.drop (i + 1)) c hc
  rw [← e, List.length_take, Nat.min_eq_left (Nat.le_of_lt hi)] at this
  exact this
theorem cellsL_one (xs : List α) : ∀ u ∈ cellsL xs, u.oneCell' = true := by
  intro u hu
  obtain ⟨x, _, hx⟩ := List.mem_flatMap.1 hu
  exact Lay.one x u hx
theorem cellsL_set (A : List α) (x y : α) (B : List α) (c : Nat) (v : Value) (hc : c < Lay.k α) (hy : Lay.cs y = (Lay.cs x).set c v) : (cellsL (A ++ x :: B)).set (A.length * Lay.k α + c) v = cellsL (A ++ y :: B) := by
  rw [cellsL_append, cellsL_append, List.set_append_right _ _ (by rw [cellsL_length]; omega), cellsL_length, Nat.add_sub_cancel_left, cellsL_cons, cellsL_cons, List.set_append_left _ _ (by rw [Lay.len]; exact hc), hy]

/-- the value holds these -/
def SeqV (w : World) (v : Value) (xs : List α) : Prop :=
  (∃ a cap, v = .slice a 0 cap ∧ xs = [] ∧ cap ≤ maxLen) ∨
  ∃ b off cap, v = .slice (some ⟨b, off, none⟩) xs.length cap ∧ xs.length ≤ cap ∧ cap ≤ maxLen ∧ b < w.heap.size ∧ xs ≠ [] ∧ RowAt w b off (cellsL xs)
theorem SeqV.kept {w w' : World} {B : Nat} {v : Value} {xs : List α} (h : SeqV w v xs) (hb : Below B w w') (hB : w.heap.size ≤ B) : SeqV w' v xs := by
  rcases h with h | ⟨b, off, cap, rfl, h1, h2, h3, h0, h4⟩
  · exact .inl h
  · exact .inr ⟨b, off, cap, rfl, h1, h2, Nat.lt_of_lt_of_le h3 hb.size, h0, h4.kept hb (Nat.lt_of_lt_of_le h3 hB)⟩
theorem SeqV.next {w w' : World} {v : Value} {xs : List α} (h : SeqV w v xs) (hb : Below w.heap.size w w') : SeqV w' v xs := h.kept hb (Nat.le_refl _)
theorem SeqV.alloc {w : World} {v : Value} {xs : List α} (h : SeqV w v xs) (o : Obj) : SeqV (w.alloc o) v xs := h.next ((Below.refl _ _).alloc (Nat.le_refl _) o)
theorem SeqV.nil (w : World) : SeqV w (.slice none 0 0) ([] : List α) := .inl ⟨none, 0, rfl, rfl, by decide⟩
theorem seq_slice {w : World} {v : Value} {xs : List α} (hv : SeqV w v xs) : ∃ a c, v = .slice a xs.length c := by
  rcases hv with ⟨a, cap, rfl, rfl, _⟩ | ⟨b, off, cap, rfl, _⟩
  · exact ⟨_, _, rfl⟩
  · exact ⟨_, _, rfl⟩
theorem seq_row {w : World} {v : Value} {xs : List α} (hv : SeqV w v xs) (h0 : xs ≠ []) :
    ∃ b off cap, v = .slice (some ⟨b, off, none⟩) xs.length cap ∧ b < w.heap.size ∧ RowAt w b off (cellsL xs) ∧ xs.length ≤ cap ∧ cap ≤ maxLen := by
  rcases hv with ⟨a, cap, rfl, rfl, _⟩ | ⟨b, off, cap, rfl, h1, h2, hb, _, hr⟩
  · exact absurd rfl h0
  · exact ⟨b, off, cap, rfl, hb, hr, h1, h2⟩

/-- block g is a row of the call's own with these at its head -/
def OwnR (W : World) (g cap : Nat) (xs : List α) : Prop := ∃ rest : List Value, W.heap[g]? = some (.cells (cellsL xs ++ rest).toArray (Lay.ty α) (0, 0)) ∧ xs.length * Lay.k α + rest.length = cap * Lay.k α ∧ xs.length ≤ cap ∧ cap ≤ maxLen
theorem OwnR.lt {W : World} {g cap : Nat} {xs : List α} (h : OwnR W g cap xs) : g < W.heap.size := by
  obtain ⟨rest, h1, _⟩ := h
  exact (Array.getElem?_eq_some_iff.1 h1).1
theorem OwnR.le {W : World} {g cap : Nat} {xs : List α} (h : OwnR W g cap xs) : xs.length ≤ cap := by obtain ⟨rest, _, _, h2, _⟩ := h; exact h2
theorem OwnR.capLe {W : World} {g cap : Nat} {xs : List α} (h : OwnR W g cap xs) : cap ≤ maxLen := by obtain ⟨rest, _, _, _, h3⟩ := h; exact h3
theorem OwnR.row {W : World} {g cap : Nat} {xs : List α} (h : OwnR W g cap xs) : RowAt W g 0 (cellsL xs) := by
  obtain ⟨rest, h1, _⟩ := h
  intro j v hj
  have hlt : j < (cellsL xs).length := (List.getElem?_eq_some_iff.1 hj).1
  simp [World.cell?, h1, List.getElem?_append_left hlt, hj]
theorem OwnR.frozen {W : World} {g cap : Nat} {xs : List α} (h : OwnR W g cap xs) (j : Nat) : W.frozen? ⟨g, j, none⟩ = false := by
  obtain ⟨rest, h1, _⟩ := h
  simp [World.frozen?, h1]
theorem OwnR.kept {W V : World} {g B cap : Nat} {xs : List α} (h : OwnR W g cap xs) (hb : Below B W V) (hg : g < B) : OwnR V g cap xs := by
  obtain ⟨rest, h1, h2⟩ := h
  exact ⟨rest, (hb.block _ hg).trans h1, h2⟩
theorem OwnR.next {W V : World} {g cap : Nat} {xs : List α} (h : OwnR W g cap xs) (hb : Below W.heap.size W V) : OwnR V g cap xs := h.kept hb h.lt
theorem OwnR.other {W : World} {g cap : Nat} {xs : List α} (h : OwnR W g cap xs) {a : Addr} (ha : g ≠ a.block) (v : Value) : OwnR (W.setCell a v) g cap xs := by
  obtain ⟨rest, h1, h2⟩ := h
  exact ⟨rest, (Below.heap_setCell W a v g ha).trans h1, h2⟩
theorem OwnR.set {W : World} {g cap : Nat} {A B : List α} {x y : α} (h : OwnR W g cap (A ++ x :: B)) {c : Nat} (hc : c < Lay.k α) {v : Value} (hy : Lay.cs y = (Lay.cs x).set c v) : OwnR (W.setCell ⟨g, A.length * Lay.k α + c, none⟩ v) g cap (A ++ y :: B) := by
  obtain ⟨rest, h1, h2, h3⟩ := h
  refine ⟨rest, ?_, by simpa using h2, by simpa using h3⟩
  rw [block_set v h1, ← cellsL_set A x y B c v hc hy]
  have hlt : A.length * Lay.k α + c < (cellsL (A ++ x :: B)).length := by
    rw [cellsL_length]; simp [Nat.add_mul]; omega
  simp [List.set_append_left _ _ hlt]

/-- a value that holds these in a row of the call's own, at or behind block B -/
def OwnS (W : World) (B : Nat) (v : Value) (xs : List α) : Prop := (v = .slice none 0 0 ∧ xs = []) ∨ ∃ g cap, v = .slice (some ⟨g, 0, none⟩) xs.length cap ∧ B ≤ g ∧ OwnR W g cap xs
theorem OwnS.seq {W : World} {B : Nat} {v : Value} {xs : List α} (h : OwnS W B v xs) : SeqV W v xs := by
  rcases h with ⟨rfl, rfl⟩ | ⟨g, cap, rfl, _, h⟩
  · exact SeqV.nil W
  · by_cases h0 : xs = []
    · subst h0; exact .inl ⟨_, cap, rfl, rfl, h.capLe⟩
    · exact .inr ⟨g, 0, cap, rfl, h.le, h.capLe, h.lt, h0, h.row⟩
theorem OwnS.kept {W V : World} {B C : Nat} {v : Value} {xs : List α} (h : OwnS W B v xs) (hb : Below C W V) (hC : W.heap.size ≤ C) : OwnS V B v xs := by
  rcases h with h | ⟨g, cap, rfl, hB, h⟩
  · exact .inl h
  · exact .inr ⟨g, cap, rfl, hB, h.kept hb (Nat.lt_of_lt_of_le h.lt hC)⟩
theorem OwnS.next {W V : World} {B : Nat} {v : Value} {xs : List α} (h : OwnS W B v xs) (hb : Below W.heap.size W V) : OwnS V B v xs := h.kept hb (Nat.le_refl _)
theorem OwnS.other {W : World} {B : Nat} {v : Value} {xs : List α} (h : OwnS W B v xs) {a : Addr} (ha : v.ownBlock ≠ some a.block) (u : Value) : OwnS (W.setCell a u) B v xs := by
  rcases h with h | ⟨g, cap, rfl, hB, h⟩
  · exact .inl h
  · exact .inr ⟨g, cap, rfl, hB, h.other (by intro e; apply ha; simp [Value.ownBlock, e]) u⟩
theorem OwnS.lower {W : World} {B C : Nat} {v : Value} {xs : List α} (h : OwnS W B v xs) (hC : C ≤ B) : OwnS W C v xs := by
  rcases h with h | ⟨g, cap, rfl, hB, h⟩
  · exact .inl h
  · exact .inr ⟨g, cap, rfl, Nat.le_trans hC hB, h⟩
theorem OwnS.of_row {W : World} {B : Nat} {v : Value} {xs : List α} (h : W.ownsRow B (Lay.ty α) (Lay.k α) v xs.length (cellsL xs)) : OwnS W B v xs := by
  obtain ⟨_, ⟨rfl, h0⟩ | ⟨g, cap, cur, rfl, hB, hg, hn, hm, hs, ht⟩⟩ := h
  · exact .inl ⟨rfl, List.eq_nil_of_length_eq_zero h0⟩
  · refine .inr ⟨g, cap, rfl, hB, cur.toList.drop (xs.length * Lay.k α), ?_, ?_, hn, hm⟩
    · rw [hg, ← ht, List.take_append_drop]
    · have := Nat.mul_le_mul_right (Lay.k α) hn
      simp [hs]; omega
theorem OwnS.row {W : World} {B : Nat} {v : Value} {xs : List α} (h : OwnS W B v xs) : W.ownsRow B (Lay.ty α) (Lay.k α) v xs.length (cellsL xs) := by
  refine ⟨cellsL_length xs, ?_⟩
  rcases h with ⟨rfl, rfl⟩ | ⟨g, cap, rfl, hB, h⟩
  · exact .inl ⟨rfl, rfl⟩
  · obtain ⟨rest, h1, h2, hle, h3⟩ := h
    refine .inr ⟨g, cap, _, rfl, hB, h1, hle, h3, by simp [cellsL_length, h2], ?_⟩
    simp [← cellsL_length xs]
theorem OwnS.slice {W : World} {B : Nat} {v : Value} {xs : List α} (h : OwnS W B v xs) : ∃ a c, v = .slice a xs.length c ∧ c ≤ maxLen := by
  rcases h with ⟨rfl, rfl⟩ | ⟨g, cap, rfl, _, h⟩
  · exact ⟨none, 0, rfl, by decide⟩
  · exact ⟨_, _, rfl, h.capLe⟩
end

theorem RowAt.i0 {w : World} {b off : Nat} {xs : List Int} (h : RowAt w b off (cellsL xs)) {i : Nat} {x : Int} (hi : xs[i]? = some x) : w.cell? ⟨b, off + i, none⟩ = some (.int .i64 x) :=
  h i _ (by have := cellsL_get xs i x hi 0 (by decide); simpa [Lay.k, Lay.cs] using this)
theorem RowAt.s0 {w : World} {b off : Nat} {xs : List (List UInt8)} (h : RowAt w b off (cellsL xs)) {i : Nat} {x : List UInt8} (hi : xs[i]? = some x) : w.cell? ⟨b, off + i, none⟩ = some (.string ⟨x.toArray⟩) :=
  h i _ (by have := cellsL_get xs i x hi 0 (by decide); simpa [Lay.k, Lay.cs] using this)
theorem nbox_then {w : World} {o : Obj} {w1 : World} (h : Below (w.alloc o).heap.size (w.alloc o) w1) : Below w.heap.size w w1 :=
  ((Below.refl _ _).alloc (Nat.le_refl _) _).trans (h.mono (by simp))
theorem nnext {w W V : World} (h : Below w.heap.size w W) (h' : Below W.heap.size W V) : Below w.heap.size w V := h.trans (h'.mono h.size)
theorem allocB (w : World) (o : Obj) : Below w.heap.size w (w.alloc o) := (Below.refl _ _).alloc (Nat.le_refl _) _

theorem ngrown_set {w : World} {g j : Nat} (v : Value) : w.grownBy (w.setCell ⟨g, j, none⟩ v) (some g) := ⟨rfl, rfl, rfl, by simp [World.setCell], fun k _ hne => Below.heap_setCell w ⟨g, j, none⟩ v k (fun e => hne (by rw [e]))⟩
theorem ngrown_trans {w w' w'' : World} {g : Nat} (h : w.grownBy w' (some g)) (h' : w'.grownBy w'' (some g)) : w.grownBy w'' (some g) :=
  ⟨h'.os.trans h.os, h'.tape.trans h.tape, h'.output.trans h.output, Nat.le_trans h.size h'.size, fun k hk hne => (h'.block k (Nat.lt_of_lt_of_le hk h.size) hne).trans (h.block k hk hne)⟩
theorem nblock_setCells {g : Nat} {t : TypeId} {fz : Nat × Nat} : ∀ (vs : List Value) (o : Nat) (w : World) (l : List Value), w.heap[g]? = some (.cells l.toArray t fz) → o + vs.length ≤ l.length →
    (w.setCells g o vs).heap[g]? = some (.cells (l.take o ++ vs ++ l.drop (o + vs.length)).toArray t fz)
  | [], o, w, l, h, _ => by simpa [World.setCells] using h
  | v :: r, o, w, l, h, hl => by
    have h1 : (w.setCell ⟨g, o, none⟩ v).heap[g]? = some (.cells (l.set o v).toArray t fz) := by rw [block_set v h]; simp
    rw [World.setCells, nblock_setCells r (o + 1) _ _ h1 (by simp at hl ⊢; omega)]
    have ho : o < l.length := by simp at hl; omega
    have e1 : (l.set o v).take (o + 1) = l.take o ++ [v] := by
      rw [List.take_set, List.take_succ_eq_append_getElem ho, List.set_append_right _ _ (by simp; omega)]
      simp [Nat.min_eq_left (Nat.le_of_lt ho)]
    have e2 : (l.set o v).drop (o + 1 + r.length) = l.drop (o + (r.length + 1)) := by
      rw [List.drop_set_of_lt (by omega)]; congr 1; omega
    rw [e1, e2]
    simp
theorem ngrown_setCells {g : Nat} : ∀ (vs : List Value) (o : Nat) (w : World), w.grownBy (w.setCells g o vs) (some g)
  | [], _, _ => ⟨rfl, rfl, rfl, Nat.le_refl _, fun _ _ _ => rfl⟩
  | v :: r, o, _ => ngrown_trans (ngrown_set v) (ngrown_setCells r (o + 1) _)

section
variable {α : Type} [Lay α]
theorem OwnR.spare {W : World} {g cap : Nat} {fs : List α} (h : OwnR W g cap fs) (vs : List Value) (o : Nat) (ho : fs.length * Lay.k α ≤ o) (hfit : o + vs.length ≤ cap * Lay.k α) : OwnR (W.setCells g o vs) g cap fs := by
  obtain ⟨rest, h1, h2, h4, h3⟩ := h
  have hlen : (cellsL fs ++ rest).length = cap * Lay.k α := by rw [List.length_append, cellsL_length]; exact h2
  have hc := cellsL_length fs
  refine ⟨rest.take (o - fs.length * Lay.k α) ++ vs ++ (cellsL fs ++ rest).drop (o + vs.length), ?_, ?_, h4, h3⟩
  · rw [nblock_setCells vs o W _ h1 (by rw [hlen]; omega)]
    congr 2
    rw [List.take_append, List.take_of_length_le (by omega), hc]
    simp only [List.append_assoc]
  · simp only [List.length_append, List.length_take, List.length_drop, hc]
    omega
theorem OwnR.swap1 {W : World} {g cap : Nat} {A B : List α} {y : α} (h : OwnR W g cap (A ++ y :: B)) (x : α) : OwnR (W.setCells g (A.length * Lay.k α) (Lay.cs x)) g cap (A ++ x :: B) := by
  obtain ⟨rest, h1, h2, h4, h3⟩ := h
  have hlen : (cellsL (A ++ y :: B) ++ rest).length = cap * Lay.k α := by rw [List.length_append, cellsL_length]; exact h2
  refine ⟨rest, ?_, by simpa using h2, by simpa using h4, h3⟩
  have hA := cellsL_length A
  have hx3 : (Lay.cs x).length = Lay.k α := Lay.len x
  have hy3 : (Lay.cs y).length = Lay.k α := Lay.len y
  rw [nblock_setCells (Lay.cs x) (A.length * Lay.k α) W _ h1 (by rw [hlen, hx3]; simp [Nat.add_mul] at h2; omega)]
  have e : cellsL (A ++ y :: B) ++ rest = cellsL A ++ (Lay.cs y ++ (cellsL B ++ rest)) := by simp [cellsL_append, cellsL_cons]
  have e' : cellsL (A ++ x :: B) ++ rest = cellsL A ++ (Lay.cs x ++ (cellsL B ++ rest)) := by simp [cellsL_append, cellsL_cons]
  rw [e, e']
  congr 2
  rw [hx3, ← hA, List.take_left, show (cellsL A).length + Lay.k α = (cellsL A ++ Lay.cs y).length by rw [List.length_append, hy3], ← List.append_assoc (cellsL A) (Lay.cs y), List.drop_left, List.append_assoc]
theorem OwnR.some {W : World} {g cap : Nat} {fs : List α} (h : OwnR W g cap fs) {j : Nat} (hj : j < cap * Lay.k α) : (W.cell? ⟨g, j, none⟩).isSome = true := by
  obtain ⟨rest, h1, h2, _⟩ := h
  have hl : j < (cellsL fs ++ rest).length := by rw [List.length_append, cellsL_length, h2]; exact hj
  rw [List.length_append] at hl
  simp [World.cell?, h1, hl]
theorem OwnR.drew {W : World} {g cap : Nat} {fs : List α} (h : OwnR W g cap fs) : OwnR W.drew g cap fs := h
theorem OwnR.alloc {W : World} {g cap : Nat} {fs : List α} (h : OwnR W g cap fs) (o : Obj) : OwnR (W.alloc o) g cap fs := h.next ((Below.refl _ _).alloc (Nat.le_refl _) o)
/-- block b holds just this one -/
def OneR (W : World) (b : Nat) (x : α) : Prop := W.heap[b]? = some (.cells (Lay.cs x).toArray (Lay.ty α) (0, 0))
theorem OneR.row {W : World} {b : Nat} {x : α} (h : OneR W b x) : ∀ j v, (Lay.cs x)[j]? = some v → W.cell? ⟨b, 0 + j, none⟩ = some v := by
  intro j v hj
  unfold OneR at h
  simp [World.cell?, h, hj]
end
/-- all old blocks but those of F are as they were -/
structure Touch (F : Nat → Prop) (w w' : World) : Prop where
  os : w'.os = w.os
  tape : w'.tape = w.tape
  output : w'.output = w.output
  size : w.heap.size ≤ w'.heap.size
  block : ∀ k, k < w.heap.size → ¬ F k → w'.heap[k]? = w.heap[k]?
theorem Touch.refl (F : Nat → Prop) (w : World) : Touch F w w := ⟨rfl, rfl, rfl, Nat.le_refl _, fun _ _ _ => rfl⟩
theorem Touch.trans {F : Nat → Prop} {a b c : World} (h : Touch F a b) (k : Touch F b c) : Touch F a c :=
  ⟨k.os.trans h.os, k.tape.trans h.tape, k.output.trans h.output, Nat.le_trans h.size k.size, fun i hi hf => (k.block i (Nat.lt_of_lt_of_le hi h.size) hf).trans (h.block i hi hf)⟩
theorem Touch.set {F : Nat → Prop} {w : World} {a : Addr} (hf : F a.block) (v : Value) : Touch F w (w.setCell a v) := ⟨rfl, rfl, rfl, by simp [World.setCell], fun k _ hn => Below.heap_setCell w a v k (fun e => hn (by rw [e]; exact hf))⟩
theorem Touch.drew {F : Nat → Prop} {w w' : World} (h : Touch F w w') : Touch F w w'.drew := ⟨h.os, h.tape, h.output, h.size, h.block⟩
theorem Touch.mono {F G : Nat → Prop} {w w' : World} (h : Touch F w w') (hg : ∀ k, k < w.heap.size → F k → G k) : Touch G w w' := ⟨h.os, h.tape, h.output, h.size, fun k hk hn => h.block k hk (fun hf => hn (hg k hk hf))⟩
theorem Touch.below {F : Nat → Prop} {w w' : World} {B : Nat} (h : Touch F w w') (hB : B ≤ w.heap.size) (hF : ∀ k, F k → B ≤ k) : Below B w w' :=
  ⟨h.os, h.tape, h.output, h.size, fun k hk => h.block k (Nat.lt_of_lt_of_le hk hB) (fun hf => by have := hF k hf; omega)⟩

theorem OwnS.grown {α : Type} [Lay α] {W V : World} {B : Nat} {v : Value} {xs : List α} (h : OwnS W B v xs) {r : Option Nat} (hg : W.grownBy V r) (hr : ∀ k, v.ownBlock = some k → some k ≠ r) : OwnS V B v xs := by
  rcases h with h | ⟨g, cap, rfl, hB, h⟩
  · exact .inl h
  · obtain ⟨rest, h1, h2⟩ := h
    have hlt := (Array.getElem?_eq_some_iff.1 h1).1
    exact .inr ⟨g, cap, rfl, hB, rest, (hg.block g hlt (hr g rfl)).trans h1, h2⟩
theorem nset_same {w : World} {a : Addr} {v : Value} (h : w.cell? a = some v) : w.setCell a v = w := by
  obtain ⟨heap, tape, drawn, os, output⟩ := w
  simp only [World.setCell, World.cell?] at *
  congr 1
  apply Array.ext_getElem?
  intro k
  rw [Array.getElem?_modify]
  by_cases hk : a.block = k
  · subst hk
    simp only [if_true]
    cases ho : heap[a.block]? with
    | none => rfl
    | some o =>
      rw [ho] at h
      cases o with
      | cells c e fz =>
        simp only at h
        by_cases hs : a.spot.isSome = true
        · simp [hs] at h
        · simp only [hs] at h
          simp [hs]
          have hlt : a.off < c.size := (Array.getElem?_eq_some_iff.1 (by simpa using h)).1
          have hv : c[a.off] = v := (Array.getElem?_eq_some_iff.1 (by simpa using h)).2
          rw [← hv]
          simp [Array.setIfInBounds, hlt]
      | _ => simp at h
  · simp [hk]
theorem one_news {α : Type} [Lay α] {W : World} {g : Nat} {x : α} (h : OneR W g x) (j : Nat) (u : Value) (hj : (Lay.cs x)[j]? = some u) : W.cell? ((⟨g, 0, none⟩ : Addr).add j) = some u := by
  rw [Addr.add_lit]
  exact h.row j u hj
end Go.Proofs.YtmebfelofjgjhaaDoor

namespace Go.Proofs.YtmebfelofjgjhaaDoor
open Go.RowKit

def ncells (n : Nd) : List Value := [.string ⟨n.p.toArray⟩, .string ⟨n.d.toArray⟩, .int .i64 n.c, .int .i64 n.m, .int .i64 n.q, .int .i64 n.v, .int .i64 n.k, .int .i64 n.o, .int .i64 n.n]
/-- a Stat, a node, an event as a value -/
def statV (n : Nd) : Value := .agg #[.int .i64 n.c, .int .i64 n.m, .int .i64 n.q, .int .i64 n.v, .int .i64 n.k, .int .i64 n.o, .int .i64 n.n]
def nodeV (n : Nd) : Value := .agg #[.string ⟨n.p.toArray⟩, .string ⟨n.d.toArray⟩, .int .i64 n.c, .int .i64 n.m, .int .i64 n.q, .int .i64 n.v, .int .i64 n.k, .int .i64 n.o, .int .i64 n.n]
instance layN : Lay Nd := ⟨9, ncells, 40, fun _ => rfl, fun x u hu => by simp [ncells] at hu; rcases hu with rfl | rfl | rfl | rfl | rfl | rfl | rfl | rfl | rfl <;> rfl⟩
/- the cells of a node -/
theorem RowAt.nd {w : World} {b off : Nat} {xs : List Nd} (h : RowAt w b off (cellsL xs)) {i : Nat} {x : Nd} (hi : xs[i]? = some x) (c : Nat) (hc : c < 9) : ∀ v, (ncells x)[c]? = some v → w.cell? ⟨b, off + i * 9 + c, none⟩ = some v := fun v hv => by
  rw [Nat.add_assoc]
  exact h (i * 9 + c) v ((cellsL_get xs i x hi c hc).trans hv)
theorem RowAt.n0 {w : World} {b off : Nat} {xs : List Nd} (h : RowAt w b off (cellsL xs)) {i : Nat} {x : Nd} (hi : xs[i]? = some x) : w.cell? ⟨b, off + i * 9, none⟩ = some (.string ⟨x.p.toArray⟩) := h.nd hi 0 (by omega) _ rfl
theorem RowAt.n1 {w : World} {b off : Nat} {xs : List Nd} (h : RowAt w b off (cellsL xs)) {i : Nat} {x : Nd} (hi : xs[i]? = some x) : w.cell? ⟨b, off + i * 9 + 1, none⟩ = some (.string ⟨x.d.toArray⟩) := h.nd hi 1 (by omega) _ rfl
theorem RowAt.n2 {w : World} {b off : Nat} {xs : List Nd} (h : RowAt w b off (cellsL xs)) {i : Nat} {x : Nd} (hi : xs[i]? = some x) : w.cell? ⟨b, off + i * 9 + 2, none⟩ = some (.int .i64 x.c) := h.nd hi 2 (by omega) _ rfl
theorem RowAt.n3 {w : World} {b off : Nat} {xs : List Nd} (h : RowAt w b off (cellsL xs)) {i : Nat} {x : Nd} (hi : xs[i]? = some x) : w.cell? ⟨b, off + i * 9 + 3, none⟩ = some (.int .i64 x.m) := h.nd hi 3 (by omega) _ rfl
theorem RowAt.n4 {w : World} {b off : Nat} {xs : List Nd} (h : RowAt w b off (cellsL xs)) {i : Nat} {x : Nd} (hi : xs[i]? = some x) : w.cell? ⟨b, off + i * 9 + 4, none⟩ = some (.int .i64 x.q) := h.nd hi 4 (by omega) _ rfl
theorem RowAt.n5 {w : World} {b off : Nat} {xs : List Nd} (h : RowAt w b off (cellsL xs)) {i : Nat} {x : Nd} (hi : xs[i]? = some x) : w.cell? ⟨b, off + i * 9 + 5, none⟩ = some (.int .i64 x.v) := h.nd hi 5 (by omega) _ rfl
theorem RowAt.n6 {w : World} {b off : Nat} {xs : List Nd} (h : RowAt w b off (cellsL xs)) {i : Nat} {x : Nd} (hi : xs[i]? = some x) : w.cell? ⟨b, off + i * 9 + 6, none⟩ = some (.int .i64 x.k) := h.nd hi 6 (by omega) _ rfl
theorem RowAt.n7 {w : World} {b off : Nat} {xs : List Nd} (h : RowAt w b off (cellsL xs)) {i : Nat} {x : Nd} (hi : xs[i]? = some x) : w.cell? ⟨b, off + i * 9 + 7, none⟩ = some (.int .i64 x.o) := h.nd hi 7 (by omega) _ rfl
theorem RowAt.n8 {w : World} {b off : Nat} {xs : List Nd} (h : RowAt w b off (cellsL xs)) {i : Nat} {x : Nd} (hi : xs[i]? = some x) : w.cell? ⟨b, off + i * 9 + 8, none⟩ = some (.int .i64 x.n) := h.nd hi 8 (by omega) _ rfl
/-- a tree as a value -/
def TreeV (w : World) (v : Value) (t : Tr) : Prop := ∃ vn vs, v = .agg #[.int .i64 t.z, vn, vs] ∧ SeqV w vn t.ns ∧ SeqV w vs t.ss
theorem TreeV.next {w w' : World} {v : Value} {t : Tr} (h : TreeV w v t) (hb : Below w.heap.size w w') : TreeV w' v t := by
  obtain ⟨vn, vs, rfl, h1, h2⟩ := h
  exact ⟨vn, vs, rfl, h1.next hb, h2.next hb⟩

end Go.Proofs.YtmebfelofjgjhaaDoor

namespace Go.Proofs.YtmebfelofjgjhaaDoor
open Go.RowKit Go.Shelf

/-- what all paths below a path begin with -/
def openL (l : List UInt8) : List UInt8 := if l = [47] then [47] else l ++ [47]
theorem openL_root : openL [47] = [47] := by rw [openL, if_pos rfl]
theorem openL_other {l : List UInt8} (h : l ≠ [47]) : openL l = l ++ [47] := by rw [openL, if_neg h]
theorem openL_length (l : List UInt8) : (openL l).length ≤ l.length + 1 := by
  unfold openL
  split
  · simp
  · simp
set_option maxRecDepth 10000 in
set_option maxHeartbeats 400000 in
theorem opening_any (l : List UInt8) (w : World) (hl : l.length ≤ 140737488355328) :
    Calls Tryd.prog 27 #[.string ⟨l.toArray⟩] w fun e w' => e = .returned (.string ⟨(openL l).toArray⟩) ∧ w' = w := by
  have hz : (ByteArray.mk l.toArray).size = l.length := Lib.size_eq ⟨l.toArray⟩
  by_cases h : l = [47]
  · subst h
    go_enter Tryd.func27, Tryd.ntmps27
    go_wp2
    go_ret
    exact ⟨ret_str (by rw [openL_root]), rfl⟩
  · have h1 : (l == [47]) = false := by simpa using h
    have Ho := hide (openL_other h)
    clear h
    go_enter Tryd.func27, Tryd.ntmps27
    go_wp2
    go_ret
    exact ⟨ret_str (by rw [unhide Ho]; exact cat_one l [47]), rfl⟩

/-- what Join answers: the path, or nothing; and the error's number -/
def joinS (d m : List UInt8) : List UInt8 := if goodB d && namedB m then (if (openL d ++ m).length ≤ 200 then openL d ++ m else []) else []
def joinE (d m : List UInt8) : Int := if goodB d && namedB m then (if (openL d ++ m).length ≤ 200 then 0 else 1) else 2
theorem join_bad {d m : List UInt8} (h : (goodB d && namedB m) = false) : joinS d m = [] ∧ joinE d m = 2 := by
  unfold joinS joinE
  rw [h]
  exact ⟨rfl, rfl⟩
theorem join_long {d m : List UInt8} (h : (goodB d && namedB m) = true) (h1 : 200 < (openL d ++ m).length) : joinS d m = [] ∧ joinE d m = 1 := by
  unfold joinS joinE
  rw [if_pos h, if_pos h, if_neg (by omega), if_neg (by omega)]
  exact ⟨rfl, rfl⟩
theorem join_fits {d m : List UInt8} (h : (goodB d && namedB m) = true) (h1 : (openL d ++ m).length ≤ 200) : joinS d m = openL d ++ m ∧ joinE d m = 0 := by
  unfold joinS joinE
  rw [if_pos h, if_pos h, if_pos h1, if_pos h1]
  exact ⟨rfl, rfl⟩
set_option maxRecDepth 10000 in
set_option maxHeartbeats 1000000 in
theorem join_any (d m : List UInt8) (w : World) (hm : m.length ≤ 140737488355328) :
    Calls Tryd.prog 9 #[.string ⟨d.toArray⟩, .string ⟨m.toArray⟩] w fun e w' => e = .returned (.tuple #[.string ⟨(joinS d m).toArray⟩, .int .i64 (joinE d m)]) ∧ Below w.heap.size w w' := by
  cases hd : goodB d
  · obtain ⟨h1, h2⟩ := join_bad (d := d) (m := m) (by rw [hd]; rfl)
    have H1 := hide h1
    have H2 := hide h2
    have Hd := hide hd
    clear h1 h2 hd
    go_enter Tryd.func9, Tryd.ntmps9
    go_wp2_with fail
    refine (good_any _ _).mono ?_
    rintro e w1 ⟨rfl, hb1⟩
    rw [show (ByteArray.mk d.toArray).data.toList = d from rfl, unhide Hd]
    go_wp2_with fail
    go_ret2
    exact ⟨ret_strE (by rw [unhide H1]) (unhide H2).symm, hb1⟩
  cases hn : namedB m
  · obtain ⟨h1, h2⟩ := join_bad (d := d) (m := m) (by rw [hn, Bool.and_false])
    have H1 := hide h1
    have H2 := hide h2
    have Hd := hide hd
    have Hn := hide hn
    clear h1 h2 hd hn
    go_enter Tryd.func9, Tryd.ntmps9
    go_wp2_with fail
    refine (good_any _ _).mono ?_
    rintro e w1 ⟨rfl, hb1⟩
    rw [show (ByteArray.mk d.toArray).data.toList = d from rfl, unhide Hd]
    go_wp2_with fail
    refine (named_any _ _ (size_le_maxLen hm)).mono ?_
    rintro e w2 ⟨rfl, rfl⟩
    rw [show (ByteArray.mk m.toArray).data.toList = m from rfl, unhide Hn]
    go_wp2_with fail
    go_ret2
    exact ⟨ret_strE (by rw [unhide H1]) (unhide H2).symm, hb1⟩
  have hdl := goodB_le hd
  have hml := namedB_le hn
  have hol := openL_length d
  have hdn : (goodB d && namedB m) = true := by rw [hd, hn]; rfl
  have Hd := hide hd
  have Hn := hide hn
  clear hd hn
  generalize hO : openL d = O at hol
  have HO := hide hO
  clear hO
  have hz : ((ByteArray.mk O.toArray) ++ (ByteArray.mk m.toArray)).size = O.length + m.length := by rw [cat_one, Lib.size_eq]; show (O ++ m).length = _; simp
  by_cases hf : O.length + m.length ≤ 200
  · obtain ⟨h1, h2⟩ := join_fits hdn (by rw [unhide HO]; simpa using hf)
    have H1 := hide h1
    have H2 := hide h2
    clear h1 h2 hdn
    go_enter Tryd.func9, Tryd.ntmps9
    go_wp2_with fail
    refine (good_any _ _).mono ?_
    rintro e w1 ⟨rfl, hb1⟩
    rw [show (ByteArray.mk d.toArray).data.toList = d from rfl, unhide Hd]
    go_wp2_with fail
    refine (named_any _ _ (size_le_maxLen hm)).mono ?_
    rintro e w2 ⟨rfl, rfl⟩
    rw [show (ByteArray.mk m.toArray).data.toList = m from rfl, unhide Hn]
    go_wp2_with fail
    refine (opening_any _ _ (by omega)).mono ?_
    rintro e w3 ⟨rfl, rfl⟩
    rw [unhide HO]
    go_wp2_with fail
    go_ret2
    exact ⟨ret_strE (by rw [unhide H1, unhide HO]; exact cat_one O m) (unhide H2).symm, hb1⟩
  · obtain ⟨h1, h2⟩ := join_long hdn (by rw [unhide HO]; simp; omega)
    have H1 := hide h1
    have H2 := hide h2
    clear h1 h2 hdn
    go_enter Tryd.func9, Tryd.ntmps9
    go_wp2_with fail
    refine (good_any _ _).mono ?_
    rintro e w1 ⟨rfl, hb1⟩
    rw [show (ByteArray.mk d.toArray).data.toList = d from rfl, unhide Hd]
    go_wp2_with fail
    refine (named_any _ _ (size_le_maxLen hm)).mono ?_
    rintro e w2 ⟨rfl, rfl⟩
    rw [show (ByteArray.mk m.toArray).data.toList = m from rfl, unhide Hn]
    go_wp2_with fail
    refine (opening_any _ _ (by omega)).mono ?_
    rintro e w3 ⟨rfl, rfl⟩
    rw [unhide HO]
    go_wp2_with fail
    go_ret2
    exact ⟨ret_strE (by rw [unhide H1]) (unhide H2).symm, hb1⟩

end Go.Proofs.YtmebfelofjgjhaaDoor

namespace Go.Proofs.YtmebfelofjgjhaaDoor
open Go.RowKit Go.Shelf
theorem goodB_slash {a : List UInt8} (h : goodB a = true) : [47] <+: a := by
  simp only [goodB, Lib.hasPrefix, Bool.and_eq_true, List.isPrefixOf_iff_prefix] at h
  exact h.1.2
end Go.Proofs.YtmebfelofjgjhaaDoor

namespace Go.Proofs.YtmebfelofjgjhaaDoor
open Go.RowKit Go.Shelf

theorem lastIndex_eq (a b : List UInt8) (hb : 47 ∉ b) : Lib.lastIndexByte ⟨(a ++ 47 :: b).toArray⟩ 47 = a.length := by
  have hat : ∀ j, j < (a ++ 47 :: b).length → ((ByteArray.mk (a ++ 47 :: b).toArray).data[j]!) = (a ++ 47 :: b)[j]! := fun j hj => by simp
  rcases Lib.lastIndexByte_spec ⟨(a ++ 47 :: b).toArray⟩ 47 with ⟨_, h⟩ | ⟨i, hi, e, hc, hn⟩
  · exact absurd (by simp) (h a.length (by show a.length < (a ++ 47 :: b).toArray.size; simp))
  · rw [e]
    have hi' : i < (a ++ 47 :: b).length := by
      have : i < (a ++ 47 :: b).toArray.size := hi
      simpa using this
    have h1 : a.length ≤ i := by
      apply Nat.le_of_not_lt
      intro hlt
      exact hn a.length hlt (by show a.length < (a ++ 47 :: b).toArray.size; simp) (by simp)
    by_cases h2 : i = a.length
    · rw [h2]
    · exfalso
      apply hb
      have hlt : i - a.length - 1 < b.length := by simp at hi'; omega
      have hb' : (a ++ 47 :: b)[i]! = b[i - a.length - 1]! := by
        rw [List.getElem!_eq_getElem?_getD, List.getElem!_eq_getElem?_getD, List.getElem?_append_right h1]
        obtain ⟨k, hk⟩ : ∃ k, i - a.length = k + 1 := ⟨i - a.length - 1, by omega⟩
        rw [hk]; simp
      rw [hat i hi', hb'] at hc
      have hm : b[i - a.length - 1]! ∈ b := by
        rw [List.getElem!_eq_getElem?_getD, List.getElem?_eq_getElem hlt]; simp
      have : b[i - a.length - 1]! = 47 := by
        apply UInt8.toNat_inj.1
        show _ = 47
        omega
      rwa [this] at hm

theorem cut_first (a b : List UInt8) : (ByteArray.mk (a ++ 47 :: b).toArray).extract 0 a.length = ⟨a.toArray⟩ := by
  rw [cut_front]; simp
theorem cut_last (a b : List UInt8) : (ByteArray.mk (a ++ 47 :: b).toArray).extract (a.length + 1) (a.length + b.length + 1) = ⟨b.toArray⟩ := by
  have := cut_back (a ++ 47 :: b) (a.length + 1)
  rw [show (a ++ 47 :: b).length = a.length + b.length + 1 from by simp; omega] at this
  rw [this]
  have e : (a ++ 47 :: b).drop (a.length + 1) = b := by rw [← List.drop_drop]; simp
  rw [e]

/-- a path's parent, out of what stands ahead of its last slash -/
def dirL (a : List UInt8) : List UInt8 := if a = [] then [47] else a
theorem dirL_nil : dirL [] = [47] := by rw [dirL, if_pos rfl]
theorem dirL_other {a : List UInt8} (h : a ≠ []) : dirL a = a := by rw [dirL, if_neg h]
theorem ret_three {a b c d : ByteArray} {i j : Int} (h : a = b) (h1 : c = d) (h' : i = j) : Ending.returned (.tuple #[.string a, .string c, .int .i64 i]) = .returned (.tuple #[.string b, .string d, .int .i64 j]) := by rw [h, h1, h']

set_option maxRecDepth 20000 in
set_option maxHeartbeats 1000000 in
theorem split_main (a b : List UInt8) (w : World) (hb : 47 ∉ b) (hg : goodB (a ++ 47 :: b) = true) (hne : a ++ 47 :: b ≠ [47]) :
    Calls Tryd.prog 31 #[.string ⟨(a ++ 47 :: b).toArray⟩] w fun e w' =>
      e = .returned (.tuple #[.string ⟨(dirL a).toArray⟩, .string ⟨b.toArray⟩, .int .i64 0]) ∧ Below w.heap.size w w' := by
  have hl : a.length + b.length + 1 ≤ 200 := by have := goodB_le hg; simp at this; omega
  have hne1 : (a ++ 47 :: b == [47]) = false := by simpa using hne
  have Hg := hide hg
  have Hi := hide (lastIndex_eq a b hb)
  clear hg hne hb
  have hz : (ByteArray.mk (a ++ 47 :: b).toArray).size = a.length + b.length + 1 := by rw [Lib.size_eq]; show (a ++ 47 :: b).length = _; simp; omega
  have Hc1 := hide (cut_first a b)
  have Hc2 := hide (cut_last a b)
  generalize a ++ 47 :: b = l at *
  go_enter Tryd.func31, Tryd.ntmps31
  go_wp2_with fail
  refine (good_any _ _).mono ?_
  rintro e w1 ⟨rfl, hb1⟩
  rw [show (ByteArray.mk l.toArray).data.toList = l from rfl, unhide Hg]
  go_wp2_with fail
  refine (Tryd.strings_LastIndexByte _ _ (by omega) _).mono ?_
  rintro e w2 ⟨rfl, rfl⟩
  rw [unhide Hi]
  go_wp2_with fail
  have cA : ∀ d os, Calls Tryd.prog 43 #[.string ((ByteArray.mk l.toArray).extract 0 a.length)] (Sort.grow (redrawn w2 d) os) fun e w'' => e = .returned (.string ⟨a.toArray⟩) ∧ ∃ p : Regrown, w'' = Sort.grow (redrawn w2 p.d) p.os :=
    fun d os => Calls.regrown_of (by rw [unhide Hc1]; exact clone_any _ _ (by rw [Lib.size_eq]; show a.length ≤ _; omega))
  have cB : ∀ d os, Calls Tryd.prog 43 #[.string ((ByteArray.mk l.toArray).extract (a.length + 1) (a.length + b.length + 1))] (Sort.grow (redrawn w2 d) os) fun e w'' => e = .returned (.string ⟨b.toArray⟩) ∧ ∃ p : Regrown, w'' = Sort.grow (redrawn w2 p.d) p.os :=
    fun d os => Calls.regrown_of (by rw [unhide Hc2]; exact clone_any _ _ (by rw [Lib.size_eq]; show b.length ≤ _; omega))
  have n1 : (a.length : Int) ≤ a.length + b.length + 1 := by omega
  have n2 : (a.length : Int) ≤ a.length + b.length := by omega
  have n3 : IntKind.i64.wrap ((a.length : Int) + 1) = (a.length : Int) + 1 := by rw [IntKind.wrap_i64]; omega
  have n4 : (0 : Int) ≤ (a.length : Int) + 1 := by omega
  refine wp_region_quiet_below (by kernel_rfl) (by kernel_rfl) ?_
  repeat (quiet_step (first | exact cA _ _ | exact cB _ _))
  refine wpQuiet_nil ?_
  intro _ hw'
  obtain ⟨⟨dq, osq⟩, hw''⟩ := hw'
  subst hw''
  clear cA cB
  have hb2 : Below w.heap.size w (Sort.grow (redrawn w2 dq) osq) := below_next hb1 (below_regrown w2 dq osq)
  cases he : a.isEmpty
  · go_wp2
    go_ret3
    exact ⟨ret_three (by rw [dirL_other (by rintro rfl; simp at he)]) rfl rfl, hb2⟩
  · obtain rfl : a = [] := by simpa using he
    go_wp2
    go_ret3
    exact ⟨ret_three (by rw [dirL_nil]) rfl rfl, hb2⟩

set_option maxRecDepth 10000 in
set_option maxHeartbeats 400000 in
theorem split_bad (l : List UInt8) (w : World) (hg : goodB l = false) :
    Calls Tryd.prog 31 #[.string ⟨l.toArray⟩] w fun e w' => e = .returned (.tuple #[.string ⟨#[]⟩, .string ⟨#[]⟩, .int .i64 2]) ∧ Below w.heap.size w w' := by
  have Hg := hide hg
  clear hg
  go_enter Tryd.func31, Tryd.ntmps31
  go_wp2_with fail
  refine (good_any _ _).mono ?_
  rintro e w1 ⟨rfl, hb1⟩
  rw [show (ByteArray.mk l.toArray).data.toList = l from rfl, unhide Hg]
  go_wp2_with fail
  go_ret3
  exact ⟨rfl, hb1⟩

set_option maxRecDepth 10000 in
set_option maxHeartbeats 400000 in
theorem split_root (w : World) :
    Calls Tryd.prog 31 #[.string ⟨#[47]⟩] w fun e w' => e = .returned (.tuple #[.string ⟨#[]⟩, .string ⟨#[]⟩, .int .i64 7]) ∧ Below w.heap.size w w' := by
  go_enter Tryd.func31, Tryd.ntmps31
  go_wp2_with fail
  refine (good_any _ _).mono ?_
  rintro e w1 ⟨rfl, hb1⟩
  rw [show (ByteArray.mk #[47]).data.toList = [47] from rfl, goodB_root]
  go_wp2_with fail
  go_ret3
  exact ⟨rfl, hb1⟩

end Go.Proofs.YtmebfelofjgjhaaDoor

namespace Go.Proofs.YtmebfelofjgjhaaDoor
open Go.RowKit

/-- path.Split, at every text -/
theorem split_any (p : List UInt8) (w : World) :
    Calls Tryd.prog 31 #[.string ⟨p.toArray⟩] w fun e w' =>
      e = .returned (.tuple #[.string ⟨(dirOf p).toArray⟩, .string ⟨(stepOf p).toArray⟩, .int .i64 (splE p)]) ∧ Below w.heap.size w w' := by
  cases hg : goodB p with
  | false =>
    rw [dirOf_bad hg, stepOf_bad hg, splE_bad hg]
    exact split_bad p w hg
  | true =>
    by_cases hr : p = [47]
    · subst hr
      rw [dirOf_root, stepOf_root, splE_root]
      exact split_root w
    · obtain ⟨a, b, rfl, hb⟩ := good_cut hg
      rw [dirOf_cut hg hr hb, stepOf_cut hg hr hb, splE_ok hg hr]
      exact split_main a b w hb hg hr

set_option maxRecDepth 10000 in
set_option maxHeartbeats 400000 in
theorem ncmp_any (n : Nd) (p : List UInt8) (w : World) :
    Calls Tryd.prog 41 #[nodeV n, .string ⟨p.toArray⟩] w fun e w' => e = .returned (.int .i64 (Lib.compareBytes n.p p)) ∧ Below w.heap.size w w' := by
  unfold nodeV
  go_enter Tryd.func41, Tryd.ntmps41
  go_wp2_with fail
  refine (Tryd.strings_Compare _ _ _).mono ?_
  rintro e w1 ⟨rfl, rfl⟩
  go_wp2_with fail
  go_ret
  exact ⟨rfl, allocB _ _⟩

def headP (R : List Nd) (p : List UInt8) : Bool := match R with
  | [] => false
  | f :: _ => decide (f.p = p)
theorem nsplit_get (A R : List Nd) (p : List UInt8) (lo : ∀ a ∈ A, bl a.p p = true) (hi : ∀ a ∈ R, bl a.p p = false) (i : Nat) (h : i < A.length + R.length) : ∃ y, (A ++ R)[i]? = some y ∧ bl y.p p = decide (i < A.length) := by
  by_cases h1 : i < A.length
  · refine ⟨A[i], by rw [List.getElem?_append_left h1, List.getElem?_eq_getElem h1], ?_⟩
    rw [lo _ (List.getElem_mem h1)]; simp [h1]
  · have h2 : i - A.length < R.length := by omega
    refine ⟨R[i - A.length], by rw [List.getElem?_append_right (by omega), List.getElem?_eq_getElem h2], ?_⟩
    rw [hi _ (List.getElem_mem h2)]; simp [h1]

set_option maxRecDepth 20000 in
set_option maxHeartbeats 1000000 in
theorem nbsf_any (b off cap : Nat) (A R : List Nd) (p : List UInt8) (w : World) (hcap : A.length + R.length ≤ 100000) (hb : b < w.heap.size) (h : RowAt w b off (cellsL (A ++ R)))
    (lo : ∀ a ∈ A, bl a.p p = true) (hi : ∀ a ∈ R, bl a.p p = false) :
    Calls Tryd.prog 40 #[.slice (some ⟨b, off, none⟩) (A.length + R.length) cap, .string ⟨p.toArray⟩, .func (.func 41) #[] #[]] w fun e w' =>
      e = .returned (.tuple #[.int .i64 A.length, .bool (headP R p)]) ∧ Below w.heap.size w w' := by
  have H := hide h
  have SG := hide (nsplit_get A R p lo hi)
  obtain ⟨fin, hfin⟩ : ∃ x, headP R p = x := ⟨_, rfl⟩
  have HF := hide hfin
  rw [hfin]
  clear h hfin lo hi
  go_enter Tryd.func40, Tryd.ntmps40
  go_wp2_with fail
  go_loopg [9, 10] (A.length + R.length) (fun kx s9 s10 wr => ∃ lo hi : Nat, s9 = .int .i64 lo ∧ s10 = .int .i64 hi ∧ lo ≤ A.length ∧ A.length ≤ hi ∧ hi ≤ A.length + R.length ∧ hi - lo ≤ kx ∧ Hid (Below w.heap.size w wr))
  case atStart => exact ⟨0, A.length + R.length, rfl, rfl, Nat.zero_le _, by omega, Nat.le_refl _, by omega, hide (Below.refl _ _)⟩
  case round =>
    obtain ⟨lo, hi, rfl, rfl, h1, h2, h3, hg, hB⟩ := hrel
    by_cases hlt : lo < hi
    · obtain ⟨y, hy, hyn⟩ := unhide SG ((lo + hi) / 2) (by omega)
      have HY := hide hyn
      have r := (unhide H).kept (unhide hB) hb
      have e0 := r.n0 hy
      have e1 := r.n1 hy
      have e2 := r.n2 hy
      have e3 := r.n3 hy
      have e4 := r.n4 hy
      have e5 := r.n5 hy
      have e6 := r.n6 hy
      have e7 := r.n7 hy
      have e8 := r.n8 hy
      clear hyn hy r
      have hc := cmp_bl y.p p
      rw [unhide HY] at hc
      have CM := fun W => ncmp_any y p W
      generalize Lib.compareBytes y.p p = cv at hc CM
      by_cases hm : (lo + hi) / 2 < A.length
      · have hn : cv < 0 := by simpa [hm] using hc
        clear hc
        go_wp2_with fail
        refine (CM _).mono ?_
        rintro e w1 ⟨rfl, hb1⟩
        have hB2 : Below w.heap.size w w1 := (unhide hB).trans (hb1.mono (unhide hB).size)
        clear CM
        go_wp2_with fail
        go_roundg (hi - ((lo + hi) / 2 + 1))
        case measure => omega
        case rel => exact ⟨(lo + hi) / 2 + 1, hi, by rw [show ((lo : Int) + (hi : Int)) / 2 + 1 = (((lo + hi) / 2 + 1 : Nat) : Int) by omega], rfl, by omega, h2, h3, Nat.le_refl _, hide hB2⟩
      · have hn : ¬ cv < 0 := by simpa [hm] using hc
        clear hc
        go_wp2_with fail
        refine (CM _).mono ?_
        rintro e w1 ⟨rfl, hb1⟩
        have hB2 : Below w.heap.size w w1 := (unhide hB).trans (hb1.mono (unhide hB).size)
        clear CM
        go_wp2_with fail
        go_roundg ((lo + hi) / 2 - lo)
        case measure => omega
        case rel => exact ⟨lo, (lo + hi) / 2, rfl, by rw [show ((lo : Int) + (hi : Int)) / 2 = (((lo + hi) / 2 : Nat) : Int) by omega], h1, by omega, by omega, Nat.le_refl _, hide hB2⟩
    · obtain rfl : lo = A.length := by omega
      obtain rfl : hi = A.length := by omega
      cases R with
      | nil =>
        go_wp2_with fail
        go_ret2
        exact ⟨by rw [← unhide HF]; rfl, unhide hB⟩
      | cons f R =>
        have r := (unhide H).kept (unhide hB) hb
        have hy : (A ++ f :: R)[A.length]? = some f := by simp
        have e0 := r.n0 hy
        have e1 := r.n1 hy
        have e2 := r.n2 hy
        have e3 := r.n3 hy
        have e4 := r.n4 hy
        have e5 := r.n5 hy
        have e6 := r.n6 hy
        have e7 := r.n7 hy
        have e8 := r.n8 hy
        clear hy r
        have hc := cmp_zero f.p p
        have CM := fun W => ncmp_any f p W
        have hf : fin = decide (f.p = p) := (unhide HF).symm
        rw [← hc] at hf
        clear hc HF
        generalize Lib.compareBytes f.p p = cv at hf CM
        subst hf
        simp only [List.length_cons]
        go_wp2_with fail
        refine (CM _).mono ?_
        rintro e w1 ⟨rfl, hb1⟩
        have hB2 : Below w.heap.size w w1 := (unhide hB).trans (hb1.mono (unhide hB).size)
        clear CM
        go_wp2_with fail
        go_ret2
        exact ⟨by rfl, hB2⟩

set_option maxRecDepth 10000 in
set_option maxHeartbeats 400000 in
theorem nbsf_none (a : Option Addr) (cap : Nat) (p : List UInt8) (w : World) :
    Calls Tryd.prog 40 #[.slice a 0 cap, .string ⟨p.toArray⟩, .func (.func 41) #[] #[]] w fun e w' =>
      e = .returned (.tuple #[.int .i64 0, .bool false]) ∧ Below w.heap.size w w' := by
  go_enter Tryd.func40, Tryd.ntmps40
  go_wp2_with fail
  go_loopg [9, 10] 1 (fun _ s9 s10 wr => s9 = .int .i64 0 ∧ s10 = .int .i64 0 ∧ Hid (Below w.heap.size w wr))
  case atStart => exact ⟨rfl, rfl, hide (Below.refl _ _)⟩
  case round =>
    obtain ⟨rfl, rfl, hB⟩ := hrel
    go_wp2_with fail
    go_ret2
    exact ⟨rfl, unhide hB⟩

set_option maxRecDepth 10000 in
set_option maxHeartbeats 400000 in
theorem nfind_split (v : Value) (ns A R : List Nd) (p : List UInt8) (w : World) (hv : SeqV w v ns) (hl : ns.length ≤ 100000) (he : ns = A ++ R) (lo : ∀ a ∈ A, bl a.p p = true) (hi : ∀ a ∈ R, bl a.p p = false) :
    Calls Tryd.prog 28 #[v, .string ⟨p.toArray⟩] w fun e w' => e = .returned (.tuple #[.int .i64 A.length, .bool (headP R p)]) ∧ Below w.heap.size w w' := by
  have C : ∀ W : World, Below w.heap.size w W → Calls Tryd.prog 40 #[v, .string ⟨p.toArray⟩, .func (.func 41) #[] #[]] W fun e w' =>
      e = .returned (.tuple #[.int .i64 A.length, .bool (headP R p)]) ∧ Below W.heap.size W w' := fun W hW => by
    rcases hv with ⟨a, cap, rfl, h0, _⟩ | ⟨b, off, cap, rfl, _, _, hb, _, hr⟩
    · rw [h0] at he
      obtain ⟨rfl, rfl⟩ : A = [] ∧ R = [] := by
        have := congrArg List.length he
        simp at this
        exact ⟨List.eq_nil_of_length_eq_zero (by omega), List.eq_nil_of_length_eq_zero (by omega)⟩
      exact nbsf_none a cap p W
    · subst he
      rw [List.length_append]
      exact nbsf_any b off cap A R p W (by simpa using hl) (Nat.lt_of_lt_of_le hb hW.size) (hr.kept hW hb) lo hi
  have C' := hide C
  obtain ⟨a, c, rfl⟩ := seq_slice hv
  clear C hv hl he lo hi
  generalize headP R p = hd at C' ⊢
  go_enter Tryd.func28, Tryd.ntmps28
  go_wp2_with fail
  refine (unhide C' _ (Below.refl _ _)).mono ?_
  rintro e w1 ⟨rfl, hb1⟩
  go_wp2_with fail
  go_ret2
  exact ⟨rfl, hb1⟩
theorem nfind_there (v : Value) (ns A B : List Nd) (f : Nd) (p : List UInt8) (w : World) (hv : SeqV w v ns) (hl : ns.length ≤ 100000) (T : NThere ns A f B p) :
    Calls Tryd.prog 28 #[v, .string ⟨p.toArray⟩] w fun e w' => e = .returned (.tuple #[.int .i64 A.length, .bool true]) ∧ Below w.heap.size w w' := by
  have := nfind_split v ns A (f :: B) p w hv hl T.eq T.lo (fun a ha => by
    rcases List.mem_cons.1 ha with rfl | h
    · rw [T.nm]; exact bl_irrefl _
    · exact bl_asymm (T.hi a h))
  rwa [show headP (f :: B) p = true from by simp [headP, T.nm]] at this
theorem nfind_gap (v : Value) (ns A B : List Nd) (p : List UInt8) (w : World) (hv : SeqV w v ns) (hl : ns.length ≤ 100000) (G : NGap ns A B p) :
    Calls Tryd.prog 28 #[v, .string ⟨p.toArray⟩] w fun e w' => e = .returned (.tuple #[.int .i64 A.length, .bool false]) ∧ Below w.heap.size w w' := by
  have := nfind_split v ns A B p w hv hl G.eq G.lo (fun a ha => bl_asymm (G.hi a ha))
  rwa [show headP B p = false from by
    cases B with
    | nil => rfl
    | cons f B => have := bl_ne (G.hi f (by simp)); simp [headP, this.symm]] at this
/-- whatever it is -/
theorem nfind_any (v : Value) (ns : List Nd) (p : List UInt8) (w : World) (hv : SeqV w v ns) (hl : ns.length ≤ 100000) (ha : NAsc ns) :
    ∃ i : Nat, i ≤ ns.length ∧ Calls Tryd.prog 28 #[v, .string ⟨p.toArray⟩] w fun e w' => e = .returned (.tuple #[.int .i64 i, .bool (lookN ns p).isSome]) ∧ Below w.heap.size w w' := by
  rcases nwhere p ns ha with ⟨A, n, B, T⟩ | ⟨A, B, G⟩
  · rw [T.look]
    exact ⟨A.length, by rw [T.eq]; simp, nfind_there v ns A B n p w hv hl T⟩
  · rw [G.look]
    exact ⟨A.length, by rw [G.eq]; simp, nfind_gap v ns A B p w hv hl G⟩

/- numbers -/
set_option maxRecDepth 10000 in
set_option maxHeartbeats 400000 in
theorem cnan_any (x : Int) (w : World) : Calls Tryd.prog 61 #[.int .i64 x] w fun e w' => e = .returned (.bool false) ∧ w' = w := by
  go_enter Tryd.func61, Tryd.ntmps61
  go_wp2
  go_ret
  exact ⟨rfl, rfl⟩
set_option maxRecDepth 10000 in
set_option maxHeartbeats 400000 in
theorem snan_any (x : Int) (w : World) : Calls Tryd.prog 56 #[.int .i64 x] w fun e w' => e = .returned (.bool false) ∧ w' = w := by
  go_enter Tryd.func56, Tryd.ntmps56
  go_wp2
  go_ret
  exact ⟨rfl, rfl⟩
set_option maxRecDepth 10000 in
set_option maxHeartbeats 400000 in
theorem cless_any (x y : Int) (w : World) : Calls Tryd.prog 55 #[.int .i64 x, .int .i64 y] w fun e w' => e = .returned (.bool (decide (x < y))) ∧ w' = w := by
  go_enter Tryd.func55, Tryd.ntmps55
  go_wp2_with fail
  refine (cnan_any _ _).mono ?_
  rintro e w1 ⟨rfl, rfl⟩
  go_wp2_with fail
  go_ret
  exact ⟨rfl, rfl⟩

def headI (R : List Int) (s : Int) : Bool := match R with
  | [] => false
  | f :: _ => decide (f = s)
theorem isplit_get (A R : List Int) (s : Int) (lo : ∀ a ∈ A, a < s) (hi : ∀ a ∈ R, ¬ a < s) (i : Nat) (h : i < A.length + R.length) : ∃ y, (A ++ R)[i]? = some y ∧ decide (y < s) = decide (i < A.length) := by
  by_cases h1 : i < A.length
  · refine ⟨A[i], by rw [List.getElem?_append_left h1, List.getElem?_eq_getElem h1], ?_⟩
    simp [h1, lo _ (List.getElem_mem h1)]
  · have h2 : i - A.length < R.length := by omega
    refine ⟨R[i - A.length], by rw [List.getElem?_append_right (by omega), List.getElem?_eq_getElem h2], ?_⟩
    simp only [h1, hi _ (List.getElem_mem h2)]

set_option maxRecDepth 10000 in
set_option maxHeartbeats 1000000 in
theorem ibs_any (b off cap : Nat) (A R : List Int) (s : Int) (w : World) (hcap : A.length + R.length ≤ 281474976710656) (hb : b < w.heap.size) (h : RowAt w b off (cellsL (A ++ R)))
    (lo : ∀ a ∈ A, a < s) (hi : ∀ a ∈ R, ¬ a < s) :
    Calls Tryd.prog 45 #[.slice (some ⟨b, off, none⟩) (A.length + R.length) cap, .int .i64 s] w fun e w' =>
      e = .returned (.tuple #[.int .i64 A.length, .bool (headI R s)]) ∧ w' = w := by
  have H := hide h
  have SG := hide (isplit_get A R s lo hi)
  obtain ⟨fin, hfin⟩ : ∃ x, headI R s = x := ⟨_, rfl⟩
  have HF := hide hfin
  rw [hfin]
  clear h hfin lo hi
  go_enter Tryd.func45, Tryd.ntmps45
  go_wp2_with fail
  go_loopg [7, 8] (A.length + R.length) (fun kx s9 s10 wr => ∃ lo hi : Nat, s9 = .int .i64 lo ∧ s10 = .int .i64 hi ∧ lo ≤ A.length ∧ A.length ≤ hi ∧ hi ≤ A.length + R.length ∧ hi - lo ≤ kx ∧ wr = w)
  case atStart => exact ⟨0, A.length + R.length, rfl, rfl, Nat.zero_le _, by omega, Nat.le_refl _, by omega, rfl⟩
  case round =>
    obtain ⟨lo, hi, rfl, rfl, h1, h2, h3, hg, rfl⟩ := hrel
    by_cases hlt : lo < hi
    · obtain ⟨y, hy, hyn⟩ := unhide SG ((lo + hi) / 2) (by omega)
      have e0 := (unhide H).i0 hy
      clear hy
      have CM := fun W => cless_any y s W
      rw [hyn] at CM
      clear hyn
      by_cases hm : (lo + hi) / 2 < A.length
      · simp only [hm, decide_true] at CM
        go_wp2_with fail
        refine (CM _).mono ?_
        rintro e w1 ⟨rfl, rfl⟩
        clear CM
        go_wp2_with fail
        go_roundg (hi - ((lo + hi) / 2 + 1))
        case measure => omega
        case rel => exact ⟨(lo + hi) / 2 + 1, hi, by rw [show ((lo : Int) + (hi : Int)) / 2 + 1 = (((lo + hi) / 2 + 1 : Nat) : Int) by omega], rfl, by omega, h2, h3, Nat.le_refl _, rfl⟩
      · simp only [hm, decide_false] at CM
        go_wp2_with fail
        refine (CM _).mono ?_
        rintro e w1 ⟨rfl, rfl⟩
        clear CM
        go_wp2_with fail
        go_roundg ((lo + hi) / 2 - lo)
        case measure => omega
        case rel => exact ⟨lo, (lo + hi) / 2, rfl, by rw [show ((lo : Int) + (hi : Int)) / 2 = (((lo + hi) / 2 : Nat) : Int) by omega], h1, by omega, by omega, Nat.le_refl _, rfl⟩
    · obtain rfl : lo = A.length := by omega
      obtain rfl : hi = A.length := by omega
      cases R with
      | nil =>
        go_wp2_with fail
        go_ret2
        exact ⟨by rw [← unhide HF]; rfl, rfl⟩
      | cons f R =>
        have e0 := (unhide H).i0 (show (A ++ f :: R)[A.length]? = some f by simp)
        have hf : decide (f = s) = fin := unhide HF
        clear HF
        simp only [List.length_cons]
        by_cases hfs : f = s
        · subst hfs
          simp only [decide_true] at hf
          subst hf
          go_wp2_with fail
          go_ret2
          exact ⟨rfl, rfl⟩
        · simp only [hfs, decide_false] at hf
          subst hf
          have hq : (f == s) = false := by simpa using hfs
          clear hfs
          go_wp2_with fail
          refine (snan_any _ _).mono ?_
          rintro e w1 ⟨rfl, rfl⟩
          go_wp2_with fail
          go_ret2
          exact ⟨rfl, rfl⟩

set_option maxRecDepth 10000 in
set_option maxHeartbeats 400000 in
theorem ibs_none (a : Option Addr) (cap : Nat) (s : Int) (w : World) :
    Calls Tryd.prog 45 #[.slice a 0 cap, .int .i64 s] w fun e w' => e = .returned (.tuple #[.int .i64 0, .bool false]) ∧ w' = w := by
  go_enter Tryd.func45, Tryd.ntmps45
  go_wp2_with fail
  go_loopg [7, 8] 1 (fun _ s9 s10 wr => s9 = .int .i64 0 ∧ s10 = .int .i64 0 ∧ wr = w)
  case atStart => exact ⟨rfl, rfl, rfl⟩
  case round =>
    obtain ⟨rfl, rfl, rfl⟩ := hrel
    go_wp2_with fail
    go_ret2
    exact ⟨rfl, rfl⟩

theorem ibs_split (v : Value) (ss A R : List Int) (s : Int) (w : World) (hv : SeqV w v ss) (hl : ss.length ≤ 2147483647) (he : ss = A ++ R) (lo : ∀ a ∈ A, a < s) (hi : ∀ a ∈ R, ¬ a < s) :
    Calls Tryd.prog 45 #[v, .int .i64 s] w fun e w' => e = .returned (.tuple #[.int .i64 A.length, .bool (headI R s)]) ∧ w' = w := by
  rcases hv with ⟨a, cap, rfl, h0, _⟩ | ⟨b, off, cap, rfl, _, _, hb, _, hr⟩
  · rw [h0] at he
    obtain ⟨rfl, rfl⟩ : A = [] ∧ R = [] := by
      have := congrArg List.length he
      simp at this
      exact ⟨List.eq_nil_of_length_eq_zero (by omega), List.eq_nil_of_length_eq_zero (by omega)⟩
    exact ibs_none a cap s w
  · subst he
    rw [List.length_append]
    exact ibs_any b off cap A R s w (by simp at hl; omega) hb hr lo hi
theorem ibs_there (v : Value) (ss A B : List Int) (s : Int) (w : World) (hv : SeqV w v ss) (hl : ss.length ≤ 2147483647) (T : SThere ss A B s) :
    Calls Tryd.prog 45 #[v, .int .i64 s] w fun e w' => e = .returned (.tuple #[.int .i64 A.length, .bool true]) ∧ w' = w := by
  have := ibs_split v ss A (s :: B) s w hv hl T.eq T.lo (fun a ha => by
    rcases List.mem_cons.1 ha with rfl | h
    · omega
    · have := T.hi a h; omega)
  rwa [show headI (s :: B) s = true from by simp [headI]] at this
theorem ibs_gap (v : Value) (ss A B : List Int) (s : Int) (w : World) (hv : SeqV w v ss) (hl : ss.length ≤ 2147483647) (G : SGap ss A B s) :
    Calls Tryd.prog 45 #[v, .int .i64 s] w fun e w' => e = .returned (.tuple #[.int .i64 A.length, .bool false]) ∧ w' = w := by
  have := ibs_split v ss A B s w hv hl G.eq G.lo (fun a ha => by have := G.hi a ha; omega)
  rwa [show headI B s = false from by
    cases B with
    | nil => rfl
    | cons f B => exact decide_eq_false (by have := G.hi f (by simp); omega)] at this

set_option maxRecDepth 10000 in
set_option maxHeartbeats 400000 in
theorem topen_any (z : Int) (vn vs : Value) (ss : List Int) (s : Int) (w : World) (hv : SeqV w vs ss) (hs : SAsc ss) :
    Calls Tryd.prog 32 #[.agg #[.int .i64 z, vn, vs], .int .i64 s] w fun e w' => e = .returned (.bool (decide (s ∈ ss))) ∧ Below w.heap.size w w' := by
  have C : ∀ W : World, Below w.heap.size w W → ∃ i : Nat, Calls Tryd.prog 45 #[vs, .int .i64 s] W fun e w' => e = .returned (.tuple #[.int .i64 i, .bool (decide (s ∈ ss))]) ∧ w' = W := fun W hW => by
    rcases swhere s ss hs.1 with ⟨A, B, T⟩ | ⟨A, B, G⟩
    · rw [show decide (s ∈ ss) = true from decide_eq_true T.mem]
      exact ⟨A.length, ibs_there vs ss A B s W (hv.next hW) (sasc_len hs) T⟩
    · rw [show decide (s ∈ ss) = false from decide_eq_false G.not]
      exact ⟨A.length, ibs_gap vs ss A B s W (hv.next hW) (sasc_len hs) G⟩
  have C' := hide C
  obtain ⟨a, c, rfl⟩ := seq_slice hv
  clear C hv hs
  generalize decide (s ∈ ss) = hd at C' ⊢
  generalize ss.length = n at C' ⊢
  go_enter Tryd.func32, Tryd.ntmps32
  go_wp2_with fail
  obtain ⟨i, C2⟩ := unhide C' _ (allocB _ _)
  refine C2.mono ?_
  rintro e w1 ⟨rfl, rfl⟩
  go_wp2_with fail
  go_ret
  exact ⟨rfl, allocB _ _⟩

end Go.Proofs.YtmebfelofjgjhaaDoor

namespace Go.Proofs.YtmebfelofjgjhaaDoor
open Go.RowKit

theorem ninfo0 : (Tryd.prog.info? 40).map (fun i => (i.zero, i.size, i.bytes)) = some (some (.agg #[.string ⟨#[]⟩, .string ⟨#[]⟩, .int .i64 0, .int .i64 0, .int .i64 0, .int .i64 0, .int .i64 0, .int .i64 0, .int .i64 0]), 9, 88) := by kernel_rfl
theorem ninfo : ∃ i0, Tryd.prog.info? 40 = some i0 ∧ i0.zero = some (.agg #[.string ⟨#[]⟩, .string ⟨#[]⟩, .int .i64 0, .int .i64 0, .int .i64 0, .int .i64 0, .int .i64 0, .int .i64 0, .int .i64 0]) ∧ i0.size = 9 ∧ i0.bytes = 88 := by
  obtain ⟨i0, h, e⟩ := Option.map_eq_some_iff.1 ninfo0
  simp only [Prod.mk.injEq] at e
  exact ⟨i0, h, e⟩

end Go.Proofs.YtmebfelofjgjhaaDoor

namespace Go.Proofs.YtmebfelofjgjhaaDoor
open Go.RowKit

theorem iinfo0 : (Tryd.prog.info? 3).map (fun i => (i.zero, i.size, i.bytes)) = some (some (.int .i64 0), 1, 8) := by kernel_rfl
theorem iinfo : ∃ i0, Tryd.prog.info? 3 = some i0 ∧ i0.zero = some (.int .i64 0) ∧ i0.size = 1 ∧ i0.bytes = 8 := by
  obtain ⟨i0, h, e⟩ := Option.map_eq_some_iff.1 iinfo0
  simp only [Prod.mk.injEq] at e
  exact ⟨i0, h, e⟩

end Go.Proofs.YtmebfelofjgjhaaDoor

namespace Go.Proofs.YtmebfelofjgjhaaDoor
open Go.RowKit

theorem GoodN.mono {z z' : Int} {ns : List Nd} {ss : List Int} (g : GoodN z ns ss) (h : z ≤ z') : GoodN z' ns ss :=
  ⟨g.few, g.root, g.asc, fun n hn => by
    have k := g.ok n hn
    have := k.mz
    have := k.qz
    exact ⟨k.data, k.path, k.up, k.c0, k.cm, k.cq, by omega, by omega, k.v0, k.v1, k.k0, k.kids, k.own⟩⟩
/- a change that leaves all paths -/
/- a node goes -/
/- a node comes -/
/- a node is set -/
end Go.Proofs.YtmebfelofjgjhaaDoor

namespace Go.Proofs.YtmebfelofjgjhaaDoor
open Go.RowKit

theorem zret_bool {a b : Bool} (h : a = b) : Ending.returned (.bool a) = .returned (.bool b) := by rw [h]

set_option maxRecDepth 10000 in
set_option maxHeartbeats 400000 in
theorem zgood_any (z : Int) (w : World) :
    Calls Tryd.prog 13 #[.int .i64 z] w fun e w' => e = .returned (.bool (zGood z)) ∧ w' = w := by
  go_enter Tryd.func13, Tryd.ntmps13
  go_wp2
  go_ret
  exact ⟨zret_bool (by rw [Bool.eq_iff_iff, zGood_iff, beq_iff_eq]; omega), rfl⟩

end Go.Proofs.YtmebfelofjgjhaaDoor
