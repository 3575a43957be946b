/-
  How lists of elements lie in memory, whatever these are: rows of cells, so many each; a row of the call's own; runs of cells stored into it; what stays when other memory turns.
  Transactions as laid elements.
  How lists of peers and lists of logs lie in memory.
  Appends of one element to a row of the call's own, copies of a log; rows of other elements stay.
  aviarylaw.peers: the walk.
  What wal.Last and wal.follows answer: the walks.
  What aviaryref.Last answers: the walk.
  What zxid.Good answers, for every number: the walk.
  What zxid's functions on numbers answer, for every number: the walks.
  What zxid.Next and zxid.Begin answer, for every number: the walks.
  What aviaryref.GoodZxid answers, for every number: the walk.
  What aviaryref.GoodZxid, Epoch and Count answer, for every number: the walks.
  What aviaryref.Make, Next and Begin answer, for every number: the walks.
  zab.Next and aviaryref.NextOf: the walks.
  The law ZabNexts: the walk.
  A peer, lists of peers and lists of logs, as arguments: opened; what their weights say of their lengths.
-/
import Derived.Test.YtijpnmponjjejaaZXA
import Derived.Lib.QuietBelow
import Derived.Deep.AppendLies
import Derived.Deep.RegionHeld3
import Derived.Deep.CutRange
import Derived.Deep.Cut
import Derived.Test.YtijpnmponjjejaaRows
import Derived.WalkSpells
import Derived.WalkLawsBesides
import Derived.Deep.RegionLaw
import Derived.Deep.LoopGhost
import Derived.WalkKit
import Derived.BigQuiet
import Derived.ProofKit
import Derived.OpenShut
import Derived.SizedLaws
import Derived.Deep.Slices
import Derived.Carry
namespace Go.Proofs.Ytijpnmponjjejaa
open Go.RowKit

/-- how one element lies -/
class Lay (α : Type) where
  k : Nat
  cs : α → List Value
  ty : TypeId
  len : ∀ x, (cs x).length = k
  one : ∀ x, ∀ u ∈ cs x, u.oneCell' = true
def ecells (e : Ev) : List Value := [.int .i64 e.k, .string ⟨e.p.toArray⟩]
def evV (e : Ev) : Value := .agg #[.int .i64 e.k, .string ⟨e.p.toArray⟩]
instance layI : Lay Int := ⟨1, fun x => [.int .i64 x], 3, fun _ => rfl, fun x u hu => by simp at hu; subst hu; rfl⟩
instance layS : Lay (List UInt8) := ⟨1, fun x => [.string ⟨x.toArray⟩], 9, fun _ => rfl, fun x u hu => by simp at hu; subst hu; rfl⟩


section
variable {α : Type} [Lay α]
def cellsL (xs : List α) : List Value := xs.flatMap Lay.cs
theorem cellsL_nil : cellsL ([] : List α) = [] := rfl
theorem cellsL_cons (x : α) (r : List α) : cellsL (x :: r) = Lay.cs x ++ cellsL r := by simp [cellsL]
theorem cellsL_length (xs : List α) : (cellsL xs).length = xs.length * Lay.k α := by
  induction xs with
  | nil => simp [cellsL]
  | cons x r ih => rw [cellsL_cons, List.length_append, Lay.len, ih, List.length_cons, Nat.add_mul]; omega
theorem cellsL_append (a b : List α) : cellsL (a ++ b) = cellsL a ++ cellsL b := by simp [cellsL]
theorem cellsL_snoc (a : List α) (x : α) : cellsL (a ++ [x]) = cellsL a ++ Lay.cs x := by simp [cellsL]
theorem cellsL_at (A : List α) (x : α) (B : List α) (c : Nat) (hc : c < Lay.k α) : (cellsL (A ++ x :: B))[A.length * Lay.k α + c]? = (Lay.cs x)[c]? := by
  rw [cellsL_append, List.getElem?_append_right (by rw [cellsL_length]; omega), cellsL_length, Nat.add_sub_cancel_left, cellsL_cons, List.getElem?_append_left (by rw [Lay.len]; exact hc)]
theorem cellsL_get (xs : List α) (i : Nat) (x : α) (h : xs[i]? = some x) (c : Nat) (hc : c < Lay.k α) : (cellsL xs)[i * Lay.k α + c]? = (Lay.cs x)[c]? := by
  obtain ⟨hi, rfl⟩ := List.getElem?_eq_some_iff.1 h
  have e : xs = xs.take i ++ xs[i] :: xs.drop (i + 1) := by simp
  have := cellsL_at (xs.take i) xs[i] (xs.drop (i + 1)) c hc
  rw [← e, List.length_take, Nat.min_eq_left (Nat.le_of_lt hi)] at this
  exact this
theorem cellsL_one (xs : List α) : ∀ u ∈ cellsL xs, u.oneCell' = true := by
  intro u hu
  obtain ⟨x, _, hx⟩ := List.mem_flatMap.1 hu
  exact Lay.one x u hx
theorem cellsL_set (A : List α) (x y : α) (B : List α) (c : Nat) (v : Value) (hc : c < Lay.k α) (hy : Lay.cs y = (Lay.cs x).set c v) : (cellsL (A ++ x :: B)).set (A.length * Lay.k α + c) v = cellsL (A ++ y :: B) := by
  rw [cellsL_append, cellsL_append, List.set_append_right _ _ (by rw [cellsL_length]; omega), cellsL_length, Nat.add_sub_cancel_left, cellsL_cons, cellsL_cons, List.set_append_left _ _ (by rw [Lay.len]; exact hc), hy]

/-- the value holds these -/
def SeqV (w : World) (v : Value) (xs : List α) : Prop :=
  (∃ a cap, v = .slice a 0 cap ∧ xs = [] ∧ cap ≤ maxLen) ∨
  ∃ b off cap, v = .slice (some ⟨b, off, none⟩) xs.length cap ∧ xs.length ≤ cap ∧ cap ≤ maxLen ∧ b < w.heap.size ∧ xs ≠ [] ∧ RowAt w b off (cellsL xs)
theorem SeqV.kept {w w' : World} {B : Nat} {v : Value} {xs : List α} (h : SeqV w v xs) (hb : Below B w w') (hB : w.heap.size ≤ B) : SeqV w' v xs := by
  rcases h with h | ⟨b, off, cap, rfl, h1, h2, h3, h0, h4⟩
  · exact .inl h
  · exact .inr ⟨b, off, cap, rfl, h1, h2, Nat.lt_of_lt_of_le h3 hb.size, h0, h4.kept hb (Nat.lt_of_lt_of_le h3 hB)⟩
theorem SeqV.next {w w' : World} {v : Value} {xs : List α} (h : SeqV w v xs) (hb : Below w.heap.size w w') : SeqV w' v xs := h.kept hb (Nat.le_refl _)
theorem SeqV.alloc {w : World} {v : Value} {xs : List α} (h : SeqV w v xs) (o : Obj) : SeqV (w.alloc o) v xs := h.next ((Below.refl _ _).alloc (Nat.le_refl _) o)
theorem SeqV.nil (w : World) : SeqV w (.slice none 0 0) ([] : List α) := .inl ⟨none, 0, rfl, rfl, by decide⟩
theorem seq_slice {w : World} {v : Value} {xs : List α} (hv : SeqV w v xs) : ∃ a c, v = .slice a xs.length c := by
  rcases hv with ⟨a, cap, rfl, rfl, _⟩ | ⟨b, off, cap, rfl, _⟩
  · exact ⟨_, _, rfl⟩
  · exact ⟨_, _, rfl⟩
theorem seq_row {w : World} {v : Value} {xs : List α} (hv : SeqV w v xs) (h0 : xs ≠ []) :
    ∃ b off cap, v = .slice (some ⟨b, off, none⟩) xs.length cap ∧ b < w.heap.size ∧ RowAt w b off (cellsL xs) ∧ xs.length ≤ cap ∧ cap ≤ maxLen := by
  rcases hv with ⟨a, cap, rfl, rfl, _⟩ | ⟨b, off, cap, rfl, h1, h2, hb, _, hr⟩
  · exact absurd rfl h0
  · exact ⟨b, off, cap, rfl, hb, hr, h1, h2⟩

/-- block g is a row of the call's own with these at its head -/
def OwnR (W : World) (g cap : Nat) (xs : List α) : Prop := ∃ rest : List Value, W.heap[g]? = some (.cells (cellsL xs ++ rest).toArray (Lay.ty α) (0, 0)) ∧ xs.length * Lay.k α + rest.length = cap * Lay.k α ∧ xs.length ≤ cap ∧ cap ≤ maxLen
theorem OwnR.lt {W : World} {g cap : Nat} {xs : List α} (h : OwnR W g cap xs) : g < W.heap.size := by
  obtain ⟨rest, h1, _⟩ := h
  exact (Array.getElem?_eq_some_iff.1 h1).1
theorem OwnR.le {W : World} {g cap : Nat} {xs : List α} (h : OwnR W g cap xs) : xs.length ≤ cap := by obtain ⟨rest, _, _, h2, _⟩ := h; exact h2
theorem OwnR.capLe {W : World} {g cap : Nat} {xs : List α} (h : OwnR W g cap xs) : cap ≤ maxLen := by obtain ⟨rest, _, _, _, h3⟩ := h; exact h3
theorem OwnR.row {W : World} {g cap : Nat} {xs : List α} (h : OwnR W g cap xs) : RowAt W g 0 (cellsL xs) := by
  obtain ⟨rest, h1, _⟩ := h
  intro j v hj
  have hlt : j < (cellsL xs).length := (List.getElem?_eq_some_iff.1 hj).1
  simp [World.cell?, h1, List.getElem?_append_left hlt, hj]
theorem OwnR.frozen {W : World} {g cap : Nat} {xs : List α} (h : OwnR W g cap xs) (j : Nat) : W.frozen? ⟨g, j, none⟩ = false := by
  obtain ⟨rest, h1, _⟩ := h
  simp [World.frozen?, h1]
theorem OwnR.kept {W V : World} {g B cap : Nat} {xs : List α} (h : OwnR W g cap xs) (hb : Below B W V) (hg : g < B) : OwnR V g cap xs := by
  obtain ⟨rest, h1, h2⟩ := h
  exact ⟨rest, (hb.block _ hg).trans h1, h2⟩
theorem OwnR.next {W V : World} {g cap : Nat} {xs : List α} (h : OwnR W g cap xs) (hb : Below W.heap.size W V) : OwnR V g cap xs := h.kept hb h.lt
theorem OwnR.other {W : World} {g cap : Nat} {xs : List α} (h : OwnR W g cap xs) {a : Addr} (ha : g ≠ a.block) (v : Value) : OwnR (W.setCell a v) g cap xs := by
  obtain ⟨rest, h1, h2⟩ := h
  exact ⟨rest, (Below.heap_setCell W a v g ha).trans h1, h2⟩
theorem OwnR.set {W : World} {g cap : Nat} {A B : List α} {x y : α} (h : OwnR W g cap (A ++ x :: B)) {c : Nat} (hc : c < Lay.k α) {v : Value} (hy : Lay.cs y = (Lay.cs x).set c v) : OwnR (W.setCell ⟨g, A.length * Lay.k α + c, none⟩ v) g cap (A ++ y :: B) := by
  obtain ⟨rest, h1, h2, h3⟩ := h
  refine ⟨rest, ?_, by simpa using h2, by simpa using h3⟩
  rw [block_set v h1, ← cellsL_set A x y B c v hc hy]
  have hlt : A.length * Lay.k α + c < (cellsL (A ++ x :: B)).length := by
    rw [cellsL_length]; simp [Nat.add_mul]; omega
  simp [List.set_append_left _ _ hlt]

/-- a value that holds these in a row of the call's own, at or behind block B -/
def OwnS (W : World) (B : Nat) (v : Value) (xs : List α) : Prop := (v = .slice none 0 0 ∧ xs = []) ∨ ∃ g cap, v = .slice (some ⟨g, 0, none⟩) xs.length cap ∧ B ≤ g ∧ OwnR W g cap xs
theorem OwnS.seq {W : World} {B : Nat} {v : Value} {xs : List α} (h : OwnS W B v xs) : SeqV W v xs := by
  rcases h with ⟨rfl, rfl⟩ | ⟨g, cap, rfl, _, h⟩
  · exact SeqV.nil W
  · by_cases h0 : xs = []
    · subst h0; exact .inl ⟨_, cap, rfl, rfl, h.capLe⟩
    · exact .inr ⟨g, 0, cap, rfl, h.le, h.capLe, h.lt, h0, h.row⟩
theorem OwnS.kept {W V : World} {B C : Nat} {v : Value} {xs : List α} (h : OwnS W B v xs) (hb : Below C W V) (hC : W.heap.size ≤ C) : OwnS V B v xs := by
  rcases h with h | ⟨g, cap, rfl, hB, h⟩
  · exact .inl h
  · exact .inr ⟨g, cap, rfl, hB, h.kept hb (Nat.lt_of_lt_of_le h.lt hC)⟩
theorem OwnS.next {W V : World} {B : Nat} {v : Value} {xs : List α} (h : OwnS W B v xs) (hb : Below W.heap.size W V) : OwnS V B v xs := h.kept hb (Nat.le_refl _)
theorem OwnS.other {W : World} {B : Nat} {v : Value} {xs : List α} (h : OwnS W B v xs) {a : Addr} (ha : v.ownBlock ≠ some a.block) (u : Value) : OwnS (W.setCell a u) B v xs := by
  rcases h with h | ⟨g, cap, rfl, hB, h⟩
  · exact .inl h
  · exact .inr ⟨g, cap, rfl, hB, h.other (by intro e; apply ha; simp [Value.ownBlock, e]) u⟩
theorem OwnS.lower {W : World} {B C : Nat} {v : Value} {xs : List α} (h : OwnS W B v xs) (hC : C ≤ B) : OwnS W C v xs := by
  rcases h with h | ⟨g, cap, rfl, hB, h⟩
  · exact .inl h
  · exact .inr ⟨g, cap, rfl, Nat.le_trans hC hB, h⟩
theorem OwnS.of_row {W : World} {B : Nat} {v : Value} {xs : List α} (h : W.ownsRow B (Lay.ty α) (Lay.k α) v xs.length (cellsL xs)) : OwnS W B v xs := by
  obtain ⟨_, ⟨rfl, h0⟩ | ⟨g, cap, cur, rfl, hB, hg, hn, hm, hs, ht⟩⟩ := h
  · exact .inl ⟨rfl, List.eq_nil_of_length_eq_zero h0⟩
  · refine .inr ⟨g, cap, rfl, hB, cur.toList.drop (xs.length * Lay.k α), ?_, ?_, hn, hm⟩
    · rw [hg, ← ht, List.take_append_drop]
    · have := Nat.mul_le_mul_right (Lay.k α) hn
      simp [hs]; omega
theorem OwnS.row {W : World} {B : Nat} {v : Value} {xs : List α} (h : OwnS W B v xs) : W.ownsRow B (Lay.ty α) (Lay.k α) v xs.length (cellsL xs) := by
  refine ⟨cellsL_length xs, ?_⟩
  rcases h with ⟨rfl, rfl⟩ | ⟨g, cap, rfl, hB, h⟩
  · exact .inl ⟨rfl, rfl⟩
  · obtain ⟨rest, h1, h2, hle, h3⟩ := h
    refine .inr ⟨g, cap, _, rfl, hB, h1, hle, h3, by simp [cellsL_length, h2], ?_⟩
    simp [← cellsL_length xs]
theorem OwnS.slice {W : World} {B : Nat} {v : Value} {xs : List α} (h : OwnS W B v xs) : ∃ a c, v = .slice a xs.length c ∧ c ≤ maxLen := by
  rcases h with ⟨rfl, rfl⟩ | ⟨g, cap, rfl, _, h⟩
  · exact ⟨none, 0, rfl, by decide⟩
  · exact ⟨_, _, rfl, h.capLe⟩
end


theorem RowAt.i0 {w : World} {b off : Nat} {xs : List Int} (h : RowAt w b off (cellsL xs)) {i : Nat} {x : Int} (hi : xs[i]? = some x) : w.cell? ⟨b, off + i, none⟩ = some (.int .i64 x) :=
  h i _ (by have := cellsL_get xs i x hi 0 (by decide); simpa [Lay.k, Lay.cs] using this)
theorem RowAt.s0 {w : World} {b off : Nat} {xs : List (List UInt8)} (h : RowAt w b off (cellsL xs)) {i : Nat} {x : List UInt8} (hi : xs[i]? = some x) : w.cell? ⟨b, off + i, none⟩ = some (.string ⟨x.toArray⟩) :=
  h i _ (by have := cellsL_get xs i x hi 0 (by decide); simpa [Lay.k, Lay.cs] using this)
theorem nbox_then {w : World} {o : Obj} {w1 : World} (h : Below (w.alloc o).heap.size (w.alloc o) w1) : Below w.heap.size w w1 :=
  ((Below.refl _ _).alloc (Nat.le_refl _) _).trans (h.mono (by simp))
theorem nnext {w W V : World} (h : Below w.heap.size w W) (h' : Below W.heap.size W V) : Below w.heap.size w V := h.trans (h'.mono h.size)
theorem allocB (w : World) (o : Obj) : Below w.heap.size w (w.alloc o) := (Below.refl _ _).alloc (Nat.le_refl _) _

theorem ngrown_set {w : World} {g j : Nat} (v : Value) : w.grownBy (w.setCell ⟨g, j, none⟩ v) (some g) := ⟨rfl, rfl, rfl, by simp [World.setCell], fun k _ hne => Below.heap_setCell w ⟨g, j, none⟩ v k (fun e => hne (by rw [e]))⟩
theorem ngrown_drew {w w' : World} {r : Option Nat} (h : w.grownBy w' r) : w.grownBy w'.drew r := ⟨h.os, h.tape, h.output, h.size, h.block⟩
theorem ngrown_trans {w w' w'' : World} {g : Nat} (h : w.grownBy w' (some g)) (h' : w'.grownBy w'' (some g)) : w.grownBy w'' (some g) :=
  ⟨h'.os.trans h.os, h'.tape.trans h.tape, h'.output.trans h.output, Nat.le_trans h.size h'.size, fun k hk hne => (h'.block k (Nat.lt_of_lt_of_le hk h.size) hne).trans (h.block k hk hne)⟩
theorem nblock_setCells {g : Nat} {t : TypeId} {fz : Nat × Nat} : ∀ (vs : List Value) (o : Nat) (w : World) (l : List Value), w.heap[g]? = some (.cells l.toArray t fz) → o + vs.length ≤ l.length →
    (w.setCells g o vs).heap[g]? = some (.cells (l.take o ++ vs ++ l.drop (o + vs.length)).toArray t fz)
  | [], o, w, l, h, _ => by simpa [World.setCells] using h
  | v :: r, o, w, l, h, hl => by
    have h1 : (w.setCell ⟨g, o, none⟩ v).heap[g]? = some (.cells (l.set o v).toArray t fz) := by rw [block_set v h]; simp
    rw [World.setCells, nblock_setCells r (o + 1) _ _ h1 (by simp at hl ⊢; omega)]
    have ho : o < l.length := by simp at hl; omega
    have e1 : (l.set o v).take (o + 1) = l.take o ++ [v] := by
      rw [List.take_set, List.take_succ_eq_append_getElem ho, List.set_append_right _ _ (by simp; omega)]
      simp [Nat.min_eq_left (Nat.le_of_lt ho)]
    have e2 : (l.set o v).drop (o + 1 + r.length) = l.drop (o + (r.length + 1)) := by
      rw [List.drop_set_of_lt (by omega)]; congr 1; omega
    rw [e1, e2]
    simp
theorem ngrown_setCells {g : Nat} : ∀ (vs : List Value) (o : Nat) (w : World), w.grownBy (w.setCells g o vs) (some g)
  | [], _, _ => ⟨rfl, rfl, rfl, Nat.le_refl _, fun _ _ _ => rfl⟩
  | v :: r, o, _ => ngrown_trans (ngrown_set v) (ngrown_setCells r (o + 1) _)

section
variable {α : Type} [Lay α]
theorem OwnR.splice {W : World} {g cap : Nat} {pre tl : List α} (h : OwnR W g cap (pre ++ tl)) (new : List α) (hfit : pre.length + new.length ≤ cap) : OwnR (W.setCells g (pre.length * Lay.k α) (cellsL new)) g cap (pre ++ new) := by
  obtain ⟨rest, h1, h2, h4, h3⟩ := h
  have hlen : (cellsL (pre ++ tl) ++ rest).length = cap * Lay.k α := by rw [List.length_append, cellsL_length]; exact h2
  have hf : pre.length * Lay.k α + new.length * Lay.k α ≤ cap * Lay.k α := by rw [← Nat.add_mul]; exact Nat.mul_le_mul_right _ hfit
  refine ⟨(cellsL (pre ++ tl) ++ rest).drop (pre.length * Lay.k α + (cellsL new).length), ?_, ?_, by simpa using hfit, h3⟩
  · rw [nblock_setCells (cellsL new) (pre.length * Lay.k α) W _ h1 (by rw [hlen, cellsL_length]; omega), cellsL_append pre new]
    congr 3
    have e : cellsL (pre ++ tl) ++ rest = cellsL pre ++ (cellsL tl ++ rest) := by rw [cellsL_append, List.append_assoc]
    rw [e, ← cellsL_length pre, List.take_left]
  · rw [List.length_drop, hlen, cellsL_length, List.length_append, Nat.add_mul]; omega
theorem OwnR.spare {W : World} {g cap : Nat} {fs : List α} (h : OwnR W g cap fs) (vs : List Value) (o : Nat) (ho : fs.length * Lay.k α ≤ o) (hfit : o + vs.length ≤ cap * Lay.k α) : OwnR (W.setCells g o vs) g cap fs := by
  obtain ⟨rest, h1, h2, h4, h3⟩ := h
  have hlen : (cellsL fs ++ rest).length = cap * Lay.k α := by rw [List.length_append, cellsL_length]; exact h2
  have hc := cellsL_length fs
  refine ⟨rest.take (o - fs.length * Lay.k α) ++ vs ++ (cellsL fs ++ rest).drop (o + vs.length), ?_, ?_, h4, h3⟩
  · rw [nblock_setCells vs o W _ h1 (by rw [hlen]; omega)]
    congr 2
    rw [List.take_append, List.take_of_length_le (by omega), hc]
    simp only [List.append_assoc]
  · simp only [List.length_append, List.length_take, List.length_drop, hc]
    omega
theorem OwnR.swap1 {W : World} {g cap : Nat} {A B : List α} {y : α} (h : OwnR W g cap (A ++ y :: B)) (x : α) : OwnR (W.setCells g (A.length * Lay.k α) (Lay.cs x)) g cap (A ++ x :: B) := by
  obtain ⟨rest, h1, h2, h4, h3⟩ := h
  have hlen : (cellsL (A ++ y :: B) ++ rest).length = cap * Lay.k α := by rw [List.length_append, cellsL_length]; exact h2
  refine ⟨rest, ?_, by simpa using h2, by simpa using h4, h3⟩
  have hA := cellsL_length A
  have hx3 : (Lay.cs x).length = Lay.k α := Lay.len x
  have hy3 : (Lay.cs y).length = Lay.k α := Lay.len y
  rw [nblock_setCells (Lay.cs x) (A.length * Lay.k α) W _ h1 (by rw [hlen, hx3]; simp [Nat.add_mul] at h2; omega)]
  have e : cellsL (A ++ y :: B) ++ rest = cellsL A ++ (Lay.cs y ++ (cellsL B ++ rest)) := by simp [cellsL_append, cellsL_cons]
  have e' : cellsL (A ++ x :: B) ++ rest = cellsL A ++ (Lay.cs x ++ (cellsL B ++ rest)) := by simp [cellsL_append, cellsL_cons]
  rw [e, e']
  congr 2
  rw [hx3, ← hA, List.take_left, show (cellsL A).length + Lay.k α = (cellsL A ++ Lay.cs y).length by rw [List.length_append, hy3], ← List.append_assoc (cellsL A) (Lay.cs y), List.drop_left, List.append_assoc]
theorem OwnR.some {W : World} {g cap : Nat} {fs : List α} (h : OwnR W g cap fs) {j : Nat} (hj : j < cap * Lay.k α) : (W.cell? ⟨g, j, none⟩).isSome = true := by
  obtain ⟨rest, h1, h2, _⟩ := h
  have hl : j < (cellsL fs ++ rest).length := by rw [List.length_append, cellsL_length, h2]; exact hj
  rw [List.length_append] at hl
  simp [World.cell?, h1, hl]
theorem OwnR.drew {W : World} {g cap : Nat} {fs : List α} (h : OwnR W g cap fs) : OwnR W.drew g cap fs := h
theorem OwnR.alloc {W : World} {g cap : Nat} {fs : List α} (h : OwnR W g cap fs) (o : Obj) : OwnR (W.alloc o) g cap fs := h.next ((Below.refl _ _).alloc (Nat.le_refl _) o)
/-- block b holds just this one -/
def OneR (W : World) (b : Nat) (x : α) : Prop := W.heap[b]? = some (.cells (Lay.cs x).toArray (Lay.ty α) (0, 0))
theorem OneR.row {W : World} {b : Nat} {x : α} (h : OneR W b x) : ∀ j v, (Lay.cs x)[j]? = some v → W.cell? ⟨b, 0 + j, none⟩ = some v := by
  intro j v hj
  unfold OneR at h
  simp [World.cell?, h, hj]
end
theorem cellsI_length (ss : List Int) : (cellsL ss).length = ss.length := (cellsL_length ss).trans (Nat.mul_one _)
/-- all old blocks but those of F are as they were -/
structure Touch (F : Nat → Prop) (w w' : World) : Prop where
  os : w'.os = w.os
  tape : w'.tape = w.tape
  output : w'.output = w.output
  size : w.heap.size ≤ w'.heap.size
  block : ∀ k, k < w.heap.size → ¬ F k → w'.heap[k]? = w.heap[k]?
theorem Touch.refl (F : Nat → Prop) (w : World) : Touch F w w := ⟨rfl, rfl, rfl, Nat.le_refl _, fun _ _ _ => rfl⟩
theorem Touch.trans {F : Nat → Prop} {a b c : World} (h : Touch F a b) (k : Touch F b c) : Touch F a c :=
  ⟨k.os.trans h.os, k.tape.trans h.tape, k.output.trans h.output, Nat.le_trans h.size k.size, fun i hi hf => (k.block i (Nat.lt_of_lt_of_le hi h.size) hf).trans (h.block i hi hf)⟩
theorem Touch.of_below {F : Nat → Prop} {w w' : World} (h : Below w.heap.size w w') : Touch F w w' := ⟨h.os, h.tape, h.output, h.size, fun k hk _ => h.block k hk⟩
theorem Touch.of_grown {F : Nat → Prop} {w w' : World} {r : Option Nat} (h : w.grownBy w' r) (hr : ∀ k, r = some k → F k) : Touch F w w' := ⟨h.os, h.tape, h.output, h.size, fun k hk hf => h.block k hk (fun e => hf (hr k e.symm))⟩
theorem Touch.set {F : Nat → Prop} {w : World} {a : Addr} (hf : F a.block) (v : Value) : Touch F w (w.setCell a v) := ⟨rfl, rfl, rfl, by simp [World.setCell], fun k _ hn => Below.heap_setCell w a v k (fun e => hn (by rw [e]; exact hf))⟩
theorem Touch.drew {F : Nat → Prop} {w w' : World} (h : Touch F w w') : Touch F w w'.drew := ⟨h.os, h.tape, h.output, h.size, h.block⟩
theorem Touch.mono {F G : Nat → Prop} {w w' : World} (h : Touch F w w') (hg : ∀ k, k < w.heap.size → F k → G k) : Touch G w w' := ⟨h.os, h.tape, h.output, h.size, fun k hk hn => h.block k hk (fun hf => hn (hg k hk hf))⟩
theorem Touch.below {F : Nat → Prop} {w w' : World} {B : Nat} (h : Touch F w w') (hB : B ≤ w.heap.size) (hF : ∀ k, F k → B ≤ k) : Below B w w' :=
  ⟨h.os, h.tape, h.output, h.size, fun k hk => h.block k (Nat.lt_of_lt_of_le hk hB) (fun hf => by have := hF k hf; omega)⟩

theorem OwnS.low {α : Type} [Lay α] {W : World} {B : Nat} {v : Value} {xs : List α} (h : OwnS W B v xs) (k : Nat) (hk : v.ownBlock = some k) : k < W.heap.size := by
  rcases h with ⟨rfl, rfl⟩ | ⟨g, cap, rfl, _, h⟩
  · simp [Value.ownBlock] at hk
  · simp only [Value.ownBlock, Option.some.injEq] at hk
    rw [← hk]; exact h.lt
theorem OwnS.grown {α : Type} [Lay α] {W V : World} {B : Nat} {v : Value} {xs : List α} (h : OwnS W B v xs) {r : Option Nat} (hg : W.grownBy V r) (hr : ∀ k, v.ownBlock = some k → some k ≠ r) : OwnS V B v xs := by
  rcases h with h | ⟨g, cap, rfl, hB, h⟩
  · exact .inl h
  · obtain ⟨rest, h1, h2⟩ := h
    have hlt := (Array.getElem?_eq_some_iff.1 h1).1
    exact .inr ⟨g, cap, rfl, hB, rest, (hg.block g hlt (hr g rfl)).trans h1, h2⟩
theorem nset_same {w : World} {a : Addr} {v : Value} (h : w.cell? a = some v) : w.setCell a v = w := by
  obtain ⟨heap, tape, drawn, os, output⟩ := w
  simp only [World.setCell, World.cell?] at *
  congr 1
  apply Array.ext_getElem?
  intro k
  rw [Array.getElem?_modify]
  by_cases hk : a.block = k
  · subst hk
    simp only [if_true]
    cases ho : heap[a.block]? with
    | none => rfl
    | some o =>
      rw [ho] at h
      cases o with
      | cells c e fz =>
        simp only at h
        by_cases hs : a.spot.isSome = true
        · simp [hs] at h
        · simp only [hs] at h
          simp [hs]
          have hlt : a.off < c.size := (Array.getElem?_eq_some_iff.1 (by simpa using h)).1
          have hv : c[a.off] = v := (Array.getElem?_eq_some_iff.1 (by simpa using h)).2
          rw [← hv]
          simp [Array.setIfInBounds, hlt]
      | _ => simp at h
  · simp [hk]
theorem nbelow_drew {W V : World} (h : Below W.drew.heap.size W.drew V) : Below W.heap.size W V := ((Below.refl _ W).drew).trans h
theorem one_news {α : Type} [Lay α] {W : World} {g : Nat} {x : α} (h : OneR W g x) (j : Nat) (u : Value) (hj : (Lay.cs x)[j]? = some u) : W.cell? ((⟨g, 0, none⟩ : Addr).add j) = some u := by
  rw [Addr.add_lit]
  exact h.row j u hj
end Go.Proofs.Ytijpnmponjjejaa

namespace Go.Proofs.Ytijpnmponjjejaa
open Go.RowKit

instance layX : Lay WTxn := ⟨7, tcells, 47, fun _ => rfl, fun x u hu => tcells_one x u hu⟩
theorem cellsT_L (ts : List WTxn) : cellsL ts = cellsT ts := by
  induction ts with
  | nil => rfl
  | cons f r ih => rw [cellsL_cons, ih]; rfl
theorem seq_log {w : World} {v : Value} {ts : List WTxn} : SeqV w v ts ↔ LogV w v ts := by unfold SeqV LogV; rw [cellsT_L]
end Go.Proofs.Ytijpnmponjjejaa

namespace Go.Proofs.Ytijpnmponjjejaa
open Go.RowKit

/-- a peer; its log's place, and what it holds -/
structure Pe where
  id : Int
  ep : Int
  a : Option Addr
  c : Nat
  ts : List WTxn
  dn : Int
def pe0 : Pe := ⟨0, 0, none, 0, [], 0⟩
def peV (p : Pe) : Value := .agg #[.int .i64 p.id, .int .i64 p.ep, .slice p.a p.ts.length p.c, .int .i64 p.dn]
def pcells (p : Pe) : List Value := [.int .i64 p.id, .int .i64 p.ep, .slice p.a p.ts.length p.c, .int .i64 p.dn]
instance layP : Lay Pe := ⟨4, pcells, 29, fun _ => rfl, fun x u hu => by simp [pcells] at hu; rcases hu with rfl | rfl | rfl | rfl <;> rfl⟩
/-- one log of a list -/
structure Lg where
  a : Option Addr
  c : Nat
  ts : List WTxn
def lgV (l : Lg) : Value := .slice l.a l.ts.length l.c
instance layG : Lay Lg := ⟨1, fun l => [lgV l], 27, fun _ => rfl, fun x u hu => by simp at hu; subst hu; rfl⟩

def Pe.log (p : Pe) : Value := .slice p.a p.ts.length p.c
/-- the peers' logs hold what they say -/
def PLogs (w : World) (ps : List Pe) : Prop := ∀ p ∈ ps, LogV w p.log p.ts
def GLogs (w : World) (ls : List Lg) : Prop := ∀ l ∈ ls, LogV w (lgV l) l.ts
theorem PLogs.next {w w' : World} {ps : List Pe} (h : PLogs w ps) (hb : Below w.heap.size w w') : PLogs w' ps := fun p hp => (h p hp).next hb
theorem GLogs.next {w w' : World} {ls : List Lg} (h : GLogs w ls) (hb : Below w.heap.size w w') : GLogs w' ls := fun p hp => (h p hp).next hb
theorem RowAt.pe0 {w : World} {b off : Nat} {xs : List Pe} (h : RowAt w b off (cellsL xs)) {i : Nat} {x : Pe} (hi : xs[i]? = some x) : w.cell? ⟨b, off + i * 4, none⟩ = some (.int .i64 x.id) :=
  h (i * 4) _ (cellsL_get xs i x hi 0 (by decide))
theorem RowAt.pe1 {w : World} {b off : Nat} {xs : List Pe} (h : RowAt w b off (cellsL xs)) {i : Nat} {x : Pe} (hi : xs[i]? = some x) : w.cell? ⟨b, off + i * 4 + 1, none⟩ = some (.int .i64 x.ep) := by
  rw [Nat.add_assoc]; exact h (i * 4 + 1) _ (cellsL_get xs i x hi 1 (by decide))
theorem RowAt.pe2 {w : World} {b off : Nat} {xs : List Pe} (h : RowAt w b off (cellsL xs)) {i : Nat} {x : Pe} (hi : xs[i]? = some x) : w.cell? ⟨b, off + i * 4 + 2, none⟩ = some (.slice x.a x.ts.length x.c) := by
  rw [Nat.add_assoc]; exact h (i * 4 + 2) _ (cellsL_get xs i x hi 2 (by decide))
theorem RowAt.pe3 {w : World} {b off : Nat} {xs : List Pe} (h : RowAt w b off (cellsL xs)) {i : Nat} {x : Pe} (hi : xs[i]? = some x) : w.cell? ⟨b, off + i * 4 + 3, none⟩ = some (.int .i64 x.dn) := by
  rw [Nat.add_assoc]; exact h (i * 4 + 3) _ (cellsL_get xs i x hi 3 (by decide))
theorem RowAt.lg0 {w : World} {b off : Nat} {xs : List Lg} (h : RowAt w b off (cellsL xs)) {i : Nat} {x : Lg} (hi : xs[i]? = some x) : w.cell? ⟨b, off + i, none⟩ = some (.slice x.a x.ts.length x.c) :=
  h i _ (by have := cellsL_get xs i x hi 0 (by decide); simpa [Lay.k, Lay.cs, lgV] using this)

/-- a box of a peer -/
def PBox (W : World) (g : Nat) (p : Pe) : Prop := W.heap[g]? = some (.cells #[.int .i64 p.id, .int .i64 p.ep, .slice p.a p.ts.length p.c, .int .i64 p.dn] 29 (0, 0))
theorem PBox.new (W : World) (p : Pe) : PBox (W.alloc (.cells #[.int .i64 p.id, .int .i64 p.ep, .slice p.a p.ts.length p.c, .int .i64 p.dn] 29)) W.heap.size p := heap_alloc_new W _
theorem PBox.next {W V : World} {g : Nat} {p : Pe} (h : PBox W g p) (hb : Below W.heap.size W V) : PBox V g p := (hb.block g (by unfold PBox at h; exact (Array.getElem?_eq_some_iff.1 h).1)).trans h
theorem PBox.lt {W : World} {g : Nat} {p : Pe} (h : PBox W g p) : g < W.heap.size := by unfold PBox at h; exact (Array.getElem?_eq_some_iff.1 h).1
theorem PBox.c0 {W : World} {g : Nat} {p : Pe} (h : PBox W g p) : W.cell? ⟨g, 0, none⟩ = some (.int .i64 p.id) := by unfold PBox at h; simp [World.cell?, h]
theorem PBox.c1 {W : World} {g : Nat} {p : Pe} (h : PBox W g p) : W.cell? ⟨g, 1, none⟩ = some (.int .i64 p.ep) := by unfold PBox at h; simp [World.cell?, h]
theorem PBox.c2 {W : World} {g : Nat} {p : Pe} (h : PBox W g p) : W.cell? ⟨g, 2, none⟩ = some (.slice p.a p.ts.length p.c) := by unfold PBox at h; simp [World.cell?, h]
theorem PBox.c3 {W : World} {g : Nat} {p : Pe} (h : PBox W g p) : W.cell? ⟨g, 3, none⟩ = some (.int .i64 p.dn) := by unfold PBox at h; simp [World.cell?, h]
theorem PBox.f {W : World} {g : Nat} {p : Pe} (h : PBox W g p) (j : Nat) : W.frozen? ⟨g, j, none⟩ = false := by unfold PBox at h; simp [World.frozen?, h]
theorem pinfo0 : (Try.prog.info? 29).map (fun i => (i.zero, i.size, i.bytes)) = some (some (peV pe0), 4, 48) := by kernel_rfl
theorem pinfo : ∃ i0, Try.prog.info? 29 = some i0 ∧ i0.zero = some (peV pe0) ∧ i0.size = 4 ∧ i0.bytes = 48 := by
  obtain ⟨i0, h, e⟩ := Option.map_eq_some_iff.1 pinfo0
  simp only [Prod.mk.injEq] at e
  exact ⟨i0, h, e⟩
theorem ginfo0 : (Try.prog.info? 27).map (fun i => (i.zero, i.size, i.bytes)) = some (some (.slice none 0 0), 1, 24) := by kernel_rfl
theorem ginfo : ∃ i0, Try.prog.info? 27 = some i0 ∧ i0.zero = some (.slice none 0 0) ∧ i0.size = 1 ∧ i0.bytes = 24 := by
  obtain ⟨i0, h, e⟩ := Option.map_eq_some_iff.1 ginfo0
  simp only [Prod.mk.injEq] at e
  exact ⟨i0, h, e⟩
theorem belowN {B n : Nat} {a w : World} (h : Below B a w) : Below B a (w.drewN n) := ⟨h.os, h.tape, h.output, h.size, h.block⟩
theorem row_of {α : Type} [Lay α] {w : World} {v : Value} {xs : List α} (hv : SeqV w v xs) {i : Nat} {x : α} (hi : xs[i]? = some x) :
    ∃ b off cap, v = .slice (some ⟨b, off, none⟩) xs.length cap ∧ b < w.heap.size ∧ RowAt w b off (cellsL xs) ∧ i < xs.length ∧ xs.length ≤ cap ∧ cap ≤ maxLen := by
  obtain ⟨hi', _⟩ := List.getElem?_eq_some_iff.1 hi
  obtain ⟨b, off, cap, e, hb, hr, h1, h2⟩ := seq_row hv (fun h0 => by rw [h0] at hi'; simp at hi')
  exact ⟨b, off, cap, e, hb, hr, hi', h1, h2⟩
end Go.Proofs.Ytijpnmponjjejaa

namespace Go.Proofs.Ytijpnmponjjejaa
open Go.RowKit

theorem wpList_app1 {α : Type} [Lay α] {w : World} {ops : Array Oper} {rest : List Oper} {o : Oper} {a : Act} {Q : Exit → Act → World → Prop} (hgd : o.guard = none) (s x : Operand) (T : TypeId)
    (ho : o.op = .call { callee := .builtin .append, args := #[s, x], argTypes := #[T, T] })
    (i0 : TypeInfo) (z : Value) (bytes : Nat) (hU : Try.prog.underlying T = some (.slice (Lay.ty α))) (hi0 : Try.prog.info? (Lay.ty α) = some i0) (hz0 : i0.zero = some z) (hz1 : i0.size = Lay.k α) (hz2 : i0.bytes = bytes) (hzs : z.cells.size = Lay.k α) (hk0 : 0 < Lay.k α)
    (v : Value) (ns : List α) (hs : a.eval s = v) (B : Nat) (hown : OwnS w B v ns) (q : Nat) (hx : a.eval x = .slice (some ⟨q, 0, none⟩) 1 1) (t : α) (hnews : OneR w q t) (hl : (ns.length + 1) * bytes ≤ 140737488355328) (hm : ns.length + 1 ≤ maxLen) (hB : B ≤ w.heap.size)
    (h : ∀ a' c' w', OwnS w' B (.slice a' (ns.length + 1) c') (ns ++ [t]) → w.grownBy w' v.ownBlock → wpList Try.prog ops Q rest (a.put o.dst (.slice a' (ns.length + 1) c')) w') :
    wpList Try.prog ops Q (o :: rest) a w := by
  refine wpList_plain hgd fun K hK => ?_
  obtain ⟨v', w', hr, h2, h3, _⟩ := run_append_own (P := Try.prog) w B T o.type (Lay.ty α) i0 z (Lay.k α) bytes hU hi0 hz0 hz1 hz2 hzs hk0 v ns.length (cellsL ns) hown.row ⟨q, 0, none⟩ 1 1 (Lay.cs t) (by rw [Lay.len, Nat.one_mul]) (one_news hnews) (Lay.one t) hm hl hB
  have h2' : OwnS w' B v' (ns ++ [t]) := OwnS.of_row (by rw [List.length_append, cellsL_snoc]; exact h2)
  obtain ⟨a', c', rfl, _⟩ := h2'.slice
  rw [List.length_append, List.length_singleton] at h2' hr
  unfold Oper.wp execOp
  simp only [ho, resolve, invoke, builtin, Sem.run_bind, Sem.run_pure, Result.andThen_ok, List.map_toArray, List.map_cons, List.map_nil, hs, hx, hr]
  exact hK _ _ (h a' c' w' h2' h3)

/- append(nil, l...) at transactions -/
theorem zrun_copyT (W : World) (ty : TypeId) (v : Value) (xs : List WTxn) (hv : SeqV W v xs) (hl : xs.length * 72 ≤ 140737488355328) :
    ∃ v' w', (Builtin.append_ #[27, 27] ty #[.slice none 0 0, v]).run Try.prog W = .ok v' w' ∧ OwnS w' W.heap.size v' xs ∧ W.grownBy w' none := by
  obtain ⟨i0, hi0, hz0, hz1, hz2⟩ := info_txn
  have main : ∀ (a : Addr) (cap : Nat), v = .slice (some a) xs.length cap → (∀ j u, (cellsL xs)[j]? = some u → W.cell? (a.add j) = some u) →
      ∃ v' w', (Builtin.append_ #[27, 27] ty #[.slice none 0 0, v]).run Try.prog W = .ok v' w' ∧ OwnS w' W.heap.size v' xs ∧ W.grownBy w' none := by
    intro a cap e hc
    subst e
    obtain ⟨v', w', h1, h2, h3, _⟩ := run_append_own (P := Try.prog) W W.heap.size 27 ty 47 i0 _ 7 72 Try.underlying27 hi0 hz0 hz1 hz2 rfl (by decide) (.slice none 0 0) 0 [] (World.ownsRow_nil _ _ _ _) a xs.length cap (cellsL xs) (cellsL_length xs) hc (cellsL_one xs)
      (by simp only [maxLen]; omega) (by omega) (Nat.le_refl _)
    refine ⟨v', w', h1, OwnS.of_row (by first | exact h2 | (simp only [List.nil_append, Nat.zero_add] at h2; exact h2) | simpa using h2), h3⟩
  rcases hv with ⟨a, cap, rfl, rfl, _⟩ | ⟨b, off, cap, rfl, _, _, _, _, hr⟩
  · cases a with
    | none =>
      refine ⟨.slice none 0 0, W, ?_, .inl ⟨rfl, rfl⟩, ⟨rfl, rfl, rfl, Nat.le_refl _, fun _ _ _ => rfl⟩⟩
      simp [Builtin.append_, run_underlying Try.underlying27, sizeOf, typeInfo, hi0, Builtin.lenOf, Builtin.firstCells]
    | some a => exact main a cap rfl (fun j u h => by simp [cellsL] at h)
  · exact main ⟨b, off, none⟩ cap rfl (fun j u h => by rw [Addr.add_lit]; exact hr j u h)
theorem zwpList_copyT {w : World} {ops : Array Oper} {rest : List Oper} {o : Oper} {a : Act} {Q : Exit → Act → World → Prop} (hgd : o.guard = none) (s x : Operand)
    (ho : o.op = .call { callee := .builtin .append, args := #[s, x], argTypes := #[27, 27] })
    (hs : a.eval s = .slice none 0 0) (v : Value) (hx : a.eval x = v) (xs : List WTxn) (hv : SeqV w v xs) (hl : xs.length * 72 ≤ 140737488355328)
    (h : ∀ a' c' w', OwnS w' w.heap.size (.slice a' xs.length c') xs → w.grownBy w' none → wpList Try.prog ops Q rest (a.put o.dst (.slice a' xs.length c')) w') : wpList Try.prog ops Q (o :: rest) a w := by
  refine wpList_plain hgd fun K hK => ?_
  obtain ⟨v', w', hr, h2, h3⟩ := zrun_copyT w o.type v xs hv hl
  obtain ⟨a', c', rfl, _⟩ := h2.slice
  unfold Oper.wp execOp
  simp only [ho, resolve, invoke, builtin, Sem.run_bind, Sem.run_pure, Result.andThen_ok, List.map_toArray, List.map_cons, List.map_nil, hs, hx, hr]
  exact hK _ _ (h a' c' w' h2 h3)

/-- rows of elements of two kinds are two blocks -/
theorem OwnS.apart {α β : Type} [Lay α] [Lay β] {W : World} {B C : Nat} {u v : Value} {xs : List α} {ys : List β} (h : OwnS W B u xs) (k : OwnS W C v ys) (hne : Lay.ty α ≠ Lay.ty β) : ∀ q, u.ownBlock = some q → some q ≠ v.ownBlock := by
  intro q hq e
  rcases h with ⟨rfl, rfl⟩ | ⟨g, cap, rfl, _, rest, h1, _⟩
  · simp [Value.ownBlock] at hq
  · rcases k with ⟨rfl, rfl⟩ | ⟨g', cap', rfl, _, rest', h1', _⟩
    · simp [Value.ownBlock] at e
    · simp only [Value.ownBlock, Option.some.injEq] at hq e
      subst hq e
      rw [h1] at h1'
      simp at h1'
      exact hne h1'.2
theorem grown_none {w w' : World} (h : w.grownBy w' none) : Below w.heap.size w w' := ⟨h.os, h.tape, h.output, h.size, fun k hk => h.block k hk (by simp)⟩
/-- the logs of these peers lie in rows of the call's own -/
def POwn (W : World) (B : Nat) (ps : List Pe) : Prop := ∀ p ∈ ps, OwnS W B p.log p.ts
theorem POwn.next {W V : World} {B : Nat} {ps : List Pe} (h : POwn W B ps) (hb : Below W.heap.size W V) : POwn V B ps := fun p hp => (h p hp).next hb
theorem POwn.logs {W : World} {B : Nat} {ps : List Pe} (h : POwn W B ps) : PLogs W ps := fun p hp => seq_log.1 (h p hp).seq
theorem POwn.grown {W V : World} {B C : Nat} {ps qs : List Pe} {v : Value} (h : POwn W B ps) (k : OwnS W C v qs) (hg : W.grownBy V v.ownBlock) : POwn V B ps := fun p hp => (h p hp).grown hg ((h p hp).apart k (by decide))
def GOwn (W : World) (B : Nat) (ls : List Lg) : Prop := ∀ l ∈ ls, OwnS W B (lgV l) l.ts
theorem GOwn.next {W V : World} {B : Nat} {ls : List Lg} (h : GOwn W B ls) (hb : Below W.heap.size W V) : GOwn V B ls := fun p hp => (h p hp).next hb
theorem GOwn.logs {W : World} {B : Nat} {ls : List Lg} (h : GOwn W B ls) : GLogs W ls := fun p hp => seq_log.1 (h p hp).seq
theorem GOwn.grown {W V : World} {B C : Nat} {ls qs : List Lg} {v : Value} (h : GOwn W B ls) (k : OwnS W C v qs) (hg : W.grownBy V v.ownBlock) : GOwn V B ls := fun p hp => (h p hp).grown hg ((h p hp).apart k (by decide))
end Go.Proofs.Ytijpnmponjjejaa

namespace Go.Proofs.Ytijpnmponjjejaa
open Go.RowKit

def pk (p : Pe) : Int × Int × List WTxn := (p.id, p.ep, p.ts)
/-- peers of their own memory that say the same -/
def GivesPe (w : World) (ps : List Pe) (e : Ending) (w' : World) : Prop :=
  ∃ v qs, e = .returned v ∧ OwnS w' w.heap.size v qs ∧ POwn w' w.heap.size qs ∧ qs.map pk = ps.map pk ∧ Below w.heap.size w w'
structure PFit (ps : List Pe) : Prop where
  len : ps.length * 48 ≤ 140737488351232
  each : ∀ p ∈ ps, p.ts.length * 72 ≤ 140737488351232
theorem OwnS.above {α : Type} [Lay α] {W : World} {B : Nat} {v : Value} {xs : List α} (h : OwnS W B v xs) (k : Nat) (hk : v.ownBlock = some k) : B ≤ k := by
  rcases h with ⟨rfl, rfl⟩ | ⟨g, cap, rfl, hB, _⟩
  · simp [Value.ownBlock] at hk
  · simp only [Value.ownBlock, Option.some.injEq] at hk
    rw [← hk]; exact hB
theorem PBox.set2 {W : World} {g : Nat} {p : Pe} (h : PBox W g p) (a : Option Addr) (c : Nat) : PBox (W.setCell ⟨g, 2, none⟩ (.slice a p.ts.length c)) g ⟨p.id, p.ep, a, c, p.ts, p.dn⟩ := by
  unfold PBox at h ⊢
  rw [block_set _ h]
  simp
theorem PBox.other {W V : World} {g B : Nat} {p : Pe} {v : Value} {α : Type} [Lay α] {xs : List α} (h : PBox W g p) (a : Nat) (u : Value) (hne : Lay.ty α ≠ 29) (k : OwnS W B v xs) (hV : V = W.setCell ⟨g, a, none⟩ u) : OwnS V B v xs := by
  subst hV
  refine k.other (fun e => ?_) u
  rcases k with ⟨rfl, rfl⟩ | ⟨g', cap, rfl, _, rest, h1, _⟩
  · simp [Value.ownBlock] at e
  · simp only [Value.ownBlock, Option.some.injEq] at e
    subst e
    unfold PBox at h
    rw [h] at h1
    simp at h1
    exact hne h1.2.symm
theorem pone (W : World) (p : Pe) : OneR (W.alloc (.cells #[.int .i64 p.id, .int .i64 p.ep, .slice p.a p.ts.length p.c, .int .i64 p.dn] 29)) W.heap.size p := heap_alloc_new W _
theorem take_pk {ps : List Pe} {k : Nat} {p : Pe} (h : ps[k]? = some p) : (ps.take (k + 1)).map pk = (ps.take k).map pk ++ [pk p] := by
  obtain ⟨hk, rfl⟩ := List.getElem?_eq_some_iff.1 h
  rw [List.take_succ_eq_append_getElem hk, List.map_append]; rfl

set_option maxRecDepth 10000 in
set_option maxHeartbeats 2000000 in
theorem peers_any (v : Value) (ps : List Pe) (w : World) (hv : SeqV w v ps) (hL : PLogs w ps) (hF : PFit ps) :
    Calls Try.prog 10 #[v] w (GivesPe w ps) := by
  obtain ⟨i0, hi0, hz0, hz1, hz2⟩ := pinfo
  have HV := hide hv
  have HL := hide hL
  have HF := hide hF
  have hn : ps.length * 48 ≤ 140737488351232 := hF.len
  obtain ⟨a, c, rfl⟩ := seq_slice hv
  clear hv hL hF
  go_enter Try.func10, Try.ntmps10
  go_wp2_with fail
  go_loopg [3, 4] ps.length (fun kx s3 s4 wr => ∃ (k : Nat) (a' : Option Addr) (c' : Nat) (qs : List Pe), s3 = .slice a' k c' ∧ s4 = .int .i64 k ∧ k ≤ ps.length ∧ ps.length - k ≤ kx ∧ Hid (qs.map pk = (ps.take k).map pk) ∧ Hid (OwnS wr w.heap.size (.slice a' k c') qs ∧ POwn wr w.heap.size qs ∧ Below w.heap.size w wr))
  case atStart => exact ⟨0, none, 0, [], rfl, rfl, Nat.zero_le _, by omega, hide rfl, hide ⟨.inl ⟨rfl, rfl⟩, fun p hp => by simp at hp, Below.refl _ _⟩⟩
  case round =>
    obtain ⟨k, a', c', qs, rfl, rfl, hk, hkx, HM, HI⟩ := hrel
    by_cases hlt : k < ps.length
    · obtain ⟨p, hp⟩ : ∃ p, ps[k]? = some p := ⟨_, List.getElem?_eq_getElem hlt⟩
      have hq : qs.length = k := by have := congrArg List.length (unhide HM); simp at this; omega
      subst hq
      obtain ⟨b, off, cap, he, hb, hr, _, _, _⟩ := row_of ((unhide HV).next (unhide HI).2.2) hp
      simp only [Value.slice.injEq, true_and] at he
      obtain ⟨rfl, rfl⟩ := he
      have e0 := hr.pe0 hp
      have e1 := hr.pe1 hp
      have e2 := hr.pe2 hp
      have e3 := hr.pe3 hp
      have hlti : (qs.length : Int) < (ps.length : Int) := by omega
      have hmem := List.mem_of_getElem? hp
      have HLg := hide (seq_log.2 ((unhide HL) p hmem))
      have Hfit := hide ((unhide HF).each p hmem)
      have HT := hide (take_pk hp)
      have hk63 : qs.length < 9223372036854775807 := by omega
      have HA := hide (allocB wr (.cells #[.int .i64 p.id, .int .i64 p.ep, .slice p.a p.ts.length p.c, .int .i64 p.dn] 29))
      have HP := hide (PBox.new wr p)
      clear hr hp hb hmem
      obtain ⟨i, ep, la, lc, ts, dn⟩ := p
      simp only [Pe.log] at *
      go_wp2_with (at_builtin; refine zwpList_copyT rfl _ _ rfl rfl _ rfl ts ?q1 ?q2 ?_)
      case q1 => exact (unhide HLg).next (nnext (unhide HI).2.2 (unhide HA))
      case q2 => have := unhide Hfit; omega
      intro a1 c1 w2 ho1 hg1
      have hb1 := grown_none hg1
      have P2 := (unhide HP).next hb1
      have HP2 := hide P2
      have e5 := P2.c2
      have e6 := P2.f 2
      have HI2 := hide (And.intro ((unhide HI).1.next (nnext (unhide HA) hb1)) (And.intro ((unhide HI).2.1.next (nnext (unhide HA) hb1)) (nnext (unhide HI).2.2 (nnext (unhide HA) hb1))))
      have HLW := hide (unhide HI).1.low
      have HWS := hide (unhide HI).2.2.size
      have HO1 := hide (ho1.lower (C := w.heap.size) (by have h1 := (unhide HI).2.2.size; simp; omega))
      clear ho1 hg1 hb1 P2 HI e0 e1 e2 e3
      go_upto_region 7 with fail
      obtain ⟨W3, hW3⟩ : ∃ W3, W3 = w2.setCell ⟨wr.heap.size, 2, none⟩ (.slice a1 ts.length c1) := ⟨_, rfl⟩
      have P3 : PBox W3 wr.heap.size ⟨i, ep, a1, c1, ts, dn⟩ := by rw [hW3]; exact (unhide HP2).set2 a1 c1
      have HI3 := hide (And.intro (show OwnS W3 w.heap.size (.slice a' qs.length c') qs by rw [hW3]; exact (unhide HI2).1.other (fun e => Nat.lt_irrefl _ (unhide HLW _ e)) _) (And.intro (fun q hq => (unhide HP2).other _ _ (by decide) ((unhide HI2).2.1 q hq) hW3) (show Below w.heap.size w W3 by rw [hW3]; exact (unhide HI2).2.2.setCell (unhide HWS) _)))
      have HO3 := hide ((unhide HP2).other _ _ (by decide) (unhide HO1) hW3)
      have e0 := P3.c0
      have e1 := P3.c1
      have e2 := P3.c2
      have e3 := P3.c3
      rw [← hW3]
      clear P3 hW3 HI2 HO1 HP2 e5 e6
      have HN := hide (pone W3 ⟨i, ep, a1, c1, ts, dn⟩)
      have HAL := hide (allocB W3 (.cells #[.int .i64 i, .int .i64 ep, .slice a1 ts.length c1, .int .i64 dn] 29))
      have h4 : Hid (qs.length + 1 ≤ maxLen) := by unfold Hid; simp only [maxLen]; omega
      have h5 : Hid ((qs.length + 1) * 48 ≤ 140737488355328) := by unfold Hid; omega
      go_wp2_with (at_builtin; refine wpList_app1 rfl _ _ 22 rfl i0 _ 48 Try.underlying22 hi0 hz0 hz1 hz2 rfl (by decide) _ qs rfl w.heap.size ?r1 W3.heap.size rfl ⟨i, ep, a1, c1, ts, dn⟩ (unhide HN) (unhide h5) (unhide h4) ?r4 ?_)
      case r1 => exact (unhide HI3).1.next (unhide HAL)
      case r4 => have := (unhide HI3).2.2.size; omega
      intro a5 c5 w5 hown hgrow
      have HZ : Hid (OwnS w5 w.heap.size (.slice a5 (qs.length + 1) c5) (qs ++ [⟨i, ep, a1, c1, ts, dn⟩]) ∧ POwn w5 w.heap.size (qs ++ [⟨i, ep, a1, c1, ts, dn⟩]) ∧ Below w.heap.size w w5) := by
        have k1 := (unhide HI3).1.next (unhide HAL)
        have k2 := nnext (unhide HI3).2.2 (unhide HAL)
        refine hide ⟨hown, fun q hq => ?_, k2.grown hgrow k2.size (fun g hg => k1.above g hg)⟩
        rcases List.mem_append.1 hq with hq | hq
        · exact POwn.grown (POwn.next (unhide HI3).2.1 (unhide HAL)) k1 hgrow q hq
        · obtain rfl := List.mem_singleton.1 hq
          exact ((unhide HO3).next (unhide HAL)).grown hgrow (((unhide HO3).next (unhide HAL)).apart k1 (by decide))
      have HMM : Hid ((qs ++ [(⟨i, ep, a1, c1, ts, dn⟩ : Pe)]).map pk = (ps.take (qs.length + 1)).map pk) := hide (by rw [unhide HT, List.map_append, unhide HM]; rfl)
      clear hown hgrow HI3 HO3 HN HAL h4 h5 e0 e1 e2 e3 HT HM
      go_wp2_with fail
      go_roundg (ps.length - (qs.length + 1))
      case measure => omega
      case rel => exact ⟨qs.length + 1, a5, c5, _, rfl, by simp, by omega, Nat.le_refl _, HMM, HZ⟩
    · obtain rfl : k = ps.length := by omega
      have hki : ¬ ((ps.length : Int) < (ps.length : Int)) := by omega
      go_wp2_with fail
      go_ret
      obtain ⟨h1, h2, h3⟩ := unhide HI
      exact ⟨_, qs, rfl, h1, h2, by rw [unhide HM, List.take_length], h3⟩
end Go.Proofs.Ytijpnmponjjejaa

namespace Go.Proofs.Ytijpnmponjjejaa
open Go.RowKit

theorem below_next2 {a b c : World} (h : Below a.heap.size a b) (k : Below b.heap.size b c) : Below a.heap.size a c := h.trans (k.mono h.size)

set_option maxRecDepth 10000 in
set_option maxHeartbeats 400000 in
theorem last_any (v : Value) (ts : List WTxn) (w : World) (hv : LogV w v ts) :
    Calls Try.prog 20 #[v] w fun e w' => e = .returned (.int .i64 (lastZ ts)) ∧ w' = w := by
  by_cases h0 : ts.length = 0
  · obtain ⟨a, c, rfl⟩ := log_slice hv
    obtain rfl := List.length_eq_zero_iff.1 h0
    clear hv h0
    rw [lastZ_nil]
    go_enter Try.func20, Try.ntmps20
    go_wp2_with fail
    go_ret
    exact ⟨rfl, rfl⟩
  · obtain ⟨m, x, rfl⟩ := snoc_of h0
    have hi : (m ++ [x])[m.length]? = some x := by simp
    obtain ⟨b, off, cap, rfl, hb, hr, hlt, hc, hm⟩ := log_row hv hi
    have e := hr.z hi
    have hl : (m ++ [x]).length = m.length + 1 := by simp
    rw [lastZ_snoc, hl]
    simp only [maxLen] at hm
    rw [hl] at hc
    have hM : m.length < 9223372036854775807 := by omega
    clear hv h0 hr hi hl hlt hc hm
    generalize m.length = k at *
    go_enter Try.func20, Try.ntmps20
    go_wp2_with fail
    go_ret
    exact ⟨rfl, rfl⟩

end Go.Proofs.Ytijpnmponjjejaa

namespace Go.Proofs.Ytijpnmponjjejaa
open Go.RowKit

theorem lastZ_more {ts : List WTxn} {k : Nat} {t : WTxn} (h : ts[k]? = some t) : lastZ (ts.take (k + 1)) = t.z := by rw [take_more1 h, lastZ_snoc]
set_option maxRecDepth 10000 in
set_option maxHeartbeats 1000000 in
theorem rlast_any (v : Value) (ts : List WTxn) (w : World) (hv : LogV w v ts) :
    Calls Try.prog 28 #[v] w fun e w' => e = .returned (.int .i64 (lastZ ts)) ∧ Below w.heap.size w w' := by
  have hlen : ts.length ≤ 9223372036854775807 := by
    rcases hv with ⟨a, cap, rfl, rfl, _⟩ | ⟨b, off, cap, rfl, h1, h2, _⟩
    · simp
    · simp only [maxLen] at h2; omega
  have HV := hide hv
  obtain ⟨a, c, rfl⟩ := log_slice hv
  clear hv
  go_enter Try.func28, Try.ntmps28
  go_wp2_with fail
  go_loopg [3, 8] ts.length (fun kx s3 s8 wr => ∃ (k : Nat) (z : Int), s3 = .int .i64 z ∧ s8 = .int .i64 k ∧ k ≤ ts.length ∧ ts.length - k ≤ kx ∧ Hid (lastZ (ts.take k) = z) ∧ Hid (Below w.heap.size w wr))
  case atStart => exact ⟨0, 0, rfl, rfl, Nat.zero_le _, by omega, hide rfl, hide (Below.refl _ _)⟩
  case round =>
    obtain ⟨k, z, rfl, rfl, hk, hkx, HZ, HB⟩ := hrel
    by_cases hlt : k < ts.length
    · obtain ⟨t, ht⟩ : ∃ t, ts[k]? = some t := ⟨_, List.getElem?_eq_getElem hlt⟩
      obtain ⟨b, off, cap, he, hb, hr, _, _, _⟩ := log_row ((unhide HV).next (unhide HB)) ht
      simp only [Value.slice.injEq, true_and] at he
      obtain ⟨rfl, rfl⟩ := he
      have e0 := hr.z ht
      have e1 := hr.o ht
      have e2 := hr.s ht
      have e3 := hr.p ht
      have e4 := hr.d ht
      have e5 := hr.v ht
      have e6 := hr.w ht
      have hlti : (k : Int) < (ts.length : Int) := by omega
      have HL := hide (lastZ_more ht)
      have hk63 : k < 9223372036854775807 := by omega
      have HB2 := fun o => hide ((unhide HB).alloc (unhide HB).size o)
      clear hr ht hb
      go_wp2_with fail
      go_roundg (ts.length - (k + 1))
      case measure => omega
      case rel => exact ⟨k + 1, t.z, rfl, by simp, by omega, Nat.le_refl _, HL, HB2 _⟩
    · obtain rfl : k = ts.length := by omega
      have hki : ¬ ((ts.length : Int) < (ts.length : Int)) := by omega
      have hz : lastZ ts = z := by have := unhide HZ; rwa [List.take_length] at this
      have HZ2 := hide hz
      clear hz
      go_wp2_with fail
      go_ret
      rw [unhide HZ2]
      exact ⟨rfl, unhide HB⟩
end Go.Proofs.Ytijpnmponjjejaa

namespace Go.Proofs.Ytijpnmponjjejaa
open Go.RowKit

theorem zret_bool {a b : Bool} (h : a = b) : Ending.returned (.bool a) = .returned (.bool b) := by rw [h]

set_option maxRecDepth 10000 in
set_option maxHeartbeats 400000 in
theorem zgood_any (z : Int) (w : World) :
    Calls Try.prog 23 #[.int .i64 z] w fun e w' => e = .returned (.bool (zGood z)) ∧ w' = w := by
  go_enter Try.func23, Try.ntmps23
  go_wp2
  go_ret
  exact ⟨zret_bool (by rw [Bool.eq_iff_iff, zGood_iff, beq_iff_eq]; omega), rfl⟩

end Go.Proofs.Ytijpnmponjjejaa

namespace Go.Proofs.Ytijpnmponjjejaa
open Go.RowKit
set_option maxRecDepth 10000 in

set_option maxHeartbeats 400000 in
theorem zmake_any (e c : Int) (w : World) :
    Calls Try.prog 31 #[.int .i64 e, .int .i64 c] w fun x w' => x = .returned (.tuple #[.int .i64 (zMake e c), .int .i64 (zMakeE e c)]) ∧ w' = w := by
  by_cases h1 : e < 0
  · have H := hide (zMake_no (e := e) (c := c) (.inl (zIn_no (by omega))))
    go_enter Try.func31, Try.ntmps31
    go_wp2
    go_ret2
    exact ⟨ret_int2 (unhide H).1.symm (unhide H).2.symm, rfl⟩
  by_cases h2 : 2147483647 < e
  · have H := hide (zMake_no (e := e) (c := c) (.inl (zIn_no (by omega))))
    go_enter Try.func31, Try.ntmps31
    go_wp2
    go_ret2
    exact ⟨ret_int2 (unhide H).1.symm (unhide H).2.symm, rfl⟩
  by_cases h3 : c < 0
  · have H := hide (zMake_no (e := e) (c := c) (.inr (zIn_no (by omega))))
    go_enter Try.func31, Try.ntmps31
    go_wp2
    go_ret2
    exact ⟨ret_int2 (unhide H).1.symm (unhide H).2.symm, rfl⟩
  by_cases h4 : 2147483647 < c
  · have H := hide (zMake_no (e := e) (c := c) (.inr (zIn_no (by omega))))
    go_enter Try.func31, Try.ntmps31
    go_wp2
    go_ret2
    exact ⟨ret_int2 (unhide H).1.symm (unhide H).2.symm, rfl⟩
  have H := hide (zMake_yes (e := e) (c := c) (zIn_iff.2 (by omega)) (zIn_iff.2 (by omega)))
  go_enter Try.func31, Try.ntmps31
  go_wp2
  go_ret2
  exact ⟨ret_int2 ((or_join (by omega) (by omega) (by omega) (by omega)).trans (unhide H).1.symm) (unhide H).2.symm, rfl⟩

set_option maxRecDepth 10000 in
set_option maxHeartbeats 400000 in
theorem zepoch_any (z : Int) (w : World) :
    Calls Try.prog 21 #[.int .i64 z] w fun e w' => e = .returned (.int .i64 (zEpoch z)) ∧ w' = w := by
  cases hg : zGood z
  · have H := hide (zEpoch_no hg)
    have Hg := hide hg
    clear hg
    go_enter Try.func21, Try.ntmps21
    go_wp2_with fail
    refine (zgood_any z _).mono ?_
    rintro e w1 ⟨rfl, rfl⟩
    rw [unhide Hg]
    go_wp2_with fail
    go_ret
    exact ⟨ret_int (unhide H).symm, rfl⟩
  · have H := hide (zEpoch_yes hg)
    have Hg := hide hg
    clear hg
    go_enter Try.func21, Try.ntmps21
    go_wp2_with fail
    refine (zgood_any z _).mono ?_
    rintro e w1 ⟨rfl, rfl⟩
    rw [unhide Hg]
    go_wp2_with fail
    go_ret
    exact ⟨ret_int (unhide H).symm, rfl⟩

set_option maxRecDepth 10000 in
set_option maxHeartbeats 400000 in
theorem zcount_any (z : Int) (w : World) :
    Calls Try.prog 24 #[.int .i64 z] w fun e w' => e = .returned (.int .i64 (zCount z)) ∧ w' = w := by
  cases hg : zGood z
  · have H := hide (zCount_no hg)
    have Hg := hide hg
    clear hg
    go_enter Try.func24, Try.ntmps24
    go_wp2_with fail
    refine (zgood_any z _).mono ?_
    rintro e w1 ⟨rfl, rfl⟩
    rw [unhide Hg]
    go_wp2_with fail
    go_ret
    exact ⟨ret_int (unhide H).symm, rfl⟩
  · have H := hide (zCount_yes hg)
    have Hg := hide hg
    clear hg
    go_enter Try.func24, Try.ntmps24
    go_wp2_with fail
    refine (zgood_any z _).mono ?_
    rintro e w1 ⟨rfl, rfl⟩
    rw [unhide Hg]
    go_wp2_with fail
    go_ret
    have h := zGood_iff.1 (unhide Hg)
    exact ⟨ret_int ((and_mask h.1 h.2).trans (unhide H).symm), rfl⟩

end Go.Proofs.Ytijpnmponjjejaa

namespace Go.Proofs.Ytijpnmponjjejaa
open Go.RowKit
set_option maxRecDepth 10000 in

set_option maxHeartbeats 400000 in
theorem znext_any (z : Int) (w : World) :
    Calls Try.prog 30 #[.int .i64 z] w fun e w' => e = .returned (.tuple #[.int .i64 (zNext z), .int .i64 (zNextE z)]) ∧ w' = w := by
  cases hg : zGood z
  · have H := hide (zNext_bad hg)
    have Hg := hide hg
    clear hg
    go_enter Try.func30, Try.ntmps30
    go_wp2_with fail
    refine (zgood_any z _).mono ?_
    rintro e w1 ⟨rfl, rfl⟩
    rw [unhide Hg]
    go_wp2_with fail
    go_ret2
    exact ⟨ret_int2 (unhide H).1.symm (unhide H).2.symm, rfl⟩
  have hz := zGood_iff.1 hg
  have h0 := hz.1
  have h1 := hz.2
  clear hz
  cases hi : zIn (z % 2147483648 + 1)
  · have H := hide (zNext_full hg hi)
    have Hg := hide hg
    have hf : (z % 2147483648 == 2147483647) = true := by
      rw [beq_iff_eq]
      have := Int.emod_nonneg z (show (2147483648 : Int) ≠ 0 by decide)
      have := Int.emod_lt_of_pos z (show (0 : Int) < 2147483648 by decide)
      by_cases h : z % 2147483648 = 2147483647
      · exact h
      · rw [zIn_iff.2 (by omega)] at hi; exact absurd hi (by decide)
    clear hg hi
    go_enter Try.func30, Try.ntmps30
    go_wp2_with fail
    refine (zgood_any z _).mono ?_
    rintro e w1 ⟨rfl, rfl⟩
    rw [unhide Hg]
    go_wp2_with fail
    refine (zcount_any z _).mono ?_
    rintro e w2 ⟨rfl, rfl⟩
    rw [zCount_yes (unhide Hg)]
    go_wp2_with fail
    go_ret2
    exact ⟨ret_int2 (unhide H).1.symm (unhide H).2.symm, rfl⟩
  · have H := hide (zNext_ok hg hi)
    have Hg := hide hg
    have hf : (z % 2147483648 == 2147483647) = false := by
      rw [beq_eq_false_iff_ne]
      have := (zIn_iff.1 hi).2
      omega
    clear hg hi
    go_enter Try.func30, Try.ntmps30
    go_wp2_with fail
    refine (zgood_any z _).mono ?_
    rintro e w1 ⟨rfl, rfl⟩
    rw [unhide Hg]
    go_wp2_with fail
    refine (zcount_any z _).mono ?_
    rintro e w2 ⟨rfl, rfl⟩
    rw [zCount_yes (unhide Hg)]
    go_wp2_with fail
    go_ret2
    exact ⟨ret_int2 (unhide H).1.symm (unhide H).2.symm, rfl⟩

end Go.Proofs.Ytijpnmponjjejaa

namespace Go.Proofs.Ytijpnmponjjejaa
open Go.RowKit

theorem tdq {z : Int} (h0 : 0 ≤ z) (hm : z ≤ 9223372036854775807) : wrap64 (z.tdiv 2147483648) = z / 2147483648 := by
  rw [Int.tdiv_eq_ediv_of_nonneg h0]; unfold wrap64; omega
theorem tmq {z : Int} (h0 : 0 ≤ z) : wrap64 (z.tmod 2147483648) = z % 2147483648 := by
  rw [Int.tmod_eq_emod_of_nonneg h0]; unfold wrap64; omega
theorem tmq' {z : Int} (h0 : 0 ≤ z) : z.tmod 2147483648 = z % 2147483648 := Int.tmod_eq_emod_of_nonneg h0

set_option maxRecDepth 10000 in
set_option maxHeartbeats 400000 in
theorem rgood_any (z : Int) (hm : z ≤ 9223372036854775807) (w : World) : Calls Try.prog 40 #[.int .i64 z] w fun e w' => e = .returned (.bool (zGood z)) ∧ w' = w := by
  by_cases h0 : 0 ≤ z
  · by_cases h1 : z < 4611686018427387904
    · have H := hide (zGood_iff.2 ⟨h0, h1⟩)
      have h2 : decide (z / 2147483648 < 2147483648) = true := decide_eq_true (by omega)
      go_enter Try.func40, Try.ntmps40
      go_wp2_with fail
      go_ret
      exact ⟨zret_bool (Eq.trans (by first | rfl | exact h2 | (rw [tdq h0 hm]; exact h2)) (unhide H).symm), rfl⟩
    · have H := hide (zGood_no (z := z) (by omega))
      have h2 : decide (z / 2147483648 < 2147483648) = false := decide_eq_false (by omega)
      go_enter Try.func40, Try.ntmps40
      go_wp2_with fail
      go_ret
      exact ⟨zret_bool (Eq.trans (by first | rfl | exact h2 | (rw [tdq h0 hm]; exact h2)) (unhide H).symm), rfl⟩
  · have H := hide (zGood_no (z := z) (by omega))
    go_enter Try.func40, Try.ntmps40
    go_wp2_with fail
    go_ret
    exact ⟨zret_bool (by rw [unhide H]), rfl⟩

end Go.Proofs.Ytijpnmponjjejaa

namespace Go.Proofs.Ytijpnmponjjejaa
open Go.RowKit
set_option maxRecDepth 10000 in

set_option maxHeartbeats 400000 in
theorem repoch_any (z : Int) (hm : z ≤ 9223372036854775807) (w : World) : Calls Try.prog 29 #[.int .i64 z] w fun e w' => e = .returned (.int .i64 (zEpoch z)) ∧ w' = w := by
  cases hg : zGood z
  · have H := hide (zEpoch_no hg)
    have Hg := hide hg
    clear hg
    go_enter Try.func29, Try.ntmps29
    go_wp2_with fail
    refine (rgood_any z hm _).mono ?_
    rintro e w1 ⟨rfl, rfl⟩
    rw [unhide Hg]
    go_wp2_with fail
    go_ret
    exact ⟨ret_int (unhide H).symm, rfl⟩
  · have H := hide (zEpoch_yes hg)
    have Hg := hide hg
    have h0 := (zGood_iff.1 hg).1
    clear hg
    go_enter Try.func29, Try.ntmps29
    go_wp2_with fail
    refine (rgood_any z hm _).mono ?_
    rintro e w1 ⟨rfl, rfl⟩
    rw [unhide Hg]
    go_wp2_with fail
    go_ret
    exact ⟨ret_int (Eq.trans (by first | rfl | exact tdq h0 hm) (unhide H).symm), rfl⟩

set_option maxRecDepth 10000 in
set_option maxHeartbeats 400000 in
theorem rcount_any (z : Int) (hm : z ≤ 9223372036854775807) (w : World) : Calls Try.prog 41 #[.int .i64 z] w fun e w' => e = .returned (.int .i64 (zCount z)) ∧ w' = w := by
  cases hg : zGood z
  · have H := hide (zCount_no hg)
    have Hg := hide hg
    clear hg
    go_enter Try.func41, Try.ntmps41
    go_wp2_with fail
    refine (rgood_any z hm _).mono ?_
    rintro e w1 ⟨rfl, rfl⟩
    rw [unhide Hg]
    go_wp2_with fail
    go_ret
    exact ⟨ret_int (unhide H).symm, rfl⟩
  · have H := hide (zCount_yes hg)
    have Hg := hide hg
    have h0 := (zGood_iff.1 hg).1
    clear hg
    go_enter Try.func41, Try.ntmps41
    go_wp2_with fail
    refine (rgood_any z hm _).mono ?_
    rintro e w1 ⟨rfl, rfl⟩
    rw [unhide Hg]
    go_wp2_with fail
    go_ret
    exact ⟨ret_int (Eq.trans (by first | rfl | exact tmq h0 | exact tmq' h0) (unhide H).symm), rfl⟩

end Go.Proofs.Ytijpnmponjjejaa

namespace Go.Proofs.Ytijpnmponjjejaa
open Go.RowKit
set_option maxRecDepth 10000 in

set_option maxHeartbeats 400000 in
theorem rmake_any (e c : Int) (w : World) :
    Calls Try.prog 33 #[.int .i64 e, .int .i64 c] w fun x w' => x = .returned (.tuple #[.int .i64 (zMake e c), .int .i64 (zMakeE e c)]) ∧ w' = w := by
  by_cases h1 : e < 0
  · have H := hide (zMake_no (e := e) (c := c) (.inl (zIn_no (by omega))))
    go_enter Try.func33, Try.ntmps33
    go_wp2_with fail
    go_ret2
    exact ⟨ret_int2 (unhide H).1.symm (unhide H).2.symm, rfl⟩
  by_cases h2 : 2147483648 ≤ e
  · have H := hide (zMake_no (e := e) (c := c) (.inl (zIn_no (by omega))))
    go_enter Try.func33, Try.ntmps33
    go_wp2_with fail
    go_ret2
    exact ⟨ret_int2 (unhide H).1.symm (unhide H).2.symm, rfl⟩
  by_cases h3 : c < 0
  · have H := hide (zMake_no (e := e) (c := c) (.inr (zIn_no (by omega))))
    go_enter Try.func33, Try.ntmps33
    go_wp2_with fail
    go_ret2
    exact ⟨ret_int2 (unhide H).1.symm (unhide H).2.symm, rfl⟩
  by_cases h4 : 2147483648 ≤ c
  · have H := hide (zMake_no (e := e) (c := c) (.inr (zIn_no (by omega))))
    go_enter Try.func33, Try.ntmps33
    go_wp2_with fail
    go_ret2
    exact ⟨ret_int2 (unhide H).1.symm (unhide H).2.symm, rfl⟩
  have H := hide (zMake_yes (e := e) (c := c) (zIn_iff.2 (by omega)) (zIn_iff.2 (by omega)))
  go_enter Try.func33, Try.ntmps33
  go_wp2_with fail
  go_ret2
  exact ⟨ret_int2 (unhide H).1.symm (unhide H).2.symm, rfl⟩

set_option maxRecDepth 10000 in
set_option maxHeartbeats 400000 in
theorem rnext_any (z : Int) (hm : z ≤ 9223372036854775807) (w : World) : Calls Try.prog 32 #[.int .i64 z] w fun e w' => e = .returned (.tuple #[.int .i64 (zNext z), .int .i64 (zNextE z)]) ∧ w' = w := by
  cases hg : zGood z
  · have H := hide (zNext_bad hg)
    have Hg := hide hg
    clear hg
    go_enter Try.func32, Try.ntmps32
    go_wp2_with fail
    refine (rgood_any z hm _).mono ?_
    rintro e w1 ⟨rfl, rfl⟩
    rw [unhide Hg]
    go_wp2_with fail
    go_ret2
    exact ⟨ret_int2 (unhide H).1.symm (unhide H).2.symm, rfl⟩
  have hz := zGood_iff.1 hg
  have Ez : Hid (zEpoch z = z / 2147483648) := hide (zEpoch_yes hg)
  have Cz : Hid (zCount z = z % 2147483648) := hide (zCount_yes hg)
  obtain ⟨q, hq⟩ : ∃ q, z / 2147483648 = q := ⟨_, rfl⟩
  obtain ⟨r, hr⟩ : ∃ r, z % 2147483648 = r := ⟨_, rfl⟩
  have q0 : 0 ≤ q := by omega
  have q1 : q < 2147483648 := by omega
  have r0 : 0 ≤ r := by omega
  have r1 : r < 2147483648 := by omega
  have zqr : z = q * 2147483648 + r := by omega
  have Hg := hide hg
  have Hq := hide hq
  have Hr := hide hr
  cases hi : zIn (r + 1)
  · have H := hide (zNext_full hg (by rw [hr]; exact hi))
    have HM := hide (zMake_no (e := q) (c := (r + 1)) (.inr hi))
    clear hg hq hr hi hz zqr
    go_enter Try.func32, Try.ntmps32
    go_wp2_with fail
    refine (rgood_any z hm _).mono ?_
    rintro e w1 ⟨rfl, rfl⟩
    rw [unhide Hg]
    go_wp2_with fail
    refine (repoch_any z hm _).mono ?_
    rintro e w1 ⟨rfl, rfl⟩
    rw [unhide Ez, unhide Hq]
    go_wp2_with fail
    refine (rcount_any z hm _).mono ?_
    rintro e w1 ⟨rfl, rfl⟩
    rw [unhide Cz, unhide Hr]
    go_wp2_with fail
    refine (rmake_any q (r + 1) _).mono ?_
    rintro e w1 ⟨rfl, rfl⟩
    rw [(unhide HM).1, (unhide HM).2]
    go_wp2_with fail
    go_ret2
    exact ⟨ret_int2 (unhide H).1.symm (unhide H).2.symm, rfl⟩
  · have H := hide (zNext_ok hg (by rw [hr]; exact hi))
    have HM := hide (zMake_yes (e := q) (c := (r + 1)) (zIn_iff.2 ⟨q0, q1⟩) hi)
    have Hzq := hide zqr
    clear hg hq hr hi hz zqr
    go_enter Try.func32, Try.ntmps32
    go_wp2_with fail
    refine (rgood_any z hm _).mono ?_
    rintro e w1 ⟨rfl, rfl⟩
    rw [unhide Hg]
    go_wp2_with fail
    refine (repoch_any z hm _).mono ?_
    rintro e w1 ⟨rfl, rfl⟩
    rw [unhide Ez, unhide Hq]
    go_wp2_with fail
    refine (rcount_any z hm _).mono ?_
    rintro e w1 ⟨rfl, rfl⟩
    rw [unhide Cz, unhide Hr]
    go_wp2_with fail
    refine (rmake_any q (r + 1) _).mono ?_
    rintro e w1 ⟨rfl, rfl⟩
    rw [(unhide HM).1, (unhide HM).2]
    go_wp2_with fail
    go_ret2
    exact ⟨ret_int2 (by have h := unhide Hzq; rw [(unhide H).1]; omega) (unhide H).2.symm, rfl⟩

end Go.Proofs.Ytijpnmponjjejaa

namespace Go.Proofs.Ytijpnmponjjejaa
open Go.RowKit

def nxN (ep z : Int) : Int := if ep ≤ zEpoch z then zNext z else if zMakeE ep 0 = 0 then zNext (zMake ep 0) else 0
def nxE (ep z : Int) : Int := if ep ≤ zEpoch z then zNextE z else if zMakeE ep 0 = 0 then zNextE (zMake ep 0) else zMakeE ep 0

set_option maxRecDepth 10000 in
set_option maxHeartbeats 1000000 in
theorem next_any (p : Pe) (w : World) (hp : LogV w p.log p.ts) :
    Calls Try.prog 13 #[peV p] w fun e w' => e = .returned (.tuple #[.int .i64 (nxN p.ep (lastZ p.ts)), .int .i64 (nxE p.ep (lastZ p.ts))]) ∧ Below w.heap.size w w' := by
  have CL := fun W (h : Below w.heap.size w W) => last_any p.log p.ts W (hp.next h)
  have B0 := allocB w (.cells #[.int .i64 p.id, .int .i64 p.ep, .slice p.a p.ts.length p.c, .int .i64 p.dn] 29)
  have P0 := PBox.new w p
  have C0 := CL _ B0
  have HP := hide P0
  have d2 := P0.c2
  have HB := hide B0
  clear CL P0 B0 hp
  obtain ⟨i, ep, a, c, ts, dn⟩ := p
  simp only [Pe.log] at *
  unfold peV
  simp only
  generalize lastZ ts = z at *
  have HE := hide (show (zEpoch z ≥ ep → nxN ep z = zNext z ∧ nxE ep z = zNextE z) ∧ (¬ zEpoch z ≥ ep → (zMakeE ep 0 = 0 → nxN ep z = zNext (zMake ep 0) ∧ nxE ep z = zNextE (zMake ep 0)) ∧ (zMakeE ep 0 ≠ 0 → nxN ep z = 0 ∧ nxE ep z = zMakeE ep 0)) from
    ⟨fun h => by simp [nxN, nxE, h], fun h => ⟨fun k => by simp [nxN, nxE, h, k], fun k => by simp [nxN, nxE, h, k]⟩⟩)
  generalize nxN ep z = R at *
  generalize nxE ep z = E at *
  go_enter Try.func13, Try.ntmps13
  go_wp2_with fail
  refine C0.mono ?_
  rintro e w1 ⟨rfl, hb1⟩
  have HB1 : Hid (Below w.heap.size w w1) := hide (nnext (unhide HB) (by rw [hb1]; exact Below.refl _ _))
  have d1 : w1.cell? ⟨w.heap.size, 1, none⟩ = some (.int .i64 ep) := ((unhide HP).next (by rw [hb1]; exact Below.refl _ _)).c1
  clear hb1
  go_wp2_with fail
  go_quiet ((go_at_call 21; exact Calls.quiet_of_same (zepoch_any _ _)))
  by_cases h1 : zEpoch z ≥ ep
  · have HR := hide ((unhide HE).1 h1)
    go_wp2_with fail
    refine (znext_any _ _).mono ?_
    rintro e w2 ⟨rfl, rfl⟩
    go_wp2_with fail
    go_ret2
    rw [(unhide HR).1, (unhide HR).2]
    exact ⟨rfl, belowN (unhide HB1)⟩
  · have HS := hide ((unhide HE).2 (by simpa using h1))
    go_wp2_with fail
    refine (zmake_any _ _ _).mono ?_
    rintro e w2 ⟨rfl, rfl⟩
    by_cases h2 : zMakeE ep 0 = 0
    · have HR := hide ((unhide HS).1 h2)
      go_wp2_with fail
      refine (znext_any _ _).mono ?_
      rintro e w3 ⟨rfl, rfl⟩
      go_wp2_with fail
      go_ret2
      rw [(unhide HR).1, (unhide HR).2]
      exact ⟨rfl, belowN (unhide HB1)⟩
    · have HR := hide ((unhide HS).2 h2)
      go_wp2_with fail
      go_ret2
      rw [(unhide HR).1, (unhide HR).2]
      exact ⟨rfl, belowN (unhide HB1)⟩

theorem make_le (ep c : Int) : zMake ep c ≤ 9223372036854775807 := by
  unfold zMake
  split
  · rename_i h
    simp only [Bool.and_eq_true] at h
    have h1 := zIn_iff.1 h.1
    have h2 := zIn_iff.1 h.2
    omega
  · decide

set_option maxRecDepth 10000 in
set_option maxHeartbeats 1000000 in
theorem rnextOf_any (p : Pe) (w : World) (hp : LogV w p.log p.ts) (hz : lastZ p.ts ≤ 9223372036854775807) :
    Calls Try.prog 14 #[peV p] w fun e w' => e = .returned (.tuple #[.int .i64 (nxN p.ep (lastZ p.ts)), .int .i64 (nxE p.ep (lastZ p.ts))]) ∧ Below w.heap.size w w' := by
  have CL := fun W (h : Below w.heap.size w W) => rlast_any p.log p.ts W (hp.next h)
  have B0 := allocB w (.cells #[.int .i64 p.id, .int .i64 p.ep, .slice p.a p.ts.length p.c, .int .i64 p.dn] 29)
  have P0 := PBox.new w p
  have C0 := CL _ B0
  have HP := hide P0
  have d2 := P0.c2
  have HB := hide B0
  clear CL P0 B0 hp
  obtain ⟨i, ep, a, c, ts, dn⟩ := p
  simp only [Pe.log] at *
  unfold peV
  simp only
  generalize lastZ ts = z at *
  have HZ := hide hz
  clear hz
  have HE := hide (show (zEpoch z ≥ ep → nxN ep z = zNext z ∧ nxE ep z = zNextE z) ∧ (¬ zEpoch z ≥ ep → (zMakeE ep 0 = 0 → nxN ep z = zNext (zMake ep 0) ∧ nxE ep z = zNextE (zMake ep 0)) ∧ (zMakeE ep 0 ≠ 0 → nxN ep z = 0 ∧ nxE ep z = zMakeE ep 0)) from
    ⟨fun h => by simp [nxN, nxE, h], fun h => ⟨fun k => by simp [nxN, nxE, h, k], fun k => by simp [nxN, nxE, h, k]⟩⟩)
  generalize nxN ep z = R at *
  generalize nxE ep z = E at *
  go_enter Try.func14, Try.ntmps14
  go_wp2_with fail
  refine C0.mono ?_
  rintro e w1 ⟨rfl, hb1⟩
  have HB1 : Hid (Below w.heap.size w w1) := hide (nnext (unhide HB) hb1)
  have d1 : w1.cell? ⟨w.heap.size, 1, none⟩ = some (.int .i64 ep) := ((unhide HP).next hb1).c1
  clear hb1
  go_wp2_with fail
  go_quiet ((go_at_call 29; exact Calls.quiet_of_same (repoch_any _ (unhide HZ) _)))
  by_cases h1 : zEpoch z ≥ ep
  · have HR := hide ((unhide HE).1 h1)
    go_wp2_with fail
    refine (rnext_any _ (unhide HZ) _).mono ?_
    rintro e w2 ⟨rfl, rfl⟩
    go_wp2_with fail
    go_ret2
    rw [(unhide HR).1, (unhide HR).2]
    exact ⟨rfl, belowN (unhide HB1)⟩
  · have HS := hide ((unhide HE).2 (by simpa using h1))
    go_wp2_with fail
    refine (rmake_any _ _ _).mono ?_
    rintro e w2 ⟨rfl, rfl⟩
    by_cases h2 : zMakeE ep 0 = 0
    · have HR := hide ((unhide HS).1 h2)
      go_wp2_with fail
      refine (rnext_any _ (make_le _ _) _).mono ?_
      rintro e w3 ⟨rfl, rfl⟩
      go_wp2_with fail
      go_ret2
      rw [(unhide HR).1, (unhide HR).2]
      exact ⟨rfl, belowN (unhide HB1)⟩
    · have HR := hide ((unhide HS).2 h2)
      go_wp2_with fail
      go_ret2
      rw [(unhide HR).1, (unhide HR).2]
      exact ⟨rfl, belowN (unhide HB1)⟩
end Go.Proofs.Ytijpnmponjjejaa

namespace Go.Proofs.Ytijpnmponjjejaa
open Go.RowKit

theorem seq_one {w : World} {g : Nat} {p : Pe} (h : OneR w g p) : SeqV w (.slice (some ⟨g, 0, none⟩) 1 1) [p] :=
  .inr ⟨g, 0, 1, rfl, by simp, by decide, (Array.getElem?_eq_some_iff.1 h).1, by simp, fun j v hj => h.row j v (by simpa [cellsL] using hj)⟩
theorem own_one {w w' : World} {p : Pe} {e : Ending} (h : GivesPe w [p] e w') : ∃ (q : Pe) (g c : Nat), e = .returned (.slice (some ⟨g, 0, none⟩) 1 c) ∧ q.ep = p.ep ∧ q.ts = p.ts ∧ LogV w' q.log q.ts ∧
    w'.cell? ⟨g, 0, none⟩ = some (.int .i64 q.id) ∧ w'.cell? ⟨g, 1, none⟩ = some (.int .i64 q.ep) ∧ w'.cell? ⟨g, 2, none⟩ = some (.slice q.a q.ts.length q.c) ∧ w'.cell? ⟨g, 3, none⟩ = some (.int .i64 q.dn) ∧ Below w.heap.size w w' := by
  obtain ⟨v, qs, rfl, h1, h2, h3, h4⟩ := h
  obtain ⟨q, rfl⟩ : ∃ q, qs = [q] := by
    have hl := congrArg List.length h3
    simp at hl
    exact List.length_eq_one_iff.1 hl
  · simp only [List.map_cons, List.map_nil, List.cons.injEq, and_true, pk, Prod.mk.injEq] at h3
    rcases h1 with ⟨_, h⟩ | ⟨g, cap, rfl, _, ho⟩
    · simp at h
    · have r := ho.row
      exact ⟨q, g, cap, rfl, h3.2.1, h3.2.2, h2.logs q (by simp), by simpa using r.pe0 (i := 0) rfl, by simpa using r.pe1 (i := 0) rfl, by simpa using r.pe2 (i := 0) rfl, by simpa using r.pe3 (i := 0) rfl, h4⟩
theorem nx_zero : nxN 0 0 = 1 ∧ nxE 0 0 = 0 := by decide

set_option maxRecDepth 10000 in
set_option maxHeartbeats 2000000 in
theorem zabNexts_walk (p : Pe) (w : World) (hp : LogV w p.log p.ts) (hf : p.ts.length * 72 ≤ 140737488351232) (hz : lastZ p.ts ≤ 9223372036854775807) :
    Calls Try.prog 4 #[peV p] w fun e w' => e = .returned (.bool true) ∧ Below w.heap.size w w' := by
  obtain ⟨W0, hW0⟩ : ∃ W0, W0 = w.alloc (.cells #[.int .i64 p.id, .int .i64 p.ep, .slice p.a p.ts.length p.c, .int .i64 p.dn] 29) := ⟨_, rfl⟩
  have B0 : Below w.heap.size w W0 := by rw [hW0]; exact allocB _ _
  have P0 : PBox W0 w.heap.size p := by rw [hW0]; exact PBox.new w p
  obtain ⟨W1, hW1⟩ : ∃ W1, W1 = W0.alloc (.cells #[.int .i64 p.id, .int .i64 p.ep, .slice p.a p.ts.length p.c, .int .i64 p.dn] 29) := ⟨_, rfl⟩
  have B1 : Below W0.heap.size W0 W1 := by rw [hW1]; exact allocB _ _
  have S1 : SeqV W1 (.slice (some ⟨W0.heap.size, 0, none⟩) 1 1) [p] := by rw [hW1]; exact seq_one (pone W0 p)
  have C1 := hide (peers_any _ [p] W1 S1 (fun q hq => by rw [List.mem_singleton.1 hq]; exact hp.next (nnext B0 B1)) ⟨by simp, fun q hq => by rw [List.mem_singleton.1 hq]; exact hf⟩)
  have CN := hide (fun q W h => next_any q W h)
  have CR := hide (fun W (h : Below w.heap.size w W) => rnextOf_any p W (hp.next h) hz)
  have HB1 := hide (nnext B0 B1)
  have HP1 := hide (P0.next B1)
  have e0 := P0.c0
  have e1 := P0.c1
  have e2 := P0.c2
  have e3 := P0.c3
  have HZ := hide nx_zero
  obtain ⟨i, ep, a, c, ts, dn⟩ := p
  simp only [Pe.log] at *
  unfold peV at *
  simp only at *
  clear S1 B0 P0 B1 hp hf hz
  go_enter Try.func4, Try.ntmps4
  go_upto_region 1 with fail
  rw [← hW0]
  have HW1 := hide hW1
  clear hW0 hW1
  go_wp2_with fail
  rw [← unhide HW1]
  refine (unhide C1).mono ?_
  rintro e w1 h1
  obtain ⟨q, g, cc, rfl, hq1, hq2, hql, d0, d1, d2, d3, hb1⟩ := own_one h1
  have CN1 := unhide CN q w1 hql
  rw [hq1, hq2] at CN1
  have HP2 := hide ((unhide HP1).next hb1)
  have HB2 := hide (nnext (unhide HB1) hb1)
  obtain ⟨qi, qe, qa, qc, qt, qd⟩ := q
  simp only at hq1 hq2 CN1 d0 d1 d2 d3
  subst hq1 hq2
  clear h1 hql hb1 HW1
  generalize nxN qe (lastZ qt) = R at *
  generalize nxE qe (lastZ qt) = E at *
  go_wp2_with fail
  refine CN1.mono ?_
  rintro e w2 ⟨rfl, hb2⟩
  have P3 := (unhide HP2).next hb2
  have HB3 := hide (nnext (unhide HB2) hb2)
  have f0 := P3.c0
  have f1 := P3.c1
  have f2 := P3.c2
  have f3 := P3.c3
  clear hb2 d0 d1 d2 d3 e0 e1 e2 e3
  go_wp2_with fail
  refine (unhide CR w2 (unhide HB3)).mono ?_
  rintro e w3 ⟨rfl, hb3⟩
  have HB4 := hide (nnext (unhide HB3) hb3)
  clear hb3 f0 f1 f2 f3
  go_wp2_with fail
  refine (unhide CN pe0 w3 (LogV.nil _)).mono ?_
  rintro e w4 ⟨rfl, hb4⟩
  have HB5 := hide (nnext (unhide HB4) hb4)
  simp only [pe0, lastZ_nil, (unhide HZ).1, (unhide HZ).2]
  clear hb4
  go_wp2_with fail
  go_ret
  exact ⟨rfl, unhide HB5⟩
end Go.Proofs.Ytijpnmponjjejaa

namespace Go.Proofs.Ytijpnmponjjejaa
open Go.ChangeShapes Go.WideShapes Go.ChangeAt Go.RowKit Go.ChangeMaps

theorem zcellsStr : Try.prog.cellsOf 9 = 1 := by kernel_rfl
theorem zcellsInt : Try.prog.cellsOf 3 = 1 := by kernel_rfl
theorem zcellsTxn : Try.prog.cellsOf 47 = 7 := by kernel_rfl
theorem zcellsPeer : Try.prog.cellsOf 29 = 4 := by kernel_rfl
theorem zcellsLog : Try.prog.cellsOf 27 = 1 := by kernel_rfl
theorem zbytesTxn : Try.prog.bytesOf 47 = 72 := by kernel_rfl
theorem zbytesPeer : Try.prog.bytesOf 29 = 48 := by kernel_rfl
theorem zbytesLog : Try.prog.bytesOf 27 = 24 := by kernel_rfl
theorem zlaidOut : laidOutB Try.prog = true := by kernel_rfl
theorem zlist_of (s : ByteArray) : ∃ l : List UInt8, s = ⟨l.toArray⟩ := ⟨s.data.toList, rfl⟩

section
variable {H : Type} {enc : TypeId × Value → H} {W : World} {base : Nat} {spare : Nat → Bool} {held : Bool}
set_option maxRecDepth 10000 in
theorem zopen_txn {n : Nat} {cs : List Value} {x : DataW H × List MemPlace} (hl : cs.length = 7) (h : DataW.trod enc Try.prog W base spare held n 47 cs = some x) : ∃ t : WTxn, cs = tcells t ∧ t.z ≤ 9223372036854775807 := by
  match cs, hl with
  | [c0, c1, c2, c3, c4, c5, c6], _ =>
    obtain ⟨xs, n, _, hx, _, hlen, hfs⟩ := DataW.trod_struct Try.underlying47 h
    match xs, hlen with
    | [y0, y1, y2, y3, y4, y5, y6], _ =>
      obtain ⟨z, e0, rfl, w0⟩ := DataW.trod_int Try.underlying3 (show DataW.trod enc Try.prog W base spare held n 3 [c0] = some y0 by simpa [zcellsInt] using hfs 0 _ rfl)
      obtain ⟨o, e1, rfl, _⟩ := DataW.trod_int Try.underlying3 (show DataW.trod enc Try.prog W base spare held n 3 [c1] = some y1 by simpa [zcellsInt] using hfs 1 _ rfl)
      obtain ⟨s, e2, rfl, _⟩ := DataW.trod_int Try.underlying3 (show DataW.trod enc Try.prog W base spare held n 3 [c2] = some y2 by simpa [zcellsInt] using hfs 2 _ rfl)
      obtain ⟨p', e3, rfl, _⟩ := DataW.trod_string Try.underlying9 (show DataW.trod enc Try.prog W base spare held n 9 [c3] = some y3 by simpa [zcellsStr] using hfs 3 _ rfl)
      obtain ⟨d', e4, rfl, _⟩ := DataW.trod_string Try.underlying9 (show DataW.trod enc Try.prog W base spare held n 9 [c4] = some y4 by simpa [zcellsStr] using hfs 4 _ rfl)
      obtain ⟨v', e5, rfl, _⟩ := DataW.trod_int Try.underlying3 (show DataW.trod enc Try.prog W base spare held n 3 [c5] = some y5 by simpa [zcellsInt] using hfs 5 _ rfl)
      obtain ⟨u', e6, rfl, _⟩ := DataW.trod_int Try.underlying3 (show DataW.trod enc Try.prog W base spare held n 3 [c6] = some y6 by simpa [zcellsInt] using hfs 6 _ rfl)
      simp only [List.cons.injEq, and_true] at e0 e1 e2 e3 e4 e5 e6
      subst e0 e1 e2 e3 e4 e5 e6
      obtain ⟨pl, rfl⟩ := zlist_of p'
      obtain ⟨dl, rfl⟩ := zlist_of d'
      exact ⟨⟨z, o, s, pl, dl, v', u'⟩, rfl, (bounds_i64 w0).2⟩
theorem zweightsAll_mem {e : TypeId} : ∀ (l : List (DataW H)) (d : DataW H) (x : Nat), d ∈ l → x ∈ DataW.weights Try.prog e d → x ∈ DataW.weightsAll Try.prog e l
  | d' :: r, d, x, h, hx => by
    rw [DataW.weightsAll]
    rcases List.mem_cons.1 h with rfl | h
    · exact List.mem_append.2 (.inl hx)
    · exact List.mem_append.2 (.inr (zweightsAll_mem r d x h hx))
set_option maxRecDepth 10000 in
/-- a slice of elements that are laid in a row, and what is known of each -/
theorem open_seqP {α : Type} [Lay α] (al : α) {T E : TypeId} (hU : Try.prog.underlying T = some (.slice E)) (hk : Try.prog.cellsOf E = Lay.k α) (hk0 : 0 < Lay.k α) {bytes : Nat} (hby : Try.prog.bytesOf E = bytes) (P : α → Prop) (Q : Nat → α → Prop)
    (ho : ∀ {n : Nat} {cs : List Value} {x : DataW H × List MemPlace}, cs.length = Lay.k α → DataW.trod enc Try.prog W base spare held n E cs = some x → ∃ f : α, cs = Lay.cs f ∧ P f ∧ ∀ M, (∀ y ∈ DataW.weights Try.prog E x.1, y ≤ M) → Q M f)
    {fuel : Nat} {v : Value} {y : DataW H × List MemPlace} (h : DataW.trod enc Try.prog W base spare held fuel T [v] = some y) :
    ∃ xs : List α, SeqV W v xs ∧ (∀ x ∈ xs, P x) ∧ ∀ M, (∀ x ∈ DataW.weights Try.prog T y.1, x ≤ M) → xs.length * bytes ≤ M ∧ ∀ x ∈ xs, Q M x := by
  rcases Go.Deep.open_slice hU h with ⟨h1, hx⟩ | ⟨a, len, cap, m, k, D, Pl, h1, hb, hl, hm, hmm, hx, hel⟩
  · simp only [List.cons.injEq, and_true] at h1
    rw [h1]
    exact ⟨[], SeqV.nil W, by simp, fun M _ => ⟨by simp, by simp⟩⟩
  · simp only [List.cons.injEq, and_true] at h1
    rw [h1]
    subst hx
    have hlm : len ≤ m := by rw [hmm]; split <;> omega
    have each : ∀ i, i < len → ∃ f : α, (∀ c, c < Lay.k α → W.cell? (a.add (i * Lay.k α + c)) = (Lay.cs f)[c]?) ∧ P f ∧ ∀ M, (∀ y ∈ DataW.weights Try.prog E (D i), y ≤ M) → Q M f := by
      intro i hi
      obtain ⟨cs', g1, g2⟩ := hel i (by omega)
      rw [hk] at g1
      obtain ⟨_, hlen, hcell⟩ := World.cells?_some g1
      obtain ⟨f, rfl, hp, hq⟩ := ho hlen g2
      refine ⟨f, fun c hc => ?_, hp, hq⟩
      have := hcell c hc
      rwa [Go.Deep.add_add] at this
    have : Inhabited α := ⟨al⟩
    obtain ⟨F, hF⟩ := Go.Deep.choose_lt each
    refine ⟨(List.range len).map F, ?_, ?_, ?_⟩
    · by_cases h0 : len = 0
      · subst h0
        exact .inl ⟨some a, cap, rfl, rfl, hm⟩
      · have c0 := (hF 0 (by omega)).1 0 hk0
        obtain ⟨y, hy⟩ : ∃ y, (Lay.cs (F 0))[0]? = some y := ⟨_, List.getElem?_eq_getElem (by rw [Lay.len]; exact hk0)⟩
        rw [hy] at c0
        obtain ⟨b, off, sp⟩ := a
        have hsp : sp = none := by
          cases sp with
          | none => rfl
          | some s => simp [World.cell?, Addr.add] at c0; split at c0 <;> simp at c0
        subst hsp
        have hblt : b < W.heap.size := World.block_lt_of_cell? W _ (show W.cell? ((⟨b, off, none⟩ : Addr).add (0 * Lay.k α + 0)) = some _ from c0) |> fun h => by simpa [Addr.add] using h
        refine .inr ⟨b, off, cap, by simp, by simpa using hl, hm, hblt, by simp; omega, fun j u hj => ?_⟩
        have hjl : j < len * Lay.k α := by
          have := (List.getElem?_eq_some_iff.1 hj).1
          rw [cellsL_length, List.length_map, List.length_range] at this
          exact this
        have hi : j / Lay.k α < len := Nat.div_lt_of_lt_mul (by rw [Nat.mul_comm]; exact hjl)
        have hm' : j % Lay.k α < Lay.k α := Nat.mod_lt _ hk0
        have hdm : j / Lay.k α * Lay.k α + j % Lay.k α = j := by rw [Nat.mul_comm]; exact Nat.div_add_mod j _
        have hg := cellsL_get ((List.range len).map F) (j / Lay.k α) (F (j / Lay.k α)) (by rw [List.getElem?_map, List.getElem?_range hi]; rfl) (j % Lay.k α) hm'
        rw [hdm, hj] at hg
        have := (hF (j / Lay.k α) hi).1 (j % Lay.k α) hm'
        rw [hdm, Addr.add_lit, ← hg] at this
        exact this
    · intro x hx
      obtain ⟨i, hi, rfl⟩ := List.mem_map.1 hx
      exact (hF i (by simpa using hi)).2.1
    · intro M hM
      have hw' : DataW.weights Try.prog T (.slice ((List.range len).map D) ((List.range (m - len)).map fun j => D (len + j)) : DataW H) =
          (len + (m - len)) * bytes :: (DataW.weightsAll Try.prog E ((List.range len).map D) ++ DataW.weightsAll Try.prog E ((List.range (m - len)).map fun j => D (len + j))) := by
        simp [DataW.weights, hU, hby]
      rw [hw'] at hM
      refine ⟨?_, fun f hf => ?_⟩
      · have := hM _ (List.mem_cons_self ..)
        simp only [List.length_map, List.length_range]
        exact Nat.le_trans (Nat.mul_le_mul_right _ (by omega)) this
      · obtain ⟨i, hi, rfl⟩ := List.mem_map.1 hf
        have hi' : i < len := by simpa using hi
        exact (hF i hi').2.2 M fun x hx => hM x (List.mem_cons_of_mem _ (List.mem_append.2 (.inl (zweightsAll_mem _ (D i) x (List.mem_map.2 ⟨i, hi, rfl⟩) hx))))

/-- a log's value holds these; what is known of them -/
structure ZLog (W : World) (v : Value) (ts : List WTxn) : Prop where
  log : LogV W v ts
  z : ∀ t ∈ ts, t.z ≤ 9223372036854775807
theorem ZLog.last {W : World} {v : Value} {ts : List WTxn} (h : ZLog W v ts) : lastZ ts ≤ 9223372036854775807 := by
  by_cases h0 : ts.length = 0
  · obtain rfl := List.length_eq_zero_iff.1 h0
    rw [lastZ_nil]; decide
  · obtain ⟨m, x, rfl⟩ := snoc_of h0
    rw [lastZ_snoc]
    exact h.z x (by simp)
theorem zopen_log {fuel : Nat} {v : Value} {y : DataW H × List MemPlace} (h : DataW.trod enc Try.prog W base spare held fuel 27 [v] = some y) :
    ∃ (a : Option Addr) (c : Nat) (ts : List WTxn), v = .slice a ts.length c ∧ ZLog W v ts ∧ ∀ M, (∀ x ∈ DataW.weights Try.prog 27 y.1, x ≤ M) → ts.length * 72 ≤ M := by
  obtain ⟨ts, h1, h2, h3⟩ := open_seqP (⟨0, 0, 0, [], [], 0, 0⟩ : WTxn) Try.underlying27 zcellsTxn (by decide) zbytesTxn (fun t => t.z ≤ 9223372036854775807) (fun _ _ => True) (fun hl h => by obtain ⟨t, e, hz⟩ := zopen_txn hl h; exact ⟨t, e, hz, fun _ _ => trivial⟩) h
  obtain ⟨a, c, e⟩ := log_slice (seq_log.1 h1)
  exact ⟨a, c, ts, e, ⟨seq_log.1 h1, h2⟩, fun M hM => (h3 M hM).1⟩
set_option maxRecDepth 10000 in
theorem zopen_pe {n : Nat} {cs : List Value} {x : DataW H × List MemPlace} (hl : cs.length = 4) (h : DataW.trod enc Try.prog W base spare held n 29 cs = some x) :
    ∃ p : Pe, cs = pcells p ∧ ZLog W p.log p.ts ∧ ∀ M, (∀ y ∈ DataW.weights Try.prog 29 x.1, y ≤ M) → p.ts.length * 72 ≤ M := by
  match cs, hl with
  | [c0, c1, c2, c3], _ =>
    obtain ⟨xs, n, _, hx, _, hlen, hfs⟩ := DataW.trod_struct Try.underlying29 h
    match xs, hlen with
    | [y0, y1, y2, y3], _ =>
      obtain ⟨i, e0, rfl, _⟩ := DataW.trod_int Try.underlying3 (show DataW.trod enc Try.prog W base spare held n 3 [c0] = some y0 by simpa [zcellsInt] using hfs 0 _ rfl)
      obtain ⟨ep, e1, rfl, _⟩ := DataW.trod_int Try.underlying3 (show DataW.trod enc Try.prog W base spare held n 3 [c1] = some y1 by simpa [zcellsInt] using hfs 1 _ rfl)
      obtain ⟨a, c, ts, e2, hL, hM⟩ := zopen_log (show DataW.trod enc Try.prog W base spare held n 27 [c2] = some y2 by simpa [zcellsInt, zcellsLog] using hfs 2 _ rfl)
      obtain ⟨dn, e3, rfl, _⟩ := DataW.trod_int Try.underlying3 (show DataW.trod enc Try.prog W base spare held n 3 [c3] = some y3 by simpa [zcellsInt, zcellsLog] using hfs 3 _ rfl)
      simp only [List.cons.injEq, and_true] at e0 e1 e3
      subst e0 e1 e2 e3 hx
      refine ⟨⟨i, ep, a, c, ts, dn⟩, rfl, hL, fun M hW => hM M fun q hq => hW q ?_⟩
      simp [DataW.weights, Try.underlying29, DataW.weightsEach, hq]
theorem zopen_lg {n : Nat} {cs : List Value} {x : DataW H × List MemPlace} (hl : cs.length = 1) (h : DataW.trod enc Try.prog W base spare held n 27 cs = some x) :
    ∃ l : Lg, cs = [lgV l] ∧ ZLog W (lgV l) l.ts ∧ ∀ M, (∀ y ∈ DataW.weights Try.prog 27 x.1, y ≤ M) → l.ts.length * 72 ≤ M := by
  match cs, hl with
  | [c0], _ =>
    obtain ⟨a, c, ts, rfl, hL, hM⟩ := zopen_log h
    exact ⟨⟨a, c, ts⟩, rfl, hL, hM⟩
set_option maxRecDepth 10000 in
theorem open_peer {r : Reach} {b0 : Nat} {v : Value} {d : DataW H} {p : List MemPlace} (hv : Value.okWide Try.prog W r b0 29 v) (h : DataW.Trod enc Try.prog W base spare held 29 v d p) :
    ∃ pe : Pe, v = peV pe ∧ ZLog W pe.log pe.ts ∧ ∀ M, (∀ y ∈ DataW.weights Try.prog 29 d, y ≤ M) → pe.ts.length * 72 ≤ M := by
  obtain ⟨cs, rfl, hsz⟩ := okWide_struct Try.underlying29 hv
  obtain ⟨fuel, hf⟩ := h
  obtain ⟨f, h1, h2, h3⟩ := zopen_pe (hsz.trans zcellsPeer) (show DataW.trod enc Try.prog W base spare held fuel 29 cs.toList = some (d, p) by simpa [Value.cells] using hf)
  refine ⟨f, ?_, h2, h3⟩
  obtain ⟨l⟩ := cs
  simp only at h1
  subst h1
  rfl
theorem open_peers {r : Reach} {b0 : Nat} {v : Value} {d : DataW H} {p : List MemPlace} (hv : Value.okWide Try.prog W r b0 22 v) (h : DataW.Trod enc Try.prog W base spare held 22 v d p) :
    ∃ ps : List Pe, SeqV W v ps ∧ (∀ x ∈ ps, ZLog W x.log x.ts) ∧ ∀ M, (∀ y ∈ DataW.weights Try.prog 22 d, y ≤ M) → ps.length * 48 ≤ M ∧ ∀ x ∈ ps, x.ts.length * 72 ≤ M := by
  obtain ⟨fuel, hf⟩ := h
  obtain ⟨sa, sl, sc, rfl⟩ := okWide_slice Try.underlying22 hv
  exact open_seqP pe0 Try.underlying22 zcellsPeer (by decide) zbytesPeer (fun x => ZLog W x.log x.ts) (fun M x => x.ts.length * 72 ≤ M) zopen_pe (show DataW.trod enc Try.prog W base spare held fuel 22 [.slice sa sl sc] = some (d, p) by simpa [Value.cells] using hf)
theorem open_logs {r : Reach} {b0 : Nat} {v : Value} {d : DataW H} {p : List MemPlace} (hv : Value.okWide Try.prog W r b0 35 v) (h : DataW.Trod enc Try.prog W base spare held 35 v d p) :
    ∃ ls : List Lg, SeqV W v ls ∧ (∀ x ∈ ls, ZLog W (lgV x) x.ts) ∧ ∀ M, (∀ y ∈ DataW.weights Try.prog 35 d, y ≤ M) → ls.length * 24 ≤ M ∧ ∀ x ∈ ls, x.ts.length * 72 ≤ M := by
  obtain ⟨fuel, hf⟩ := h
  obtain ⟨sa, sl, sc, rfl⟩ := okWide_slice Try.underlying35 hv
  exact open_seqP (⟨none, 0, []⟩ : Lg) Try.underlying35 zcellsLog (by decide) zbytesLog (fun x => ZLog W (lgV x) x.ts) (fun M x => x.ts.length * 72 ≤ M) zopen_lg (show DataW.trod enc Try.prog W base spare held fuel 35 [.slice sa sl sc] = some (d, p) by simpa [Value.cells] using hf)
theorem zsized {ts : List TypeId} {ds : List (DataW H)} (h : (DataW.weightsEach Try.prog ts ds).all (· ≤ reachBytes) = true) {j : Nat} {T : TypeId} {d : DataW H} (ht : ts[j]? = some T) (hd : ds[j]? = some d) : ∀ x ∈ DataW.weights Try.prog T d, x ≤ 140737488351232 := by
  intro x hx
  have e : reachBytes = 140737488351232 := by decide
  have h1 := List.all_eq_true.1 h _ (DataW.weights_mem_each ht hd x hx)
  rw [e] at h1
  simpa using h1
end
end Go.Proofs.Ytijpnmponjjejaa
