/-
  A tree as plain lists: nodes by path, sessions, what a good one is, where a path stands. No program is named here.
  Watches and notes as plain lists: which events set a watch off, who is told, what is left. No program is named here.
  A log as a plain list of transactions: its bytes, what bytes begin with, and where that ends. No program is named here.
  A server as plain data: whether it is up, its disk, its peer, its tree, its watches. The epoch that a disk remembers. No program is named here.
  How a disk lies in memory: a row of files, three texts each; a row of the call's own; what stays when other memory turns.
  How a log lies in memory: a row of transactions, seven cells each; a row of the call's own; what stays when other memory turns.
  How lists of elements lie in memory, whatever these are: rows of cells, so many each; a row of the call's own; runs of cells stored into it; what stays when other memory turns.
  How lists of nodes, numbers, events and texts lie in memory: rows of cells, so many each; a row of the call's own; what stays when other memory turns.
  How lists of watches and notes lie in memory.
  What slices.Clone at files, strings.Clone and disk.copied answer: the walks.
  What disk.settle and disk.extend do to a file of a row of the call's own: the walks.
  Runs of cells stored into a row of the call's own.
  What disk.locate and disk.Read answer: the walks.
  What disk.Sync, disk.Cut and disk.Remove say where there is no such file, and what Sync and Cut answer else: the walks.
  What slices.Delete of one file and disk.Remove answer: the walks.
  What slices.Insert of one file answers, into a row of the call's own: the walks.
-/
import Derived.Test.YtnlnojjaebojfaaGreatDoorWNA
import Derived.Test.YtnlnojjaebojfaaGreatDoorRows
import Derived.Test.YtnlnojjaebojfaaGreatDoorShelf
import Derived.WalkKit
import Derived.WalkSpells
import Derived.WalkLawsBesides
import Derived.Shelf.RegionOpen
import Derived.TacticsInMore
import Derived.LoopNIn
import Derived.LoopIn
import Derived.Lib.QuietBelow
import Derived.Lib.ItoaNum
import Derived.Lib.IndexLaws
import Derived.Test.YtnlnojjaebojfaaGreatDoorProg
import Derived.Laws.AppendOwn
import Derived.Deep.LoopGhost
import Derived.Lib.SliceRun
import Derived.Deep.RegionHeld3
import Derived.BigQuiet
import Derived.Lib.Strings
import Derived.Laws.IdiomCopy
import Derived.Lib.AppendZeros
import Derived.Lib.JoinLaws
import Derived.Deep.RegionWith
import Derived.Deep.RegionLaw
import Derived.Lib.AppendZerosOnto
import Derived.Lib.Overlaps
import Derived.Laws.Externs
namespace Go.Proofs.YtnlnojjaebojfaaGreatDoor
open Go.RowKit

/- a path's parent and last step -/
def lastCut : List UInt8 → Option (List UInt8 × List UInt8)
  | [] => none
  | c :: l => match lastCut l with
    | some (a, b) => some (c :: a, b)
    | none => if c = 47 then some ([], l) else none
def nupL (a : List UInt8) : List UInt8 := if a = [] then [47] else a
def dirOf (p : List UInt8) : List UInt8 := if goodB p = true ∧ p ≠ [47] then (match lastCut p with
  | some (a, _) => nupL a
  | none => []) else []
/- nodes -/
structure Nd where
  p : List UInt8
  d : List UInt8
  c : Int
  m : Int
  q : Int
  v : Int
  k : Int
  o : Int
  n : Int
instance : Inhabited Nd := ⟨⟨[], [], 0, 0, 0, 0, 0, 0, 0⟩⟩
structure Tr where
  z : Int
  ns : List Nd
  ss : List Int
def tr0 : Tr := ⟨0, [], []⟩
def NAsc (ns : List Nd) : Prop := ns.Pairwise fun a b => bl a.p b.p = true
def kidsN (ns : List Nd) (p : List UInt8) : Nat := ns.countP fun x => decide (dirOf x.p = p)
structure NOk (z : Int) (ns : List Nd) (ss : List Int) (n : Nd) : Prop where
  data : n.d.length ≤ 256
  path : goodB n.p = true
  up : n.p ≠ [47] → ∃ u ∈ ns, u.p = dirOf n.p
  c0 : 0 ≤ n.c
  cm : n.c ≤ n.m
  cq : n.c ≤ n.q
  mz : n.m ≤ z
  qz : n.q ≤ z
  v0 : 0 ≤ n.v
  v1 : n.v ≤ 2147483647
  k0 : 0 ≤ n.k
  kids : n.n = kidsN ns n.p
  own : n.o = 0 ∨ n.o ∈ ss ∧ n.n = 0
structure GoodN (z : Int) (ns : List Nd) (ss : List Int) : Prop where
  few : ns.length ≤ 400
  root : ∃ r rest, ns = r :: rest ∧ r.p = [47] ∧ r.o = 0
  asc : NAsc ns
  ok : ∀ n ∈ ns, NOk z ns ss n
/- where a path stands -/
structure NThere (ns A : List Nd) (n : Nd) (B : List Nd) (p : List UInt8) : Prop where
  eq : ns = A ++ n :: B
  nm : n.p = p
  lo : ∀ a ∈ A, bl a.p p = true
  hi : ∀ b ∈ B, bl p b.p = true
/- changes -/
def dropN (ns : List Nd) (p : List UInt8) : List Nd := ns.filter fun n => decide (n.p ≠ p)
theorem filter_all {α : Type} (f : α → Bool) (l : List α) (h : ∀ x ∈ l, f x = true) : l.filter f = l := List.filter_eq_self.2 h
theorem NThere.drop {ns A B : List Nd} {n : Nd} {p : List UInt8} (T : NThere ns A n B p) : dropN ns p = A ++ B := by
  rw [dropN, T.eq, List.filter_append, List.filter_cons, filter_all _ A (fun a ha => by simp [bl_ne (T.lo a ha)]), filter_all _ B (fun a ha => by simp [(bl_ne (T.hi a ha)).symm])]
  simp [T.nm]
/- a session -/
def dropS (ss : List Int) (s : Int) : List Int := ss.filter fun x => decide (x ≠ s)
structure SThere (ss A B : List Int) (s : Int) : Prop where
  eq : ss = A ++ s :: B
  lo : ∀ a ∈ A, a < s
  hi : ∀ b ∈ B, s < b
theorem SThere.drop {ss A B : List Int} {s : Int} (T : SThere ss A B s) : dropS ss s = A ++ B := by
  rw [dropS, T.eq, List.filter_append, List.filter_cons, filter_all _ A (fun a ha => by have := T.lo a ha; simp; omega), filter_all _ B (fun a ha => by have := T.hi a ha; simp; omega)]
  simp
end Go.Proofs.YtnlnojjaebojfaaGreatDoor

namespace Go.Proofs.YtnlnojjaebojfaaGreatDoor

structure Wa where
  s : Int
  k : Int
  p : List UInt8
structure Nt where
  s : Int
  k : Int
  p : List UInt8
end Go.Proofs.YtnlnojjaebojfaaGreatDoor

namespace Go.Proofs.YtnlnojjaebojfaaGreatDoor
open Go.RowKit

def recsL : List WTxn → List UInt8
  | [] => []
  | t :: l => recL t ++ recsL l
def lastZ (l : List WTxn) : Int := l.foldl (fun _ t => t.z) 0
theorem lastZ_snoc (l : List WTxn) (t : WTxn) : lastZ (l ++ [t]) = t.z := by simp [lastZ]
/-- may it stand behind these? -/
def follB (l : List WTxn) (t : WTxn) : Bool := decide (l.length = 0) || decide (lastZ l < t.z)
theorem follB_some {l : List WTxn} {t : WTxn} (h : l.length ≠ 0) : follB l t = decide (lastZ l < t.z) := by simp [follB, h]
theorem snoc_of {l : List WTxn} (h : l.length ≠ 0) : ∃ m x, l = m ++ [x] := by
  rcases List.eq_nil_or_concat l with rfl | ⟨m, x, rfl⟩
  · exact absurd rfl h
  · exact ⟨m, x, List.concat_eq_append⟩
structure Logs (ts : List WTxn) : Prop where
  good : ∀ t ∈ ts, gdE t = 0
  rise : ts.Pairwise fun a b => a.z < b.z
theorem Logs.nil : Logs [] := ⟨by simp, List.Pairwise.nil⟩
theorem Logs.at {a b : List WTxn} {t : WTxn} (h : Logs (a ++ t :: b)) : gdE t = 0 ∧ follB a t = true := by
  refine ⟨h.good t (by simp), ?_⟩
  by_cases h0 : a.length = 0
  · simp [follB, h0]
  · rw [follB_some h0]
    obtain ⟨m, x, rfl⟩ := snoc_of h0
    rw [lastZ_snoc]
    exact decide_eq_true ((List.pairwise_append.1 h.rise).2.2 x (by simp) t (by simp))
/-- bytes begin with these, and there it stops -/
structure Scan (s : List UInt8) (ts : List WTxn) (r : List UInt8) : Prop where
  eq : s = recsL ts ++ r
  log : Logs ts
  stop : decE r ≠ 0 ∨ follB ts (decT r) = false
theorem Scan.len {s r : List UInt8} {ts : List WTxn} (h : Scan s ts r) : (recsL ts).length + r.length = s.length := by rw [h.eq, List.length_append]
end Go.Proofs.YtnlnojjaebojfaaGreatDoor

namespace Go.Proofs.YtnlnojjaebojfaaGreatDoor

structure Sv where
  up : Bool
  fs : List DF
  id : Int
  ep : Int
  ts : List WTxn
  dn : Int
  tr : Tr
  ws : List Wa
def sv0 : Sv := ⟨false, [], 0, 0, [], 0, tr0, []⟩
end Go.Proofs.YtnlnojjaebojfaaGreatDoor

namespace Go.Proofs.YtnlnojjaebojfaaGreatDoor
open Go.RowKit

def fcells (f : DF) : List Value := [.string ⟨f.n.toArray⟩, .string ⟨f.s.toArray⟩, .string ⟨f.t.toArray⟩]
def cellsF : List DF → List Value
  | [] => []
  | f :: r => fcells f ++ cellsF r
theorem cellsF_length : ∀ fs : List DF, (cellsF fs).length = fs.length * 3
  | [] => rfl
  | f :: r => by rw [cellsF, List.length_append, cellsF_length r]; simp [fcells]; omega
theorem cellsF_get : ∀ (fs : List DF) (i : Nat) (f : DF), fs[i]? = some f → ∀ c, c < 3 → (cellsF fs)[i * 3 + c]? = (fcells f)[c]?
  | [], i, f, h, _, _ => by simp at h
  | x :: r, 0, f, h, c, hc => by
    simp at h
    subst h
    rw [cellsF, List.getElem?_append_left (by simp [fcells]; omega)]
    simp
  | x :: r, i + 1, f, h, c, hc => by
    rw [cellsF, List.getElem?_append_right (by simp [fcells]; omega), ← cellsF_get r i f (by simpa using h) c hc]
    congr 1
    simp [fcells]; omega
theorem cellsF_set : ∀ (fs : List DF) (i : Nat) (f g : DF), fs[i]? = some f → ∀ c v, c < 3 → (fcells g) = (fcells f).set c v → (cellsF fs).set (i * 3 + c) v = cellsF (fs.set i g)
  | [], i, f, g, h, _, _, _, _ => by simp at h
  | x :: r, 0, f, g, h, c, v, hc, hg => by
    simp at h
    subst h
    rw [cellsF, List.set_cons_zero, cellsF, hg, List.set_append_left _ _ (by simp [fcells]; omega)]
    simp
  | x :: r, i + 1, f, g, h, c, v, hc, hg => by
    rw [cellsF, List.set_cons_succ, cellsF, List.set_append_right _ _ (by simp [fcells]; omega), ← cellsF_set r i f g (by simpa using h) c v hc hg]
    congr 2
    simp [fcells]; omega

def RowAt (w : World) (b off : Nat) (cs : List Value) : Prop := ∀ j v, cs[j]? = some v → w.cell? ⟨b, off + j, none⟩ = some v
theorem RowAt.c0 {w : World} {b off : Nat} {fs : List DF} (h : RowAt w b off (cellsF fs)) {i : Nat} {f : DF} (hi : fs[i]? = some f) : w.cell? ⟨b, off + i * 3, none⟩ = some (.string ⟨f.n.toArray⟩) :=
  h (i * 3) _ (by have := cellsF_get fs i f hi 0 (by omega); simpa [fcells] using this)
theorem RowAt.c1 {w : World} {b off : Nat} {fs : List DF} (h : RowAt w b off (cellsF fs)) {i : Nat} {f : DF} (hi : fs[i]? = some f) : w.cell? ⟨b, off + i * 3 + 1, none⟩ = some (.string ⟨f.s.toArray⟩) := by
  rw [Nat.add_assoc]; exact h (i * 3 + 1) _ (by have := cellsF_get fs i f hi 1 (by omega); simpa [fcells] using this)
theorem RowAt.c2 {w : World} {b off : Nat} {fs : List DF} (h : RowAt w b off (cellsF fs)) {i : Nat} {f : DF} (hi : fs[i]? = some f) : w.cell? ⟨b, off + i * 3 + 2, none⟩ = some (.string ⟨f.t.toArray⟩) := by
  rw [Nat.add_assoc]; exact h (i * 3 + 2) _ (by have := cellsF_get fs i f hi 2 (by omega); simpa [fcells] using this)
theorem RowAt.kept {w w' : World} {b off B : Nat} {cs : List Value} (h : RowAt w b off cs) (hb : Below B w w') (hB : b < B) : RowAt w' b off cs :=
  fun j v hj => by rw [hb.cell (p := ⟨b, off + j, none⟩) hB]; exact h j v hj

/-- the value of a disk's one field holds these files -/
def DiskV (w : World) (v : Value) (fs : List DF) : Prop :=
  (∃ a cap, v = .slice a 0 cap ∧ fs = [] ∧ cap ≤ maxLen) ∨
  ∃ b off cap, v = .slice (some ⟨b, off, none⟩) fs.length cap ∧ fs.length ≤ cap ∧ cap ≤ maxLen ∧ b < w.heap.size ∧ fs ≠ [] ∧ RowAt w b off (cellsF fs)
theorem DiskV.kept {w w' : World} {B : Nat} {v : Value} {fs : List DF} (h : DiskV w v fs) (hb : Below B w w') (hB : w.heap.size ≤ B) : DiskV w' v fs := by
  rcases h with h | ⟨b, off, cap, rfl, h1, h2, h3, h0, h4⟩
  · exact .inl h
  · exact .inr ⟨b, off, cap, rfl, h1, h2, Nat.lt_of_lt_of_le h3 hb.size, h0, h4.kept hb (Nat.lt_of_lt_of_le h3 hB)⟩
theorem DiskV.next {w w' : World} {v : Value} {fs : List DF} (h : DiskV w v fs) (hb : Below w.heap.size w w') : DiskV w' v fs := h.kept hb (Nat.le_refl _)
theorem DiskV.alloc {w : World} {v : Value} {fs : List DF} (h : DiskV w v fs) (o : Obj) : DiskV (w.alloc o) v fs := h.next ((Below.refl _ _).alloc (Nat.le_refl _) o)
theorem DiskV.drew {w : World} {v : Value} {fs : List DF} (h : DiskV w v fs) : DiskV w.drew v fs := h.next (Below.refl _ _).drew
theorem DiskV.nil (w : World) : DiskV w (.slice none 0 0) [] := .inl ⟨none, 0, rfl, rfl, by decide⟩

/-- block g is a row of the call's own with these files at its head -/
def Own (W : World) (g cap : Nat) (fs : List DF) : Prop := ∃ rest : List Value, W.heap[g]? = some (.cells (cellsF fs ++ rest).toArray 78 (0, 0)) ∧ fs.length * 3 + rest.length = cap * 3 ∧ cap ≤ maxLen
theorem Own.lt {W : World} {g cap : Nat} {fs : List DF} (h : Own W g cap fs) : g < W.heap.size := by
  obtain ⟨rest, h1, _⟩ := h
  exact (Array.getElem?_eq_some_iff.1 h1).1
theorem Own.le {W : World} {g cap : Nat} {fs : List DF} (h : Own W g cap fs) : fs.length ≤ cap := by obtain ⟨rest, _, h2, _⟩ := h; omega
theorem Own.capLe {W : World} {g cap : Nat} {fs : List DF} (h : Own W g cap fs) : cap ≤ maxLen := by obtain ⟨rest, _, _, h3⟩ := h; exact h3
theorem Own.row {W : World} {g cap : Nat} {fs : List DF} (h : Own W g cap fs) : RowAt W g 0 (cellsF fs) := by
  obtain ⟨rest, h1, _⟩ := h
  intro j v hj
  have hlt : j < (cellsF fs).length := (List.getElem?_eq_some_iff.1 hj).1
  simp [World.cell?, h1, List.getElem?_append_left hlt, hj]
theorem Own.frozen {W : World} {g cap : Nat} {fs : List DF} (h : Own W g cap fs) (j : Nat) : W.frozen? ⟨g, j, none⟩ = false := by
  obtain ⟨rest, h1, _⟩ := h
  simp [World.frozen?, h1]
theorem Own.c0 {W : World} {g cap : Nat} {fs : List DF} (h : Own W g cap fs) {i : Nat} {f : DF} (hi : fs[i]? = some f) : W.cell? ⟨g, i * 3, none⟩ = some (.string ⟨f.n.toArray⟩) := by simpa using h.row.c0 hi
theorem Own.c1 {W : World} {g cap : Nat} {fs : List DF} (h : Own W g cap fs) {i : Nat} {f : DF} (hi : fs[i]? = some f) : W.cell? ⟨g, i * 3 + 1, none⟩ = some (.string ⟨f.s.toArray⟩) := by simpa using h.row.c1 hi
theorem Own.c2 {W : World} {g cap : Nat} {fs : List DF} (h : Own W g cap fs) {i : Nat} {f : DF} (hi : fs[i]? = some f) : W.cell? ⟨g, i * 3 + 2, none⟩ = some (.string ⟨f.t.toArray⟩) := by simpa using h.row.c2 hi
theorem Own.kept {W V : World} {g B cap : Nat} {fs : List DF} (h : Own W g cap fs) (hb : Below B W V) (hg : g < B) : Own V g cap fs := by
  obtain ⟨rest, h1, h2⟩ := h
  exact ⟨rest, (hb.block _ hg).trans h1, h2⟩
theorem Own.next {W V : World} {g cap : Nat} {fs : List DF} (h : Own W g cap fs) (hb : Below W.heap.size W V) : Own V g cap fs := h.kept hb h.lt
theorem Own.alloc {W : World} {g cap : Nat} {fs : List DF} (h : Own W g cap fs) (o : Obj) : Own (W.alloc o) g cap fs := h.next ((Below.refl _ _).alloc (Nat.le_refl _) o)
theorem Own.drew {W : World} {g cap : Nat} {fs : List DF} (h : Own W g cap fs) : Own W.drew g cap fs := h
theorem Own.other {W : World} {g cap : Nat} {fs : List DF} (h : Own W g cap fs) {a : Addr} (ha : g ≠ a.block) (v : Value) : Own (W.setCell a v) g cap fs := by
  obtain ⟨rest, h1, h2⟩ := h
  exact ⟨rest, (Below.heap_setCell W a v g ha).trans h1, h2⟩
theorem block_set {w : World} {g j : Nat} {cur : Array Value} {t : TypeId} {fz : Nat × Nat} (v : Value) (h : w.heap[g]? = some (.cells cur t fz)) :
    (w.setCell ⟨g, j, none⟩ v).heap[g]? = some (.cells (cur.setIfInBounds j v) t fz) := by
  obtain ⟨hlt, hk⟩ := Array.getElem?_eq_some_iff.1 h
  show (w.heap.modify g _)[g]? = _
  rw [Array.getElem?_eq_getElem (by rw [Array.size_modify]; exact hlt), Array.getElem_modify_self, hk]
  rfl
theorem Own.set {W : World} {g cap : Nat} {fs : List DF} (h : Own W g cap fs) {i : Nat} {f f' : DF} (hi : fs[i]? = some f) {c : Nat} (hc : c < 3) {v : Value} (hf : fcells f' = (fcells f).set c v) : Own (W.setCell ⟨g, i * 3 + c, none⟩ v) g cap (fs.set i f') := by
  obtain ⟨rest, h1, h2, h3⟩ := h
  refine ⟨rest, ?_, by simpa using h2, h3⟩
  have hl : i < fs.length := (List.getElem?_eq_some_iff.1 hi).1
  rw [block_set v h1, ← cellsF_set fs i f f' hi c v hc hf]
  simp [List.set_append_left _ _ (show i * 3 + c < (cellsF fs).length by rw [cellsF_length]; omega)]
theorem Own.s0 {W : World} {g cap : Nat} {fs : List DF} (h : Own W g cap fs) {i : Nat} {f : DF} (hi : fs[i]? = some f) (x : List UInt8) : Own (W.setCell ⟨g, i * 3, none⟩ (.string ⟨x.toArray⟩)) g cap (fs.set i ⟨x, f.s, f.t⟩) := h.set hi (c := 0) (by omega) rfl
theorem Own.s1 {W : World} {g cap : Nat} {fs : List DF} (h : Own W g cap fs) {i : Nat} {f : DF} (hi : fs[i]? = some f) (x : List UInt8) : Own (W.setCell ⟨g, i * 3 + 1, none⟩ (.string ⟨x.toArray⟩)) g cap (fs.set i ⟨f.n, x, f.t⟩) := h.set hi (c := 1) (by omega) rfl
theorem Own.s2 {W : World} {g cap : Nat} {fs : List DF} (h : Own W g cap fs) {i : Nat} {f : DF} (hi : fs[i]? = some f) (x : List UInt8) : Own (W.setCell ⟨g, i * 3 + 2, none⟩ (.string ⟨x.toArray⟩)) g cap (fs.set i ⟨f.n, f.s, x⟩) := h.set hi (c := 2) (by omega) rfl

/-- a value that holds these files in a row of the call's own, at or behind block B -/
def OwnV (W : World) (B : Nat) (v : Value) (fs : List DF) : Prop := (v = .slice none 0 0 ∧ fs = []) ∨ ∃ g cap, v = .slice (some ⟨g, 0, none⟩) fs.length cap ∧ B ≤ g ∧ Own W g cap fs
theorem OwnV.disk {W : World} {B : Nat} {v : Value} {fs : List DF} (h : OwnV W B v fs) : DiskV W v fs := by
  rcases h with ⟨rfl, rfl⟩ | ⟨g, cap, rfl, _, h⟩
  · exact DiskV.nil W
  · by_cases h0 : fs = []
    · subst h0; exact .inl ⟨_, cap, rfl, rfl, h.capLe⟩
    · exact .inr ⟨g, 0, cap, rfl, h.le, h.capLe, h.lt, h0, h.row⟩
theorem OwnV.next {W V : World} {B : Nat} {v : Value} {fs : List DF} (h : OwnV W B v fs) (hb : Below W.heap.size W V) : OwnV V B v fs := by
  rcases h with h | ⟨g, cap, rfl, hB, h⟩
  · exact .inl h
  · exact .inr ⟨g, cap, rfl, hB, h.next hb⟩
theorem OwnV.row {W : World} {B : Nat} {v : Value} {fs : List DF} (h : OwnV W B v fs) : W.ownsRow B 78 3 v fs.length (cellsF fs) := by
  refine ⟨cellsF_length fs, ?_⟩
  rcases h with ⟨rfl, rfl⟩ | ⟨g, cap, rfl, hB, h⟩
  · exact .inl ⟨rfl, rfl⟩
  · have hle := h.le
    obtain ⟨rest, h1, h2, h3⟩ := h
    refine .inr ⟨g, cap, _, rfl, hB, h1, hle, h3, by simp [cellsF_length, h2], ?_⟩
    simp [← cellsF_length fs]

end Go.Proofs.YtnlnojjaebojfaaGreatDoor

namespace Go.Proofs.YtnlnojjaebojfaaGreatDoor
open Go.RowKit

def tcells (t : WTxn) : List Value := [.int .i64 t.z, .int .i64 t.o, .int .i64 t.s, .string ⟨t.p.toArray⟩, .string ⟨t.d.toArray⟩, .int .i64 t.v, .int .i64 t.w]
def cellsT : List WTxn → List Value
  | [] => []
  | t :: r => tcells t ++ cellsT r
theorem cellsT_get : ∀ (ts : List WTxn) (i : Nat) (t : WTxn), ts[i]? = some t → ∀ c, c < 7 → (cellsT ts)[i * 7 + c]? = (tcells t)[c]?
  | [], i, t, h, _, _ => by simp at h
  | x :: r, 0, t, h, c, hc => by
    simp at h
    subst h
    rw [cellsT, List.getElem?_append_left (by simp [tcells]; omega)]
    simp
  | x :: r, i + 1, t, h, c, hc => by
    rw [cellsT, List.getElem?_append_right (by simp [tcells]; omega), ← cellsT_get r i t (by simpa using h) c hc]
    congr 1
    simp [tcells]; omega
theorem RowAt.z {w : World} {b off : Nat} {ts : List WTxn} (h : RowAt w b off (cellsT ts)) {i : Nat} {t : WTxn} (hi : ts[i]? = some t) : w.cell? ⟨b, off + i * 7, none⟩ = some (.int .i64 t.z) :=
  h (i * 7) _ (by have := cellsT_get ts i t hi 0 (by omega); simpa [tcells] using this)
theorem RowAt.o {w : World} {b off : Nat} {ts : List WTxn} (h : RowAt w b off (cellsT ts)) {i : Nat} {t : WTxn} (hi : ts[i]? = some t) : w.cell? ⟨b, off + i * 7 + 1, none⟩ = some (.int .i64 t.o) := by
  rw [Nat.add_assoc]; exact h (i * 7 + 1) _ (by have := cellsT_get ts i t hi 1 (by omega); simpa [tcells] using this)
theorem RowAt.s {w : World} {b off : Nat} {ts : List WTxn} (h : RowAt w b off (cellsT ts)) {i : Nat} {t : WTxn} (hi : ts[i]? = some t) : w.cell? ⟨b, off + i * 7 + 2, none⟩ = some (.int .i64 t.s) := by
  rw [Nat.add_assoc]; exact h (i * 7 + 2) _ (by have := cellsT_get ts i t hi 2 (by omega); simpa [tcells] using this)
theorem RowAt.p {w : World} {b off : Nat} {ts : List WTxn} (h : RowAt w b off (cellsT ts)) {i : Nat} {t : WTxn} (hi : ts[i]? = some t) : w.cell? ⟨b, off + i * 7 + 3, none⟩ = some (.string ⟨t.p.toArray⟩) := by
  rw [Nat.add_assoc]; exact h (i * 7 + 3) _ (by have := cellsT_get ts i t hi 3 (by omega); simpa [tcells] using this)
theorem RowAt.d {w : World} {b off : Nat} {ts : List WTxn} (h : RowAt w b off (cellsT ts)) {i : Nat} {t : WTxn} (hi : ts[i]? = some t) : w.cell? ⟨b, off + i * 7 + 4, none⟩ = some (.string ⟨t.d.toArray⟩) := by
  rw [Nat.add_assoc]; exact h (i * 7 + 4) _ (by have := cellsT_get ts i t hi 4 (by omega); simpa [tcells] using this)
theorem RowAt.v {w : World} {b off : Nat} {ts : List WTxn} (h : RowAt w b off (cellsT ts)) {i : Nat} {t : WTxn} (hi : ts[i]? = some t) : w.cell? ⟨b, off + i * 7 + 5, none⟩ = some (.int .i64 t.v) := by
  rw [Nat.add_assoc]; exact h (i * 7 + 5) _ (by have := cellsT_get ts i t hi 5 (by omega); simpa [tcells] using this)
theorem RowAt.w {w : World} {b off : Nat} {ts : List WTxn} (h : RowAt w b off (cellsT ts)) {i : Nat} {t : WTxn} (hi : ts[i]? = some t) : w.cell? ⟨b, off + i * 7 + 6, none⟩ = some (.int .i64 t.w) := by
  rw [Nat.add_assoc]; exact h (i * 7 + 6) _ (by have := cellsT_get ts i t hi 6 (by omega); simpa [tcells] using this)

/-- the value holds these transactions -/
def LogV (w : World) (v : Value) (ts : List WTxn) : Prop :=
  (∃ a cap, v = .slice a 0 cap ∧ ts = [] ∧ cap ≤ maxLen) ∨
  ∃ b off cap, v = .slice (some ⟨b, off, none⟩) ts.length cap ∧ ts.length ≤ cap ∧ cap ≤ maxLen ∧ b < w.heap.size ∧ ts ≠ [] ∧ RowAt w b off (cellsT ts)
theorem LogV.kept {w w' : World} {B : Nat} {v : Value} {ts : List WTxn} (h : LogV w v ts) (hb : Below B w w') (hB : w.heap.size ≤ B) : LogV w' v ts := by
  rcases h with h | ⟨b, off, cap, rfl, h1, h2, h3, h0, h4⟩
  · exact .inl h
  · exact .inr ⟨b, off, cap, rfl, h1, h2, Nat.lt_of_lt_of_le h3 hb.size, h0, h4.kept hb (Nat.lt_of_lt_of_le h3 hB)⟩
theorem LogV.next {w w' : World} {v : Value} {ts : List WTxn} (h : LogV w v ts) (hb : Below w.heap.size w w') : LogV w' v ts := h.kept hb (Nat.le_refl _)
theorem LogV.alloc {w : World} {v : Value} {ts : List WTxn} (h : LogV w v ts) (o : Obj) : LogV (w.alloc o) v ts := h.next ((Below.refl _ _).alloc (Nat.le_refl _) o)
theorem LogV.drew {w : World} {v : Value} {ts : List WTxn} (h : LogV w v ts) : LogV w.drew v ts := h.next (Below.refl _ _).drew
theorem LogV.nil (w : World) : LogV w (.slice none 0 0) [] := .inl ⟨none, 0, rfl, rfl, by decide⟩
theorem log_slice {w : World} {v : Value} {ts : List WTxn} (hv : LogV w v ts) : ∃ a c, v = .slice a ts.length c := by
  rcases hv with ⟨a, cap, rfl, rfl, _⟩ | ⟨b, off, cap, rfl, _⟩
  · exact ⟨_, _, rfl⟩
  · exact ⟨_, _, rfl⟩
/-- a value that holds these in a row of the call's own, at or behind block B -/
def OwnL (W : World) (B : Nat) (v : Value) (ts : List WTxn) : Prop := W.ownsRow B 70 7 v ts.length (cellsT ts)
theorem OwnL.nil (W : World) (B : Nat) : OwnL W B (.slice none 0 0) [] := ⟨rfl, .inl ⟨rfl, rfl⟩⟩
theorem OwnL.log {W : World} {B : Nat} {v : Value} {ts : List WTxn} (h : OwnL W B v ts) : LogV W v ts := by
  obtain ⟨hl, ⟨rfl, h0⟩ | ⟨g, cap, cur, rfl, hB, hg, hn, hm, hs, ht⟩⟩ := h
  · rw [List.eq_nil_of_length_eq_zero h0]; exact LogV.nil W
  · by_cases h0 : ts = []
    · subst h0; exact .inl ⟨_, cap, rfl, rfl, hm⟩
    · refine .inr ⟨g, 0, cap, rfl, hn, hm, (Array.getElem?_eq_some_iff.1 hg).1, h0, fun j v hj => ?_⟩
      have hlt : j < (cellsT ts).length := (List.getElem?_eq_some_iff.1 hj).1
      have : cur[j]? = some v := by
        rw [← ht, List.getElem?_take_of_lt (by rw [hl] at hlt; exact hlt)] at hj
        simpa using hj
      simp [World.cell?, hg, this]
theorem OwnL.next {W V : World} {B : Nat} {v : Value} {ts : List WTxn} (h : OwnL W B v ts) (hb : Below W.heap.size W V) : OwnL V B v ts := by
  obtain ⟨hl, h | ⟨g, cap, cur, e, hB, hg, hr⟩⟩ := h
  · exact ⟨hl, .inl h⟩
  · exact ⟨hl, .inr ⟨g, cap, cur, e, hB, (hb.block _ (Array.getElem?_eq_some_iff.1 hg).1).trans hg, hr⟩⟩
theorem OwnL.mono {W : World} {B C : Nat} {v : Value} {ts : List WTxn} (h : OwnL W B v ts) (hC : C ≤ B) : OwnL W C v ts := by
  obtain ⟨hl, h | ⟨g, cap, cur, e, hB, hr⟩⟩ := h
  · exact ⟨hl, .inl h⟩
  · exact ⟨hl, .inr ⟨g, cap, cur, e, Nat.le_trans hC hB, hr⟩⟩
/-- block g holds one transaction -/
def TAt (W : World) (g : Nat) (t : WTxn) : Prop := W.heap[g]? = some (.cells #[.int .i64 t.z, .int .i64 t.o, .int .i64 t.s, .string ⟨t.p.toArray⟩, .string ⟨t.d.toArray⟩, .int .i64 t.v, .int .i64 t.w] 70 (0, 0))
theorem TAt.new (W : World) (t : WTxn) : TAt (W.alloc (.cells #[.int .i64 t.z, .int .i64 t.o, .int .i64 t.s, .string ⟨t.p.toArray⟩, .string ⟨t.d.toArray⟩, .int .i64 t.v, .int .i64 t.w] 70)) W.heap.size t := heap_alloc_new W _
theorem TAt.next {W V : World} {g : Nat} {t : WTxn} (h : TAt W g t) (hb : Below W.heap.size W V) : TAt V g t := (hb.block g (by unfold TAt at h; exact (Array.getElem?_eq_some_iff.1 h).1)).trans h
theorem TAt.lt {W : World} {g : Nat} {t : WTxn} (h : TAt W g t) : g < W.heap.size := by unfold TAt at h; exact (Array.getElem?_eq_some_iff.1 h).1
theorem TAt.c0 {W : World} {g : Nat} {t : WTxn} (h : TAt W g t) : W.cell? ⟨g, 0, none⟩ = some (.int .i64 t.z) := by unfold TAt at h; simp [World.cell?, h]
theorem TAt.c1 {W : World} {g : Nat} {t : WTxn} (h : TAt W g t) : W.cell? ⟨g, 1, none⟩ = some (.int .i64 t.o) := by unfold TAt at h; simp [World.cell?, h]
theorem TAt.c2 {W : World} {g : Nat} {t : WTxn} (h : TAt W g t) : W.cell? ⟨g, 2, none⟩ = some (.int .i64 t.s) := by unfold TAt at h; simp [World.cell?, h]
theorem TAt.c3 {W : World} {g : Nat} {t : WTxn} (h : TAt W g t) : W.cell? ⟨g, 3, none⟩ = some (.string ⟨t.p.toArray⟩) := by unfold TAt at h; simp [World.cell?, h]
theorem TAt.c4 {W : World} {g : Nat} {t : WTxn} (h : TAt W g t) : W.cell? ⟨g, 4, none⟩ = some (.string ⟨t.d.toArray⟩) := by unfold TAt at h; simp [World.cell?, h]
theorem TAt.c5 {W : World} {g : Nat} {t : WTxn} (h : TAt W g t) : W.cell? ⟨g, 5, none⟩ = some (.int .i64 t.v) := by unfold TAt at h; simp [World.cell?, h]
theorem TAt.c6 {W : World} {g : Nat} {t : WTxn} (h : TAt W g t) : W.cell? ⟨g, 6, none⟩ = some (.int .i64 t.w) := by unfold TAt at h; simp [World.cell?, h]
theorem TAt.f {W : World} {g : Nat} {t : WTxn} (h : TAt W g t) (j : Nat) : W.frozen? ⟨g, j, none⟩ = false := by unfold TAt at h; simp [World.frozen?, h]
end Go.Proofs.YtnlnojjaebojfaaGreatDoor

namespace Go.Proofs.YtnlnojjaebojfaaGreatDoor
open Go.RowKit

/-- how one element lies -/
class Lay (α : Type) where
  k : Nat
  cs : α → List Value
  ty : TypeId
  len : ∀ x, (cs x).length = k
  one : ∀ x, ∀ u ∈ cs x, u.oneCell' = true
def ecells (e : Ev) : List Value := [.int .i64 e.k, .string ⟨e.p.toArray⟩]
instance layE : Lay Ev := ⟨2, ecells, 209, fun _ => rfl, fun x u hu => by simp [ecells] at hu; rcases hu with rfl | rfl <;> rfl⟩
instance layI : Lay Int := ⟨1, fun x => [.int .i64 x], 3, fun _ => rfl, fun x u hu => by simp at hu; subst hu; rfl⟩
instance layS : Lay (List UInt8) := ⟨1, fun x => [.string ⟨x.toArray⟩], 9, fun _ => rfl, fun x u hu => by simp at hu; subst hu; rfl⟩

section
variable {α : Type} [Lay α]
def cellsL (xs : List α) : List Value := xs.flatMap Lay.cs
theorem cellsL_cons (x : α) (r : List α) : cellsL (x :: r) = Lay.cs x ++ cellsL r := by simp [cellsL]
theorem cellsL_length (xs : List α) : (cellsL xs).length = xs.length * Lay.k α := by
  induction xs with
  | nil => simp [cellsL]
  | cons x r ih => rw [cellsL_cons, List.length_append, Lay.len, ih, List.length_cons, Nat.add_mul]; omega
theorem cellsL_append (a b : List α) : cellsL (a ++ b) = cellsL a ++ cellsL b := by simp [cellsL]
theorem cellsL_at (A : List α) (x : α) (B : List α) (c : Nat) (hc : c < Lay.k α) : (cellsL (A ++ x :: B))[A.length * Lay.k α + c]? = (Lay.cs x)[c]? := by
  rw [cellsL_append, List.getElem?_append_right (by rw [cellsL_length]; omega), cellsL_length, Nat.add_sub_cancel_left, cellsL_cons, List.getElem?_append_left (by rw [Lay.len]; exact hc)]
theorem cellsL_get (xs : List α) (i : Nat) (x : α) (h : xs[i]? = some x) (c : Nat) (hc : c < Lay.k α) : (cellsL xs)[i * Lay.k α + c]? = (Lay.cs x)[c]? := by
  obtain ⟨hi, rfl⟩ := List.getElem?_eq_some_iff.1 h
  have e : xs = xs.take i ++ xs[i] :: xs.drop (i + 1) := by simp
  have := cellsL_at (xs.take i) xs[i] (xs.drop (i + 1)) c hc
  rw [← e, List.length_take, Nat.min_eq_left (Nat.le_of_lt hi)] at this
  exact this
theorem cellsL_set (A : List α) (x y : α) (B : List α) (c : Nat) (v : Value) (hc : c < Lay.k α) (hy : Lay.cs y = (Lay.cs x).set c v) : (cellsL (A ++ x :: B)).set (A.length * Lay.k α + c) v = cellsL (A ++ y :: B) := by
  rw [cellsL_append, cellsL_append, List.set_append_right _ _ (by rw [cellsL_length]; omega), cellsL_length, Nat.add_sub_cancel_left, cellsL_cons, cellsL_cons, List.set_append_left _ _ (by rw [Lay.len]; exact hc), hy]

/-- the value holds these -/
def SeqV (w : World) (v : Value) (xs : List α) : Prop :=
  (∃ a cap, v = .slice a 0 cap ∧ xs = [] ∧ cap ≤ maxLen) ∨
  ∃ b off cap, v = .slice (some ⟨b, off, none⟩) xs.length cap ∧ xs.length ≤ cap ∧ cap ≤ maxLen ∧ b < w.heap.size ∧ xs ≠ [] ∧ RowAt w b off (cellsL xs)
theorem SeqV.kept {w w' : World} {B : Nat} {v : Value} {xs : List α} (h : SeqV w v xs) (hb : Below B w w') (hB : w.heap.size ≤ B) : SeqV w' v xs := by
  rcases h with h | ⟨b, off, cap, rfl, h1, h2, h3, h0, h4⟩
  · exact .inl h
  · exact .inr ⟨b, off, cap, rfl, h1, h2, Nat.lt_of_lt_of_le h3 hb.size, h0, h4.kept hb (Nat.lt_of_lt_of_le h3 hB)⟩
theorem SeqV.next {w w' : World} {v : Value} {xs : List α} (h : SeqV w v xs) (hb : Below w.heap.size w w') : SeqV w' v xs := h.kept hb (Nat.le_refl _)
theorem SeqV.alloc {w : World} {v : Value} {xs : List α} (h : SeqV w v xs) (o : Obj) : SeqV (w.alloc o) v xs := h.next ((Below.refl _ _).alloc (Nat.le_refl _) o)
theorem SeqV.nil (w : World) : SeqV w (.slice none 0 0) ([] : List α) := .inl ⟨none, 0, rfl, rfl, by decide⟩
theorem seq_slice {w : World} {v : Value} {xs : List α} (hv : SeqV w v xs) : ∃ a c, v = .slice a xs.length c := by
  rcases hv with ⟨a, cap, rfl, rfl, _⟩ | ⟨b, off, cap, rfl, _⟩
  · exact ⟨_, _, rfl⟩
  · exact ⟨_, _, rfl⟩
theorem seq_row {w : World} {v : Value} {xs : List α} (hv : SeqV w v xs) (h0 : xs ≠ []) :
    ∃ b off cap, v = .slice (some ⟨b, off, none⟩) xs.length cap ∧ b < w.heap.size ∧ RowAt w b off (cellsL xs) ∧ xs.length ≤ cap ∧ cap ≤ maxLen := by
  rcases hv with ⟨a, cap, rfl, rfl, _⟩ | ⟨b, off, cap, rfl, h1, h2, hb, _, hr⟩
  · exact absurd rfl h0
  · exact ⟨b, off, cap, rfl, hb, hr, h1, h2⟩

/-- block g is a row of the call's own with these at its head -/
def OwnR (W : World) (g cap : Nat) (xs : List α) : Prop := ∃ rest : List Value, W.heap[g]? = some (.cells (cellsL xs ++ rest).toArray (Lay.ty α) (0, 0)) ∧ xs.length * Lay.k α + rest.length = cap * Lay.k α ∧ xs.length ≤ cap ∧ cap ≤ maxLen
theorem OwnR.lt {W : World} {g cap : Nat} {xs : List α} (h : OwnR W g cap xs) : g < W.heap.size := by
  obtain ⟨rest, h1, _⟩ := h
  exact (Array.getElem?_eq_some_iff.1 h1).1
theorem OwnR.le {W : World} {g cap : Nat} {xs : List α} (h : OwnR W g cap xs) : xs.length ≤ cap := by obtain ⟨rest, _, _, h2, _⟩ := h; exact h2
theorem OwnR.capLe {W : World} {g cap : Nat} {xs : List α} (h : OwnR W g cap xs) : cap ≤ maxLen := by obtain ⟨rest, _, _, _, h3⟩ := h; exact h3
theorem OwnR.row {W : World} {g cap : Nat} {xs : List α} (h : OwnR W g cap xs) : RowAt W g 0 (cellsL xs) := by
  obtain ⟨rest, h1, _⟩ := h
  intro j v hj
  have hlt : j < (cellsL xs).length := (List.getElem?_eq_some_iff.1 hj).1
  simp [World.cell?, h1, List.getElem?_append_left hlt, hj]
theorem OwnR.frozen {W : World} {g cap : Nat} {xs : List α} (h : OwnR W g cap xs) (j : Nat) : W.frozen? ⟨g, j, none⟩ = false := by
  obtain ⟨rest, h1, _⟩ := h
  simp [World.frozen?, h1]
theorem OwnR.kept {W V : World} {g B cap : Nat} {xs : List α} (h : OwnR W g cap xs) (hb : Below B W V) (hg : g < B) : OwnR V g cap xs := by
  obtain ⟨rest, h1, h2⟩ := h
  exact ⟨rest, (hb.block _ hg).trans h1, h2⟩
theorem OwnR.next {W V : World} {g cap : Nat} {xs : List α} (h : OwnR W g cap xs) (hb : Below W.heap.size W V) : OwnR V g cap xs := h.kept hb h.lt
theorem OwnR.other {W : World} {g cap : Nat} {xs : List α} (h : OwnR W g cap xs) {a : Addr} (ha : g ≠ a.block) (v : Value) : OwnR (W.setCell a v) g cap xs := by
  obtain ⟨rest, h1, h2⟩ := h
  exact ⟨rest, (Below.heap_setCell W a v g ha).trans h1, h2⟩
theorem OwnR.set {W : World} {g cap : Nat} {A B : List α} {x y : α} (h : OwnR W g cap (A ++ x :: B)) {c : Nat} (hc : c < Lay.k α) {v : Value} (hy : Lay.cs y = (Lay.cs x).set c v) : OwnR (W.setCell ⟨g, A.length * Lay.k α + c, none⟩ v) g cap (A ++ y :: B) := by
  obtain ⟨rest, h1, h2, h3⟩ := h
  refine ⟨rest, ?_, by simpa using h2, by simpa using h3⟩
  rw [block_set v h1, ← cellsL_set A x y B c v hc hy]
  have hlt : A.length * Lay.k α + c < (cellsL (A ++ x :: B)).length := by
    rw [cellsL_length]; simp [Nat.add_mul]; omega
  simp [List.set_append_left _ _ hlt]

/-- a value that holds these in a row of the call's own, at or behind block B -/
def OwnS (W : World) (B : Nat) (v : Value) (xs : List α) : Prop := (v = .slice none 0 0 ∧ xs = []) ∨ ∃ g cap, v = .slice (some ⟨g, 0, none⟩) xs.length cap ∧ B ≤ g ∧ OwnR W g cap xs
theorem OwnS.kept {W V : World} {B C : Nat} {v : Value} {xs : List α} (h : OwnS W B v xs) (hb : Below C W V) (hC : W.heap.size ≤ C) : OwnS V B v xs := by
  rcases h with h | ⟨g, cap, rfl, hB, h⟩
  · exact .inl h
  · exact .inr ⟨g, cap, rfl, hB, h.kept hb (Nat.lt_of_lt_of_le h.lt hC)⟩
theorem OwnS.next {W V : World} {B : Nat} {v : Value} {xs : List α} (h : OwnS W B v xs) (hb : Below W.heap.size W V) : OwnS V B v xs := h.kept hb (Nat.le_refl _)
theorem OwnS.other {W : World} {B : Nat} {v : Value} {xs : List α} (h : OwnS W B v xs) {a : Addr} (ha : v.ownBlock ≠ some a.block) (u : Value) : OwnS (W.setCell a u) B v xs := by
  rcases h with h | ⟨g, cap, rfl, hB, h⟩
  · exact .inl h
  · exact .inr ⟨g, cap, rfl, hB, h.other (by intro e; apply ha; simp [Value.ownBlock, e]) u⟩
theorem OwnS.row {W : World} {B : Nat} {v : Value} {xs : List α} (h : OwnS W B v xs) : W.ownsRow B (Lay.ty α) (Lay.k α) v xs.length (cellsL xs) := by
  refine ⟨cellsL_length xs, ?_⟩
  rcases h with ⟨rfl, rfl⟩ | ⟨g, cap, rfl, hB, h⟩
  · exact .inl ⟨rfl, rfl⟩
  · obtain ⟨rest, h1, h2, hle, h3⟩ := h
    refine .inr ⟨g, cap, _, rfl, hB, h1, hle, h3, by simp [cellsL_length, h2], ?_⟩
    simp [← cellsL_length xs]
theorem OwnS.slice {W : World} {B : Nat} {v : Value} {xs : List α} (h : OwnS W B v xs) : ∃ a c, v = .slice a xs.length c ∧ c ≤ maxLen := by
  rcases h with ⟨rfl, rfl⟩ | ⟨g, cap, rfl, _, h⟩
  · exact ⟨none, 0, rfl, by decide⟩
  · exact ⟨_, _, rfl, h.capLe⟩
end

theorem RowAt.i0 {w : World} {b off : Nat} {xs : List Int} (h : RowAt w b off (cellsL xs)) {i : Nat} {x : Int} (hi : xs[i]? = some x) : w.cell? ⟨b, off + i, none⟩ = some (.int .i64 x) :=
  h i _ (by have := cellsL_get xs i x hi 0 (by decide); simpa [Lay.k, Lay.cs] using this)
theorem RowAt.s0 {w : World} {b off : Nat} {xs : List (List UInt8)} (h : RowAt w b off (cellsL xs)) {i : Nat} {x : List UInt8} (hi : xs[i]? = some x) : w.cell? ⟨b, off + i, none⟩ = some (.string ⟨x.toArray⟩) :=
  h i _ (by have := cellsL_get xs i x hi 0 (by decide); simpa [Lay.k, Lay.cs] using this)
theorem RowAt.e0 {w : World} {b off : Nat} {xs : List Ev} (h : RowAt w b off (cellsL xs)) {i : Nat} {x : Ev} (hi : xs[i]? = some x) : w.cell? ⟨b, off + i * 2, none⟩ = some (.int .i64 x.k) :=
  h (i * 2) _ (cellsL_get xs i x hi 0 (by decide))
theorem RowAt.e1 {w : World} {b off : Nat} {xs : List Ev} (h : RowAt w b off (cellsL xs)) {i : Nat} {x : Ev} (hi : xs[i]? = some x) : w.cell? ⟨b, off + i * 2 + 1, none⟩ = some (.string ⟨x.p.toArray⟩) := by
  rw [Nat.add_assoc]; exact h (i * 2 + 1) _ (cellsL_get xs i x hi 1 (by decide))

theorem nbox_then {w : World} {o : Obj} {w1 : World} (h : Below (w.alloc o).heap.size (w.alloc o) w1) : Below w.heap.size w w1 :=
  ((Below.refl _ _).alloc (Nat.le_refl _) _).trans (h.mono (by simp))
theorem nnext {w W V : World} (h : Below w.heap.size w W) (h' : Below W.heap.size W V) : Below w.heap.size w V := h.trans (h'.mono h.size)
theorem allocB (w : World) (o : Obj) : Below w.heap.size w (w.alloc o) := (Below.refl _ _).alloc (Nat.le_refl _) _

theorem nblock_setCells {g : Nat} {t : TypeId} {fz : Nat × Nat} : ∀ (vs : List Value) (o : Nat) (w : World) (l : List Value), w.heap[g]? = some (.cells l.toArray t fz) → o + vs.length ≤ l.length →
    (w.setCells g o vs).heap[g]? = some (.cells (l.take o ++ vs ++ l.drop (o + vs.length)).toArray t fz)
  | [], o, w, l, h, _ => by simpa [World.setCells] using h
  | v :: r, o, w, l, h, hl => by
    have h1 : (w.setCell ⟨g, o, none⟩ v).heap[g]? = some (.cells (l.set o v).toArray t fz) := by rw [block_set v h]; simp
    rw [World.setCells, nblock_setCells r (o + 1) _ _ h1 (by simp at hl ⊢; omega)]
    have ho : o < l.length := by simp at hl; omega
    have e1 : (l.set o v).take (o + 1) = l.take o ++ [v] := by
      rw [List.take_set, List.take_succ_eq_append_getElem ho, List.set_append_right _ _ (by simp; omega)]
      simp [Nat.min_eq_left (Nat.le_of_lt ho)]
    have e2 : (l.set o v).drop (o + 1 + r.length) = l.drop (o + (r.length + 1)) := by
      rw [List.drop_set_of_lt (by omega)]; congr 1; omega
    rw [e1, e2]
    simp
section
variable {α : Type} [Lay α]
theorem OwnR.spare {W : World} {g cap : Nat} {fs : List α} (h : OwnR W g cap fs) (vs : List Value) (o : Nat) (ho : fs.length * Lay.k α ≤ o) (hfit : o + vs.length ≤ cap * Lay.k α) : OwnR (W.setCells g o vs) g cap fs := by
  obtain ⟨rest, h1, h2, h4, h3⟩ := h
  have hlen : (cellsL fs ++ rest).length = cap * Lay.k α := by rw [List.length_append, cellsL_length]; exact h2
  have hc := cellsL_length fs
  refine ⟨rest.take (o - fs.length * Lay.k α) ++ vs ++ (cellsL fs ++ rest).drop (o + vs.length), ?_, ?_, h4, h3⟩
  · rw [nblock_setCells vs o W _ h1 (by rw [hlen]; omega)]
    congr 2
    rw [List.take_append, List.take_of_length_le (by omega), hc]
    simp only [List.append_assoc]
  · simp only [List.length_append, List.length_take, List.length_drop, hc]
    omega
theorem OwnR.some {W : World} {g cap : Nat} {fs : List α} (h : OwnR W g cap fs) {j : Nat} (hj : j < cap * Lay.k α) : (W.cell? ⟨g, j, none⟩).isSome = true := by
  obtain ⟨rest, h1, h2, _⟩ := h
  have hl : j < (cellsL fs ++ rest).length := by rw [List.length_append, cellsL_length, h2]; exact hj
  rw [List.length_append] at hl
  simp [World.cell?, h1, hl]
theorem OwnR.drew {W : World} {g cap : Nat} {fs : List α} (h : OwnR W g cap fs) : OwnR W.drew g cap fs := h
theorem OwnR.alloc {W : World} {g cap : Nat} {fs : List α} (h : OwnR W g cap fs) (o : Obj) : OwnR (W.alloc o) g cap fs := h.next ((Below.refl _ _).alloc (Nat.le_refl _) o)
/-- block b holds just this one -/
def OneR (W : World) (b : Nat) (x : α) : Prop := W.heap[b]? = some (.cells (Lay.cs x).toArray (Lay.ty α) (0, 0))
theorem OneR.row {W : World} {b : Nat} {x : α} (h : OneR W b x) : ∀ j v, (Lay.cs x)[j]? = some v → W.cell? ⟨b, 0 + j, none⟩ = some v := by
  intro j v hj
  unfold OneR at h
  simp [World.cell?, h, hj]
end
/-- all old blocks but those of F are as they were -/
structure Touch (F : Nat → Prop) (w w' : World) : Prop where
  os : w'.os = w.os
  tape : w'.tape = w.tape
  output : w'.output = w.output
  size : w.heap.size ≤ w'.heap.size
  block : ∀ k, k < w.heap.size → ¬ F k → w'.heap[k]? = w.heap[k]?
theorem Touch.refl (F : Nat → Prop) (w : World) : Touch F w w := ⟨rfl, rfl, rfl, Nat.le_refl _, fun _ _ _ => rfl⟩
theorem Touch.trans {F : Nat → Prop} {a b c : World} (h : Touch F a b) (k : Touch F b c) : Touch F a c :=
  ⟨k.os.trans h.os, k.tape.trans h.tape, k.output.trans h.output, Nat.le_trans h.size k.size, fun i hi hf => (k.block i (Nat.lt_of_lt_of_le hi h.size) hf).trans (h.block i hi hf)⟩
theorem Touch.set {F : Nat → Prop} {w : World} {a : Addr} (hf : F a.block) (v : Value) : Touch F w (w.setCell a v) := ⟨rfl, rfl, rfl, by simp [World.setCell], fun k _ hn => Below.heap_setCell w a v k (fun e => hn (by rw [e]; exact hf))⟩
theorem Touch.drew {F : Nat → Prop} {w w' : World} (h : Touch F w w') : Touch F w w'.drew := ⟨h.os, h.tape, h.output, h.size, h.block⟩
theorem Touch.mono {F G : Nat → Prop} {w w' : World} (h : Touch F w w') (hg : ∀ k, k < w.heap.size → F k → G k) : Touch G w w' := ⟨h.os, h.tape, h.output, h.size, fun k hk hn => h.block k hk (fun hf => hn (hg k hk hf))⟩
theorem Touch.below {F : Nat → Prop} {w w' : World} {B : Nat} (h : Touch F w w') (hB : B ≤ w.heap.size) (hF : ∀ k, F k → B ≤ k) : Below B w w' :=
  ⟨h.os, h.tape, h.output, h.size, fun k hk => h.block k (Nat.lt_of_lt_of_le hk hB) (fun hf => by have := hF k hf; omega)⟩

theorem OwnS.low {α : Type} [Lay α] {W : World} {B : Nat} {v : Value} {xs : List α} (h : OwnS W B v xs) (k : Nat) (hk : v.ownBlock = some k) : k < W.heap.size := by
  rcases h with ⟨rfl, rfl⟩ | ⟨g, cap, rfl, _, h⟩
  · simp [Value.ownBlock] at hk
  · simp only [Value.ownBlock, Option.some.injEq] at hk
    rw [← hk]; exact h.lt
theorem OwnS.grown {α : Type} [Lay α] {W V : World} {B : Nat} {v : Value} {xs : List α} (h : OwnS W B v xs) {r : Option Nat} (hg : W.grownBy V r) (hr : ∀ k, v.ownBlock = some k → some k ≠ r) : OwnS V B v xs := by
  rcases h with h | ⟨g, cap, rfl, hB, h⟩
  · exact .inl h
  · obtain ⟨rest, h1, h2⟩ := h
    have hlt := (Array.getElem?_eq_some_iff.1 h1).1
    exact .inr ⟨g, cap, rfl, hB, rest, (hg.block g hlt (hr g rfl)).trans h1, h2⟩
end Go.Proofs.YtnlnojjaebojfaaGreatDoor

namespace Go.Proofs.YtnlnojjaebojfaaGreatDoor
open Go.RowKit

def ncells (n : Nd) : List Value := [.string ⟨n.p.toArray⟩, .string ⟨n.d.toArray⟩, .int .i64 n.c, .int .i64 n.m, .int .i64 n.q, .int .i64 n.v, .int .i64 n.k, .int .i64 n.o, .int .i64 n.n]
instance layN : Lay Nd := ⟨9, ncells, 81, fun _ => rfl, fun x u hu => by simp [ncells] at hu; rcases hu with rfl | rfl | rfl | rfl | rfl | rfl | rfl | rfl | rfl <;> rfl⟩
/- the cells of a node -/
theorem RowAt.nd {w : World} {b off : Nat} {xs : List Nd} (h : RowAt w b off (cellsL xs)) {i : Nat} {x : Nd} (hi : xs[i]? = some x) (c : Nat) (hc : c < 9) : ∀ v, (ncells x)[c]? = some v → w.cell? ⟨b, off + i * 9 + c, none⟩ = some v := fun v hv => by
  rw [Nat.add_assoc]
  exact h (i * 9 + c) v ((cellsL_get xs i x hi c hc).trans hv)
theorem RowAt.n0 {w : World} {b off : Nat} {xs : List Nd} (h : RowAt w b off (cellsL xs)) {i : Nat} {x : Nd} (hi : xs[i]? = some x) : w.cell? ⟨b, off + i * 9, none⟩ = some (.string ⟨x.p.toArray⟩) := h.nd hi 0 (by omega) _ rfl
theorem RowAt.n1 {w : World} {b off : Nat} {xs : List Nd} (h : RowAt w b off (cellsL xs)) {i : Nat} {x : Nd} (hi : xs[i]? = some x) : w.cell? ⟨b, off + i * 9 + 1, none⟩ = some (.string ⟨x.d.toArray⟩) := h.nd hi 1 (by omega) _ rfl
theorem RowAt.n2 {w : World} {b off : Nat} {xs : List Nd} (h : RowAt w b off (cellsL xs)) {i : Nat} {x : Nd} (hi : xs[i]? = some x) : w.cell? ⟨b, off + i * 9 + 2, none⟩ = some (.int .i64 x.c) := h.nd hi 2 (by omega) _ rfl
theorem RowAt.n3 {w : World} {b off : Nat} {xs : List Nd} (h : RowAt w b off (cellsL xs)) {i : Nat} {x : Nd} (hi : xs[i]? = some x) : w.cell? ⟨b, off + i * 9 + 3, none⟩ = some (.int .i64 x.m) := h.nd hi 3 (by omega) _ rfl
theorem RowAt.n4 {w : World} {b off : Nat} {xs : List Nd} (h : RowAt w b off (cellsL xs)) {i : Nat} {x : Nd} (hi : xs[i]? = some x) : w.cell? ⟨b, off + i * 9 + 4, none⟩ = some (.int .i64 x.q) := h.nd hi 4 (by omega) _ rfl
theorem RowAt.n5 {w : World} {b off : Nat} {xs : List Nd} (h : RowAt w b off (cellsL xs)) {i : Nat} {x : Nd} (hi : xs[i]? = some x) : w.cell? ⟨b, off + i * 9 + 5, none⟩ = some (.int .i64 x.v) := h.nd hi 5 (by omega) _ rfl
theorem RowAt.n6 {w : World} {b off : Nat} {xs : List Nd} (h : RowAt w b off (cellsL xs)) {i : Nat} {x : Nd} (hi : xs[i]? = some x) : w.cell? ⟨b, off + i * 9 + 6, none⟩ = some (.int .i64 x.k) := h.nd hi 6 (by omega) _ rfl
theorem RowAt.n7 {w : World} {b off : Nat} {xs : List Nd} (h : RowAt w b off (cellsL xs)) {i : Nat} {x : Nd} (hi : xs[i]? = some x) : w.cell? ⟨b, off + i * 9 + 7, none⟩ = some (.int .i64 x.o) := h.nd hi 7 (by omega) _ rfl
theorem RowAt.n8 {w : World} {b off : Nat} {xs : List Nd} (h : RowAt w b off (cellsL xs)) {i : Nat} {x : Nd} (hi : xs[i]? = some x) : w.cell? ⟨b, off + i * 9 + 8, none⟩ = some (.int .i64 x.n) := h.nd hi 8 (by omega) _ rfl
/-- a tree as a value -/
def TreeV (w : World) (v : Value) (t : Tr) : Prop := ∃ vn vs, v = .agg #[.int .i64 t.z, vn, vs] ∧ SeqV w vn t.ns ∧ SeqV w vs t.ss
theorem TreeV.next {w w' : World} {v : Value} {t : Tr} (h : TreeV w v t) (hb : Below w.heap.size w w') : TreeV w' v t := by
  obtain ⟨vn, vs, rfl, h1, h2⟩ := h
  exact ⟨vn, vs, rfl, h1.next hb, h2.next hb⟩

end Go.Proofs.YtnlnojjaebojfaaGreatDoor

namespace Go.Proofs.YtnlnojjaebojfaaGreatDoor
open Go.RowKit

def wcells (w : Wa) : List Value := [.int .i64 w.s, .int .i64 w.k, .string ⟨w.p.toArray⟩]
def ntcells (n : Nt) : List Value := [.int .i64 n.s, .int .i64 n.k, .string ⟨n.p.toArray⟩]
instance layW : Lay Wa := ⟨3, wcells, 85, fun _ => rfl, fun x u hu => by simp [wcells] at hu; rcases hu with rfl | rfl | rfl <;> rfl⟩
instance layT : Lay Nt := ⟨3, ntcells, 215, fun _ => rfl, fun x u hu => by simp [ntcells] at hu; rcases hu with rfl | rfl | rfl <;> rfl⟩
theorem RowAt.w0 {w : World} {b off : Nat} {xs : List Wa} (h : RowAt w b off (cellsL xs)) {i : Nat} {x : Wa} (hi : xs[i]? = some x) : w.cell? ⟨b, off + i * 3, none⟩ = some (.int .i64 x.s) :=
  h (i * 3) _ (cellsL_get xs i x hi 0 (by decide))
theorem RowAt.w1 {w : World} {b off : Nat} {xs : List Wa} (h : RowAt w b off (cellsL xs)) {i : Nat} {x : Wa} (hi : xs[i]? = some x) : w.cell? ⟨b, off + i * 3 + 1, none⟩ = some (.int .i64 x.k) := by
  rw [Nat.add_assoc]; exact h (i * 3 + 1) _ (cellsL_get xs i x hi 1 (by decide))
theorem RowAt.w2 {w : World} {b off : Nat} {xs : List Wa} (h : RowAt w b off (cellsL xs)) {i : Nat} {x : Wa} (hi : xs[i]? = some x) : w.cell? ⟨b, off + i * 3 + 2, none⟩ = some (.string ⟨x.p.toArray⟩) := by
  rw [Nat.add_assoc]; exact h (i * 3 + 2) _ (cellsL_get xs i x hi 2 (by decide))
theorem RowAt.t0 {w : World} {b off : Nat} {xs : List Nt} (h : RowAt w b off (cellsL xs)) {i : Nat} {x : Nt} (hi : xs[i]? = some x) : w.cell? ⟨b, off + i * 3, none⟩ = some (.int .i64 x.s) :=
  h (i * 3) _ (cellsL_get xs i x hi 0 (by decide))
theorem RowAt.t2 {w : World} {b off : Nat} {xs : List Nt} (h : RowAt w b off (cellsL xs)) {i : Nat} {x : Nt} (hi : xs[i]? = some x) : w.cell? ⟨b, off + i * 3 + 2, none⟩ = some (.string ⟨x.p.toArray⟩) := by
  rw [Nat.add_assoc]; exact h (i * 3 + 2) _ (cellsL_get xs i x hi 2 (by decide))
end Go.Proofs.YtnlnojjaebojfaaGreatDoor

namespace Go.Proofs.YtnlnojjaebojfaaGreatDoor
open Go.RowKit
theorem dbelow_next {w W V : World} (h : Below w.heap.size w W) (h' : Below W.heap.size W V) : Below w.heap.size w V := h.trans (h'.mono h.size)

end Go.Proofs.YtnlnojjaebojfaaGreatDoor

namespace Go.Proofs.YtnlnojjaebojfaaGreatDoor
open Go.RowKit

theorem grown_set {w : World} {g j : Nat} (v : Value) : w.grownBy (w.setCell ⟨g, j, none⟩ v) (some g) := ⟨rfl, rfl, rfl, by simp [World.setCell], fun k _ hne => Below.heap_setCell w ⟨g, j, none⟩ v k (fun e => hne (by rw [e]))⟩
end Go.Proofs.YtnlnojjaebojfaaGreatDoor

namespace Go.Proofs.YtnlnojjaebojfaaGreatDoor
open Go.RowKit

theorem block_setCells {g : Nat} {t : TypeId} {fz : Nat × Nat} : ∀ (vs : List Value) (o : Nat) (w : World) (l : List Value), w.heap[g]? = some (.cells l.toArray t fz) → o + vs.length ≤ l.length →
    (w.setCells g o vs).heap[g]? = some (.cells (l.take o ++ vs ++ l.drop (o + vs.length)).toArray t fz)
  | [], o, w, l, h, _ => by simpa [World.setCells] using h
  | v :: r, o, w, l, h, hl => by
    have h1 : (w.setCell ⟨g, o, none⟩ v).heap[g]? = some (.cells (l.set o v).toArray t fz) := by rw [block_set v h]; simp
    rw [World.setCells, block_setCells r (o + 1) _ _ h1 (by simp at hl ⊢; omega)]
    have ho : o < l.length := by simp at hl; omega
    have e1 : (l.set o v).take (o + 1) = l.take o ++ [v] := by
      rw [List.take_set, List.take_succ_eq_append_getElem ho, List.set_append_right _ _ (by simp; omega)]
      simp [Nat.min_eq_left (Nat.le_of_lt ho)]
    have e2 : (l.set o v).drop (o + 1 + r.length) = l.drop (o + (r.length + 1)) := by
      rw [List.drop_set_of_lt (by omega)]; congr 1; omega
    rw [e1, e2]
    simp
/-- cells behind the files -/
theorem Own.spare {W : World} {g cap : Nat} {fs : List DF} (h : Own W g cap fs) (vs : List Value) (o : Nat) (ho : fs.length * 3 ≤ o) (hfit : o + vs.length ≤ cap * 3) : Own (W.setCells g o vs) g cap fs := by
  obtain ⟨rest, h1, h2, h3⟩ := h
  have hlen : (cellsF fs ++ rest).length = cap * 3 := by rw [List.length_append, cellsF_length]; exact h2
  have hc := cellsF_length fs
  refine ⟨rest.take (o - fs.length * 3) ++ vs ++ (cellsF fs ++ rest).drop (o + vs.length), ?_, ?_, h3⟩
  · rw [block_setCells vs o W _ h1 (by rw [hlen]; omega)]
    congr 2
    rw [List.take_append, List.take_of_length_le (by omega), hc]
    simp only [List.append_assoc]
  · simp only [List.length_append, List.length_take, List.length_drop, hc]
    omega
end Go.Proofs.YtnlnojjaebojfaaGreatDoor

namespace Go.Proofs.YtnlnojjaebojfaaGreatDoor
open Go.RowKit
theorem disk_slice {w : World} {v : Value} {fs : List DF} (hv : DiskV w v fs) : ∃ a n c, v = .slice a n c := by
  rcases hv with ⟨a, cap, rfl, _, _⟩ | ⟨b, off, cap, rfl, _⟩
  · exact ⟨_, _, _, rfl⟩
  · exact ⟨_, _, _, rfl⟩

end Go.Proofs.YtnlnojjaebojfaaGreatDoor

namespace Go.Proofs.YtnlnojjaebojfaaGreatDoor
open Go.RowKit

/-- two boxes that a call has laid first: its disk's and its result's -/
structure Boxes (w W : World) (v : Value) : Prop where
  below : Below w.heap.size w W
  size : w.heap.size + 2 ≤ W.heap.size
  cd : W.cell? ⟨w.heap.size, 0, none⟩ = some v
  cr : W.cell? ⟨w.heap.size + 1, 0, none⟩ = some (.slice none 0 0)
  fr : W.frozen? ⟨w.heap.size + 1, 0, none⟩ = false
theorem Boxes.next {w W V : World} {v : Value} (h : Boxes w W v) (hb : Below W.heap.size W V) : Boxes w V v :=
  ⟨dbelow_next h.below hb, Nat.le_trans h.size hb.size, by rw [hb.cell (p := ⟨w.heap.size, 0, none⟩) (by have := h.size; show w.heap.size < _; omega)]; exact h.cd,
    by rw [hb.cell (p := ⟨w.heap.size + 1, 0, none⟩) (by have := h.size; show w.heap.size + 1 < _; omega)]; exact h.cr, by rw [hb.frozen (p := ⟨w.heap.size + 1, 0, none⟩) (by have := h.size; show w.heap.size + 1 < _; omega)]; exact h.fr⟩
theorem Boxes.grown {w W V : World} {v : Value} {g : Nat} (h : Boxes w W v) (hg : W.grownBy V (some g)) (hl : w.heap.size + 2 ≤ g) : Boxes w V v := by
  have hs := h.size
  have b0 : V.heap[w.heap.size]? = W.heap[w.heap.size]? := hg.block _ (by omega) (fun e => by cases e; omega)
  have b1 : V.heap[w.heap.size + 1]? = W.heap[w.heap.size + 1]? := hg.block _ (by omega) (fun e => by cases e; omega)
  exact ⟨h.below.grown hg (by omega) (fun k e => by cases e; omega), Nat.le_trans h.size hg.size, (World.cell?_of_block b0).trans h.cd, (World.cell?_of_block b1).trans h.cr, (World.frozen?_of_block b1).trans h.fr⟩
theorem Boxes.alloc {w W : World} {v : Value} (h : Boxes w W v) (o : Obj) : Boxes w (W.alloc o) v := h.next ((Below.refl _ _).alloc (Nat.le_refl _) o)
end Go.Proofs.YtnlnojjaebojfaaGreatDoor

namespace Go.Proofs.YtnlnojjaebojfaaGreatDoor
open Go.RowKit
theorem Own.some {W : World} {g cap : Nat} {fs : List DF} (h : Own W g cap fs) {j : Nat} (hj : j < cap * 3) : (W.cell? ⟨g, j, none⟩).isSome = true := by
  obtain ⟨rest, h1, h2, _⟩ := h
  have hl : j < (cellsF fs ++ rest).length := by rw [List.length_append, cellsF_length, h2]; exact hj
  rw [List.length_append] at hl
  simp [World.cell?, h1, hl]

end Go.Proofs.YtnlnojjaebojfaaGreatDoor

namespace Go.Proofs.YtnlnojjaebojfaaGreatDoor
open Go.RowKit
/-- block b holds just this file -/
def One (W : World) (b : Nat) (x : DF) : Prop := W.heap[b]? = some (.cells (fcells x).toArray 78 (0, 0))
theorem One.row {W : World} {b : Nat} {x : DF} (h : One W b x) : ∀ j v, (fcells x)[j]? = some v → W.cell? ⟨b, 0 + j, none⟩ = some v := by
  intro j v hj
  unfold One at h
  have : (fcells x).toArray[j]? = some v := by simpa using hj
  simp [World.cell?, h, hj]
end Go.Proofs.YtnlnojjaebojfaaGreatDoor
