/-
  How a disk lies in memory: a row of files, three texts each; a row of the call's own; what stays when other memory turns.
-/
import Derived.Test.YtbadhnmljlmefaaDP
import Derived.Test.YtbadhnmljlmefaaProg
import Derived.WalkKit
import Derived.Laws.AppendOwn
import Derived.Deep.LoopGhost
namespace Go.Proofs.Ytbadhnmljlmefaa
open Go.RowKit

def fcells (f : DF) : List Value := [.string ⟨f.n.toArray⟩, .string ⟨f.s.toArray⟩, .string ⟨f.t.toArray⟩]
/-- a file as a value -/
def fileV (f : DF) : Value := .agg #[.string ⟨f.n.toArray⟩, .string ⟨f.s.toArray⟩, .string ⟨f.t.toArray⟩]
def cellsF : List DF → List Value
  | [] => []
  | f :: r => fcells f ++ cellsF r
theorem cellsF_length : ∀ fs : List DF, (cellsF fs).length = fs.length * 3
  | [] => rfl
  | f :: r => by rw [cellsF, List.length_append, cellsF_length r]; simp [fcells]; omega
theorem cellsF_append : ∀ a b : List DF, cellsF (a ++ b) = cellsF a ++ cellsF b
  | [], _ => rfl
  | f :: r, b => by rw [List.cons_append, cellsF, cellsF, cellsF_append r b, List.append_assoc]
theorem cellsF_get : ∀ (fs : List DF) (i : Nat) (f : DF), fs[i]? = some f → ∀ c, c < 3 → (cellsF fs)[i * 3 + c]? = (fcells f)[c]?
  | [], i, f, h, _, _ => by simp at h
  | x :: r, 0, f, h, c, hc => by
    simp at h
    subst h
    rw [cellsF, List.getElem?_append_left (by simp [fcells]; omega)]
    simp
  | x :: r, i + 1, f, h, c, hc => by
    rw [cellsF, List.getElem?_append_right (by simp [fcells]; omega), ← cellsF_get r i f (by simpa using h) c hc]
    congr 1
    simp [fcells]; omega
theorem cellsF_one (fs : List DF) : ∀ u ∈ cellsF fs, u.oneCell' = true := by
  induction fs with
  | nil => simp [cellsF]
  | cons f r ih =>
    intro u hu
    rcases List.mem_append.1 hu with h | h
    · simp [fcells] at h
      rcases h with rfl | rfl | rfl <;> rfl
    · exact ih u h
theorem cellsF_set : ∀ (fs : List DF) (i : Nat) (f g : DF), fs[i]? = some f → ∀ c v, c < 3 → (fcells g) = (fcells f).set c v → (cellsF fs).set (i * 3 + c) v = cellsF (fs.set i g)
  | [], i, f, g, h, _, _, _, _ => by simp at h
  | x :: r, 0, f, g, h, c, v, hc, hg => by
    simp at h
    subst h
    rw [cellsF, List.set_cons_zero, cellsF, hg, List.set_append_left _ _ (by simp [fcells]; omega)]
    simp
  | x :: r, i + 1, f, g, h, c, v, hc, hg => by
    rw [cellsF, List.set_cons_succ, cellsF, List.set_append_right _ _ (by simp [fcells]; omega), ← cellsF_set r i f g (by simpa using h) c v hc hg]
    congr 2
    simp [fcells]; omega

def RowAt (w : World) (b off : Nat) (cs : List Value) : Prop := ∀ j v, cs[j]? = some v → w.cell? ⟨b, off + j, none⟩ = some v
theorem RowAt.c0 {w : World} {b off : Nat} {fs : List DF} (h : RowAt w b off (cellsF fs)) {i : Nat} {f : DF} (hi : fs[i]? = some f) : w.cell? ⟨b, off + i * 3, none⟩ = some (.string ⟨f.n.toArray⟩) :=
  h (i * 3) _ (by have := cellsF_get fs i f hi 0 (by omega); simpa [fcells] using this)
theorem RowAt.c1 {w : World} {b off : Nat} {fs : List DF} (h : RowAt w b off (cellsF fs)) {i : Nat} {f : DF} (hi : fs[i]? = some f) : w.cell? ⟨b, off + i * 3 + 1, none⟩ = some (.string ⟨f.s.toArray⟩) := by
  rw [Nat.add_assoc]; exact h (i * 3 + 1) _ (by have := cellsF_get fs i f hi 1 (by omega); simpa [fcells] using this)
theorem RowAt.c2 {w : World} {b off : Nat} {fs : List DF} (h : RowAt w b off (cellsF fs)) {i : Nat} {f : DF} (hi : fs[i]? = some f) : w.cell? ⟨b, off + i * 3 + 2, none⟩ = some (.string ⟨f.t.toArray⟩) := by
  rw [Nat.add_assoc]; exact h (i * 3 + 2) _ (by have := cellsF_get fs i f hi 2 (by omega); simpa [fcells] using this)
theorem RowAt.kept {w w' : World} {b off B : Nat} {cs : List Value} (h : RowAt w b off cs) (hb : Below B w w') (hB : b < B) : RowAt w' b off cs :=
  fun j v hj => by rw [hb.cell (p := ⟨b, off + j, none⟩) hB]; exact h j v hj

/-- the value of a disk's one field holds these files -/
def DiskV (w : World) (v : Value) (fs : List DF) : Prop :=
  (∃ a cap, v = .slice a 0 cap ∧ fs = [] ∧ cap ≤ maxLen) ∨
  ∃ b off cap, v = .slice (some ⟨b, off, none⟩) fs.length cap ∧ fs.length ≤ cap ∧ cap ≤ maxLen ∧ b < w.heap.size ∧ fs ≠ [] ∧ RowAt w b off (cellsF fs)
theorem DiskV.kept {w w' : World} {B : Nat} {v : Value} {fs : List DF} (h : DiskV w v fs) (hb : Below B w w') (hB : w.heap.size ≤ B) : DiskV w' v fs := by
  rcases h with h | ⟨b, off, cap, rfl, h1, h2, h3, h0, h4⟩
  · exact .inl h
  · exact .inr ⟨b, off, cap, rfl, h1, h2, Nat.lt_of_lt_of_le h3 hb.size, h0, h4.kept hb (Nat.lt_of_lt_of_le h3 hB)⟩
theorem DiskV.next {w w' : World} {v : Value} {fs : List DF} (h : DiskV w v fs) (hb : Below w.heap.size w w') : DiskV w' v fs := h.kept hb (Nat.le_refl _)
theorem DiskV.alloc {w : World} {v : Value} {fs : List DF} (h : DiskV w v fs) (o : Obj) : DiskV (w.alloc o) v fs := h.next ((Below.refl _ _).alloc (Nat.le_refl _) o)
theorem DiskV.drew {w : World} {v : Value} {fs : List DF} (h : DiskV w v fs) : DiskV w.drew v fs := h.next (Below.refl _ _).drew
theorem DiskV.nil (w : World) : DiskV w (.slice none 0 0) [] := .inl ⟨none, 0, rfl, rfl, by decide⟩

/-- block g is a row of the call's own with these files at its head -/
def Own (W : World) (g cap : Nat) (fs : List DF) : Prop := ∃ rest : List Value, W.heap[g]? = some (.cells (cellsF fs ++ rest).toArray 41 (0, 0)) ∧ fs.length * 3 + rest.length = cap * 3 ∧ cap ≤ maxLen
theorem Own.lt {W : World} {g cap : Nat} {fs : List DF} (h : Own W g cap fs) : g < W.heap.size := by
  obtain ⟨rest, h1, _⟩ := h
  exact (Array.getElem?_eq_some_iff.1 h1).1
theorem Own.le {W : World} {g cap : Nat} {fs : List DF} (h : Own W g cap fs) : fs.length ≤ cap := by obtain ⟨rest, _, h2, _⟩ := h; omega
theorem Own.capLe {W : World} {g cap : Nat} {fs : List DF} (h : Own W g cap fs) : cap ≤ maxLen := by obtain ⟨rest, _, _, h3⟩ := h; exact h3
theorem Own.row {W : World} {g cap : Nat} {fs : List DF} (h : Own W g cap fs) : RowAt W g 0 (cellsF fs) := by
  obtain ⟨rest, h1, _⟩ := h
  intro j v hj
  have hlt : j < (cellsF fs).length := (List.getElem?_eq_some_iff.1 hj).1
  simp [World.cell?, h1, List.getElem?_append_left hlt, hj]
theorem Own.frozen {W : World} {g cap : Nat} {fs : List DF} (h : Own W g cap fs) (j : Nat) : W.frozen? ⟨g, j, none⟩ = false := by
  obtain ⟨rest, h1, _⟩ := h
  simp [World.frozen?, h1]
theorem Own.c0 {W : World} {g cap : Nat} {fs : List DF} (h : Own W g cap fs) {i : Nat} {f : DF} (hi : fs[i]? = some f) : W.cell? ⟨g, i * 3, none⟩ = some (.string ⟨f.n.toArray⟩) := by simpa using h.row.c0 hi
theorem Own.c1 {W : World} {g cap : Nat} {fs : List DF} (h : Own W g cap fs) {i : Nat} {f : DF} (hi : fs[i]? = some f) : W.cell? ⟨g, i * 3 + 1, none⟩ = some (.string ⟨f.s.toArray⟩) := by simpa using h.row.c1 hi
theorem Own.c2 {W : World} {g cap : Nat} {fs : List DF} (h : Own W g cap fs) {i : Nat} {f : DF} (hi : fs[i]? = some f) : W.cell? ⟨g, i * 3 + 2, none⟩ = some (.string ⟨f.t.toArray⟩) := by simpa using h.row.c2 hi
theorem Own.kept {W V : World} {g B cap : Nat} {fs : List DF} (h : Own W g cap fs) (hb : Below B W V) (hg : g < B) : Own V g cap fs := by
  obtain ⟨rest, h1, h2⟩ := h
  exact ⟨rest, (hb.block _ hg).trans h1, h2⟩
theorem Own.next {W V : World} {g cap : Nat} {fs : List DF} (h : Own W g cap fs) (hb : Below W.heap.size W V) : Own V g cap fs := h.kept hb h.lt
theorem Own.alloc {W : World} {g cap : Nat} {fs : List DF} (h : Own W g cap fs) (o : Obj) : Own (W.alloc o) g cap fs := h.next ((Below.refl _ _).alloc (Nat.le_refl _) o)
theorem Own.drew {W : World} {g cap : Nat} {fs : List DF} (h : Own W g cap fs) : Own W.drew g cap fs := h
theorem Own.other {W : World} {g cap : Nat} {fs : List DF} (h : Own W g cap fs) {a : Addr} (ha : g ≠ a.block) (v : Value) : Own (W.setCell a v) g cap fs := by
  obtain ⟨rest, h1, h2⟩ := h
  exact ⟨rest, (Below.heap_setCell W a v g ha).trans h1, h2⟩
theorem block_set {w : World} {g j : Nat} {cur : Array Value} {t : TypeId} {fz : Nat × Nat} (v : Value) (h : w.heap[g]? = some (.cells cur t fz)) :
    (w.setCell ⟨g, j, none⟩ v).heap[g]? = some (.cells (cur.setIfInBounds j v) t fz) := by
  obtain ⟨hlt, hk⟩ := Array.getElem?_eq_some_iff.1 h
  show (w.heap.modify g _)[g]? = _
  rw [Array.getElem?_eq_getElem (by rw [Array.size_modify]; exact hlt), Array.getElem_modify_self, hk]
  rfl
theorem Own.set {W : World} {g cap : Nat} {fs : List DF} (h : Own W g cap fs) {i : Nat} {f f' : DF} (hi : fs[i]? = some f) {c : Nat} (hc : c < 3) {v : Value} (hf : fcells f' = (fcells f).set c v) : Own (W.setCell ⟨g, i * 3 + c, none⟩ v) g cap (fs.set i f') := by
  obtain ⟨rest, h1, h2, h3⟩ := h
  refine ⟨rest, ?_, by simpa using h2, h3⟩
  have hl : i < fs.length := (List.getElem?_eq_some_iff.1 hi).1
  rw [block_set v h1, ← cellsF_set fs i f f' hi c v hc hf]
  simp [List.set_append_left _ _ (show i * 3 + c < (cellsF fs).length by rw [cellsF_length]; omega)]
theorem Own.s0 {W : World} {g cap : Nat} {fs : List DF} (h : Own W g cap fs) {i : Nat} {f : DF} (hi : fs[i]? = some f) (x : List UInt8) : Own (W.setCell ⟨g, i * 3, none⟩ (.string ⟨x.toArray⟩)) g cap (fs.set i ⟨x, f.s, f.t⟩) := h.set hi (c := 0) (by omega) rfl
theorem Own.s1 {W : World} {g cap : Nat} {fs : List DF} (h : Own W g cap fs) {i : Nat} {f : DF} (hi : fs[i]? = some f) (x : List UInt8) : Own (W.setCell ⟨g, i * 3 + 1, none⟩ (.string ⟨x.toArray⟩)) g cap (fs.set i ⟨f.n, x, f.t⟩) := h.set hi (c := 1) (by omega) rfl
theorem Own.s2 {W : World} {g cap : Nat} {fs : List DF} (h : Own W g cap fs) {i : Nat} {f : DF} (hi : fs[i]? = some f) (x : List UInt8) : Own (W.setCell ⟨g, i * 3 + 2, none⟩ (.string ⟨x.toArray⟩)) g cap (fs.set i ⟨f.n, f.s, x⟩) := h.set hi (c := 2) (by omega) rfl

/-- a value that holds these files in a row of the call's own, at or behind block B -/
def OwnV (W : World) (B : Nat) (v : Value) (fs : List DF) : Prop := (v = .slice none 0 0 ∧ fs = []) ∨ ∃ g cap, v = .slice (some ⟨g, 0, none⟩) fs.length cap ∧ B ≤ g ∧ Own W g cap fs
theorem OwnV.disk {W : World} {B : Nat} {v : Value} {fs : List DF} (h : OwnV W B v fs) : DiskV W v fs := by
  rcases h with ⟨rfl, rfl⟩ | ⟨g, cap, rfl, _, h⟩
  · exact DiskV.nil W
  · by_cases h0 : fs = []
    · subst h0; exact .inl ⟨_, cap, rfl, rfl, h.capLe⟩
    · exact .inr ⟨g, 0, cap, rfl, h.le, h.capLe, h.lt, h0, h.row⟩
theorem OwnV.next {W V : World} {B : Nat} {v : Value} {fs : List DF} (h : OwnV W B v fs) (hb : Below W.heap.size W V) : OwnV V B v fs := by
  rcases h with h | ⟨g, cap, rfl, hB, h⟩
  · exact .inl h
  · exact .inr ⟨g, cap, rfl, hB, h.next hb⟩
theorem OwnV.of_row {W : World} {B : Nat} {v : Value} {fs : List DF} (h : W.ownsRow B 41 3 v fs.length (cellsF fs)) : OwnV W B v fs := by
  obtain ⟨_, ⟨rfl, h0⟩ | ⟨g, cap, cur, rfl, hB, hg, hn, hm, hs, ht⟩⟩ := h
  · exact .inl ⟨rfl, List.eq_nil_of_length_eq_zero h0⟩
  · refine .inr ⟨g, cap, rfl, hB, cur.toList.drop (fs.length * 3), ?_, ?_, hm⟩
    · rw [hg, ← ht, List.take_append_drop]
    · simp [hs]; omega
theorem OwnV.row {W : World} {B : Nat} {v : Value} {fs : List DF} (h : OwnV W B v fs) : W.ownsRow B 41 3 v fs.length (cellsF fs) := by
  refine ⟨cellsF_length fs, ?_⟩
  rcases h with ⟨rfl, rfl⟩ | ⟨g, cap, rfl, hB, h⟩
  · exact .inl ⟨rfl, rfl⟩
  · have hle := h.le
    obtain ⟨rest, h1, h2, h3⟩ := h
    refine .inr ⟨g, cap, _, rfl, hB, h1, hle, h3, by simp [cellsF_length, h2], ?_⟩
    simp [← cellsF_length fs]

end Go.Proofs.Ytbadhnmljlmefaa
