/-
  Plain functions on lists of bytes that the contracts of package path speak of, and what holds of them; no program is named here.
  A disk as a plain list of files: when it is one, where a name stands on it, what the order of names is. No program is named here.
  Events as plain data. No program is named here.
  Watches and notes as plain lists: which events set a watch off, who is told, what is left. No program is named here.
  A client's cache as a plain list of entries: what is kept, looked up and told. No program is named here.
  How a disk lies in memory: a row of files, three texts each; a row of the call's own; what stays when other memory turns.
  How lists of elements lie in memory, whatever these are: rows of cells, so many each; a row of the call's own; runs of cells stored into it; what stays when other memory turns.
  How lists of watches and notes lie in memory.
  How lists of entries and a client's end lie in memory.
-/
import Derived.WalkKit
import Derived.Laws.Cover1
import Derived.Lib.Bytealg
import Derived.Test.YtdefdbejaabpdaaProg
import Derived.Laws.AppendOwn
import Derived.Deep.LoopGhost
import Derived.Lib.QuietBelow
namespace Go.Proofs.Ytdefdbejaabpdaa
open Go.RowKit

theorem hide {p : Prop} (h : p) : Hid p := h
theorem unhide {p : Prop} (h : Hid p) : p := h

/-- a byte that may stand in a step: a to z, 0 to 9, minus or underscore -/
def letterB (c : UInt8) : Bool := (decide (97 ≤ c.toNat) && decide (c.toNat ≤ 122)) || (decide (48 ≤ c.toNat) && decide (c.toNat ≤ 57)) || c.toNat == 45 || c.toNat == 95
/-- a step: 1 to 40 such bytes -/
def namedB (l : List UInt8) : Bool := decide (1 ≤ l.length) && decide (l.length ≤ 40) && l.all letterB

end Go.Proofs.Ytdefdbejaabpdaa

namespace Go.Proofs.Ytdefdbejaabpdaa
open Go.RowKit

/- the order of texts -/
abbrev bl (a b : List UInt8) : Bool := Op.bytesLess a b
theorem bl_irrefl : ∀ a, bl a a = false
  | [] => rfl
  | x :: a => by
    have h : ¬ x < x := UInt8.lt_irrefl x
    have := bl_irrefl a
    simp only [bl] at this
    simp [bl, Op.bytesLess, h, this]
theorem bl_trans : ∀ a b c, bl a b = true → bl b c = true → bl a c = true
  | [], _, [], _, h => by cases ‹List UInt8› <;> simp [bl, Op.bytesLess] at h
  | [], _, _ :: _, _, _ => by simp [bl, Op.bytesLess]
  | _ :: _, [], _, h, _ => by simp [bl, Op.bytesLess] at h
  | _ :: _, _ :: _, [], _, h => by simp [bl, Op.bytesLess] at h
  | x :: a, y :: b, z :: c, h1, h2 => by
    have ih := bl_trans a b c
    simp only [bl, Op.bytesLess, Bool.or_eq_true, Bool.and_eq_true, decide_eq_true_eq, beq_iff_eq] at h1 h2 ih ⊢
    rcases h1 with h1 | ⟨h1, h1'⟩ <;> rcases h2 with h2 | ⟨h2, h2'⟩
    · exact .inl (UInt8.lt_trans h1 h2)
    · subst h2; exact .inl h1
    · subst h1; exact .inl h2
    · subst h1 h2; exact .inr ⟨rfl, ih h1' h2'⟩
theorem bl_total : ∀ a b, bl a b = false → bl b a = false → a = b
  | [], [], _, _ => rfl
  | [], _ :: _, h, _ => by simp [bl, Op.bytesLess] at h
  | _ :: _, [], _, h => by simp [bl, Op.bytesLess] at h
  | x :: a, y :: b, h1, h2 => by
    have ih := bl_total a b
    simp only [bl, Op.bytesLess, Bool.or_eq_false_iff, Bool.and_eq_false_iff, decide_eq_false_iff_not, beq_eq_false_iff_ne] at h1 h2 ih
    have e : x = y := UInt8.le_antisymm (UInt8.not_lt.1 h2.1) (UInt8.not_lt.1 h1.1)
    subst e
    rw [ih (by rcases h1.2 with h | h; · exact absurd rfl h
               · exact h) (by rcases h2.2 with h | h; · exact absurd rfl h
                              · exact h)]
theorem bl_asymm {a b : List UInt8} (h : bl a b = true) : bl b a = false := by
  cases h' : bl b a with
  | false => rfl
  | true => have := bl_trans a b a h h'; rw [bl_irrefl] at this; cases this
theorem bl_ne {a b : List UInt8} (h : bl a b = true) : a ≠ b := by rintro rfl; rw [bl_irrefl] at h; cases h

theorem cmp_bl : ∀ a b, decide (Lib.compareBytes a b < 0) = bl a b
  | [], [] => by simp [bl, Op.bytesLess, Lib.compareBytes]
  | [], _ :: _ => by simp [bl, Op.bytesLess, Lib.compareBytes]
  | _ :: _, [] => by simp [bl, Op.bytesLess, Lib.compareBytes]
  | x :: a, y :: b => by
    have ih := cmp_bl a b
    simp only [bl] at ih
    simp only [bl, Op.bytesLess, Lib.compareBytes]
    by_cases h1 : x < y
    · simp [h1]
    · by_cases h2 : y < x
      · have : x ≠ y := by rintro rfl; exact h1 h2
        simp [h1, h2, this]
      · have : x = y := UInt8.le_antisymm (UInt8.not_lt.1 h2) (UInt8.not_lt.1 h1)
        subst this
        simp [h1, ← ih]
theorem cmp_zero : ∀ a b, decide (Lib.compareBytes a b = 0) = decide (a = b)
  | [], [] => by simp [Lib.compareBytes]
  | [], _ :: _ => by simp [Lib.compareBytes]
  | _ :: _, [] => by simp [Lib.compareBytes]
  | x :: a, y :: b => by
    have ih := cmp_zero a b
    simp only [Lib.compareBytes]
    by_cases h1 : x < y
    · have : x ≠ y := by rintro rfl; exact UInt8.lt_irrefl x h1
      simp [h1, this]
    · by_cases h2 : y < x
      · have : x ≠ y := by rintro rfl; exact h1 h2
        simp [h1, h2, this]
      · have : x = y := UInt8.le_antisymm (UInt8.not_lt.1 h2) (UInt8.not_lt.1 h1)
        subst this
        simp [h1, ih]

/- files -/
structure DF where
  n : List UInt8
  s : List UInt8
  t : List UInt8
instance : Inhabited DF := ⟨⟨[], [], []⟩⟩

def fileOk (f : DF) : Bool := namedB f.n && decide (f.s.length + f.t.length ≤ 1048576)
def Asc (fs : List DF) : Prop := fs.Pairwise fun a b => bl a.n b.n = true
structure GoodD (fs : List DF) : Prop where
  few : fs.length ≤ 16
  ok : ∀ f ∈ fs, fileOk f = true
  asc : Asc fs
/- what is known of the first k files -/
/- where a name stands -/
structure There (fs A : List DF) (f : DF) (B : List DF) (name : List UInt8) : Prop where
  eq : fs = A ++ f :: B
  nm : f.n = name
  lo : ∀ a ∈ A, bl a.n name = true
  hi : ∀ b ∈ B, bl name b.n = true
theorem There.ok {fs A B : List DF} {f : DF} {name : List UInt8} (T : There fs A f B name) (g : GoodD fs) : fileOk f = true := g.ok f (by rw [T.eq]; simp)
end Go.Proofs.Ytdefdbejaabpdaa

namespace Go.Proofs.Ytdefdbejaabpdaa

structure Ev where
  k : Int
  p : List UInt8

end Go.Proofs.Ytdefdbejaabpdaa

namespace Go.Proofs.Ytdefdbejaabpdaa
structure Nt where
  s : Int
  k : Int
  p : List UInt8
end Go.Proofs.Ytdefdbejaabpdaa

namespace Go.Proofs.Ytdefdbejaabpdaa
open Go.RowKit

structure En where
  p : List UInt8
  d : List UInt8
  t : Bool
def EAsc (es : List En) : Prop := es.Pairwise fun a b => bl a.p b.p = true
def normE (x : En) : En := if x.t = true then x else ⟨x.p, [], false⟩
def keepE (es : List En) (x : En) : List En := es.filter (fun e => bl e.p x.p) ++ normE x :: es.filter (fun e => bl x.p e.p)
def lookE (es : List En) (p : List UInt8) : Option En := es.find? fun e => decide (e.p = p)
def noneE : En := ⟨[], [], false⟩
def toldE (s : Int) (l : List Nt) (p : List UInt8) : Bool := l.any fun n => decide (n.s = s) && !decide (n.k = 4) && decide (n.p = p)
def tellE (s : Int) (l : List Nt) (es : List En) : List En := es.filter fun e => !toldE s l e.p
def cacheE (l : List En) : List En := l.foldl keepE []
theorem normE_p (x : En) : (normE x).p = x.p := by unfold normE; split <;> rfl
theorem normE_yes {x : En} (h : x.t = true) : normE x = x := by unfold normE; rw [if_pos h]
theorem normE_no {x : En} (h : x.t = false) : normE x = ⟨x.p, [], x.t⟩ := by unfold normE; rw [h]; rfl

/- where a path stands -/
structure EThere (es A : List En) (f : En) (B : List En) (p : List UInt8) : Prop where
  eq : es = A ++ f :: B
  nm : f.p = p
  lo : ∀ a ∈ A, bl a.p p = true
  hi : ∀ b ∈ B, bl p b.p = true
structure EGap (es A B : List En) (p : List UInt8) : Prop where
  eq : es = A ++ B
  lo : ∀ a ∈ A, bl a.p p = true
  hi : ∀ b ∈ B, bl p b.p = true
theorem ewhere (p : List UInt8) : ∀ es : List En, EAsc es → (∃ A f B, EThere es A f B p) ∨ ∃ A B, EGap es A B p
  | [], _ => .inr ⟨[], [], rfl, by simp, by simp⟩
  | x :: r, h => by
    obtain ⟨hx, hr⟩ := List.pairwise_cons.1 h
    cases h1 : bl x.p p with
    | true =>
      rcases ewhere p r hr with ⟨A, f, B, T⟩ | ⟨A, B, G⟩
      · exact .inl ⟨x :: A, f, B, by rw [T.eq]; rfl, T.nm, by simp [h1]; exact T.lo, T.hi⟩
      · exact .inr ⟨x :: A, B, by rw [G.eq]; rfl, by simp [h1]; exact G.lo, G.hi⟩
    | false =>
      cases h2 : bl p x.p with
      | true => exact .inr ⟨[], x :: r, rfl, by simp, by simp [h2]; exact fun b hb => bl_trans _ _ _ h2 (hx b hb)⟩
      | false =>
        have e := bl_total _ _ h1 h2
        exact .inl ⟨[], x, r, rfl, e, by simp, fun b hb => by rw [← e]; exact hx b hb⟩
theorem filt_lo {A : List En} {p : List UInt8} (h : ∀ a ∈ A, bl a.p p = true) : A.filter (fun e => bl e.p p) = A ∧ A.filter (fun e => bl p e.p) = [] :=
  ⟨List.filter_eq_self.2 h, List.filter_eq_nil_iff.2 fun a ha => by rw [bl_asymm (h a ha)]; simp⟩
theorem filt_hi {A : List En} {p : List UInt8} (h : ∀ a ∈ A, bl p a.p = true) : A.filter (fun e => bl e.p p) = [] ∧ A.filter (fun e => bl p e.p) = A :=
  ⟨List.filter_eq_nil_iff.2 fun a ha => by rw [bl_asymm (h a ha)]; simp, List.filter_eq_self.2 h⟩
theorem EThere.keep {es A B : List En} {f x : En} (T : EThere es A f B x.p) : keepE es x = A ++ normE x :: B := by
  have h1 := filt_lo T.lo
  have h2 := filt_hi T.hi
  have e := T.nm
  unfold keepE
  rw [T.eq, List.filter_append, List.filter_append, List.filter_cons, List.filter_cons, h1.1, h1.2, h2.1, h2.2, e, bl_irrefl]
  simp
theorem EGap.keep {es A B : List En} {x : En} (G : EGap es A B x.p) : keepE es x = A ++ normE x :: B := by
  have h1 := filt_lo G.lo
  have h2 := filt_hi G.hi
  unfold keepE
  rw [G.eq, List.filter_append, List.filter_append, h1.1, h1.2, h2.1, h2.2]
  simp
theorem EThere.look {es A B : List En} {f : En} {p : List UInt8} (T : EThere es A f B p) : lookE es p = some f := by
  rw [lookE, T.eq, List.find?_append, List.find?_eq_none.2 (fun a ha => by simp [bl_ne (T.lo a ha)])]
  simp [T.nm]
theorem EGap.look {es A B : List En} {p : List UInt8} (G : EGap es A B p) : lookE es p = none := by
  rw [lookE, G.eq, List.find?_append, List.find?_eq_none.2 (fun a ha => by simp [bl_ne (G.lo a ha)]), List.find?_eq_none.2 (fun b hb => by simp [(bl_ne (G.hi b hb)).symm])]
  rfl
theorem keep_asc {es : List En} (h : EAsc es) (x : En) : EAsc (keepE es x) := by
  have go : ∀ A B, EAsc (A ++ B) → (∀ a ∈ A, bl a.p x.p = true) → (∀ b ∈ B, bl x.p b.p = true) → EAsc (A ++ normE x :: B) := fun A B h lo hi => by
    unfold EAsc at h ⊢
    rw [List.pairwise_append] at h
    rw [List.pairwise_append, List.pairwise_cons]
    refine ⟨h.1, ⟨fun b hb => by rw [normE_p]; exact hi b hb, h.2.1⟩, fun a ha b hb => ?_⟩
    rcases List.mem_cons.1 hb with rfl | hb
    · rw [normE_p]; exact lo a ha
    · exact h.2.2 a ha b hb
  rcases ewhere x.p es h with ⟨A, f, B, T⟩ | ⟨A, B, G⟩
  · rw [T.keep]
    refine go A B ?_ T.lo T.hi
    have h' := h
    rw [T.eq] at h'
    exact h'.sublist (List.Sublist.append (List.Sublist.refl A) (List.sublist_cons_self f B))
  · rw [G.keep]
    exact go A B (by rw [← G.eq]; exact h) G.lo G.hi
theorem keep_len (es : List En) (h : EAsc es) (x : En) : (keepE es x).length ≤ es.length + 1 := by
  rcases ewhere x.p es h with ⟨A, f, B, T⟩ | ⟨A, B, G⟩
  · rw [T.keep, T.eq]; simp
  · rw [G.keep, G.eq]; simp; omega
theorem mem_keep {es : List En} {x e : En} (h : e ∈ keepE es x) : e ∈ es ∨ e = normE x := by
  rcases List.mem_append.1 h with h | h
  · exact .inl (List.mem_filter.1 h).1
  · rcases List.mem_cons.1 h with h | h
    · exact .inr h
    · exact .inl (List.mem_filter.1 h).1
theorem tell_nil (s : Int) (es : List En) : tellE s [] es = es := by
  unfold tellE toldE
  simp
theorem cache_snoc (l : List En) (x : En) : cacheE (l ++ [x]) = keepE (cacheE l) x := by unfold cacheE; rw [List.foldl_append]; rfl
theorem cache_asc (l : List En) : EAsc (cacheE l) := by
  unfold cacheE
  have : ∀ (l es : List En), EAsc es → EAsc (l.foldl keepE es) := by
    intro l
    induction l with
    | nil => intro es h; exact h
    | cons x r ih => intro es h; exact ih _ (keep_asc h x)
  exact this l [] List.Pairwise.nil
theorem cache_len (l : List En) : (cacheE l).length ≤ l.length := by
  have : ∀ (l es : List En), EAsc es → (l.foldl keepE es).length ≤ es.length + l.length := by
    intro l
    induction l with
    | nil => intro es h; simp
    | cons x r ih =>
      intro es h
      have h1 := ih _ (keep_asc h x)
      have h2 := keep_len es h x
      simp only [List.foldl_cons, List.length_cons]
      omega
  have := this l [] List.Pairwise.nil
  rw [List.length_nil, Nat.zero_add] at this
  exact this
/-- each text is of a length that a machine has -/
def ShortC (es : List En) : Prop := ∀ x ∈ es, x.p.length ≤ 140737488355328 ∧ x.d.length ≤ 140737488355328
theorem short_norm {x : En} (h : x.p.length ≤ 140737488355328 ∧ x.d.length ≤ 140737488355328) : (normE x).p.length ≤ 140737488355328 ∧ (normE x).d.length ≤ 140737488355328 := by
  unfold normE
  split
  · exact h
  · exact ⟨h.1, by simp⟩
theorem short_keep {es : List En} (h : ShortC es) {x : En} (hx : x.p.length ≤ 140737488355328 ∧ x.d.length ≤ 140737488355328) : ShortC (keepE es x) := fun e he => by
  rcases mem_keep he with h1 | h1
  · exact h e h1
  · rw [h1]; exact short_norm hx
theorem short_cache {l : List En} (h : ShortC l) : ShortC (cacheE l) := by
  unfold cacheE
  have : ∀ (l es : List En), ShortC l → ShortC es → ShortC (l.foldl keepE es) := by
    intro l
    induction l with
    | nil => intro es _ h; exact h
    | cons x r ih => intro es hl h; exact ih _ (fun e he => hl e (List.mem_cons_of_mem _ he)) (short_keep h (hl x (by simp)))
  exact this l [] h (fun _ h => by simp at h)
theorem short_take {l : List En} (h : ShortC l) (k : Nat) : ShortC (l.take k) := fun e he => h e (List.mem_of_mem_take he)
/-- what is there, as an answer -/
def entE : Option En → En
  | some e => e
  | none => noneE
end Go.Proofs.Ytdefdbejaabpdaa

namespace Go.Proofs.Ytdefdbejaabpdaa
open Go.RowKit

def fcells (f : DF) : List Value := [.string ⟨f.n.toArray⟩, .string ⟨f.s.toArray⟩, .string ⟨f.t.toArray⟩]
def cellsF : List DF → List Value
  | [] => []
  | f :: r => fcells f ++ cellsF r
theorem cellsF_get : ∀ (fs : List DF) (i : Nat) (f : DF), fs[i]? = some f → ∀ c, c < 3 → (cellsF fs)[i * 3 + c]? = (fcells f)[c]?
  | [], i, f, h, _, _ => by simp at h
  | x :: r, 0, f, h, c, hc => by
    simp at h
    subst h
    rw [cellsF, List.getElem?_append_left (by simp [fcells]; omega)]
    simp
  | x :: r, i + 1, f, h, c, hc => by
    rw [cellsF, List.getElem?_append_right (by simp [fcells]; omega), ← cellsF_get r i f (by simpa using h) c hc]
    congr 1
    simp [fcells]; omega
def RowAt (w : World) (b off : Nat) (cs : List Value) : Prop := ∀ j v, cs[j]? = some v → w.cell? ⟨b, off + j, none⟩ = some v
theorem RowAt.c0 {w : World} {b off : Nat} {fs : List DF} (h : RowAt w b off (cellsF fs)) {i : Nat} {f : DF} (hi : fs[i]? = some f) : w.cell? ⟨b, off + i * 3, none⟩ = some (.string ⟨f.n.toArray⟩) :=
  h (i * 3) _ (by have := cellsF_get fs i f hi 0 (by omega); simpa [fcells] using this)
theorem RowAt.c1 {w : World} {b off : Nat} {fs : List DF} (h : RowAt w b off (cellsF fs)) {i : Nat} {f : DF} (hi : fs[i]? = some f) : w.cell? ⟨b, off + i * 3 + 1, none⟩ = some (.string ⟨f.s.toArray⟩) := by
  rw [Nat.add_assoc]; exact h (i * 3 + 1) _ (by have := cellsF_get fs i f hi 1 (by omega); simpa [fcells] using this)
theorem RowAt.c2 {w : World} {b off : Nat} {fs : List DF} (h : RowAt w b off (cellsF fs)) {i : Nat} {f : DF} (hi : fs[i]? = some f) : w.cell? ⟨b, off + i * 3 + 2, none⟩ = some (.string ⟨f.t.toArray⟩) := by
  rw [Nat.add_assoc]; exact h (i * 3 + 2) _ (by have := cellsF_get fs i f hi 2 (by omega); simpa [fcells] using this)
theorem RowAt.kept {w w' : World} {b off B : Nat} {cs : List Value} (h : RowAt w b off cs) (hb : Below B w w') (hB : b < B) : RowAt w' b off cs :=
  fun j v hj => by rw [hb.cell (p := ⟨b, off + j, none⟩) hB]; exact h j v hj

/-- the value of a disk's one field holds these files -/
def DiskV (w : World) (v : Value) (fs : List DF) : Prop :=
  (∃ a cap, v = .slice a 0 cap ∧ fs = [] ∧ cap ≤ maxLen) ∨
  ∃ b off cap, v = .slice (some ⟨b, off, none⟩) fs.length cap ∧ fs.length ≤ cap ∧ cap ≤ maxLen ∧ b < w.heap.size ∧ fs ≠ [] ∧ RowAt w b off (cellsF fs)
theorem DiskV.kept {w w' : World} {B : Nat} {v : Value} {fs : List DF} (h : DiskV w v fs) (hb : Below B w w') (hB : w.heap.size ≤ B) : DiskV w' v fs := by
  rcases h with h | ⟨b, off, cap, rfl, h1, h2, h3, h0, h4⟩
  · exact .inl h
  · exact .inr ⟨b, off, cap, rfl, h1, h2, Nat.lt_of_lt_of_le h3 hb.size, h0, h4.kept hb (Nat.lt_of_lt_of_le h3 hB)⟩
theorem DiskV.next {w w' : World} {v : Value} {fs : List DF} (h : DiskV w v fs) (hb : Below w.heap.size w w') : DiskV w' v fs := h.kept hb (Nat.le_refl _)
theorem DiskV.alloc {w : World} {v : Value} {fs : List DF} (h : DiskV w v fs) (o : Obj) : DiskV (w.alloc o) v fs := h.next ((Below.refl _ _).alloc (Nat.le_refl _) o)
theorem DiskV.drew {w : World} {v : Value} {fs : List DF} (h : DiskV w v fs) : DiskV w.drew v fs := h.next (Below.refl _ _).drew
theorem DiskV.nil (w : World) : DiskV w (.slice none 0 0) [] := .inl ⟨none, 0, rfl, rfl, by decide⟩

theorem block_set {w : World} {g j : Nat} {cur : Array Value} {t : TypeId} {fz : Nat × Nat} (v : Value) (h : w.heap[g]? = some (.cells cur t fz)) :
    (w.setCell ⟨g, j, none⟩ v).heap[g]? = some (.cells (cur.setIfInBounds j v) t fz) := by
  obtain ⟨hlt, hk⟩ := Array.getElem?_eq_some_iff.1 h
  show (w.heap.modify g _)[g]? = _
  rw [Array.getElem?_eq_getElem (by rw [Array.size_modify]; exact hlt), Array.getElem_modify_self, hk]
  rfl
end Go.Proofs.Ytdefdbejaabpdaa

namespace Go.Proofs.Ytdefdbejaabpdaa
open Go.RowKit

/-- how one element lies -/
class Lay (α : Type) where
  k : Nat
  cs : α → List Value
  ty : TypeId
  len : ∀ x, (cs x).length = k
  one : ∀ x, ∀ u ∈ cs x, u.oneCell' = true
def ecells (e : Ev) : List Value := [.int .i64 e.k, .string ⟨e.p.toArray⟩]
instance layE : Lay Ev := ⟨2, ecells, 46, fun _ => rfl, fun x u hu => by simp [ecells] at hu; rcases hu with rfl | rfl <;> rfl⟩
instance layI : Lay Int := ⟨1, fun x => [.int .i64 x], 3, fun _ => rfl, fun x u hu => by simp at hu; subst hu; rfl⟩
instance layS : Lay (List UInt8) := ⟨1, fun x => [.string ⟨x.toArray⟩], 9, fun _ => rfl, fun x u hu => by simp at hu; subst hu; rfl⟩

section
variable {α : Type} [Lay α]
def cellsL (xs : List α) : List Value := xs.flatMap Lay.cs
theorem cellsL_nil : cellsL ([] : List α) = [] := rfl
theorem cellsL_cons (x : α) (r : List α) : cellsL (x :: r) = Lay.cs x ++ cellsL r := by simp [cellsL]
theorem cellsL_length (xs : List α) : (cellsL xs).length = xs.length * Lay.k α := by
  induction xs with
  | nil => simp [cellsL]
  | cons x r ih => rw [cellsL_cons, List.length_append, Lay.len, ih, List.length_cons, Nat.add_mul]; omega
theorem cellsL_append (a b : List α) : cellsL (a ++ b) = cellsL a ++ cellsL b := by simp [cellsL]
theorem cellsL_snoc (a : List α) (x : α) : cellsL (a ++ [x]) = cellsL a ++ Lay.cs x := by simp [cellsL]
theorem cellsL_at (A : List α) (x : α) (B : List α) (c : Nat) (hc : c < Lay.k α) : (cellsL (A ++ x :: B))[A.length * Lay.k α + c]? = (Lay.cs x)[c]? := by
  rw [cellsL_append, List.getElem?_append_right (by rw [cellsL_length]; omega), cellsL_length, Nat.add_sub_cancel_left, cellsL_cons, List.getElem?_append_left (by rw [Lay.len]; exact hc)]
theorem cellsL_get (xs : List α) (i : Nat) (x : α) (h : xs[i]? = some x) (c : Nat) (hc : c < Lay.k α) : (cellsL xs)[i * Lay.k α + c]? = (Lay.cs x)[c]? := by
  obtain ⟨hi, rfl⟩ := List.getElem?_eq_some_iff.1 h
  have e : xs = xs.take i ++ xs[i] :: xs.drop (i + 1) := by simp
  have := cellsL_at (xs.take i) xs[i] (xs.drop (i + 1)) c hc
  rw [← e, List.length_take, Nat.min_eq_left (Nat.le_of_lt hi)] at this
  exact this
theorem cellsL_one (xs : List α) : ∀ u ∈ cellsL xs, u.oneCell' = true := by
  intro u hu
  obtain ⟨x, _, hx⟩ := List.mem_flatMap.1 hu
  exact Lay.one x u hx
theorem cellsL_set (A : List α) (x y : α) (B : List α) (c : Nat) (v : Value) (hc : c < Lay.k α) (hy : Lay.cs y = (Lay.cs x).set c v) : (cellsL (A ++ x :: B)).set (A.length * Lay.k α + c) v = cellsL (A ++ y :: B) := by
  rw [cellsL_append, cellsL_append, List.set_append_right _ _ (by rw [cellsL_length]; omega), cellsL_length, Nat.add_sub_cancel_left, cellsL_cons, cellsL_cons, List.set_append_left _ _ (by rw [Lay.len]; exact hc), hy]

/-- the value holds these -/
def SeqV (w : World) (v : Value) (xs : List α) : Prop :=
  (∃ a cap, v = .slice a 0 cap ∧ xs = [] ∧ cap ≤ maxLen) ∨
  ∃ b off cap, v = .slice (some ⟨b, off, none⟩) xs.length cap ∧ xs.length ≤ cap ∧ cap ≤ maxLen ∧ b < w.heap.size ∧ xs ≠ [] ∧ RowAt w b off (cellsL xs)
theorem SeqV.kept {w w' : World} {B : Nat} {v : Value} {xs : List α} (h : SeqV w v xs) (hb : Below B w w') (hB : w.heap.size ≤ B) : SeqV w' v xs := by
  rcases h with h | ⟨b, off, cap, rfl, h1, h2, h3, h0, h4⟩
  · exact .inl h
  · exact .inr ⟨b, off, cap, rfl, h1, h2, Nat.lt_of_lt_of_le h3 hb.size, h0, h4.kept hb (Nat.lt_of_lt_of_le h3 hB)⟩
theorem SeqV.next {w w' : World} {v : Value} {xs : List α} (h : SeqV w v xs) (hb : Below w.heap.size w w') : SeqV w' v xs := h.kept hb (Nat.le_refl _)
theorem SeqV.alloc {w : World} {v : Value} {xs : List α} (h : SeqV w v xs) (o : Obj) : SeqV (w.alloc o) v xs := h.next ((Below.refl _ _).alloc (Nat.le_refl _) o)
theorem SeqV.nil (w : World) : SeqV w (.slice none 0 0) ([] : List α) := .inl ⟨none, 0, rfl, rfl, by decide⟩
theorem seq_slice {w : World} {v : Value} {xs : List α} (hv : SeqV w v xs) : ∃ a c, v = .slice a xs.length c := by
  rcases hv with ⟨a, cap, rfl, rfl, _⟩ | ⟨b, off, cap, rfl, _⟩
  · exact ⟨_, _, rfl⟩
  · exact ⟨_, _, rfl⟩
theorem seq_row {w : World} {v : Value} {xs : List α} (hv : SeqV w v xs) (h0 : xs ≠ []) :
    ∃ b off cap, v = .slice (some ⟨b, off, none⟩) xs.length cap ∧ b < w.heap.size ∧ RowAt w b off (cellsL xs) ∧ xs.length ≤ cap ∧ cap ≤ maxLen := by
  rcases hv with ⟨a, cap, rfl, rfl, _⟩ | ⟨b, off, cap, rfl, h1, h2, hb, _, hr⟩
  · exact absurd rfl h0
  · exact ⟨b, off, cap, rfl, hb, hr, h1, h2⟩

/-- block g is a row of the call's own with these at its head -/
def OwnR (W : World) (g cap : Nat) (xs : List α) : Prop := ∃ rest : List Value, W.heap[g]? = some (.cells (cellsL xs ++ rest).toArray (Lay.ty α) (0, 0)) ∧ xs.length * Lay.k α + rest.length = cap * Lay.k α ∧ xs.length ≤ cap ∧ cap ≤ maxLen
theorem OwnR.lt {W : World} {g cap : Nat} {xs : List α} (h : OwnR W g cap xs) : g < W.heap.size := by
  obtain ⟨rest, h1, _⟩ := h
  exact (Array.getElem?_eq_some_iff.1 h1).1
theorem OwnR.le {W : World} {g cap : Nat} {xs : List α} (h : OwnR W g cap xs) : xs.length ≤ cap := by obtain ⟨rest, _, _, h2, _⟩ := h; exact h2
theorem OwnR.capLe {W : World} {g cap : Nat} {xs : List α} (h : OwnR W g cap xs) : cap ≤ maxLen := by obtain ⟨rest, _, _, _, h3⟩ := h; exact h3
theorem OwnR.row {W : World} {g cap : Nat} {xs : List α} (h : OwnR W g cap xs) : RowAt W g 0 (cellsL xs) := by
  obtain ⟨rest, h1, _⟩ := h
  intro j v hj
  have hlt : j < (cellsL xs).length := (List.getElem?_eq_some_iff.1 hj).1
  simp [World.cell?, h1, List.getElem?_append_left hlt, hj]
theorem OwnR.frozen {W : World} {g cap : Nat} {xs : List α} (h : OwnR W g cap xs) (j : Nat) : W.frozen? ⟨g, j, none⟩ = false := by
  obtain ⟨rest, h1, _⟩ := h
  simp [World.frozen?, h1]
theorem OwnR.kept {W V : World} {g B cap : Nat} {xs : List α} (h : OwnR W g cap xs) (hb : Below B W V) (hg : g < B) : OwnR V g cap xs := by
  obtain ⟨rest, h1, h2⟩ := h
  exact ⟨rest, (hb.block _ hg).trans h1, h2⟩
theorem OwnR.next {W V : World} {g cap : Nat} {xs : List α} (h : OwnR W g cap xs) (hb : Below W.heap.size W V) : OwnR V g cap xs := h.kept hb h.lt
theorem OwnR.other {W : World} {g cap : Nat} {xs : List α} (h : OwnR W g cap xs) {a : Addr} (ha : g ≠ a.block) (v : Value) : OwnR (W.setCell a v) g cap xs := by
  obtain ⟨rest, h1, h2⟩ := h
  exact ⟨rest, (Below.heap_setCell W a v g ha).trans h1, h2⟩
theorem OwnR.set {W : World} {g cap : Nat} {A B : List α} {x y : α} (h : OwnR W g cap (A ++ x :: B)) {c : Nat} (hc : c < Lay.k α) {v : Value} (hy : Lay.cs y = (Lay.cs x).set c v) : OwnR (W.setCell ⟨g, A.length * Lay.k α + c, none⟩ v) g cap (A ++ y :: B) := by
  obtain ⟨rest, h1, h2, h3⟩ := h
  refine ⟨rest, ?_, by simpa using h2, by simpa using h3⟩
  rw [block_set v h1, ← cellsL_set A x y B c v hc hy]
  have hlt : A.length * Lay.k α + c < (cellsL (A ++ x :: B)).length := by
    rw [cellsL_length]; simp [Nat.add_mul]; omega
  simp [List.set_append_left _ _ hlt]

/-- a value that holds these in a row of the call's own, at or behind block B -/
def OwnS (W : World) (B : Nat) (v : Value) (xs : List α) : Prop := (v = .slice none 0 0 ∧ xs = []) ∨ ∃ g cap, v = .slice (some ⟨g, 0, none⟩) xs.length cap ∧ B ≤ g ∧ OwnR W g cap xs
theorem OwnS.seq {W : World} {B : Nat} {v : Value} {xs : List α} (h : OwnS W B v xs) : SeqV W v xs := by
  rcases h with ⟨rfl, rfl⟩ | ⟨g, cap, rfl, _, h⟩
  · exact SeqV.nil W
  · by_cases h0 : xs = []
    · subst h0; exact .inl ⟨_, cap, rfl, rfl, h.capLe⟩
    · exact .inr ⟨g, 0, cap, rfl, h.le, h.capLe, h.lt, h0, h.row⟩
theorem OwnS.kept {W V : World} {B C : Nat} {v : Value} {xs : List α} (h : OwnS W B v xs) (hb : Below C W V) (hC : W.heap.size ≤ C) : OwnS V B v xs := by
  rcases h with h | ⟨g, cap, rfl, hB, h⟩
  · exact .inl h
  · exact .inr ⟨g, cap, rfl, hB, h.kept hb (Nat.lt_of_lt_of_le h.lt hC)⟩
theorem OwnS.next {W V : World} {B : Nat} {v : Value} {xs : List α} (h : OwnS W B v xs) (hb : Below W.heap.size W V) : OwnS V B v xs := h.kept hb (Nat.le_refl _)
theorem OwnS.other {W : World} {B : Nat} {v : Value} {xs : List α} (h : OwnS W B v xs) {a : Addr} (ha : v.ownBlock ≠ some a.block) (u : Value) : OwnS (W.setCell a u) B v xs := by
  rcases h with h | ⟨g, cap, rfl, hB, h⟩
  · exact .inl h
  · exact .inr ⟨g, cap, rfl, hB, h.other (by intro e; apply ha; simp [Value.ownBlock, e]) u⟩
theorem OwnS.lower {W : World} {B C : Nat} {v : Value} {xs : List α} (h : OwnS W B v xs) (hC : C ≤ B) : OwnS W C v xs := by
  rcases h with h | ⟨g, cap, rfl, hB, h⟩
  · exact .inl h
  · exact .inr ⟨g, cap, rfl, Nat.le_trans hC hB, h⟩
theorem OwnS.of_row {W : World} {B : Nat} {v : Value} {xs : List α} (h : W.ownsRow B (Lay.ty α) (Lay.k α) v xs.length (cellsL xs)) : OwnS W B v xs := by
  obtain ⟨_, ⟨rfl, h0⟩ | ⟨g, cap, cur, rfl, hB, hg, hn, hm, hs, ht⟩⟩ := h
  · exact .inl ⟨rfl, List.eq_nil_of_length_eq_zero h0⟩
  · refine .inr ⟨g, cap, rfl, hB, cur.toList.drop (xs.length * Lay.k α), ?_, ?_, hn, hm⟩
    · rw [hg, ← ht, List.take_append_drop]
    · have := Nat.mul_le_mul_right (Lay.k α) hn
      simp [hs]; omega
theorem OwnS.row {W : World} {B : Nat} {v : Value} {xs : List α} (h : OwnS W B v xs) : W.ownsRow B (Lay.ty α) (Lay.k α) v xs.length (cellsL xs) := by
  refine ⟨cellsL_length xs, ?_⟩
  rcases h with ⟨rfl, rfl⟩ | ⟨g, cap, rfl, hB, h⟩
  · exact .inl ⟨rfl, rfl⟩
  · obtain ⟨rest, h1, h2, hle, h3⟩ := h
    refine .inr ⟨g, cap, _, rfl, hB, h1, hle, h3, by simp [cellsL_length, h2], ?_⟩
    simp [← cellsL_length xs]
theorem OwnS.slice {W : World} {B : Nat} {v : Value} {xs : List α} (h : OwnS W B v xs) : ∃ a c, v = .slice a xs.length c ∧ c ≤ maxLen := by
  rcases h with ⟨rfl, rfl⟩ | ⟨g, cap, rfl, _, h⟩
  · exact ⟨none, 0, rfl, by decide⟩
  · exact ⟨_, _, rfl, h.capLe⟩
end

theorem RowAt.i0 {w : World} {b off : Nat} {xs : List Int} (h : RowAt w b off (cellsL xs)) {i : Nat} {x : Int} (hi : xs[i]? = some x) : w.cell? ⟨b, off + i, none⟩ = some (.int .i64 x) :=
  h i _ (by have := cellsL_get xs i x hi 0 (by decide); simpa [Lay.k, Lay.cs] using this)
theorem RowAt.s0 {w : World} {b off : Nat} {xs : List (List UInt8)} (h : RowAt w b off (cellsL xs)) {i : Nat} {x : List UInt8} (hi : xs[i]? = some x) : w.cell? ⟨b, off + i, none⟩ = some (.string ⟨x.toArray⟩) :=
  h i _ (by have := cellsL_get xs i x hi 0 (by decide); simpa [Lay.k, Lay.cs] using this)
theorem RowAt.e0 {w : World} {b off : Nat} {xs : List Ev} (h : RowAt w b off (cellsL xs)) {i : Nat} {x : Ev} (hi : xs[i]? = some x) : w.cell? ⟨b, off + i * 2, none⟩ = some (.int .i64 x.k) :=
  h (i * 2) _ (cellsL_get xs i x hi 0 (by decide))
theorem RowAt.e1 {w : World} {b off : Nat} {xs : List Ev} (h : RowAt w b off (cellsL xs)) {i : Nat} {x : Ev} (hi : xs[i]? = some x) : w.cell? ⟨b, off + i * 2 + 1, none⟩ = some (.string ⟨x.p.toArray⟩) := by
  rw [Nat.add_assoc]; exact h (i * 2 + 1) _ (cellsL_get xs i x hi 1 (by decide))

theorem nnext {w W V : World} (h : Below w.heap.size w W) (h' : Below W.heap.size W V) : Below w.heap.size w V := h.trans (h'.mono h.size)
theorem allocB (w : World) (o : Obj) : Below w.heap.size w (w.alloc o) := (Below.refl _ _).alloc (Nat.le_refl _) _

theorem ngrown_set {w : World} {g j : Nat} (v : Value) : w.grownBy (w.setCell ⟨g, j, none⟩ v) (some g) := ⟨rfl, rfl, rfl, by simp [World.setCell], fun k _ hne => Below.heap_setCell w ⟨g, j, none⟩ v k (fun e => hne (by rw [e]))⟩
theorem ngrown_trans {w w' w'' : World} {g : Nat} (h : w.grownBy w' (some g)) (h' : w'.grownBy w'' (some g)) : w.grownBy w'' (some g) :=
  ⟨h'.os.trans h.os, h'.tape.trans h.tape, h'.output.trans h.output, Nat.le_trans h.size h'.size, fun k hk hne => (h'.block k (Nat.lt_of_lt_of_le hk h.size) hne).trans (h.block k hk hne)⟩
theorem nblock_setCells {g : Nat} {t : TypeId} {fz : Nat × Nat} : ∀ (vs : List Value) (o : Nat) (w : World) (l : List Value), w.heap[g]? = some (.cells l.toArray t fz) → o + vs.length ≤ l.length →
    (w.setCells g o vs).heap[g]? = some (.cells (l.take o ++ vs ++ l.drop (o + vs.length)).toArray t fz)
  | [], o, w, l, h, _ => by simpa [World.setCells] using h
  | v :: r, o, w, l, h, hl => by
    have h1 : (w.setCell ⟨g, o, none⟩ v).heap[g]? = some (.cells (l.set o v).toArray t fz) := by rw [block_set v h]; simp
    rw [World.setCells, nblock_setCells r (o + 1) _ _ h1 (by simp at hl ⊢; omega)]
    have ho : o < l.length := by simp at hl; omega
    have e1 : (l.set o v).take (o + 1) = l.take o ++ [v] := by
      rw [List.take_set, List.take_succ_eq_append_getElem ho, List.set_append_right _ _ (by simp; omega)]
      simp [Nat.min_eq_left (Nat.le_of_lt ho)]
    have e2 : (l.set o v).drop (o + 1 + r.length) = l.drop (o + (r.length + 1)) := by
      rw [List.drop_set_of_lt (by omega)]; congr 1; omega
    rw [e1, e2]
    simp
theorem ngrown_setCells {g : Nat} : ∀ (vs : List Value) (o : Nat) (w : World), w.grownBy (w.setCells g o vs) (some g)
  | [], _, _ => ⟨rfl, rfl, rfl, Nat.le_refl _, fun _ _ _ => rfl⟩
  | v :: r, o, _ => ngrown_trans (ngrown_set v) (ngrown_setCells r (o + 1) _)

section
variable {α : Type} [Lay α]
theorem OwnR.splice {W : World} {g cap : Nat} {pre tl : List α} (h : OwnR W g cap (pre ++ tl)) (new : List α) (hfit : pre.length + new.length ≤ cap) : OwnR (W.setCells g (pre.length * Lay.k α) (cellsL new)) g cap (pre ++ new) := by
  obtain ⟨rest, h1, h2, h4, h3⟩ := h
  have hlen : (cellsL (pre ++ tl) ++ rest).length = cap * Lay.k α := by rw [List.length_append, cellsL_length]; exact h2
  have hf : pre.length * Lay.k α + new.length * Lay.k α ≤ cap * Lay.k α := by rw [← Nat.add_mul]; exact Nat.mul_le_mul_right _ hfit
  refine ⟨(cellsL (pre ++ tl) ++ rest).drop (pre.length * Lay.k α + (cellsL new).length), ?_, ?_, by simpa using hfit, h3⟩
  · rw [nblock_setCells (cellsL new) (pre.length * Lay.k α) W _ h1 (by rw [hlen, cellsL_length]; omega), cellsL_append pre new]
    congr 3
    have e : cellsL (pre ++ tl) ++ rest = cellsL pre ++ (cellsL tl ++ rest) := by rw [cellsL_append, List.append_assoc]
    rw [e, ← cellsL_length pre, List.take_left]
  · rw [List.length_drop, hlen, cellsL_length, List.length_append, Nat.add_mul]; omega
theorem OwnR.spare {W : World} {g cap : Nat} {fs : List α} (h : OwnR W g cap fs) (vs : List Value) (o : Nat) (ho : fs.length * Lay.k α ≤ o) (hfit : o + vs.length ≤ cap * Lay.k α) : OwnR (W.setCells g o vs) g cap fs := by
  obtain ⟨rest, h1, h2, h4, h3⟩ := h
  have hlen : (cellsL fs ++ rest).length = cap * Lay.k α := by rw [List.length_append, cellsL_length]; exact h2
  have hc := cellsL_length fs
  refine ⟨rest.take (o - fs.length * Lay.k α) ++ vs ++ (cellsL fs ++ rest).drop (o + vs.length), ?_, ?_, h4, h3⟩
  · rw [nblock_setCells vs o W _ h1 (by rw [hlen]; omega)]
    congr 2
    rw [List.take_append, List.take_of_length_le (by omega), hc]
    simp only [List.append_assoc]
  · simp only [List.length_append, List.length_take, List.length_drop, hc]
    omega
theorem OwnR.swap1 {W : World} {g cap : Nat} {A B : List α} {y : α} (h : OwnR W g cap (A ++ y :: B)) (x : α) : OwnR (W.setCells g (A.length * Lay.k α) (Lay.cs x)) g cap (A ++ x :: B) := by
  obtain ⟨rest, h1, h2, h4, h3⟩ := h
  have hlen : (cellsL (A ++ y :: B) ++ rest).length = cap * Lay.k α := by rw [List.length_append, cellsL_length]; exact h2
  refine ⟨rest, ?_, by simpa using h2, by simpa using h4, h3⟩
  have hA := cellsL_length A
  have hx3 : (Lay.cs x).length = Lay.k α := Lay.len x
  have hy3 : (Lay.cs y).length = Lay.k α := Lay.len y
  rw [nblock_setCells (Lay.cs x) (A.length * Lay.k α) W _ h1 (by rw [hlen, hx3]; simp [Nat.add_mul] at h2; omega)]
  have e : cellsL (A ++ y :: B) ++ rest = cellsL A ++ (Lay.cs y ++ (cellsL B ++ rest)) := by simp [cellsL_append, cellsL_cons]
  have e' : cellsL (A ++ x :: B) ++ rest = cellsL A ++ (Lay.cs x ++ (cellsL B ++ rest)) := by simp [cellsL_append, cellsL_cons]
  rw [e, e']
  congr 2
  rw [hx3, ← hA, List.take_left, show (cellsL A).length + Lay.k α = (cellsL A ++ Lay.cs y).length by rw [List.length_append, hy3], ← List.append_assoc (cellsL A) (Lay.cs y), List.drop_left, List.append_assoc]
theorem OwnR.some {W : World} {g cap : Nat} {fs : List α} (h : OwnR W g cap fs) {j : Nat} (hj : j < cap * Lay.k α) : (W.cell? ⟨g, j, none⟩).isSome = true := by
  obtain ⟨rest, h1, h2, _⟩ := h
  have hl : j < (cellsL fs ++ rest).length := by rw [List.length_append, cellsL_length, h2]; exact hj
  rw [List.length_append] at hl
  simp [World.cell?, h1, hl]
theorem OwnR.drew {W : World} {g cap : Nat} {fs : List α} (h : OwnR W g cap fs) : OwnR W.drew g cap fs := h
theorem OwnR.alloc {W : World} {g cap : Nat} {fs : List α} (h : OwnR W g cap fs) (o : Obj) : OwnR (W.alloc o) g cap fs := h.next ((Below.refl _ _).alloc (Nat.le_refl _) o)
/-- block b holds just this one -/
def OneR (W : World) (b : Nat) (x : α) : Prop := W.heap[b]? = some (.cells (Lay.cs x).toArray (Lay.ty α) (0, 0))
theorem OneR.row {W : World} {b : Nat} {x : α} (h : OneR W b x) : ∀ j v, (Lay.cs x)[j]? = some v → W.cell? ⟨b, 0 + j, none⟩ = some v := by
  intro j v hj
  unfold OneR at h
  simp [World.cell?, h, hj]
end
/-- all old blocks but those of F are as they were -/
structure Touch (F : Nat → Prop) (w w' : World) : Prop where
  os : w'.os = w.os
  tape : w'.tape = w.tape
  output : w'.output = w.output
  size : w.heap.size ≤ w'.heap.size
  block : ∀ k, k < w.heap.size → ¬ F k → w'.heap[k]? = w.heap[k]?
theorem Touch.refl (F : Nat → Prop) (w : World) : Touch F w w := ⟨rfl, rfl, rfl, Nat.le_refl _, fun _ _ _ => rfl⟩
theorem Touch.trans {F : Nat → Prop} {a b c : World} (h : Touch F a b) (k : Touch F b c) : Touch F a c :=
  ⟨k.os.trans h.os, k.tape.trans h.tape, k.output.trans h.output, Nat.le_trans h.size k.size, fun i hi hf => (k.block i (Nat.lt_of_lt_of_le hi h.size) hf).trans (h.block i hi hf)⟩
theorem Touch.set {F : Nat → Prop} {w : World} {a : Addr} (hf : F a.block) (v : Value) : Touch F w (w.setCell a v) := ⟨rfl, rfl, rfl, by simp [World.setCell], fun k _ hn => Below.heap_setCell w a v k (fun e => hn (by rw [e]; exact hf))⟩
theorem Touch.drew {F : Nat → Prop} {w w' : World} (h : Touch F w w') : Touch F w w'.drew := ⟨h.os, h.tape, h.output, h.size, h.block⟩
theorem Touch.mono {F G : Nat → Prop} {w w' : World} (h : Touch F w w') (hg : ∀ k, k < w.heap.size → F k → G k) : Touch G w w' := ⟨h.os, h.tape, h.output, h.size, fun k hk hn => h.block k hk (fun hf => hn (hg k hk hf))⟩
theorem OwnS.low {α : Type} [Lay α] {W : World} {B : Nat} {v : Value} {xs : List α} (h : OwnS W B v xs) (k : Nat) (hk : v.ownBlock = some k) : k < W.heap.size := by
  rcases h with ⟨rfl, rfl⟩ | ⟨g, cap, rfl, _, h⟩
  · simp [Value.ownBlock] at hk
  · simp only [Value.ownBlock, Option.some.injEq] at hk
    rw [← hk]; exact h.lt
theorem OwnS.grown {α : Type} [Lay α] {W V : World} {B : Nat} {v : Value} {xs : List α} (h : OwnS W B v xs) {r : Option Nat} (hg : W.grownBy V r) (hr : ∀ k, v.ownBlock = some k → some k ≠ r) : OwnS V B v xs := by
  rcases h with h | ⟨g, cap, rfl, hB, h⟩
  · exact .inl h
  · obtain ⟨rest, h1, h2⟩ := h
    have hlt := (Array.getElem?_eq_some_iff.1 h1).1
    exact .inr ⟨g, cap, rfl, hB, rest, (hg.block g hlt (hr g rfl)).trans h1, h2⟩
theorem nset_same {w : World} {a : Addr} {v : Value} (h : w.cell? a = some v) : w.setCell a v = w := by
  obtain ⟨heap, tape, drawn, os, output⟩ := w
  simp only [World.setCell, World.cell?] at *
  congr 1
  apply Array.ext_getElem?
  intro k
  rw [Array.getElem?_modify]
  by_cases hk : a.block = k
  · subst hk
    simp only [if_true]
    cases ho : heap[a.block]? with
    | none => rfl
    | some o =>
      rw [ho] at h
      cases o with
      | cells c e fz =>
        simp only at h
        by_cases hs : a.spot.isSome = true
        · simp [hs] at h
        · simp only [hs] at h
          simp [hs]
          have hlt : a.off < c.size := (Array.getElem?_eq_some_iff.1 (by simpa using h)).1
          have hv : c[a.off] = v := (Array.getElem?_eq_some_iff.1 (by simpa using h)).2
          rw [← hv]
          simp [Array.setIfInBounds, hlt]
      | _ => simp at h
  · simp [hk]
theorem nbelow_drew {W V : World} (h : Below W.drew.heap.size W.drew V) : Below W.heap.size W V := ((Below.refl _ W).drew).trans h
theorem one_news {α : Type} [Lay α] {W : World} {g : Nat} {x : α} (h : OneR W g x) (j : Nat) (u : Value) (hj : (Lay.cs x)[j]? = some u) : W.cell? ((⟨g, 0, none⟩ : Addr).add j) = some u := by
  rw [Addr.add_lit]
  exact h.row j u hj
end Go.Proofs.Ytdefdbejaabpdaa

namespace Go.Proofs.Ytdefdbejaabpdaa
open Go.RowKit
def ntcells (n : Nt) : List Value := [.int .i64 n.s, .int .i64 n.k, .string ⟨n.p.toArray⟩]
instance layT : Lay Nt := ⟨3, ntcells, 48, fun _ => rfl, fun x u hu => by simp [ntcells] at hu; rcases hu with rfl | rfl | rfl <;> rfl⟩
theorem RowAt.t0 {w : World} {b off : Nat} {xs : List Nt} (h : RowAt w b off (cellsL xs)) {i : Nat} {x : Nt} (hi : xs[i]? = some x) : w.cell? ⟨b, off + i * 3, none⟩ = some (.int .i64 x.s) :=
  h (i * 3) _ (cellsL_get xs i x hi 0 (by decide))
theorem RowAt.t1 {w : World} {b off : Nat} {xs : List Nt} (h : RowAt w b off (cellsL xs)) {i : Nat} {x : Nt} (hi : xs[i]? = some x) : w.cell? ⟨b, off + i * 3 + 1, none⟩ = some (.int .i64 x.k) := by
  rw [Nat.add_assoc]; exact h (i * 3 + 1) _ (cellsL_get xs i x hi 1 (by decide))
theorem RowAt.t2 {w : World} {b off : Nat} {xs : List Nt} (h : RowAt w b off (cellsL xs)) {i : Nat} {x : Nt} (hi : xs[i]? = some x) : w.cell? ⟨b, off + i * 3 + 2, none⟩ = some (.string ⟨x.p.toArray⟩) := by
  rw [Nat.add_assoc]; exact h (i * 3 + 2) _ (cellsL_get xs i x hi 2 (by decide))
theorem tinfo0 : (Try.prog.info? 48).map (fun i => (i.zero, i.size, i.bytes)) = some (some (.agg #[.int .i64 0, .int .i64 0, .string ⟨#[]⟩]), 3, 32) := by kernel_rfl
theorem tinfo : ∃ i0, Try.prog.info? 48 = some i0 ∧ i0.zero = some (.agg #[.int .i64 0, .int .i64 0, .string ⟨#[]⟩]) ∧ i0.size = 3 ∧ i0.bytes = 32 := by
  obtain ⟨i0, h, e⟩ := Option.map_eq_some_iff.1 tinfo0
  simp only [Prod.mk.injEq] at e
  exact ⟨i0, h, e⟩
end Go.Proofs.Ytdefdbejaabpdaa

namespace Go.Proofs.Ytdefdbejaabpdaa
open Go.RowKit

def encells (e : En) : List Value := [.string ⟨e.p.toArray⟩, .string ⟨e.d.toArray⟩, .bool e.t]
/-- an entry, an end as a value -/
def enV (e : En) : Value := .agg #[.string ⟨e.p.toArray⟩, .string ⟨e.d.toArray⟩, .bool e.t]
def clV (s z : Int) (v : Value) : Value := .agg #[.int .i64 s, .int .i64 z, v]
instance layC : Lay En := ⟨3, encells, 36, fun _ => rfl, fun x u hu => by simp [encells] at hu; rcases hu with rfl | rfl | rfl <;> rfl⟩
theorem RowAt.en0 {w : World} {b off : Nat} {xs : List En} (h : RowAt w b off (cellsL xs)) {i : Nat} {x : En} (hi : xs[i]? = some x) : w.cell? ⟨b, off + i * 3, none⟩ = some (.string ⟨x.p.toArray⟩) :=
  h (i * 3) _ (cellsL_get xs i x hi 0 (by decide))
theorem RowAt.en1 {w : World} {b off : Nat} {xs : List En} (h : RowAt w b off (cellsL xs)) {i : Nat} {x : En} (hi : xs[i]? = some x) : w.cell? ⟨b, off + i * 3 + 1, none⟩ = some (.string ⟨x.d.toArray⟩) := by
  rw [Nat.add_assoc]; exact h (i * 3 + 1) _ (cellsL_get xs i x hi 1 (by decide))
theorem RowAt.en2 {w : World} {b off : Nat} {xs : List En} (h : RowAt w b off (cellsL xs)) {i : Nat} {x : En} (hi : xs[i]? = some x) : w.cell? ⟨b, off + i * 3 + 2, none⟩ = some (.bool x.t) := by
  rw [Nat.add_assoc]; exact h (i * 3 + 2) _ (cellsL_get xs i x hi 2 (by decide))
theorem cinfo0 : (Try.prog.info? 36).map (fun i => (i.zero, i.size, i.bytes)) = some (some (.agg #[.string ⟨#[]⟩, .string ⟨#[]⟩, .bool false]), 3, 40) := by kernel_rfl
theorem cinfo : ∃ i0, Try.prog.info? 36 = some i0 ∧ i0.zero = some (.agg #[.string ⟨#[]⟩, .string ⟨#[]⟩, .bool false]) ∧ i0.size = 3 ∧ i0.bytes = 40 := by
  obtain ⟨i0, h, e⟩ := Option.map_eq_some_iff.1 cinfo0
  simp only [Prod.mk.injEq] at e
  exact ⟨i0, h, e⟩
theorem one_newC (w : World) (x : En) : OneR (w.alloc (.cells #[.string ⟨x.p.toArray⟩, .string ⟨x.d.toArray⟩, .bool x.t] 36)) w.heap.size x := heap_alloc_new w _
theorem crow {α : Type} [Lay α] {w : World} {v : Value} {xs : List α} (hv : SeqV w v xs) : ∀ W, Below w.heap.size w W → ∀ (k : Nat) (x : α), xs[k]? = some x → ∃ b off cap, v = .slice (some ⟨b, off, none⟩) xs.length cap ∧ b < w.heap.size ∧ RowAt W b off (cellsL xs) := fun W hW k x hx => by
  obtain ⟨b, off, cap, e, hb, hr, _, _⟩ := seq_row hv (fun h0 => by obtain ⟨h1, _⟩ := List.getElem?_eq_some_iff.1 hx; rw [h0] at h1; simp at h1)
  exact ⟨b, off, cap, e, hb, hr.kept hW hb⟩
/-- block k holds just this end -/
def CBox (W : World) (k : Nat) (s z : Int) (v : Value) : Prop := W.heap[k]? = some (.cells #[.int .i64 s, .int .i64 z, v] 24 (0, 0))
theorem CBox.lt {W : World} {k : Nat} {s z : Int} {v : Value} (h : CBox W k s z v) : k < W.heap.size := (Array.getElem?_eq_some_iff.1 h).1
theorem CBox.c0 {W : World} {k : Nat} {s z : Int} {v : Value} (h : CBox W k s z v) : W.cell? ⟨k, 0, none⟩ = some (.int .i64 s) := by unfold CBox at h; simp [World.cell?, h]
theorem CBox.c1 {W : World} {k : Nat} {s z : Int} {v : Value} (h : CBox W k s z v) : W.cell? ⟨k, 1, none⟩ = some (.int .i64 z) := by unfold CBox at h; simp [World.cell?, h]
theorem CBox.c2 {W : World} {k : Nat} {s z : Int} {v : Value} (h : CBox W k s z v) : W.cell? ⟨k, 2, none⟩ = some v := by unfold CBox at h; simp [World.cell?, h]
theorem CBox.fr {W : World} {k : Nat} {s z : Int} {v : Value} (h : CBox W k s z v) (j : Nat) : W.frozen? ⟨k, j, none⟩ = false := by unfold CBox at h; simp [World.frozen?, h]
theorem CBox.kept {W V : World} {B k : Nat} {s z : Int} {v : Value} (h : CBox W k s z v) (hb : Below B W V) (hk : k < B) : CBox V k s z v := (hb.block k hk).trans h
theorem CBox.next {W V : World} {k : Nat} {s z : Int} {v : Value} (h : CBox W k s z v) (hb : Below W.heap.size W V) : CBox V k s z v := h.kept hb h.lt
theorem CBox.grown {W V : World} {k : Nat} {s z : Int} {v : Value} {r : Option Nat} (h : CBox W k s z v) (hg : W.grownBy V r) (hr : some k ≠ r) : CBox V k s z v := (hg.block k h.lt hr).trans h
theorem CBox.new (w : World) (s z : Int) (v : Value) : CBox (w.alloc (.cells #[.int .i64 s, .int .i64 z, v] 24)) w.heap.size s z v := heap_alloc_new w _
theorem CBox.set2 {W : World} {k : Nat} {s z : Int} {v v' : Value} (h : CBox W k s z v) : CBox (W.setCell ⟨k, 2, none⟩ v') k s z v' := by unfold CBox at h ⊢; rw [block_set _ h]; rfl
theorem CBox.other {W : World} {k : Nat} {s z : Int} {v : Value} (h : CBox W k s z v) {a : Addr} (ha : k ≠ a.block) (u : Value) : CBox (W.setCell a u) k s z v := (Below.heap_setCell W a u k ha).trans h
theorem OneR.frz {α : Type} [Lay α] {W : World} {b : Nat} {x : α} (h : OneR W b x) (j : Nat) : W.frozen? ⟨b, j, none⟩ = false := by unfold OneR at h; simp [World.frozen?, h]
theorem OneR.ltz {α : Type} [Lay α] {W : World} {b : Nat} {x : α} (h : OneR W b x) : b < W.heap.size := (Array.getElem?_eq_some_iff.1 h).1
theorem OneR.keptz {α : Type} [Lay α] {W V : World} {B b : Nat} {x : α} (h : OneR W b x) (hb : Below B W V) (hk : b < B) : OneR V b x := (hb.block b hk).trans h
theorem OneR.otherz {α : Type} [Lay α] {W : World} {b : Nat} {x : α} (h : OneR W b x) {a : Addr} (ha : b ≠ a.block) (u : Value) : OneR (W.setCell a u) b x := (Below.heap_setCell W a u b ha).trans h
theorem OneR.e0 {W : World} {b : Nat} {x : En} (h : OneR W b x) : W.cell? ⟨b, 0, none⟩ = some (.string ⟨x.p.toArray⟩) := h.row 0 _ rfl
theorem OneR.e1 {W : World} {b : Nat} {x : En} (h : OneR W b x) : W.cell? ⟨b, 1, none⟩ = some (.string ⟨x.d.toArray⟩) := by have := h.row 1 _ rfl; simpa using this
theorem OneR.e2 {W : World} {b : Nat} {x : En} (h : OneR W b x) : W.cell? ⟨b, 2, none⟩ = some (.bool x.t) := by have := h.row 2 _ rfl; simpa using this
theorem OwnS.otherz {α : Type} [Lay α] {W : World} {B : Nat} {v : Value} {xs : List α} (h : OwnS W B v xs) {k j : Nat} (hk : k < B) (u : Value) : OwnS (W.setCell ⟨k, j, none⟩ u) B v xs := by
  rcases h with h | ⟨g, cap, rfl, hB, h⟩
  · exact .inl h
  · exact .inr ⟨g, cap, rfl, hB, h.other (by simp only; omega) u⟩
theorem OwnS.above {α : Type} [Lay α] {W : World} {B : Nat} {v : Value} {xs : List α} (h : OwnS W B v xs) : ∀ k, v.ownBlock = some k → B ≤ k := by
  rcases h with ⟨rfl, rfl⟩ | ⟨g, cap, rfl, hB, h⟩
  · intro k hk; simp [Value.ownBlock] at hk
  · intro k hk; simp only [Value.ownBlock, Option.some.injEq] at hk; omega
end Go.Proofs.Ytdefdbejaabpdaa
