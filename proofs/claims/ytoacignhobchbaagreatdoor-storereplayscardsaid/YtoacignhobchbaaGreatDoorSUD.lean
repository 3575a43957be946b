/-
  A tree as plain lists: nodes by path, sessions, what a good one is, where a path stands. No program is named here.
  How a disk lies in memory: a row of files, three texts each; a row of the call's own; what stays when other memory turns.
-/
import Derived.Test.YtoacignhobchbaaGreatDoorSUA
import Derived.Test.YtoacignhobchbaaGreatDoorSUC
import Derived.Test.YtoacignhobchbaaGreatDoorProg
import Derived.WalkKit
import Derived.Laws.AppendOwn
import Derived.Deep.LoopGhost
namespace Go.Proofs.YtoacignhobchbaaGreatDoor
open Go.RowKit

/- a path's parent and last step -/
def lastCut : List UInt8 → Option (List UInt8 × List UInt8)
  | [] => none
  | c :: l => match lastCut l with
    | some (a, b) => some (c :: a, b)
    | none => if c = 47 then some ([], l) else none
theorem lastCut_none : ∀ b : List UInt8, 47 ∉ b → lastCut b = none
  | [], _ => rfl
  | c :: l, h => by
    have h1 : c ≠ 47 := by rintro rfl; simp at h
    rw [lastCut, lastCut_none l (by simp at h; exact h.2)]
    simp [h1]
theorem lastCut_some (b : List UInt8) (hb : 47 ∉ b) : ∀ a : List UInt8, lastCut (a ++ 47 :: b) = some (a, b)
  | [] => by simp [lastCut, lastCut_none b hb]
  | c :: a => by simp [lastCut, lastCut_some b hb a]
def nupL (a : List UInt8) : List UInt8 := if a = [] then [47] else a
def dirOf (p : List UInt8) : List UInt8 := if goodB p = true ∧ p ≠ [47] then (match lastCut p with
  | some (a, _) => nupL a
  | none => []) else []
def stepOf (p : List UInt8) : List UInt8 := if goodB p = true ∧ p ≠ [47] then (match lastCut p with
  | some (_, b) => b
  | none => []) else []
def splE (p : List UInt8) : Int := if goodB p = true then (if p = [47] then 7 else 0) else 2
theorem ngood_slash {p : List UInt8} (h : goodB p = true) : ∃ r, p = 47 :: r := by
  simp only [goodB, Bool.and_eq_true] at h
  have h1 := h.1.2
  cases p with
  | nil => simp [Lib.hasPrefix, List.isPrefixOf] at h1
  | cons c r => simp [Lib.hasPrefix, List.isPrefixOf] at h1; exact ⟨r, by rw [h1]⟩
theorem ngood_nil : goodB [] = false := by decide +kernel
theorem good_cut {p : List UInt8} (h : goodB p = true) : ∃ a b, p = a ++ 47 :: b ∧ 47 ∉ b := by
  obtain ⟨r, rfl⟩ := ngood_slash h
  exact last_slash _ (by simp)
theorem dirOf_cut {a b : List UInt8} (h : goodB (a ++ 47 :: b) = true) (hn : a ++ 47 :: b ≠ [47]) (hb : 47 ∉ b) : dirOf (a ++ 47 :: b) = nupL a := by
  rw [dirOf, if_pos ⟨h, hn⟩, lastCut_some b hb a]
theorem stepOf_cut {a b : List UInt8} (h : goodB (a ++ 47 :: b) = true) (hn : a ++ 47 :: b ≠ [47]) (hb : 47 ∉ b) : stepOf (a ++ 47 :: b) = b := by
  rw [stepOf, if_pos ⟨h, hn⟩, lastCut_some b hb a]
theorem dirOf_bad {p : List UInt8} (h : goodB p = false) : dirOf p = [] := by rw [dirOf, if_neg (by simp [h])]
theorem stepOf_bad {p : List UInt8} (h : goodB p = false) : stepOf p = [] := by rw [stepOf, if_neg (by simp [h])]
theorem dirOf_root : dirOf [47] = [] := by rw [dirOf, if_neg (by simp)]
theorem stepOf_root : stepOf [47] = [] := by rw [stepOf, if_neg (by simp)]
theorem splE_bad {p : List UInt8} (h : goodB p = false) : splE p = 2 := by rw [splE, if_neg (by simp [h])]
theorem splE_root : splE [47] = 7 := by rw [splE, if_pos goodB_root, if_pos rfl]
theorem splE_ok {p : List UInt8} (h : goodB p = true) (hn : p ≠ [47]) : splE p = 0 := by rw [splE, if_pos h, if_neg hn]
theorem dirOf_ne {p : List UInt8} (h : goodB p = true) (hn : p ≠ [47]) : dirOf p ≠ p ∧ dirOf p ≠ [] := by
  obtain ⟨a, b, rfl, hb⟩ := good_cut h
  rw [dirOf_cut h hn hb, nupL]
  split
  · rename_i h0; subst h0
    exact ⟨fun e => hn (by simpa using e.symm), by simp⟩
  · rename_i h0
    refine ⟨fun e => ?_, h0⟩
    have := congrArg List.length e
    simp at this
/- nodes -/
structure Nd where
  p : List UInt8
  d : List UInt8
  c : Int
  m : Int
  q : Int
  v : Int
  k : Int
  o : Int
  n : Int
instance : Inhabited Nd := ⟨⟨[], [], 0, 0, 0, 0, 0, 0, 0⟩⟩
structure Tr where
  z : Int
  ns : List Nd
  ss : List Int
def tr0 : Tr := ⟨0, [], []⟩
def nroot : Nd := ⟨[47], [], 0, 0, 0, 0, 0, 0, 0⟩
def trNew : Tr := ⟨0, [nroot], []⟩

def NAsc (ns : List Nd) : Prop := ns.Pairwise fun a b => bl a.p b.p = true
def kidsN (ns : List Nd) (p : List UInt8) : Nat := ns.countP fun x => decide (dirOf x.p = p)
structure NOk (z : Int) (ns : List Nd) (ss : List Int) (n : Nd) : Prop where
  data : n.d.length ≤ 256
  path : goodB n.p = true
  up : n.p ≠ [47] → ∃ u ∈ ns, u.p = dirOf n.p
  c0 : 0 ≤ n.c
  cm : n.c ≤ n.m
  cq : n.c ≤ n.q
  mz : n.m ≤ z
  qz : n.q ≤ z
  v0 : 0 ≤ n.v
  v1 : n.v ≤ 2147483647
  k0 : 0 ≤ n.k
  kids : n.n = kidsN ns n.p
  own : n.o = 0 ∨ n.o ∈ ss ∧ n.n = 0
structure GoodN (z : Int) (ns : List Nd) (ss : List Int) : Prop where
  few : ns.length ≤ 400
  root : ∃ r rest, ns = r :: rest ∧ r.p = [47] ∧ r.o = 0
  asc : NAsc ns
  ok : ∀ n ∈ ns, NOk z ns ss n
def SAsc (ss : List Int) : Prop := ss.Pairwise (· < ·) ∧ ∀ s ∈ ss, 1 ≤ s ∧ s ≤ 2147483647
structure GoodT (t : Tr) : Prop where
  zx : zGood t.z = true
  ses : SAsc t.ss
  nod : GoodN t.z t.ns t.ss
  cap : ∀ n ∈ t.ns, n.k ≤ 2147483647
noncomputable def goodT (t : Tr) : Bool := @decide (GoodT t) (Classical.propDecidable _)
theorem goodT_true {t : Tr} : goodT t = true ↔ GoodT t := by unfold goodT; exact @decide_eq_true_iff _ (Classical.propDecidable _)
theorem goodT_false {t : Tr} : goodT t = false ↔ ¬ GoodT t := by unfold goodT; exact @decide_eq_false_iff_not _ (Classical.propDecidable _)

theorem nasc_uniq {ns : List Nd} (h : NAsc ns) {a b : Nd} (ha : a ∈ ns) (hb : b ∈ ns) (e : a.p = b.p) : a = b := by
  obtain ⟨i, hi, rfl⟩ := List.getElem_of_mem ha
  obtain ⟨j, hj, rfl⟩ := List.getElem_of_mem hb
  have h := List.pairwise_iff_getElem.1 h
  by_cases h1 : i < j
  · exact absurd e (bl_ne (h i j hi hj h1))
  · by_cases h2 : j < i
    · exact absurd e.symm (bl_ne (h j i hj hi h2))
    · obtain rfl : i = j := by omega
      rfl

/- where a path stands -/
structure NThere (ns A : List Nd) (n : Nd) (B : List Nd) (p : List UInt8) : Prop where
  eq : ns = A ++ n :: B
  nm : n.p = p
  lo : ∀ a ∈ A, bl a.p p = true
  hi : ∀ b ∈ B, bl p b.p = true
structure NGap (ns A B : List Nd) (p : List UInt8) : Prop where
  eq : ns = A ++ B
  lo : ∀ a ∈ A, bl a.p p = true
  hi : ∀ b ∈ B, bl p b.p = true
theorem nwhere (p : List UInt8) : ∀ ns : List Nd, NAsc ns → (∃ A n B, NThere ns A n B p) ∨ ∃ A B, NGap ns A B p
  | [], _ => .inr ⟨[], [], rfl, by simp, by simp⟩
  | x :: r, h => by
    obtain ⟨hx, hr⟩ := List.pairwise_cons.1 h
    cases h1 : bl x.p p with
    | true =>
      rcases nwhere p r hr with ⟨A, f, B, T⟩ | ⟨A, B, G⟩
      · exact .inl ⟨x :: A, f, B, by rw [T.eq]; rfl, T.nm, by simp [h1]; exact T.lo, T.hi⟩
      · exact .inr ⟨x :: A, B, by rw [G.eq]; rfl, by simp [h1]; exact G.lo, G.hi⟩
    | false =>
      cases h2 : bl p x.p with
      | true => exact .inr ⟨[], x :: r, rfl, by simp, by simp [h2]; exact fun b hb => bl_trans _ _ _ h2 (hx b hb)⟩
      | false =>
        have e := bl_total _ _ h1 h2
        exact .inl ⟨[], x, r, rfl, e, by simp, fun b hb => by rw [← e]; exact hx b hb⟩
def lookN (ns : List Nd) (p : List UInt8) : Option Nd := ns.find? fun n => decide (n.p = p)
theorem NThere.look {ns A B : List Nd} {n : Nd} {p : List UInt8} (T : NThere ns A n B p) : lookN ns p = some n := by
  rw [lookN, T.eq, List.find?_append, List.find?_eq_none.2 (fun a ha => by simp [bl_ne (T.lo a ha)])]
  simp [T.nm]
theorem NGap.no {ns A B : List Nd} {p : List UInt8} (G : NGap ns A B p) : ∀ n ∈ ns, n.p ≠ p := by
  intro n hn
  rw [G.eq] at hn
  rcases List.mem_append.1 hn with h | h
  · exact bl_ne (G.lo n h)
  · exact (bl_ne (G.hi n h)).symm
theorem NGap.look {ns A B : List Nd} {p : List UInt8} (G : NGap ns A B p) : lookN ns p = none := by
  rw [lookN, List.find?_eq_none]
  intro n hn
  simp [G.no n hn]
theorem lookN_some {ns : List Nd} {p : List UInt8} {n : Nd} (h : lookN ns p = some n) : n ∈ ns ∧ n.p = p := by
  refine ⟨List.mem_of_find?_eq_some h, ?_⟩
  have := List.find?_some h
  simpa using this
theorem look_mem {ns : List Nd} (h : NAsc ns) {n : Nd} (hn : n ∈ ns) : lookN ns n.p = some n := by
  rcases nwhere n.p ns h with ⟨A, m, B, T⟩ | ⟨A, B, G⟩
  · rw [T.look, nasc_uniq h (by rw [T.eq]; simp) hn T.nm]
  · exact absurd rfl (G.no n hn)
theorem there_of_look {ns : List Nd} (h : NAsc ns) {p : List UInt8} {n : Nd} (hn : lookN ns p = some n) : ∃ A B, NThere ns A n B p := by
  rcases nwhere p ns h with ⟨A, m, B, T⟩ | ⟨A, B, G⟩
  · rw [T.look] at hn; cases hn; exact ⟨A, B, T⟩
  · rw [G.look] at hn; cases hn
theorem gap_of_look {ns : List Nd} (h : NAsc ns) {p : List UInt8} (hn : lookN ns p = none) : ∃ A B, NGap ns A B p := by
  rcases nwhere p ns h with ⟨A, m, B, T⟩ | ⟨A, B, G⟩
  · rw [T.look] at hn; cases hn
  · exact ⟨A, B, G⟩

/- changes -/
def dropN (ns : List Nd) (p : List UInt8) : List Nd := ns.filter fun n => decide (n.p ≠ p)
def insN (ns : List Nd) (x : Nd) : List Nd := (ns.filter fun n => bl n.p x.p) ++ x :: (ns.filter fun n => bl x.p n.p)
def bump (z more : Int) (n : Nd) : Nd := ⟨n.p, n.d, n.c, n.m, z, n.v, n.k + 1, n.o, n.n + more⟩
def bumpAt (p : List UInt8) (z more : Int) (ns : List Nd) : List Nd := ns.map fun n => if n.p = p then bump z more n else n
def setAt (p d : List UInt8) (v z : Int) (ns : List Nd) : List Nd := ns.map fun n => if n.p = p then ⟨n.p, d, n.c, z, n.q, v, n.k, n.o, n.n⟩ else n
theorem filter_all {α : Type} (f : α → Bool) (l : List α) (h : ∀ x ∈ l, f x = true) : l.filter f = l := List.filter_eq_self.2 h
theorem filter_no {α : Type} (f : α → Bool) (l : List α) (h : ∀ x ∈ l, f x = false) : l.filter f = [] := List.filter_eq_nil_iff.2 (fun x hx => by simp [h x hx])
theorem map_same {α : Type} (f : α → α) (l : List α) (h : ∀ x ∈ l, f x = x) : l.map f = l := by
  induction l with
  | nil => rfl
  | cons x r ih => rw [List.map_cons, h x (by simp), ih (fun y hy => h y (by simp [hy]))]
theorem NThere.drop {ns A B : List Nd} {n : Nd} {p : List UInt8} (T : NThere ns A n B p) : dropN ns p = A ++ B := by
  rw [dropN, T.eq, List.filter_append, List.filter_cons, filter_all _ A (fun a ha => by simp [bl_ne (T.lo a ha)]), filter_all _ B (fun a ha => by simp [(bl_ne (T.hi a ha)).symm])]
  simp [T.nm]
theorem NGap.ins {ns A B : List Nd} {x : Nd} (G : NGap ns A B x.p) : insN ns x = A ++ x :: B := by
  rw [insN, G.eq, List.filter_append, List.filter_append, filter_all _ A (fun a ha => G.lo a ha), filter_no _ B (fun a ha => bl_asymm (G.hi a ha)), filter_no _ A (fun a ha => bl_asymm (G.lo a ha)), filter_all _ B (fun a ha => G.hi a ha)]
  simp
theorem NThere.mapAt {ns A B : List Nd} {n : Nd} {p : List UInt8} (T : NThere ns A n B p) (g : Nd → Nd) : (ns.map fun x => if x.p = p then g x else x) = A ++ g n :: B := by
  rw [T.eq, List.map_append, List.map_cons, map_same _ A (fun a ha => by simp [bl_ne (T.lo a ha)]), map_same _ B (fun a ha => by simp [(bl_ne (T.hi a ha)).symm])]
  simp [T.nm]
theorem NThere.bump {ns A B : List Nd} {n : Nd} {p : List UInt8} (T : NThere ns A n B p) (z more : Int) : bumpAt p z more ns = A ++ bump z more n :: B := T.mapAt _
theorem NThere.put {ns A B : List Nd} {n : Nd} {p : List UInt8} (T : NThere ns A n B p) (d : List UInt8) (v z : Int) : setAt p d v z ns = A ++ ⟨n.p, d, n.c, z, n.q, v, n.k, n.o, n.n⟩ :: B := T.mapAt _
theorem bump_p (p : List UInt8) (z more : Int) (n : Nd) : (if n.p = p then bump z more n else n).p = n.p := by split <;> rfl
theorem bumpAt_paths (p : List UInt8) (z more : Int) (ns : List Nd) : (bumpAt p z more ns).map Nd.p = ns.map Nd.p := by
  rw [bumpAt, List.map_map]
  apply List.map_congr_left
  intro n _
  exact bump_p p z more n
theorem nasc_paths (ns : List Nd) : NAsc ns ↔ (ns.map Nd.p).Pairwise fun a b => bl a b = true := by rw [List.pairwise_map]; rfl
theorem kidsN_paths (ns : List Nd) (p : List UInt8) : kidsN ns p = (ns.map Nd.p).countP fun x => decide (dirOf x = p) := by rw [List.countP_map]; rfl

/- a session -/
def insS (ss : List Int) (s : Int) : List Int := (ss.filter fun x => decide (x < s)) ++ s :: (ss.filter fun x => decide (s < x))
def dropS (ss : List Int) (s : Int) : List Int := ss.filter fun x => decide (x ≠ s)
structure SThere (ss A B : List Int) (s : Int) : Prop where
  eq : ss = A ++ s :: B
  lo : ∀ a ∈ A, a < s
  hi : ∀ b ∈ B, s < b
structure SGap (ss A B : List Int) (s : Int) : Prop where
  eq : ss = A ++ B
  lo : ∀ a ∈ A, a < s
  hi : ∀ b ∈ B, s < b
theorem swhere (s : Int) : ∀ ss : List Int, ss.Pairwise (· < ·) → (∃ A B, SThere ss A B s) ∨ ∃ A B, SGap ss A B s
  | [], _ => .inr ⟨[], [], rfl, by simp, by simp⟩
  | x :: r, h => by
    obtain ⟨hx, hr⟩ := List.pairwise_cons.1 h
    by_cases h1 : x < s
    · rcases swhere s r hr with ⟨A, B, T⟩ | ⟨A, B, G⟩
      · exact .inl ⟨x :: A, B, by rw [T.eq]; rfl, by simp [h1]; exact T.lo, T.hi⟩
      · exact .inr ⟨x :: A, B, by rw [G.eq]; rfl, by simp [h1]; exact G.lo, G.hi⟩
    · by_cases h2 : s < x
      · exact .inr ⟨[], x :: r, rfl, by simp, by simp [h2]; exact fun b hb => Int.lt_trans h2 (hx b hb)⟩
      · obtain rfl : x = s := by omega
        exact .inl ⟨[], r, rfl, by simp, hx⟩
theorem SThere.mem {ss A B : List Int} {s : Int} (T : SThere ss A B s) : s ∈ ss := by rw [T.eq]; simp
theorem SGap.not {ss A B : List Int} {s : Int} (G : SGap ss A B s) : s ∉ ss := by
  intro h
  rw [G.eq] at h
  rcases List.mem_append.1 h with h | h
  · exact absurd (G.lo s h) (by omega)
  · exact absurd (G.hi s h) (by omega)
theorem SGap.ins {ss A B : List Int} {s : Int} (G : SGap ss A B s) : insS ss s = A ++ s :: B := by
  rw [insS, G.eq, List.filter_append, List.filter_append, filter_all _ A (fun a ha => by simpa using G.lo a ha), filter_no _ B (fun a ha => by have := G.hi a ha; simp; omega), filter_no _ A (fun a ha => by have := G.lo a ha; simp; omega), filter_all _ B (fun a ha => by simpa using G.hi a ha)]
  simp
theorem SThere.drop {ss A B : List Int} {s : Int} (T : SThere ss A B s) : dropS ss s = A ++ B := by
  rw [dropS, T.eq, List.filter_append, List.filter_cons, filter_all _ A (fun a ha => by have := T.lo a ha; simp; omega), filter_all _ B (fun a ha => by have := T.hi a ha; simp; omega)]
  simp
theorem rising_len (M : Int) : ∀ (ss : List Int) (lo : Int), ss.Pairwise (· < ·) → (∀ s ∈ ss, lo < s ∧ s ≤ M) → lo ≤ M → (ss.length : Int) ≤ M - lo
  | [], lo, _, _, h => by simp; omega
  | x :: r, lo, hp, hb, _ => by
    obtain ⟨hx, hr⟩ := List.pairwise_cons.1 hp
    have h1 := hb x (by simp)
    have := rising_len M r x hr (fun s hs => ⟨hx s hs, (hb s (by simp [hs])).2⟩) h1.2
    simp; omega
theorem sasc_len {ss : List Int} (h : SAsc ss) : ss.length ≤ 2147483647 := by
  have := rising_len 2147483647 ss 0 h.1 (fun s hs => by have := h.2 s hs; omega) (by omega)
  omega
theorem sasc_ins {ss : List Int} {s : Int} (h : SAsc ss) (hs : 1 ≤ s ∧ s ≤ 2147483647) (hn : s ∉ ss) : SAsc (insS ss s) := by
  rcases swhere s ss h.1 with ⟨A, B, T⟩ | ⟨A, B, G⟩
  · exact absurd T.mem hn
  · rw [G.ins]
    have h1 := h.1
    have h2 := h.2
    rw [G.eq] at h1 h2
    rw [List.pairwise_append] at h1
    refine ⟨?_, ?_⟩
    · rw [List.pairwise_append, List.pairwise_cons]
      refine ⟨h1.1, ⟨G.hi, h1.2.1⟩, fun a ha b hb => ?_⟩
      rcases List.mem_cons.1 hb with rfl | hb
      · exact G.lo a ha
      · exact h1.2.2 a ha b hb
    · intro x hx
      rcases List.mem_append.1 hx with h | h
      · exact h2 x (by simp [h])
      · rcases List.mem_cons.1 h with rfl | h
        · exact hs
        · exact h2 x (by simp [h])
theorem sasc_drop {ss : List Int} (s : Int) (h : SAsc ss) : SAsc (dropS ss s) := ⟨h.1.filter _, fun x hx => h.2 x (List.mem_filter.1 hx).1⟩
theorem mem_insS {ss : List Int} {s x : Int} (hx : x ∈ ss) : x ∈ insS ss s := by
  rw [insS]
  by_cases h1 : x < s
  · exact List.mem_append_left _ (List.mem_filter.2 ⟨hx, by simpa using h1⟩)
  · by_cases h2 : s < x
    · exact List.mem_append_right _ (List.mem_cons_of_mem _ (List.mem_filter.2 ⟨hx, by simpa using h2⟩))
    · obtain rfl : x = s := by omega
      exact List.mem_append_right _ (by simp)

end Go.Proofs.YtoacignhobchbaaGreatDoor

namespace Go.Proofs.YtoacignhobchbaaGreatDoor
open Go.RowKit

def fcells (f : DF) : List Value := [.string ⟨f.n.toArray⟩, .string ⟨f.s.toArray⟩, .string ⟨f.t.toArray⟩]
/-- a file as a value -/
def fileV (f : DF) : Value := .agg #[.string ⟨f.n.toArray⟩, .string ⟨f.s.toArray⟩, .string ⟨f.t.toArray⟩]
def cellsF : List DF → List Value
  | [] => []
  | f :: r => fcells f ++ cellsF r
theorem cellsF_length : ∀ fs : List DF, (cellsF fs).length = fs.length * 3
  | [] => rfl
  | f :: r => by rw [cellsF, List.length_append, cellsF_length r]; simp [fcells]; omega
theorem cellsF_append : ∀ a b : List DF, cellsF (a ++ b) = cellsF a ++ cellsF b
  | [], _ => rfl
  | f :: r, b => by rw [List.cons_append, cellsF, cellsF, cellsF_append r b, List.append_assoc]
theorem cellsF_get : ∀ (fs : List DF) (i : Nat) (f : DF), fs[i]? = some f → ∀ c, c < 3 → (cellsF fs)[i * 3 + c]? = (fcells f)[c]?
  | [], i, f, h, _, _ => by simp at h
  | x :: r, 0, f, h, c, hc => by
    simp at h
    subst h
    rw [cellsF, List.getElem?_append_left (by simp [fcells]; omega)]
    simp
  | x :: r, i + 1, f, h, c, hc => by
    rw [cellsF, List.getElem?_append_right (by simp [fcells]; omega), ← cellsF_get r i f (by simpa using h) c hc]
    congr 1
    simp [fcells]; omega
theorem cellsF_one (fs : List DF) : ∀ u ∈ cellsF fs, u.oneCell' = true := by
  induction fs with
  | nil => simp [cellsF]
  | cons f r ih =>
    intro u hu
    rcases List.mem_append.1 hu with h | h
    · simp [fcells] at h
      rcases h with rfl | rfl | rfl <;> rfl
    · exact ih u h
theorem cellsF_set : ∀ (fs : List DF) (i : Nat) (f g : DF), fs[i]? = some f → ∀ c v, c < 3 → (fcells g) = (fcells f).set c v → (cellsF fs).set (i * 3 + c) v = cellsF (fs.set i g)
  | [], i, f, g, h, _, _, _, _ => by simp at h
  | x :: r, 0, f, g, h, c, v, hc, hg => by
    simp at h
    subst h
    rw [cellsF, List.set_cons_zero, cellsF, hg, List.set_append_left _ _ (by simp [fcells]; omega)]
    simp
  | x :: r, i + 1, f, g, h, c, v, hc, hg => by
    rw [cellsF, List.set_cons_succ, cellsF, List.set_append_right _ _ (by simp [fcells]; omega), ← cellsF_set r i f g (by simpa using h) c v hc hg]
    congr 2
    simp [fcells]; omega

def RowAt (w : World) (b off : Nat) (cs : List Value) : Prop := ∀ j v, cs[j]? = some v → w.cell? ⟨b, off + j, none⟩ = some v
theorem RowAt.c0 {w : World} {b off : Nat} {fs : List DF} (h : RowAt w b off (cellsF fs)) {i : Nat} {f : DF} (hi : fs[i]? = some f) : w.cell? ⟨b, off + i * 3, none⟩ = some (.string ⟨f.n.toArray⟩) :=
  h (i * 3) _ (by have := cellsF_get fs i f hi 0 (by omega); simpa [fcells] using this)
theorem RowAt.c1 {w : World} {b off : Nat} {fs : List DF} (h : RowAt w b off (cellsF fs)) {i : Nat} {f : DF} (hi : fs[i]? = some f) : w.cell? ⟨b, off + i * 3 + 1, none⟩ = some (.string ⟨f.s.toArray⟩) := by
  rw [Nat.add_assoc]; exact h (i * 3 + 1) _ (by have := cellsF_get fs i f hi 1 (by omega); simpa [fcells] using this)
theorem RowAt.c2 {w : World} {b off : Nat} {fs : List DF} (h : RowAt w b off (cellsF fs)) {i : Nat} {f : DF} (hi : fs[i]? = some f) : w.cell? ⟨b, off + i * 3 + 2, none⟩ = some (.string ⟨f.t.toArray⟩) := by
  rw [Nat.add_assoc]; exact h (i * 3 + 2) _ (by have := cellsF_get fs i f hi 2 (by omega); simpa [fcells] using this)
theorem RowAt.kept {w w' : World} {b off B : Nat} {cs : List Value} (h : RowAt w b off cs) (hb : Below B w w') (hB : b < B) : RowAt w' b off cs :=
  fun j v hj => by rw [hb.cell (p := ⟨b, off + j, none⟩) hB]; exact h j v hj

/-- the value of a disk's one field holds these files -/
def DiskV (w : World) (v : Value) (fs : List DF) : Prop :=
  (∃ a cap, v = .slice a 0 cap ∧ fs = [] ∧ cap ≤ maxLen) ∨
  ∃ b off cap, v = .slice (some ⟨b, off, none⟩) fs.length cap ∧ fs.length ≤ cap ∧ cap ≤ maxLen ∧ b < w.heap.size ∧ fs ≠ [] ∧ RowAt w b off (cellsF fs)
theorem DiskV.kept {w w' : World} {B : Nat} {v : Value} {fs : List DF} (h : DiskV w v fs) (hb : Below B w w') (hB : w.heap.size ≤ B) : DiskV w' v fs := by
  rcases h with h | ⟨b, off, cap, rfl, h1, h2, h3, h0, h4⟩
  · exact .inl h
  · exact .inr ⟨b, off, cap, rfl, h1, h2, Nat.lt_of_lt_of_le h3 hb.size, h0, h4.kept hb (Nat.lt_of_lt_of_le h3 hB)⟩
theorem DiskV.next {w w' : World} {v : Value} {fs : List DF} (h : DiskV w v fs) (hb : Below w.heap.size w w') : DiskV w' v fs := h.kept hb (Nat.le_refl _)
theorem DiskV.alloc {w : World} {v : Value} {fs : List DF} (h : DiskV w v fs) (o : Obj) : DiskV (w.alloc o) v fs := h.next ((Below.refl _ _).alloc (Nat.le_refl _) o)
theorem DiskV.drew {w : World} {v : Value} {fs : List DF} (h : DiskV w v fs) : DiskV w.drew v fs := h.next (Below.refl _ _).drew
theorem DiskV.nil (w : World) : DiskV w (.slice none 0 0) [] := .inl ⟨none, 0, rfl, rfl, by decide⟩

/-- block g is a row of the call's own with these files at its head -/
def Own (W : World) (g cap : Nat) (fs : List DF) : Prop := ∃ rest : List Value, W.heap[g]? = some (.cells (cellsF fs ++ rest).toArray 87 (0, 0)) ∧ fs.length * 3 + rest.length = cap * 3 ∧ cap ≤ maxLen
theorem Own.lt {W : World} {g cap : Nat} {fs : List DF} (h : Own W g cap fs) : g < W.heap.size := by
  obtain ⟨rest, h1, _⟩ := h
  exact (Array.getElem?_eq_some_iff.1 h1).1
theorem Own.le {W : World} {g cap : Nat} {fs : List DF} (h : Own W g cap fs) : fs.length ≤ cap := by obtain ⟨rest, _, h2, _⟩ := h; omega
theorem Own.capLe {W : World} {g cap : Nat} {fs : List DF} (h : Own W g cap fs) : cap ≤ maxLen := by obtain ⟨rest, _, _, h3⟩ := h; exact h3
theorem Own.row {W : World} {g cap : Nat} {fs : List DF} (h : Own W g cap fs) : RowAt W g 0 (cellsF fs) := by
  obtain ⟨rest, h1, _⟩ := h
  intro j v hj
  have hlt : j < (cellsF fs).length := (List.getElem?_eq_some_iff.1 hj).1
  simp [World.cell?, h1, List.getElem?_append_left hlt, hj]
theorem Own.frozen {W : World} {g cap : Nat} {fs : List DF} (h : Own W g cap fs) (j : Nat) : W.frozen? ⟨g, j, none⟩ = false := by
  obtain ⟨rest, h1, _⟩ := h
  simp [World.frozen?, h1]
theorem Own.c0 {W : World} {g cap : Nat} {fs : List DF} (h : Own W g cap fs) {i : Nat} {f : DF} (hi : fs[i]? = some f) : W.cell? ⟨g, i * 3, none⟩ = some (.string ⟨f.n.toArray⟩) := by simpa using h.row.c0 hi
theorem Own.c1 {W : World} {g cap : Nat} {fs : List DF} (h : Own W g cap fs) {i : Nat} {f : DF} (hi : fs[i]? = some f) : W.cell? ⟨g, i * 3 + 1, none⟩ = some (.string ⟨f.s.toArray⟩) := by simpa using h.row.c1 hi
theorem Own.c2 {W : World} {g cap : Nat} {fs : List DF} (h : Own W g cap fs) {i : Nat} {f : DF} (hi : fs[i]? = some f) : W.cell? ⟨g, i * 3 + 2, none⟩ = some (.string ⟨f.t.toArray⟩) := by simpa using h.row.c2 hi
theorem Own.kept {W V : World} {g B cap : Nat} {fs : List DF} (h : Own W g cap fs) (hb : Below B W V) (hg : g < B) : Own V g cap fs := by
  obtain ⟨rest, h1, h2⟩ := h
  exact ⟨rest, (hb.block _ hg).trans h1, h2⟩
theorem Own.next {W V : World} {g cap : Nat} {fs : List DF} (h : Own W g cap fs) (hb : Below W.heap.size W V) : Own V g cap fs := h.kept hb h.lt
theorem Own.alloc {W : World} {g cap : Nat} {fs : List DF} (h : Own W g cap fs) (o : Obj) : Own (W.alloc o) g cap fs := h.next ((Below.refl _ _).alloc (Nat.le_refl _) o)
theorem Own.drew {W : World} {g cap : Nat} {fs : List DF} (h : Own W g cap fs) : Own W.drew g cap fs := h
theorem Own.other {W : World} {g cap : Nat} {fs : List DF} (h : Own W g cap fs) {a : Addr} (ha : g ≠ a.block) (v : Value) : Own (W.setCell a v) g cap fs := by
  obtain ⟨rest, h1, h2⟩ := h
  exact ⟨rest, (Below.heap_setCell W a v g ha).trans h1, h2⟩
theorem block_set {w : World} {g j : Nat} {cur : Array Value} {t : TypeId} {fz : Nat × Nat} (v : Value) (h : w.heap[g]? = some (.cells cur t fz)) :
    (w.setCell ⟨g, j, none⟩ v).heap[g]? = some (.cells (cur.setIfInBounds j v) t fz) := by
  obtain ⟨hlt, hk⟩ := Array.getElem?_eq_some_iff.1 h
  show (w.heap.modify g _)[g]? = _
  rw [Array.getElem?_eq_getElem (by rw [Array.size_modify]; exact hlt), Array.getElem_modify_self, hk]
  rfl
theorem Own.set {W : World} {g cap : Nat} {fs : List DF} (h : Own W g cap fs) {i : Nat} {f f' : DF} (hi : fs[i]? = some f) {c : Nat} (hc : c < 3) {v : Value} (hf : fcells f' = (fcells f).set c v) : Own (W.setCell ⟨g, i * 3 + c, none⟩ v) g cap (fs.set i f') := by
  obtain ⟨rest, h1, h2, h3⟩ := h
  refine ⟨rest, ?_, by simpa using h2, h3⟩
  have hl : i < fs.length := (List.getElem?_eq_some_iff.1 hi).1
  rw [block_set v h1, ← cellsF_set fs i f f' hi c v hc hf]
  simp [List.set_append_left _ _ (show i * 3 + c < (cellsF fs).length by rw [cellsF_length]; omega)]
theorem Own.s0 {W : World} {g cap : Nat} {fs : List DF} (h : Own W g cap fs) {i : Nat} {f : DF} (hi : fs[i]? = some f) (x : List UInt8) : Own (W.setCell ⟨g, i * 3, none⟩ (.string ⟨x.toArray⟩)) g cap (fs.set i ⟨x, f.s, f.t⟩) := h.set hi (c := 0) (by omega) rfl
theorem Own.s1 {W : World} {g cap : Nat} {fs : List DF} (h : Own W g cap fs) {i : Nat} {f : DF} (hi : fs[i]? = some f) (x : List UInt8) : Own (W.setCell ⟨g, i * 3 + 1, none⟩ (.string ⟨x.toArray⟩)) g cap (fs.set i ⟨f.n, x, f.t⟩) := h.set hi (c := 1) (by omega) rfl
theorem Own.s2 {W : World} {g cap : Nat} {fs : List DF} (h : Own W g cap fs) {i : Nat} {f : DF} (hi : fs[i]? = some f) (x : List UInt8) : Own (W.setCell ⟨g, i * 3 + 2, none⟩ (.string ⟨x.toArray⟩)) g cap (fs.set i ⟨f.n, f.s, x⟩) := h.set hi (c := 2) (by omega) rfl

/-- a value that holds these files in a row of the call's own, at or behind block B -/
def OwnV (W : World) (B : Nat) (v : Value) (fs : List DF) : Prop := (v = .slice none 0 0 ∧ fs = []) ∨ ∃ g cap, v = .slice (some ⟨g, 0, none⟩) fs.length cap ∧ B ≤ g ∧ Own W g cap fs
theorem OwnV.disk {W : World} {B : Nat} {v : Value} {fs : List DF} (h : OwnV W B v fs) : DiskV W v fs := by
  rcases h with ⟨rfl, rfl⟩ | ⟨g, cap, rfl, _, h⟩
  · exact DiskV.nil W
  · by_cases h0 : fs = []
    · subst h0; exact .inl ⟨_, cap, rfl, rfl, h.capLe⟩
    · exact .inr ⟨g, 0, cap, rfl, h.le, h.capLe, h.lt, h0, h.row⟩
theorem OwnV.next {W V : World} {B : Nat} {v : Value} {fs : List DF} (h : OwnV W B v fs) (hb : Below W.heap.size W V) : OwnV V B v fs := by
  rcases h with h | ⟨g, cap, rfl, hB, h⟩
  · exact .inl h
  · exact .inr ⟨g, cap, rfl, hB, h.next hb⟩
theorem OwnV.of_row {W : World} {B : Nat} {v : Value} {fs : List DF} (h : W.ownsRow B 87 3 v fs.length (cellsF fs)) : OwnV W B v fs := by
  obtain ⟨_, ⟨rfl, h0⟩ | ⟨g, cap, cur, rfl, hB, hg, hn, hm, hs, ht⟩⟩ := h
  · exact .inl ⟨rfl, List.eq_nil_of_length_eq_zero h0⟩
  · refine .inr ⟨g, cap, rfl, hB, cur.toList.drop (fs.length * 3), ?_, ?_, hm⟩
    · rw [hg, ← ht, List.take_append_drop]
    · simp [hs]; omega
theorem OwnV.row {W : World} {B : Nat} {v : Value} {fs : List DF} (h : OwnV W B v fs) : W.ownsRow B 87 3 v fs.length (cellsF fs) := by
  refine ⟨cellsF_length fs, ?_⟩
  rcases h with ⟨rfl, rfl⟩ | ⟨g, cap, rfl, hB, h⟩
  · exact .inl ⟨rfl, rfl⟩
  · have hle := h.le
    obtain ⟨rest, h1, h2, h3⟩ := h
    refine .inr ⟨g, cap, _, rfl, hB, h1, hle, h3, by simp [cellsF_length, h2], ?_⟩
    simp [← cellsF_length fs]

end Go.Proofs.YtoacignhobchbaaGreatDoor
