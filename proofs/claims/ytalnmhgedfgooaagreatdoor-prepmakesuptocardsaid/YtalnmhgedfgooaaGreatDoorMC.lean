/-
  A tree as plain lists: nodes by path, sessions, what a good one is, where a path stands. No program is named here.
  How a disk lies in memory: a row of files, three texts each; a row of the call's own; what stays when other memory turns.
  How a log lies in memory: a row of transactions, seven cells each; a row of the call's own; what stays when other memory turns.
  A transaction as an argument: opened into its seven fields, and read again.
  How lists of elements lie in memory, whatever these are: rows of cells, so many each; a row of the call's own; runs of cells stored into it; what stays when other memory turns.
  How lists of nodes, numbers, events and texts lie in memory: rows of cells, so many each; a row of the call's own; what stays when other memory turns.
  What a transaction makes of a tree, as plain lists; that good trees stay good. No program is named here.
  The answer of Apply, as plain lists; that what comes of a good tree is a good one; a session's nodes, taken away one by one. No program is named here.
  What comes of a good tree by Apply is a good one, of the transaction's number. No program is named here.
-/
import Derived.Test.YtalnmhgedfgooaaGreatDoorMA
import Derived.Test.YtalnmhgedfgooaaGreatDoorMB
import Derived.Test.YtalnmhgedfgooaaGreatDoorProg
import Derived.WalkKit
import Derived.Laws.AppendOwn
import Derived.Deep.LoopGhost
import Derived.ProofKit
import Derived.OpenShut
import Derived.SizedLaws
import Derived.Lib.QuietBelow
namespace Go.Proofs.YtalnmhgedfgooaaGreatDoor
open Go.RowKit

/- a path's parent and last step -/
def lastCut : List UInt8 → Option (List UInt8 × List UInt8)
  | [] => none
  | c :: l => match lastCut l with
    | some (a, b) => some (c :: a, b)
    | none => if c = 47 then some ([], l) else none
theorem lastCut_none : ∀ b : List UInt8, 47 ∉ b → lastCut b = none
  | [], _ => rfl
  | c :: l, h => by
    have h1 : c ≠ 47 := by rintro rfl; simp at h
    rw [lastCut, lastCut_none l (by simp at h; exact h.2)]
    simp [h1]
theorem lastCut_some (b : List UInt8) (hb : 47 ∉ b) : ∀ a : List UInt8, lastCut (a ++ 47 :: b) = some (a, b)
  | [] => by simp [lastCut, lastCut_none b hb]
  | c :: a => by simp [lastCut, lastCut_some b hb a]
def nupL (a : List UInt8) : List UInt8 := if a = [] then [47] else a
def dirOf (p : List UInt8) : List UInt8 := if goodB p = true ∧ p ≠ [47] then (match lastCut p with
  | some (a, _) => nupL a
  | none => []) else []
def stepOf (p : List UInt8) : List UInt8 := if goodB p = true ∧ p ≠ [47] then (match lastCut p with
  | some (_, b) => b
  | none => []) else []
def splE (p : List UInt8) : Int := if goodB p = true then (if p = [47] then 7 else 0) else 2
theorem ngood_slash {p : List UInt8} (h : goodB p = true) : ∃ r, p = 47 :: r := by
  simp only [goodB, Bool.and_eq_true] at h
  have h1 := h.1.2
  cases p with
  | nil => simp [Lib.hasPrefix, List.isPrefixOf] at h1
  | cons c r => simp [Lib.hasPrefix, List.isPrefixOf] at h1; exact ⟨r, by rw [h1]⟩
theorem ngood_nil : goodB [] = false := by decide +kernel
theorem good_cut {p : List UInt8} (h : goodB p = true) : ∃ a b, p = a ++ 47 :: b ∧ 47 ∉ b := by
  obtain ⟨r, rfl⟩ := ngood_slash h
  exact last_slash _ (by simp)
theorem dirOf_cut {a b : List UInt8} (h : goodB (a ++ 47 :: b) = true) (hn : a ++ 47 :: b ≠ [47]) (hb : 47 ∉ b) : dirOf (a ++ 47 :: b) = nupL a := by
  rw [dirOf, if_pos ⟨h, hn⟩, lastCut_some b hb a]
theorem stepOf_cut {a b : List UInt8} (h : goodB (a ++ 47 :: b) = true) (hn : a ++ 47 :: b ≠ [47]) (hb : 47 ∉ b) : stepOf (a ++ 47 :: b) = b := by
  rw [stepOf, if_pos ⟨h, hn⟩, lastCut_some b hb a]
theorem dirOf_bad {p : List UInt8} (h : goodB p = false) : dirOf p = [] := by rw [dirOf, if_neg (by simp [h])]
theorem stepOf_bad {p : List UInt8} (h : goodB p = false) : stepOf p = [] := by rw [stepOf, if_neg (by simp [h])]
theorem dirOf_root : dirOf [47] = [] := by rw [dirOf, if_neg (by simp)]
theorem stepOf_root : stepOf [47] = [] := by rw [stepOf, if_neg (by simp)]
theorem splE_bad {p : List UInt8} (h : goodB p = false) : splE p = 2 := by rw [splE, if_neg (by simp [h])]
theorem splE_root : splE [47] = 7 := by rw [splE, if_pos goodB_root, if_pos rfl]
theorem splE_ok {p : List UInt8} (h : goodB p = true) (hn : p ≠ [47]) : splE p = 0 := by rw [splE, if_pos h, if_neg hn]
theorem dirOf_ne {p : List UInt8} (h : goodB p = true) (hn : p ≠ [47]) : dirOf p ≠ p ∧ dirOf p ≠ [] := by
  obtain ⟨a, b, rfl, hb⟩ := good_cut h
  rw [dirOf_cut h hn hb, nupL]
  split
  · rename_i h0; subst h0
    exact ⟨fun e => hn (by simpa using e.symm), by simp⟩
  · rename_i h0
    refine ⟨fun e => ?_, h0⟩
    have := congrArg List.length e
    simp at this
theorem dirOf_nil {p : List UInt8} (h : dirOf p = []) : goodB p = false ∨ p = [47] := by
  cases h1 : goodB p with
  | false => exact .inl rfl
  | true =>
    by_cases h2 : p = [47]
    · exact .inr h2
    · exact absurd h (dirOf_ne h1 h2).2
theorem dirOf_step {p q : List UInt8} (hp : goodB p = true) (hp' : p ≠ [47]) (hq : goodB q = true) (hq' : q ≠ [47]) (h : dirOf p = dirOf q) (h' : stepOf p = stepOf q) : p = q := by
  obtain ⟨a, b, rfl, hb⟩ := good_cut hp
  obtain ⟨c, d, rfl, hd⟩ := good_cut hq
  rw [stepOf_cut hp hp' hb, stepOf_cut hq hq' hd] at h'
  subst h'
  rw [dirOf_cut hp hp' hb, dirOf_cut hq hq' hd, nupL, nupL] at h
  split at h <;> split at h
  · rename_i e1 e2; rw [e1, e2]
  · rename_i e1 e2
    subst e1 h
    exfalso
    have h2 : goodB (47 :: 47 :: b) = true := hq
    rw [goodB_cons _ (by simp), splitL_slash, splitL_no b hd] at h2
    simp [not_named_nil] at h2
  · rename_i e1 e2
    subst e2 h
    exfalso
    have h2 : goodB (47 :: 47 :: b) = true := hp
    rw [goodB_cons _ (by simp), splitL_slash, splitL_no b hd] at h2
    simp [not_named_nil] at h2
  · rw [h]

/- nodes -/
structure Nd where
  p : List UInt8
  d : List UInt8
  c : Int
  m : Int
  q : Int
  v : Int
  k : Int
  o : Int
  n : Int
instance : Inhabited Nd := ⟨⟨[], [], 0, 0, 0, 0, 0, 0, 0⟩⟩
structure Tr where
  z : Int
  ns : List Nd
  ss : List Int
def tr0 : Tr := ⟨0, [], []⟩
def nroot : Nd := ⟨[47], [], 0, 0, 0, 0, 0, 0, 0⟩
def trNew : Tr := ⟨0, [nroot], []⟩

def NAsc (ns : List Nd) : Prop := ns.Pairwise fun a b => bl a.p b.p = true
def kidsN (ns : List Nd) (p : List UInt8) : Nat := ns.countP fun x => decide (dirOf x.p = p)
structure NOk (z : Int) (ns : List Nd) (ss : List Int) (n : Nd) : Prop where
  data : n.d.length ≤ 256
  path : goodB n.p = true
  up : n.p ≠ [47] → ∃ u ∈ ns, u.p = dirOf n.p
  c0 : 0 ≤ n.c
  cm : n.c ≤ n.m
  cq : n.c ≤ n.q
  mz : n.m ≤ z
  qz : n.q ≤ z
  v0 : 0 ≤ n.v
  v1 : n.v ≤ 2147483647
  k0 : 0 ≤ n.k
  kids : n.n = kidsN ns n.p
  own : n.o = 0 ∨ n.o ∈ ss ∧ n.n = 0
structure GoodN (z : Int) (ns : List Nd) (ss : List Int) : Prop where
  few : ns.length ≤ 400
  root : ∃ r rest, ns = r :: rest ∧ r.p = [47] ∧ r.o = 0
  asc : NAsc ns
  ok : ∀ n ∈ ns, NOk z ns ss n
def SAsc (ss : List Int) : Prop := ss.Pairwise (· < ·) ∧ ∀ s ∈ ss, 1 ≤ s ∧ s ≤ 2147483647
structure GoodT (t : Tr) : Prop where
  zx : zGood t.z = true
  ses : SAsc t.ss
  nod : GoodN t.z t.ns t.ss
  cap : ∀ n ∈ t.ns, n.k ≤ 2147483647
noncomputable def goodT (t : Tr) : Bool := @decide (GoodT t) (Classical.propDecidable _)
theorem goodT_true {t : Tr} : goodT t = true ↔ GoodT t := by unfold goodT; exact @decide_eq_true_iff _ (Classical.propDecidable _)
theorem goodT_false {t : Tr} : goodT t = false ↔ ¬ GoodT t := by unfold goodT; exact @decide_eq_false_iff_not _ (Classical.propDecidable _)

theorem nasc_uniq {ns : List Nd} (h : NAsc ns) {a b : Nd} (ha : a ∈ ns) (hb : b ∈ ns) (e : a.p = b.p) : a = b := by
  obtain ⟨i, hi, rfl⟩ := List.getElem_of_mem ha
  obtain ⟨j, hj, rfl⟩ := List.getElem_of_mem hb
  have h := List.pairwise_iff_getElem.1 h
  by_cases h1 : i < j
  · exact absurd e (bl_ne (h i j hi hj h1))
  · by_cases h2 : j < i
    · exact absurd e.symm (bl_ne (h j i hj hi h2))
    · obtain rfl : i = j := by omega
      rfl

/- where a path stands -/
structure NThere (ns A : List Nd) (n : Nd) (B : List Nd) (p : List UInt8) : Prop where
  eq : ns = A ++ n :: B
  nm : n.p = p
  lo : ∀ a ∈ A, bl a.p p = true
  hi : ∀ b ∈ B, bl p b.p = true
structure NGap (ns A B : List Nd) (p : List UInt8) : Prop where
  eq : ns = A ++ B
  lo : ∀ a ∈ A, bl a.p p = true
  hi : ∀ b ∈ B, bl p b.p = true
theorem nwhere (p : List UInt8) : ∀ ns : List Nd, NAsc ns → (∃ A n B, NThere ns A n B p) ∨ ∃ A B, NGap ns A B p
  | [], _ => .inr ⟨[], [], rfl, by simp, by simp⟩
  | x :: r, h => by
    obtain ⟨hx, hr⟩ := List.pairwise_cons.1 h
    cases h1 : bl x.p p with
    | true =>
      rcases nwhere p r hr with ⟨A, f, B, T⟩ | ⟨A, B, G⟩
      · exact .inl ⟨x :: A, f, B, by rw [T.eq]; rfl, T.nm, by simp [h1]; exact T.lo, T.hi⟩
      · exact .inr ⟨x :: A, B, by rw [G.eq]; rfl, by simp [h1]; exact G.lo, G.hi⟩
    | false =>
      cases h2 : bl p x.p with
      | true => exact .inr ⟨[], x :: r, rfl, by simp, by simp [h2]; exact fun b hb => bl_trans _ _ _ h2 (hx b hb)⟩
      | false =>
        have e := bl_total _ _ h1 h2
        exact .inl ⟨[], x, r, rfl, e, by simp, fun b hb => by rw [← e]; exact hx b hb⟩
def lookN (ns : List Nd) (p : List UInt8) : Option Nd := ns.find? fun n => decide (n.p = p)
theorem NThere.look {ns A B : List Nd} {n : Nd} {p : List UInt8} (T : NThere ns A n B p) : lookN ns p = some n := by
  rw [lookN, T.eq, List.find?_append, List.find?_eq_none.2 (fun a ha => by simp [bl_ne (T.lo a ha)])]
  simp [T.nm]
theorem NGap.no {ns A B : List Nd} {p : List UInt8} (G : NGap ns A B p) : ∀ n ∈ ns, n.p ≠ p := by
  intro n hn
  rw [G.eq] at hn
  rcases List.mem_append.1 hn with h | h
  · exact bl_ne (G.lo n h)
  · exact (bl_ne (G.hi n h)).symm
theorem NGap.look {ns A B : List Nd} {p : List UInt8} (G : NGap ns A B p) : lookN ns p = none := by
  rw [lookN, List.find?_eq_none]
  intro n hn
  simp [G.no n hn]
theorem lookN_some {ns : List Nd} {p : List UInt8} {n : Nd} (h : lookN ns p = some n) : n ∈ ns ∧ n.p = p := by
  refine ⟨List.mem_of_find?_eq_some h, ?_⟩
  have := List.find?_some h
  simpa using this
theorem look_mem {ns : List Nd} (h : NAsc ns) {n : Nd} (hn : n ∈ ns) : lookN ns n.p = some n := by
  rcases nwhere n.p ns h with ⟨A, m, B, T⟩ | ⟨A, B, G⟩
  · rw [T.look, nasc_uniq h (by rw [T.eq]; simp) hn T.nm]
  · exact absurd rfl (G.no n hn)
theorem there_of_look {ns : List Nd} (h : NAsc ns) {p : List UInt8} {n : Nd} (hn : lookN ns p = some n) : ∃ A B, NThere ns A n B p := by
  rcases nwhere p ns h with ⟨A, m, B, T⟩ | ⟨A, B, G⟩
  · rw [T.look] at hn; cases hn; exact ⟨A, B, T⟩
  · rw [G.look] at hn; cases hn
theorem gap_of_look {ns : List Nd} (h : NAsc ns) {p : List UInt8} (hn : lookN ns p = none) : ∃ A B, NGap ns A B p := by
  rcases nwhere p ns h with ⟨A, m, B, T⟩ | ⟨A, B, G⟩
  · rw [T.look] at hn; cases hn
  · exact ⟨A, B, G⟩

/- changes -/
def dropN (ns : List Nd) (p : List UInt8) : List Nd := ns.filter fun n => decide (n.p ≠ p)
def insN (ns : List Nd) (x : Nd) : List Nd := (ns.filter fun n => bl n.p x.p) ++ x :: (ns.filter fun n => bl x.p n.p)
def bump (z more : Int) (n : Nd) : Nd := ⟨n.p, n.d, n.c, n.m, z, n.v, n.k + 1, n.o, n.n + more⟩
def bumpAt (p : List UInt8) (z more : Int) (ns : List Nd) : List Nd := ns.map fun n => if n.p = p then bump z more n else n
def setAt (p d : List UInt8) (v z : Int) (ns : List Nd) : List Nd := ns.map fun n => if n.p = p then ⟨n.p, d, n.c, z, n.q, v, n.k, n.o, n.n⟩ else n
theorem filter_all {α : Type} (f : α → Bool) (l : List α) (h : ∀ x ∈ l, f x = true) : l.filter f = l := List.filter_eq_self.2 h
theorem filter_no {α : Type} (f : α → Bool) (l : List α) (h : ∀ x ∈ l, f x = false) : l.filter f = [] := List.filter_eq_nil_iff.2 (fun x hx => by simp [h x hx])
theorem map_same {α : Type} (f : α → α) (l : List α) (h : ∀ x ∈ l, f x = x) : l.map f = l := by
  induction l with
  | nil => rfl
  | cons x r ih => rw [List.map_cons, h x (by simp), ih (fun y hy => h y (by simp [hy]))]
theorem NThere.drop {ns A B : List Nd} {n : Nd} {p : List UInt8} (T : NThere ns A n B p) : dropN ns p = A ++ B := by
  rw [dropN, T.eq, List.filter_append, List.filter_cons, filter_all _ A (fun a ha => by simp [bl_ne (T.lo a ha)]), filter_all _ B (fun a ha => by simp [(bl_ne (T.hi a ha)).symm])]
  simp [T.nm]
theorem NGap.ins {ns A B : List Nd} {x : Nd} (G : NGap ns A B x.p) : insN ns x = A ++ x :: B := by
  rw [insN, G.eq, List.filter_append, List.filter_append, filter_all _ A (fun a ha => G.lo a ha), filter_no _ B (fun a ha => bl_asymm (G.hi a ha)), filter_no _ A (fun a ha => bl_asymm (G.lo a ha)), filter_all _ B (fun a ha => G.hi a ha)]
  simp
theorem NThere.mapAt {ns A B : List Nd} {n : Nd} {p : List UInt8} (T : NThere ns A n B p) (g : Nd → Nd) : (ns.map fun x => if x.p = p then g x else x) = A ++ g n :: B := by
  rw [T.eq, List.map_append, List.map_cons, map_same _ A (fun a ha => by simp [bl_ne (T.lo a ha)]), map_same _ B (fun a ha => by simp [(bl_ne (T.hi a ha)).symm])]
  simp [T.nm]
theorem NThere.bump {ns A B : List Nd} {n : Nd} {p : List UInt8} (T : NThere ns A n B p) (z more : Int) : bumpAt p z more ns = A ++ bump z more n :: B := T.mapAt _
theorem NThere.put {ns A B : List Nd} {n : Nd} {p : List UInt8} (T : NThere ns A n B p) (d : List UInt8) (v z : Int) : setAt p d v z ns = A ++ ⟨n.p, d, n.c, z, n.q, v, n.k, n.o, n.n⟩ :: B := T.mapAt _
theorem bump_p (p : List UInt8) (z more : Int) (n : Nd) : (if n.p = p then bump z more n else n).p = n.p := by split <;> rfl
theorem bumpAt_paths (p : List UInt8) (z more : Int) (ns : List Nd) : (bumpAt p z more ns).map Nd.p = ns.map Nd.p := by
  rw [bumpAt, List.map_map]
  apply List.map_congr_left
  intro n _
  exact bump_p p z more n
theorem nasc_paths (ns : List Nd) : NAsc ns ↔ (ns.map Nd.p).Pairwise fun a b => bl a b = true := by rw [List.pairwise_map]; rfl
theorem kidsN_paths (ns : List Nd) (p : List UInt8) : kidsN ns p = (ns.map Nd.p).countP fun x => decide (dirOf x = p) := by rw [List.countP_map]; rfl

/- a session -/
def insS (ss : List Int) (s : Int) : List Int := (ss.filter fun x => decide (x < s)) ++ s :: (ss.filter fun x => decide (s < x))
def dropS (ss : List Int) (s : Int) : List Int := ss.filter fun x => decide (x ≠ s)
structure SThere (ss A B : List Int) (s : Int) : Prop where
  eq : ss = A ++ s :: B
  lo : ∀ a ∈ A, a < s
  hi : ∀ b ∈ B, s < b
structure SGap (ss A B : List Int) (s : Int) : Prop where
  eq : ss = A ++ B
  lo : ∀ a ∈ A, a < s
  hi : ∀ b ∈ B, s < b
theorem swhere (s : Int) : ∀ ss : List Int, ss.Pairwise (· < ·) → (∃ A B, SThere ss A B s) ∨ ∃ A B, SGap ss A B s
  | [], _ => .inr ⟨[], [], rfl, by simp, by simp⟩
  | x :: r, h => by
    obtain ⟨hx, hr⟩ := List.pairwise_cons.1 h
    by_cases h1 : x < s
    · rcases swhere s r hr with ⟨A, B, T⟩ | ⟨A, B, G⟩
      · exact .inl ⟨x :: A, B, by rw [T.eq]; rfl, by simp [h1]; exact T.lo, T.hi⟩
      · exact .inr ⟨x :: A, B, by rw [G.eq]; rfl, by simp [h1]; exact G.lo, G.hi⟩
    · by_cases h2 : s < x
      · exact .inr ⟨[], x :: r, rfl, by simp, by simp [h2]; exact fun b hb => Int.lt_trans h2 (hx b hb)⟩
      · obtain rfl : x = s := by omega
        exact .inl ⟨[], r, rfl, by simp, hx⟩
theorem SThere.mem {ss A B : List Int} {s : Int} (T : SThere ss A B s) : s ∈ ss := by rw [T.eq]; simp
theorem SGap.not {ss A B : List Int} {s : Int} (G : SGap ss A B s) : s ∉ ss := by
  intro h
  rw [G.eq] at h
  rcases List.mem_append.1 h with h | h
  · exact absurd (G.lo s h) (by omega)
  · exact absurd (G.hi s h) (by omega)
theorem SGap.ins {ss A B : List Int} {s : Int} (G : SGap ss A B s) : insS ss s = A ++ s :: B := by
  rw [insS, G.eq, List.filter_append, List.filter_append, filter_all _ A (fun a ha => by simpa using G.lo a ha), filter_no _ B (fun a ha => by have := G.hi a ha; simp; omega), filter_no _ A (fun a ha => by have := G.lo a ha; simp; omega), filter_all _ B (fun a ha => by simpa using G.hi a ha)]
  simp
theorem SThere.drop {ss A B : List Int} {s : Int} (T : SThere ss A B s) : dropS ss s = A ++ B := by
  rw [dropS, T.eq, List.filter_append, List.filter_cons, filter_all _ A (fun a ha => by have := T.lo a ha; simp; omega), filter_all _ B (fun a ha => by have := T.hi a ha; simp; omega)]
  simp
theorem rising_len (M : Int) : ∀ (ss : List Int) (lo : Int), ss.Pairwise (· < ·) → (∀ s ∈ ss, lo < s ∧ s ≤ M) → lo ≤ M → (ss.length : Int) ≤ M - lo
  | [], lo, _, _, h => by simp; omega
  | x :: r, lo, hp, hb, _ => by
    obtain ⟨hx, hr⟩ := List.pairwise_cons.1 hp
    have h1 := hb x (by simp)
    have := rising_len M r x hr (fun s hs => ⟨hx s hs, (hb s (by simp [hs])).2⟩) h1.2
    simp; omega
theorem sasc_len {ss : List Int} (h : SAsc ss) : ss.length ≤ 2147483647 := by
  have := rising_len 2147483647 ss 0 h.1 (fun s hs => by have := h.2 s hs; omega) (by omega)
  omega
theorem sasc_ins {ss : List Int} {s : Int} (h : SAsc ss) (hs : 1 ≤ s ∧ s ≤ 2147483647) (hn : s ∉ ss) : SAsc (insS ss s) := by
  rcases swhere s ss h.1 with ⟨A, B, T⟩ | ⟨A, B, G⟩
  · exact absurd T.mem hn
  · rw [G.ins]
    have h1 := h.1
    have h2 := h.2
    rw [G.eq] at h1 h2
    rw [List.pairwise_append] at h1
    refine ⟨?_, ?_⟩
    · rw [List.pairwise_append, List.pairwise_cons]
      refine ⟨h1.1, ⟨G.hi, h1.2.1⟩, fun a ha b hb => ?_⟩
      rcases List.mem_cons.1 hb with rfl | hb
      · exact G.lo a ha
      · exact h1.2.2 a ha b hb
    · intro x hx
      rcases List.mem_append.1 hx with h | h
      · exact h2 x (by simp [h])
      · rcases List.mem_cons.1 h with rfl | h
        · exact hs
        · exact h2 x (by simp [h])
theorem sasc_drop {ss : List Int} (s : Int) (h : SAsc ss) : SAsc (dropS ss s) := ⟨h.1.filter _, fun x hx => h.2 x (List.mem_filter.1 hx).1⟩
theorem mem_insS {ss : List Int} {s x : Int} (hx : x ∈ ss) : x ∈ insS ss s := by
  rw [insS]
  by_cases h1 : x < s
  · exact List.mem_append_left _ (List.mem_filter.2 ⟨hx, by simpa using h1⟩)
  · by_cases h2 : s < x
    · exact List.mem_append_right _ (List.mem_cons_of_mem _ (List.mem_filter.2 ⟨hx, by simpa using h2⟩))
    · obtain rfl : x = s := by omega
      exact List.mem_append_right _ (by simp)

end Go.Proofs.YtalnmhgedfgooaaGreatDoor

namespace Go.Proofs.YtalnmhgedfgooaaGreatDoor
open Go.RowKit

def fcells (f : DF) : List Value := [.string ⟨f.n.toArray⟩, .string ⟨f.s.toArray⟩, .string ⟨f.t.toArray⟩]
/-- a file as a value -/
def fileV (f : DF) : Value := .agg #[.string ⟨f.n.toArray⟩, .string ⟨f.s.toArray⟩, .string ⟨f.t.toArray⟩]
def cellsF : List DF → List Value
  | [] => []
  | f :: r => fcells f ++ cellsF r
theorem cellsF_length : ∀ fs : List DF, (cellsF fs).length = fs.length * 3
  | [] => rfl
  | f :: r => by rw [cellsF, List.length_append, cellsF_length r]; simp [fcells]; omega
theorem cellsF_append : ∀ a b : List DF, cellsF (a ++ b) = cellsF a ++ cellsF b
  | [], _ => rfl
  | f :: r, b => by rw [List.cons_append, cellsF, cellsF, cellsF_append r b, List.append_assoc]
theorem cellsF_get : ∀ (fs : List DF) (i : Nat) (f : DF), fs[i]? = some f → ∀ c, c < 3 → (cellsF fs)[i * 3 + c]? = (fcells f)[c]?
  | [], i, f, h, _, _ => by simp at h
  | x :: r, 0, f, h, c, hc => by
    simp at h
    subst h
    rw [cellsF, List.getElem?_append_left (by simp [fcells]; omega)]
    simp
  | x :: r, i + 1, f, h, c, hc => by
    rw [cellsF, List.getElem?_append_right (by simp [fcells]; omega), ← cellsF_get r i f (by simpa using h) c hc]
    congr 1
    simp [fcells]; omega
theorem cellsF_one (fs : List DF) : ∀ u ∈ cellsF fs, u.oneCell' = true := by
  induction fs with
  | nil => simp [cellsF]
  | cons f r ih =>
    intro u hu
    rcases List.mem_append.1 hu with h | h
    · simp [fcells] at h
      rcases h with rfl | rfl | rfl <;> rfl
    · exact ih u h
theorem cellsF_set : ∀ (fs : List DF) (i : Nat) (f g : DF), fs[i]? = some f → ∀ c v, c < 3 → (fcells g) = (fcells f).set c v → (cellsF fs).set (i * 3 + c) v = cellsF (fs.set i g)
  | [], i, f, g, h, _, _, _, _ => by simp at h
  | x :: r, 0, f, g, h, c, v, hc, hg => by
    simp at h
    subst h
    rw [cellsF, List.set_cons_zero, cellsF, hg, List.set_append_left _ _ (by simp [fcells]; omega)]
    simp
  | x :: r, i + 1, f, g, h, c, v, hc, hg => by
    rw [cellsF, List.set_cons_succ, cellsF, List.set_append_right _ _ (by simp [fcells]; omega), ← cellsF_set r i f g (by simpa using h) c v hc hg]
    congr 2
    simp [fcells]; omega

def RowAt (w : World) (b off : Nat) (cs : List Value) : Prop := ∀ j v, cs[j]? = some v → w.cell? ⟨b, off + j, none⟩ = some v
theorem RowAt.c0 {w : World} {b off : Nat} {fs : List DF} (h : RowAt w b off (cellsF fs)) {i : Nat} {f : DF} (hi : fs[i]? = some f) : w.cell? ⟨b, off + i * 3, none⟩ = some (.string ⟨f.n.toArray⟩) :=
  h (i * 3) _ (by have := cellsF_get fs i f hi 0 (by omega); simpa [fcells] using this)
theorem RowAt.c1 {w : World} {b off : Nat} {fs : List DF} (h : RowAt w b off (cellsF fs)) {i : Nat} {f : DF} (hi : fs[i]? = some f) : w.cell? ⟨b, off + i * 3 + 1, none⟩ = some (.string ⟨f.s.toArray⟩) := by
  rw [Nat.add_assoc]; exact h (i * 3 + 1) _ (by have := cellsF_get fs i f hi 1 (by omega); simpa [fcells] using this)
theorem RowAt.c2 {w : World} {b off : Nat} {fs : List DF} (h : RowAt w b off (cellsF fs)) {i : Nat} {f : DF} (hi : fs[i]? = some f) : w.cell? ⟨b, off + i * 3 + 2, none⟩ = some (.string ⟨f.t.toArray⟩) := by
  rw [Nat.add_assoc]; exact h (i * 3 + 2) _ (by have := cellsF_get fs i f hi 2 (by omega); simpa [fcells] using this)
theorem RowAt.kept {w w' : World} {b off B : Nat} {cs : List Value} (h : RowAt w b off cs) (hb : Below B w w') (hB : b < B) : RowAt w' b off cs :=
  fun j v hj => by rw [hb.cell (p := ⟨b, off + j, none⟩) hB]; exact h j v hj

/-- the value of a disk's one field holds these files -/
def DiskV (w : World) (v : Value) (fs : List DF) : Prop :=
  (∃ a cap, v = .slice a 0 cap ∧ fs = [] ∧ cap ≤ maxLen) ∨
  ∃ b off cap, v = .slice (some ⟨b, off, none⟩) fs.length cap ∧ fs.length ≤ cap ∧ cap ≤ maxLen ∧ b < w.heap.size ∧ fs ≠ [] ∧ RowAt w b off (cellsF fs)
theorem DiskV.kept {w w' : World} {B : Nat} {v : Value} {fs : List DF} (h : DiskV w v fs) (hb : Below B w w') (hB : w.heap.size ≤ B) : DiskV w' v fs := by
  rcases h with h | ⟨b, off, cap, rfl, h1, h2, h3, h0, h4⟩
  · exact .inl h
  · exact .inr ⟨b, off, cap, rfl, h1, h2, Nat.lt_of_lt_of_le h3 hb.size, h0, h4.kept hb (Nat.lt_of_lt_of_le h3 hB)⟩
theorem DiskV.next {w w' : World} {v : Value} {fs : List DF} (h : DiskV w v fs) (hb : Below w.heap.size w w') : DiskV w' v fs := h.kept hb (Nat.le_refl _)
theorem DiskV.alloc {w : World} {v : Value} {fs : List DF} (h : DiskV w v fs) (o : Obj) : DiskV (w.alloc o) v fs := h.next ((Below.refl _ _).alloc (Nat.le_refl _) o)
theorem DiskV.drew {w : World} {v : Value} {fs : List DF} (h : DiskV w v fs) : DiskV w.drew v fs := h.next (Below.refl _ _).drew
theorem DiskV.nil (w : World) : DiskV w (.slice none 0 0) [] := .inl ⟨none, 0, rfl, rfl, by decide⟩

theorem block_set {w : World} {g j : Nat} {cur : Array Value} {t : TypeId} {fz : Nat × Nat} (v : Value) (h : w.heap[g]? = some (.cells cur t fz)) :
    (w.setCell ⟨g, j, none⟩ v).heap[g]? = some (.cells (cur.setIfInBounds j v) t fz) := by
  obtain ⟨hlt, hk⟩ := Array.getElem?_eq_some_iff.1 h
  show (w.heap.modify g _)[g]? = _
  rw [Array.getElem?_eq_getElem (by rw [Array.size_modify]; exact hlt), Array.getElem_modify_self, hk]
  rfl
end Go.Proofs.YtalnmhgedfgooaaGreatDoor

namespace Go.Proofs.YtalnmhgedfgooaaGreatDoor
open Go.RowKit

def tcells (t : WTxn) : List Value := [.int .i64 t.z, .int .i64 t.o, .int .i64 t.s, .string ⟨t.p.toArray⟩, .string ⟨t.d.toArray⟩, .int .i64 t.v, .int .i64 t.w]
def cellsT : List WTxn → List Value
  | [] => []
  | t :: r => tcells t ++ cellsT r
theorem cellsT_length : ∀ ts : List WTxn, (cellsT ts).length = ts.length * 7
  | [] => rfl
  | t :: r => by rw [cellsT, List.length_append, cellsT_length r]; simp [tcells]; omega
theorem cellsT_append : ∀ a b : List WTxn, cellsT (a ++ b) = cellsT a ++ cellsT b
  | [], _ => rfl
  | t :: r, b => by rw [List.cons_append, cellsT, cellsT, cellsT_append r b, List.append_assoc]
theorem cellsT_snoc (a : List WTxn) (t : WTxn) : cellsT (a ++ [t]) = cellsT a ++ tcells t := by rw [cellsT_append, cellsT, cellsT, List.append_nil]
theorem cellsT_get : ∀ (ts : List WTxn) (i : Nat) (t : WTxn), ts[i]? = some t → ∀ c, c < 7 → (cellsT ts)[i * 7 + c]? = (tcells t)[c]?
  | [], i, t, h, _, _ => by simp at h
  | x :: r, 0, t, h, c, hc => by
    simp at h
    subst h
    rw [cellsT, List.getElem?_append_left (by simp [tcells]; omega)]
    simp
  | x :: r, i + 1, t, h, c, hc => by
    rw [cellsT, List.getElem?_append_right (by simp [tcells]; omega), ← cellsT_get r i t (by simpa using h) c hc]
    congr 1
    simp [tcells]; omega
theorem tcells_one (t : WTxn) : ∀ u ∈ tcells t, u.oneCell' = true := by
  intro u hu
  simp [tcells] at hu
  rcases hu with rfl | rfl | rfl | rfl | rfl | rfl | rfl <;> rfl

theorem RowAt.z {w : World} {b off : Nat} {ts : List WTxn} (h : RowAt w b off (cellsT ts)) {i : Nat} {t : WTxn} (hi : ts[i]? = some t) : w.cell? ⟨b, off + i * 7, none⟩ = some (.int .i64 t.z) :=
  h (i * 7) _ (by have := cellsT_get ts i t hi 0 (by omega); simpa [tcells] using this)
theorem RowAt.o {w : World} {b off : Nat} {ts : List WTxn} (h : RowAt w b off (cellsT ts)) {i : Nat} {t : WTxn} (hi : ts[i]? = some t) : w.cell? ⟨b, off + i * 7 + 1, none⟩ = some (.int .i64 t.o) := by
  rw [Nat.add_assoc]; exact h (i * 7 + 1) _ (by have := cellsT_get ts i t hi 1 (by omega); simpa [tcells] using this)
theorem RowAt.s {w : World} {b off : Nat} {ts : List WTxn} (h : RowAt w b off (cellsT ts)) {i : Nat} {t : WTxn} (hi : ts[i]? = some t) : w.cell? ⟨b, off + i * 7 + 2, none⟩ = some (.int .i64 t.s) := by
  rw [Nat.add_assoc]; exact h (i * 7 + 2) _ (by have := cellsT_get ts i t hi 2 (by omega); simpa [tcells] using this)
theorem RowAt.p {w : World} {b off : Nat} {ts : List WTxn} (h : RowAt w b off (cellsT ts)) {i : Nat} {t : WTxn} (hi : ts[i]? = some t) : w.cell? ⟨b, off + i * 7 + 3, none⟩ = some (.string ⟨t.p.toArray⟩) := by
  rw [Nat.add_assoc]; exact h (i * 7 + 3) _ (by have := cellsT_get ts i t hi 3 (by omega); simpa [tcells] using this)
theorem RowAt.d {w : World} {b off : Nat} {ts : List WTxn} (h : RowAt w b off (cellsT ts)) {i : Nat} {t : WTxn} (hi : ts[i]? = some t) : w.cell? ⟨b, off + i * 7 + 4, none⟩ = some (.string ⟨t.d.toArray⟩) := by
  rw [Nat.add_assoc]; exact h (i * 7 + 4) _ (by have := cellsT_get ts i t hi 4 (by omega); simpa [tcells] using this)
theorem RowAt.v {w : World} {b off : Nat} {ts : List WTxn} (h : RowAt w b off (cellsT ts)) {i : Nat} {t : WTxn} (hi : ts[i]? = some t) : w.cell? ⟨b, off + i * 7 + 5, none⟩ = some (.int .i64 t.v) := by
  rw [Nat.add_assoc]; exact h (i * 7 + 5) _ (by have := cellsT_get ts i t hi 5 (by omega); simpa [tcells] using this)
theorem RowAt.w {w : World} {b off : Nat} {ts : List WTxn} (h : RowAt w b off (cellsT ts)) {i : Nat} {t : WTxn} (hi : ts[i]? = some t) : w.cell? ⟨b, off + i * 7 + 6, none⟩ = some (.int .i64 t.w) := by
  rw [Nat.add_assoc]; exact h (i * 7 + 6) _ (by have := cellsT_get ts i t hi 6 (by omega); simpa [tcells] using this)

/-- the value holds these transactions -/
def LogV (w : World) (v : Value) (ts : List WTxn) : Prop :=
  (∃ a cap, v = .slice a 0 cap ∧ ts = [] ∧ cap ≤ maxLen) ∨
  ∃ b off cap, v = .slice (some ⟨b, off, none⟩) ts.length cap ∧ ts.length ≤ cap ∧ cap ≤ maxLen ∧ b < w.heap.size ∧ ts ≠ [] ∧ RowAt w b off (cellsT ts)
theorem LogV.kept {w w' : World} {B : Nat} {v : Value} {ts : List WTxn} (h : LogV w v ts) (hb : Below B w w') (hB : w.heap.size ≤ B) : LogV w' v ts := by
  rcases h with h | ⟨b, off, cap, rfl, h1, h2, h3, h0, h4⟩
  · exact .inl h
  · exact .inr ⟨b, off, cap, rfl, h1, h2, Nat.lt_of_lt_of_le h3 hb.size, h0, h4.kept hb (Nat.lt_of_lt_of_le h3 hB)⟩
theorem LogV.next {w w' : World} {v : Value} {ts : List WTxn} (h : LogV w v ts) (hb : Below w.heap.size w w') : LogV w' v ts := h.kept hb (Nat.le_refl _)
theorem LogV.alloc {w : World} {v : Value} {ts : List WTxn} (h : LogV w v ts) (o : Obj) : LogV (w.alloc o) v ts := h.next ((Below.refl _ _).alloc (Nat.le_refl _) o)
theorem LogV.drew {w : World} {v : Value} {ts : List WTxn} (h : LogV w v ts) : LogV w.drew v ts := h.next (Below.refl _ _).drew
theorem LogV.nil (w : World) : LogV w (.slice none 0 0) [] := .inl ⟨none, 0, rfl, rfl, by decide⟩
theorem log_slice {w : World} {v : Value} {ts : List WTxn} (hv : LogV w v ts) : ∃ a c, v = .slice a ts.length c := by
  rcases hv with ⟨a, cap, rfl, rfl, _⟩ | ⟨b, off, cap, rfl, _⟩
  · exact ⟨_, _, rfl⟩
  · exact ⟨_, _, rfl⟩
theorem log_row {w : World} {v : Value} {ts : List WTxn} (hv : LogV w v ts) {i : Nat} {t : WTxn} (hi : ts[i]? = some t) :
    ∃ b off cap, v = .slice (some ⟨b, off, none⟩) ts.length cap ∧ b < w.heap.size ∧ RowAt w b off (cellsT ts) ∧ i < ts.length ∧ ts.length ≤ cap ∧ cap ≤ maxLen := by
  have hlt := (List.getElem?_eq_some_iff.1 hi).1
  rcases hv with ⟨a, cap, rfl, rfl, _⟩ | ⟨b, off, cap, rfl, h1, h2, hb, _, hr⟩
  · simp at hi
  · exact ⟨b, off, cap, rfl, hb, hr, hlt, h1, h2⟩
/-- without its last -/
theorem LogV.front {w : World} {m : List WTxn} {t : WTxn} {b off cap : Nat} (h : LogV w (.slice (some ⟨b, off, none⟩) (m.length + 1) cap) (m ++ [t])) : LogV w (.slice (some ⟨b, off, none⟩) m.length cap) m := by
  rcases h with ⟨a, c, _, h, _⟩ | ⟨b', off', cap', he, h1, h2, hb, _, hr⟩
  · simp at h
  · simp only [Value.slice.injEq, Option.some.injEq, Addr.mk.injEq, and_true] at he
    obtain ⟨⟨rfl, rfl⟩, _, rfl⟩ := he
    by_cases h0 : m = []
    · subst h0; exact .inl ⟨_, _, rfl, rfl, h2⟩
    · refine .inr ⟨b, off, cap, rfl, by simp at h1; omega, h2, hb, h0, fun j v hj => hr j v ?_⟩
      rw [cellsT_append, List.getElem?_append_left (List.getElem?_eq_some_iff.1 hj).1]
      exact hj

/-- a value that holds these in a row of the call's own, at or behind block B -/
def OwnL (W : World) (B : Nat) (v : Value) (ts : List WTxn) : Prop := W.ownsRow B 29 7 v ts.length (cellsT ts)
theorem OwnL.nil (W : World) (B : Nat) : OwnL W B (.slice none 0 0) [] := ⟨rfl, .inl ⟨rfl, rfl⟩⟩
theorem OwnL.log {W : World} {B : Nat} {v : Value} {ts : List WTxn} (h : OwnL W B v ts) : LogV W v ts := by
  obtain ⟨hl, ⟨rfl, h0⟩ | ⟨g, cap, cur, rfl, hB, hg, hn, hm, hs, ht⟩⟩ := h
  · rw [List.eq_nil_of_length_eq_zero h0]; exact LogV.nil W
  · by_cases h0 : ts = []
    · subst h0; exact .inl ⟨_, cap, rfl, rfl, hm⟩
    · refine .inr ⟨g, 0, cap, rfl, hn, hm, (Array.getElem?_eq_some_iff.1 hg).1, h0, fun j v hj => ?_⟩
      have hlt : j < (cellsT ts).length := (List.getElem?_eq_some_iff.1 hj).1
      have : cur[j]? = some v := by
        rw [← ht, List.getElem?_take_of_lt (by rw [hl] at hlt; exact hlt)] at hj
        simpa using hj
      simp [World.cell?, hg, this]
theorem OwnL.next {W V : World} {B : Nat} {v : Value} {ts : List WTxn} (h : OwnL W B v ts) (hb : Below W.heap.size W V) : OwnL V B v ts := by
  obtain ⟨hl, h | ⟨g, cap, cur, e, hB, hg, hr⟩⟩ := h
  · exact ⟨hl, .inl h⟩
  · exact ⟨hl, .inr ⟨g, cap, cur, e, hB, (hb.block _ (Array.getElem?_eq_some_iff.1 hg).1).trans hg, hr⟩⟩
theorem OwnL.mono {W : World} {B C : Nat} {v : Value} {ts : List WTxn} (h : OwnL W B v ts) (hC : C ≤ B) : OwnL W C v ts := by
  obtain ⟨hl, h | ⟨g, cap, cur, e, hB, hr⟩⟩ := h
  · exact ⟨hl, .inl h⟩
  · exact ⟨hl, .inr ⟨g, cap, cur, e, Nat.le_trans hC hB, hr⟩⟩
theorem ownl_slice {W : World} {B : Nat} {v : Value} {ts : List WTxn} (h : OwnL W B v ts) : ∃ a c, v = .slice a ts.length c := log_slice h.log
theorem ownl_block {W : World} {B : Nat} {v : Value} {ts : List WTxn} (h : OwnL W B v ts) : ∀ k, v.ownBlock = some k → B ≤ k ∧ k < W.heap.size := World.ownsRow.lt h
theorem OwnL.more {W : World} {B : Nat} {v : Value} {ts : List WTxn} {t : WTxn} (h : W.ownsRow B 29 7 v (ts.length + 1) (cellsT ts ++ tcells t)) : OwnL W B v (ts ++ [t]) := by
  unfold OwnL
  rw [cellsT_snoc, List.length_append]
  exact h

/-- block g holds one transaction -/
def TAt (W : World) (g : Nat) (t : WTxn) : Prop := W.heap[g]? = some (.cells #[.int .i64 t.z, .int .i64 t.o, .int .i64 t.s, .string ⟨t.p.toArray⟩, .string ⟨t.d.toArray⟩, .int .i64 t.v, .int .i64 t.w] 29 (0, 0))
theorem TAt.new (W : World) (t : WTxn) : TAt (W.alloc (.cells #[.int .i64 t.z, .int .i64 t.o, .int .i64 t.s, .string ⟨t.p.toArray⟩, .string ⟨t.d.toArray⟩, .int .i64 t.v, .int .i64 t.w] 29)) W.heap.size t := heap_alloc_new W _
theorem TAt.next {W V : World} {g : Nat} {t : WTxn} (h : TAt W g t) (hb : Below W.heap.size W V) : TAt V g t := (hb.block g (by unfold TAt at h; exact (Array.getElem?_eq_some_iff.1 h).1)).trans h
theorem TAt.lt {W : World} {g : Nat} {t : WTxn} (h : TAt W g t) : g < W.heap.size := by unfold TAt at h; exact (Array.getElem?_eq_some_iff.1 h).1
theorem TAt.c0 {W : World} {g : Nat} {t : WTxn} (h : TAt W g t) : W.cell? ⟨g, 0, none⟩ = some (.int .i64 t.z) := by unfold TAt at h; simp [World.cell?, h]
theorem TAt.c1 {W : World} {g : Nat} {t : WTxn} (h : TAt W g t) : W.cell? ⟨g, 1, none⟩ = some (.int .i64 t.o) := by unfold TAt at h; simp [World.cell?, h]
theorem TAt.c2 {W : World} {g : Nat} {t : WTxn} (h : TAt W g t) : W.cell? ⟨g, 2, none⟩ = some (.int .i64 t.s) := by unfold TAt at h; simp [World.cell?, h]
theorem TAt.c3 {W : World} {g : Nat} {t : WTxn} (h : TAt W g t) : W.cell? ⟨g, 3, none⟩ = some (.string ⟨t.p.toArray⟩) := by unfold TAt at h; simp [World.cell?, h]
theorem TAt.c4 {W : World} {g : Nat} {t : WTxn} (h : TAt W g t) : W.cell? ⟨g, 4, none⟩ = some (.string ⟨t.d.toArray⟩) := by unfold TAt at h; simp [World.cell?, h]
theorem TAt.c5 {W : World} {g : Nat} {t : WTxn} (h : TAt W g t) : W.cell? ⟨g, 5, none⟩ = some (.int .i64 t.v) := by unfold TAt at h; simp [World.cell?, h]
theorem TAt.c6 {W : World} {g : Nat} {t : WTxn} (h : TAt W g t) : W.cell? ⟨g, 6, none⟩ = some (.int .i64 t.w) := by unfold TAt at h; simp [World.cell?, h]
theorem TAt.f {W : World} {g : Nat} {t : WTxn} (h : TAt W g t) (j : Nat) : W.frozen? ⟨g, j, none⟩ = false := by unfold TAt at h; simp [World.frozen?, h]
theorem info_txn0 : (Tryz.prog.info? 29).map (fun i => (i.zero, i.size, i.bytes)) = some (some (txnV t0), 7, 72) := by kernel_rfl
theorem info_txn : ∃ i0, Tryz.prog.info? 29 = some i0 ∧ i0.zero = some (txnV t0) ∧ i0.size = 7 ∧ i0.bytes = 72 := by
  obtain ⟨i0, h, e⟩ := Option.map_eq_some_iff.1 info_txn0
  simp only [Prod.mk.injEq] at e
  exact ⟨i0, h, e.1, e.2.1, e.2.2⟩
end Go.Proofs.YtalnmhgedfgooaaGreatDoor

namespace Go.Proofs.YtalnmhgedfgooaaGreatDoor
open Go.ChangeShapes Go.WideShapes Go.ChangeAt Go.RowKit Go.ChangeMaps

def txnD {H : Type} (t : WTxn) : DataW H := .agg [.lit (.int .i64 t.z), .lit (.int .i64 t.o), .lit (.int .i64 t.s), .lit (.string t.p), .lit (.string t.d), .lit (.int .i64 t.v), .lit (.int .i64 t.w)]
structure TxnOk (t : WTxn) : Prop where
  z : (Lit.int .i64 t.z).wf = true
  o : (Lit.int .i64 t.o).wf = true
  s : (Lit.int .i64 t.s).wf = true
  p : (ByteArray.mk t.p.toArray).size ≤ maxLen
  d : (ByteArray.mk t.d.toArray).size ≤ maxLen
  v : (Lit.int .i64 t.v).wf = true
  w : (Lit.int .i64 t.w).wf = true

theorem cellsInt : Tryz.prog.cellsOf 3 = 1 := by kernel_rfl
theorem cellsStr : Tryz.prog.cellsOf 9 = 1 := by kernel_rfl
theorem cellsTxn : Tryz.prog.cellsOf 29 = 7 := by kernel_rfl
theorem ba_of (s : ByteArray) : ∃ l : List UInt8, s = ⟨l.toArray⟩ := ⟨s.data.toList, rfl⟩

set_option maxRecDepth 10000 in
theorem open_txn {H : Type} {enc : TypeId × Value → H} {W : World} {base : Nat} {spare : Nat → Bool} {held : Bool} {r : Reach} {b0 : Nat} {v : Value} {d : DataW H} {p : List MemPlace}
    (hv : Value.okWide Tryz.prog W r b0 29 v) (h : DataW.Trod enc Tryz.prog W base spare held 29 v d p) :
    ∃ t : WTxn, v = txnV t ∧ d = txnD t ∧ p = [] ∧ TxnOk t := by
  obtain ⟨cs, rfl, hsz⟩ := okWide_struct Tryz.underlying29 hv
  have hsz7 : cs.size = 7 := hsz.trans cellsTxn
  obtain ⟨l⟩ := cs
  match l, hsz7 with
  | [c0, c1, c2, c3, c4, c5, c6], _ =>
    obtain ⟨fuel, hf⟩ := h
    obtain ⟨xs, n, _, hx, _, hlen, hfs⟩ := DataW.trod_struct Tryz.underlying29 hf
    match xs, hlen with
    | [y0, y1, y2, y3, y4, y5, y6], _ =>
      obtain ⟨z, e0, rfl, w0⟩ := DataW.trod_int Tryz.underlying3 (show DataW.trod enc Tryz.prog W base spare held n 3 [c0] = some y0 by simpa [Value.cells, cellsInt] using hfs 0 _ rfl)
      obtain ⟨o, e1, rfl, w1⟩ := DataW.trod_int Tryz.underlying3 (show DataW.trod enc Tryz.prog W base spare held n 3 [c1] = some y1 by simpa [Value.cells, cellsInt] using hfs 1 _ rfl)
      obtain ⟨s, e2, rfl, w2⟩ := DataW.trod_int Tryz.underlying3 (show DataW.trod enc Tryz.prog W base spare held n 3 [c2] = some y2 by simpa [Value.cells, cellsInt] using hfs 2 _ rfl)
      obtain ⟨p', e3, rfl, w3⟩ := DataW.trod_string Tryz.underlying9 (show DataW.trod enc Tryz.prog W base spare held n 9 [c3] = some y3 by simpa [Value.cells, cellsStr] using hfs 3 _ rfl)
      obtain ⟨d', e4, rfl, w4⟩ := DataW.trod_string Tryz.underlying9 (show DataW.trod enc Tryz.prog W base spare held n 9 [c4] = some y4 by simpa [Value.cells, cellsStr] using hfs 4 _ rfl)
      obtain ⟨v', e5, rfl, w5⟩ := DataW.trod_int Tryz.underlying3 (show DataW.trod enc Tryz.prog W base spare held n 3 [c5] = some y5 by simpa [Value.cells, cellsInt] using hfs 5 _ rfl)
      obtain ⟨u', e6, rfl, w6⟩ := DataW.trod_int Tryz.underlying3 (show DataW.trod enc Tryz.prog W base spare held n 3 [c6] = some y6 by simpa [Value.cells, cellsInt] using hfs 6 _ rfl)
      simp only [List.cons.injEq, and_true] at e0 e1 e2 e3 e4 e5 e6
      subst e0 e1 e2 e3 e4 e5 e6
      obtain ⟨pl, rfl⟩ := ba_of p'
      obtain ⟨dl, rfl⟩ := ba_of d'
      simp only [Prod.mk.injEq] at hx
      exact ⟨⟨z, o, s, pl, dl, v', u'⟩, rfl, hx.1, hx.2, ⟨w0, w1, w2, w3, w4, w5, w6⟩⟩

theorem shut_txn {H : Type} {enc : TypeId × Value → H} {W : World} {base : Nat} {spare : Nat → Bool} {held : Bool} {t : WTxn} (h : TxnOk t) :
    DataW.Trod enc Tryz.prog W base spare held 29 (txnV t) (txnD t) [] := by
  have i : ∀ x : Int, (Lit.int .i64 x).wf = true → DataW.trod enc Tryz.prog W base spare held 1 3 [.int .i64 x] = some (.lit (.int .i64 x), []) := fun x hx => by simp [DataW.trod, Tryz.underlying3, hx]
  have g : ∀ l : List UInt8, (ByteArray.mk l.toArray).size ≤ maxLen → DataW.trod enc Tryz.prog W base spare held 1 9 [.string ⟨l.toArray⟩] = some (.lit (.string l), []) := fun l hl => by simp [DataW.trod, Tryz.underlying9, hl]
  have := trod_struct_mk (enc := enc) (w := W) (base := base) (spare := spare) (held := held) (n := 1) (cs := [.int .i64 t.z, .int .i64 t.o, .int .i64 t.s, .string ⟨t.p.toArray⟩, .string ⟨t.d.toArray⟩, .int .i64 t.v, .int .i64 t.w])
    (xs := [(.lit (.int .i64 t.z), []), (.lit (.int .i64 t.o), []), (.lit (.int .i64 t.s), []), (.lit (.string t.p), []), (.lit (.string t.d), []), (.lit (.int .i64 t.v), []), (.lit (.int .i64 t.w), [])])
    Tryz.underlying29 cellsTxn.symm (by simp [cellsInt, cellsStr, i _ h.z, i _ h.o, i _ h.s, g _ h.p, g _ h.d, i _ h.v, i _ h.w])
  exact ⟨2, by simpa [Value.cells, txnV, txnD] using this⟩

theorem sized_txn {H : Type} {ts : List TypeId} {ds : List (DataW H)} (h : (DataW.weightsEach Tryz.prog ts ds).all (· ≤ reachBytes) = true) {j : Nat} {t : WTxn} (ht : ts[j]? = some 29) (hd : ds[j]? = some (txnD t)) : t.p.length ≤ 140737488351232 ∧ t.d.length ≤ 140737488351232 := by
  have e : reachBytes = 140737488351232 := by decide
  have h1 := List.all_eq_true.1 h _ (DataW.weights_mem_each ht hd t.p.length (by simp [DataW.weights, txnD, Tryz.underlying29, DataW.weightsEach]))
  have h2 := List.all_eq_true.1 h _ (DataW.weights_mem_each ht hd t.d.length (by simp [DataW.weights, txnD, Tryz.underlying29, DataW.weightsEach]))
  rw [e] at h1 h2
  exact ⟨by simpa using h1, by simpa using h2⟩

end Go.Proofs.YtalnmhgedfgooaaGreatDoor

namespace Go.Proofs.YtalnmhgedfgooaaGreatDoor
open Go.RowKit

/-- how one element lies -/
class Lay (α : Type) where
  k : Nat
  cs : α → List Value
  ty : TypeId
  len : ∀ x, (cs x).length = k
  one : ∀ x, ∀ u ∈ cs x, u.oneCell' = true
def ecells (e : Ev) : List Value := [.int .i64 e.k, .string ⟨e.p.toArray⟩]
def evV (e : Ev) : Value := .agg #[.int .i64 e.k, .string ⟨e.p.toArray⟩]
instance layE : Lay Ev := ⟨2, ecells, 91, fun _ => rfl, fun x u hu => by simp [ecells] at hu; rcases hu with rfl | rfl <;> rfl⟩
instance layI : Lay Int := ⟨1, fun x => [.int .i64 x], 3, fun _ => rfl, fun x u hu => by simp at hu; subst hu; rfl⟩
instance layS : Lay (List UInt8) := ⟨1, fun x => [.string ⟨x.toArray⟩], 9, fun _ => rfl, fun x u hu => by simp at hu; subst hu; rfl⟩


section
variable {α : Type} [Lay α]
def cellsL (xs : List α) : List Value := xs.flatMap Lay.cs
theorem cellsL_nil : cellsL ([] : List α) = [] := rfl
theorem cellsL_cons (x : α) (r : List α) : cellsL (x :: r) = Lay.cs x ++ cellsL r := by simp [cellsL]
theorem cellsL_length (xs : List α) : (cellsL xs).length = xs.length * Lay.k α := by
  induction xs with
  | nil => simp [cellsL]
  | cons x r ih => rw [cellsL_cons, List.length_append, Lay.len, ih, List.length_cons, Nat.add_mul]; omega
theorem cellsL_append (a b : List α) : cellsL (a ++ b) = cellsL a ++ cellsL b := by simp [cellsL]
theorem cellsL_snoc (a : List α) (x : α) : cellsL (a ++ [x]) = cellsL a ++ Lay.cs x := by simp [cellsL]
theorem cellsL_at (A : List α) (x : α) (B : List α) (c : Nat) (hc : c < Lay.k α) : (cellsL (A ++ x :: B))[A.length * Lay.k α + c]? = (Lay.cs x)[c]? := by
  rw [cellsL_append, List.getElem?_append_right (by rw [cellsL_length]; omega), cellsL_length, Nat.add_sub_cancel_left, cellsL_cons, List.getElem?_append_left (by rw [Lay.len]; exact hc)]
theorem cellsL_get (xs : List α) (i : Nat) (x : α) (h : xs[i]? = some x) (c : Nat) (hc : c < Lay.k α) : (cellsL xs)[i * Lay.k α + c]? = (Lay.cs x)[c]? := by
  obtain ⟨hi, rfl⟩ := List.getElem?_eq_some_iff.1 h
  have e : xs = xs.take i ++ xs[i] :: xs.drop (i + 1) := by simp
  have := cellsL_at (xs.take i) xs[i] (xs.drop (i + 1)) c hc
  rw [← e, List.length_take, Nat.min_eq_left (Nat.le_of_lt hi)] at this
  exact this
theorem cellsL_one (xs : List α) : ∀ u ∈ cellsL xs, u.oneCell' = true := by
  intro u hu
  obtain ⟨x, _, hx⟩ := List.mem_flatMap.1 hu
  exact Lay.one x u hx
theorem cellsL_set (A : List α) (x y : α) (B : List α) (c : Nat) (v : Value) (hc : c < Lay.k α) (hy : Lay.cs y = (Lay.cs x).set c v) : (cellsL (A ++ x :: B)).set (A.length * Lay.k α + c) v = cellsL (A ++ y :: B) := by
  rw [cellsL_append, cellsL_append, List.set_append_right _ _ (by rw [cellsL_length]; omega), cellsL_length, Nat.add_sub_cancel_left, cellsL_cons, cellsL_cons, List.set_append_left _ _ (by rw [Lay.len]; exact hc), hy]

/-- the value holds these -/
def SeqV (w : World) (v : Value) (xs : List α) : Prop :=
  (∃ a cap, v = .slice a 0 cap ∧ xs = [] ∧ cap ≤ maxLen) ∨
  ∃ b off cap, v = .slice (some ⟨b, off, none⟩) xs.length cap ∧ xs.length ≤ cap ∧ cap ≤ maxLen ∧ b < w.heap.size ∧ xs ≠ [] ∧ RowAt w b off (cellsL xs)
theorem SeqV.kept {w w' : World} {B : Nat} {v : Value} {xs : List α} (h : SeqV w v xs) (hb : Below B w w') (hB : w.heap.size ≤ B) : SeqV w' v xs := by
  rcases h with h | ⟨b, off, cap, rfl, h1, h2, h3, h0, h4⟩
  · exact .inl h
  · exact .inr ⟨b, off, cap, rfl, h1, h2, Nat.lt_of_lt_of_le h3 hb.size, h0, h4.kept hb (Nat.lt_of_lt_of_le h3 hB)⟩
theorem SeqV.next {w w' : World} {v : Value} {xs : List α} (h : SeqV w v xs) (hb : Below w.heap.size w w') : SeqV w' v xs := h.kept hb (Nat.le_refl _)
theorem SeqV.alloc {w : World} {v : Value} {xs : List α} (h : SeqV w v xs) (o : Obj) : SeqV (w.alloc o) v xs := h.next ((Below.refl _ _).alloc (Nat.le_refl _) o)
theorem SeqV.nil (w : World) : SeqV w (.slice none 0 0) ([] : List α) := .inl ⟨none, 0, rfl, rfl, by decide⟩
theorem seq_slice {w : World} {v : Value} {xs : List α} (hv : SeqV w v xs) : ∃ a c, v = .slice a xs.length c := by
  rcases hv with ⟨a, cap, rfl, rfl, _⟩ | ⟨b, off, cap, rfl, _⟩
  · exact ⟨_, _, rfl⟩
  · exact ⟨_, _, rfl⟩
theorem seq_row {w : World} {v : Value} {xs : List α} (hv : SeqV w v xs) (h0 : xs ≠ []) :
    ∃ b off cap, v = .slice (some ⟨b, off, none⟩) xs.length cap ∧ b < w.heap.size ∧ RowAt w b off (cellsL xs) ∧ xs.length ≤ cap ∧ cap ≤ maxLen := by
  rcases hv with ⟨a, cap, rfl, rfl, _⟩ | ⟨b, off, cap, rfl, h1, h2, hb, _, hr⟩
  · exact absurd rfl h0
  · exact ⟨b, off, cap, rfl, hb, hr, h1, h2⟩

/-- block g is a row of the call's own with these at its head -/
def OwnR (W : World) (g cap : Nat) (xs : List α) : Prop := ∃ rest : List Value, W.heap[g]? = some (.cells (cellsL xs ++ rest).toArray (Lay.ty α) (0, 0)) ∧ xs.length * Lay.k α + rest.length = cap * Lay.k α ∧ xs.length ≤ cap ∧ cap ≤ maxLen
theorem OwnR.lt {W : World} {g cap : Nat} {xs : List α} (h : OwnR W g cap xs) : g < W.heap.size := by
  obtain ⟨rest, h1, _⟩ := h
  exact (Array.getElem?_eq_some_iff.1 h1).1
theorem OwnR.le {W : World} {g cap : Nat} {xs : List α} (h : OwnR W g cap xs) : xs.length ≤ cap := by obtain ⟨rest, _, _, h2, _⟩ := h; exact h2
theorem OwnR.capLe {W : World} {g cap : Nat} {xs : List α} (h : OwnR W g cap xs) : cap ≤ maxLen := by obtain ⟨rest, _, _, _, h3⟩ := h; exact h3
theorem OwnR.row {W : World} {g cap : Nat} {xs : List α} (h : OwnR W g cap xs) : RowAt W g 0 (cellsL xs) := by
  obtain ⟨rest, h1, _⟩ := h
  intro j v hj
  have hlt : j < (cellsL xs).length := (List.getElem?_eq_some_iff.1 hj).1
  simp [World.cell?, h1, List.getElem?_append_left hlt, hj]
theorem OwnR.frozen {W : World} {g cap : Nat} {xs : List α} (h : OwnR W g cap xs) (j : Nat) : W.frozen? ⟨g, j, none⟩ = false := by
  obtain ⟨rest, h1, _⟩ := h
  simp [World.frozen?, h1]
theorem OwnR.kept {W V : World} {g B cap : Nat} {xs : List α} (h : OwnR W g cap xs) (hb : Below B W V) (hg : g < B) : OwnR V g cap xs := by
  obtain ⟨rest, h1, h2⟩ := h
  exact ⟨rest, (hb.block _ hg).trans h1, h2⟩
theorem OwnR.next {W V : World} {g cap : Nat} {xs : List α} (h : OwnR W g cap xs) (hb : Below W.heap.size W V) : OwnR V g cap xs := h.kept hb h.lt
theorem OwnR.other {W : World} {g cap : Nat} {xs : List α} (h : OwnR W g cap xs) {a : Addr} (ha : g ≠ a.block) (v : Value) : OwnR (W.setCell a v) g cap xs := by
  obtain ⟨rest, h1, h2⟩ := h
  exact ⟨rest, (Below.heap_setCell W a v g ha).trans h1, h2⟩
theorem OwnR.set {W : World} {g cap : Nat} {A B : List α} {x y : α} (h : OwnR W g cap (A ++ x :: B)) {c : Nat} (hc : c < Lay.k α) {v : Value} (hy : Lay.cs y = (Lay.cs x).set c v) : OwnR (W.setCell ⟨g, A.length * Lay.k α + c, none⟩ v) g cap (A ++ y :: B) := by
  obtain ⟨rest, h1, h2, h3⟩ := h
  refine ⟨rest, ?_, by simpa using h2, by simpa using h3⟩
  rw [block_set v h1, ← cellsL_set A x y B c v hc hy]
  have hlt : A.length * Lay.k α + c < (cellsL (A ++ x :: B)).length := by
    rw [cellsL_length]; simp [Nat.add_mul]; omega
  simp [List.set_append_left _ _ hlt]

/-- a value that holds these in a row of the call's own, at or behind block B -/
def OwnS (W : World) (B : Nat) (v : Value) (xs : List α) : Prop := (v = .slice none 0 0 ∧ xs = []) ∨ ∃ g cap, v = .slice (some ⟨g, 0, none⟩) xs.length cap ∧ B ≤ g ∧ OwnR W g cap xs
theorem OwnS.seq {W : World} {B : Nat} {v : Value} {xs : List α} (h : OwnS W B v xs) : SeqV W v xs := by
  rcases h with ⟨rfl, rfl⟩ | ⟨g, cap, rfl, _, h⟩
  · exact SeqV.nil W
  · by_cases h0 : xs = []
    · subst h0; exact .inl ⟨_, cap, rfl, rfl, h.capLe⟩
    · exact .inr ⟨g, 0, cap, rfl, h.le, h.capLe, h.lt, h0, h.row⟩
theorem OwnS.kept {W V : World} {B C : Nat} {v : Value} {xs : List α} (h : OwnS W B v xs) (hb : Below C W V) (hC : W.heap.size ≤ C) : OwnS V B v xs := by
  rcases h with h | ⟨g, cap, rfl, hB, h⟩
  · exact .inl h
  · exact .inr ⟨g, cap, rfl, hB, h.kept hb (Nat.lt_of_lt_of_le h.lt hC)⟩
theorem OwnS.next {W V : World} {B : Nat} {v : Value} {xs : List α} (h : OwnS W B v xs) (hb : Below W.heap.size W V) : OwnS V B v xs := h.kept hb (Nat.le_refl _)
theorem OwnS.other {W : World} {B : Nat} {v : Value} {xs : List α} (h : OwnS W B v xs) {a : Addr} (ha : v.ownBlock ≠ some a.block) (u : Value) : OwnS (W.setCell a u) B v xs := by
  rcases h with h | ⟨g, cap, rfl, hB, h⟩
  · exact .inl h
  · exact .inr ⟨g, cap, rfl, hB, h.other (by intro e; apply ha; simp [Value.ownBlock, e]) u⟩
theorem OwnS.lower {W : World} {B C : Nat} {v : Value} {xs : List α} (h : OwnS W B v xs) (hC : C ≤ B) : OwnS W C v xs := by
  rcases h with h | ⟨g, cap, rfl, hB, h⟩
  · exact .inl h
  · exact .inr ⟨g, cap, rfl, Nat.le_trans hC hB, h⟩
theorem OwnS.of_row {W : World} {B : Nat} {v : Value} {xs : List α} (h : W.ownsRow B (Lay.ty α) (Lay.k α) v xs.length (cellsL xs)) : OwnS W B v xs := by
  obtain ⟨_, ⟨rfl, h0⟩ | ⟨g, cap, cur, rfl, hB, hg, hn, hm, hs, ht⟩⟩ := h
  · exact .inl ⟨rfl, List.eq_nil_of_length_eq_zero h0⟩
  · refine .inr ⟨g, cap, rfl, hB, cur.toList.drop (xs.length * Lay.k α), ?_, ?_, hn, hm⟩
    · rw [hg, ← ht, List.take_append_drop]
    · have := Nat.mul_le_mul_right (Lay.k α) hn
      simp [hs]; omega
theorem OwnS.row {W : World} {B : Nat} {v : Value} {xs : List α} (h : OwnS W B v xs) : W.ownsRow B (Lay.ty α) (Lay.k α) v xs.length (cellsL xs) := by
  refine ⟨cellsL_length xs, ?_⟩
  rcases h with ⟨rfl, rfl⟩ | ⟨g, cap, rfl, hB, h⟩
  · exact .inl ⟨rfl, rfl⟩
  · obtain ⟨rest, h1, h2, hle, h3⟩ := h
    refine .inr ⟨g, cap, _, rfl, hB, h1, hle, h3, by simp [cellsL_length, h2], ?_⟩
    simp [← cellsL_length xs]
theorem OwnS.slice {W : World} {B : Nat} {v : Value} {xs : List α} (h : OwnS W B v xs) : ∃ a c, v = .slice a xs.length c ∧ c ≤ maxLen := by
  rcases h with ⟨rfl, rfl⟩ | ⟨g, cap, rfl, _, h⟩
  · exact ⟨none, 0, rfl, by decide⟩
  · exact ⟨_, _, rfl, h.capLe⟩
end


theorem RowAt.i0 {w : World} {b off : Nat} {xs : List Int} (h : RowAt w b off (cellsL xs)) {i : Nat} {x : Int} (hi : xs[i]? = some x) : w.cell? ⟨b, off + i, none⟩ = some (.int .i64 x) :=
  h i _ (by have := cellsL_get xs i x hi 0 (by decide); simpa [Lay.k, Lay.cs] using this)
theorem RowAt.s0 {w : World} {b off : Nat} {xs : List (List UInt8)} (h : RowAt w b off (cellsL xs)) {i : Nat} {x : List UInt8} (hi : xs[i]? = some x) : w.cell? ⟨b, off + i, none⟩ = some (.string ⟨x.toArray⟩) :=
  h i _ (by have := cellsL_get xs i x hi 0 (by decide); simpa [Lay.k, Lay.cs] using this)
theorem RowAt.e0 {w : World} {b off : Nat} {xs : List Ev} (h : RowAt w b off (cellsL xs)) {i : Nat} {x : Ev} (hi : xs[i]? = some x) : w.cell? ⟨b, off + i * 2, none⟩ = some (.int .i64 x.k) :=
  h (i * 2) _ (cellsL_get xs i x hi 0 (by decide))
theorem RowAt.e1 {w : World} {b off : Nat} {xs : List Ev} (h : RowAt w b off (cellsL xs)) {i : Nat} {x : Ev} (hi : xs[i]? = some x) : w.cell? ⟨b, off + i * 2 + 1, none⟩ = some (.string ⟨x.p.toArray⟩) := by
  rw [Nat.add_assoc]; exact h (i * 2 + 1) _ (cellsL_get xs i x hi 1 (by decide))


theorem nbox_then {w : World} {o : Obj} {w1 : World} (h : Below (w.alloc o).heap.size (w.alloc o) w1) : Below w.heap.size w w1 :=
  ((Below.refl _ _).alloc (Nat.le_refl _) _).trans (h.mono (by simp))
theorem nnext {w W V : World} (h : Below w.heap.size w W) (h' : Below W.heap.size W V) : Below w.heap.size w V := h.trans (h'.mono h.size)
theorem allocB (w : World) (o : Obj) : Below w.heap.size w (w.alloc o) := (Below.refl _ _).alloc (Nat.le_refl _) _

theorem ngrown_set {w : World} {g j : Nat} (v : Value) : w.grownBy (w.setCell ⟨g, j, none⟩ v) (some g) := ⟨rfl, rfl, rfl, by simp [World.setCell], fun k _ hne => Below.heap_setCell w ⟨g, j, none⟩ v k (fun e => hne (by rw [e]))⟩
theorem ngrown_drew {w w' : World} {r : Option Nat} (h : w.grownBy w' r) : w.grownBy w'.drew r := ⟨h.os, h.tape, h.output, h.size, h.block⟩
theorem ngrown_trans {w w' w'' : World} {g : Nat} (h : w.grownBy w' (some g)) (h' : w'.grownBy w'' (some g)) : w.grownBy w'' (some g) :=
  ⟨h'.os.trans h.os, h'.tape.trans h.tape, h'.output.trans h.output, Nat.le_trans h.size h'.size, fun k hk hne => (h'.block k (Nat.lt_of_lt_of_le hk h.size) hne).trans (h.block k hk hne)⟩
theorem nblock_setCells {g : Nat} {t : TypeId} {fz : Nat × Nat} : ∀ (vs : List Value) (o : Nat) (w : World) (l : List Value), w.heap[g]? = some (.cells l.toArray t fz) → o + vs.length ≤ l.length →
    (w.setCells g o vs).heap[g]? = some (.cells (l.take o ++ vs ++ l.drop (o + vs.length)).toArray t fz)
  | [], o, w, l, h, _ => by simpa [World.setCells] using h
  | v :: r, o, w, l, h, hl => by
    have h1 : (w.setCell ⟨g, o, none⟩ v).heap[g]? = some (.cells (l.set o v).toArray t fz) := by rw [block_set v h]; simp
    rw [World.setCells, nblock_setCells r (o + 1) _ _ h1 (by simp at hl ⊢; omega)]
    have ho : o < l.length := by simp at hl; omega
    have e1 : (l.set o v).take (o + 1) = l.take o ++ [v] := by
      rw [List.take_set, List.take_succ_eq_append_getElem ho, List.set_append_right _ _ (by simp; omega)]
      simp [Nat.min_eq_left (Nat.le_of_lt ho)]
    have e2 : (l.set o v).drop (o + 1 + r.length) = l.drop (o + (r.length + 1)) := by
      rw [List.drop_set_of_lt (by omega)]; congr 1; omega
    rw [e1, e2]
    simp
theorem ngrown_setCells {g : Nat} : ∀ (vs : List Value) (o : Nat) (w : World), w.grownBy (w.setCells g o vs) (some g)
  | [], _, _ => ⟨rfl, rfl, rfl, Nat.le_refl _, fun _ _ _ => rfl⟩
  | v :: r, o, _ => ngrown_trans (ngrown_set v) (ngrown_setCells r (o + 1) _)

section
variable {α : Type} [Lay α]
theorem OwnR.splice {W : World} {g cap : Nat} {pre tl : List α} (h : OwnR W g cap (pre ++ tl)) (new : List α) (hfit : pre.length + new.length ≤ cap) : OwnR (W.setCells g (pre.length * Lay.k α) (cellsL new)) g cap (pre ++ new) := by
  obtain ⟨rest, h1, h2, h4, h3⟩ := h
  have hlen : (cellsL (pre ++ tl) ++ rest).length = cap * Lay.k α := by rw [List.length_append, cellsL_length]; exact h2
  have hf : pre.length * Lay.k α + new.length * Lay.k α ≤ cap * Lay.k α := by rw [← Nat.add_mul]; exact Nat.mul_le_mul_right _ hfit
  refine ⟨(cellsL (pre ++ tl) ++ rest).drop (pre.length * Lay.k α + (cellsL new).length), ?_, ?_, by simpa using hfit, h3⟩
  · rw [nblock_setCells (cellsL new) (pre.length * Lay.k α) W _ h1 (by rw [hlen, cellsL_length]; omega), cellsL_append pre new]
    congr 3
    have e : cellsL (pre ++ tl) ++ rest = cellsL pre ++ (cellsL tl ++ rest) := by rw [cellsL_append, List.append_assoc]
    rw [e, ← cellsL_length pre, List.take_left]
  · rw [List.length_drop, hlen, cellsL_length, List.length_append, Nat.add_mul]; omega
theorem OwnR.spare {W : World} {g cap : Nat} {fs : List α} (h : OwnR W g cap fs) (vs : List Value) (o : Nat) (ho : fs.length * Lay.k α ≤ o) (hfit : o + vs.length ≤ cap * Lay.k α) : OwnR (W.setCells g o vs) g cap fs := by
  obtain ⟨rest, h1, h2, h4, h3⟩ := h
  have hlen : (cellsL fs ++ rest).length = cap * Lay.k α := by rw [List.length_append, cellsL_length]; exact h2
  have hc := cellsL_length fs
  refine ⟨rest.take (o - fs.length * Lay.k α) ++ vs ++ (cellsL fs ++ rest).drop (o + vs.length), ?_, ?_, h4, h3⟩
  · rw [nblock_setCells vs o W _ h1 (by rw [hlen]; omega)]
    congr 2
    rw [List.take_append, List.take_of_length_le (by omega), hc]
    simp only [List.append_assoc]
  · simp only [List.length_append, List.length_take, List.length_drop, hc]
    omega
theorem OwnR.swap1 {W : World} {g cap : Nat} {A B : List α} {y : α} (h : OwnR W g cap (A ++ y :: B)) (x : α) : OwnR (W.setCells g (A.length * Lay.k α) (Lay.cs x)) g cap (A ++ x :: B) := by
  obtain ⟨rest, h1, h2, h4, h3⟩ := h
  have hlen : (cellsL (A ++ y :: B) ++ rest).length = cap * Lay.k α := by rw [List.length_append, cellsL_length]; exact h2
  refine ⟨rest, ?_, by simpa using h2, by simpa using h4, h3⟩
  have hA := cellsL_length A
  have hx3 : (Lay.cs x).length = Lay.k α := Lay.len x
  have hy3 : (Lay.cs y).length = Lay.k α := Lay.len y
  rw [nblock_setCells (Lay.cs x) (A.length * Lay.k α) W _ h1 (by rw [hlen, hx3]; simp [Nat.add_mul] at h2; omega)]
  have e : cellsL (A ++ y :: B) ++ rest = cellsL A ++ (Lay.cs y ++ (cellsL B ++ rest)) := by simp [cellsL_append, cellsL_cons]
  have e' : cellsL (A ++ x :: B) ++ rest = cellsL A ++ (Lay.cs x ++ (cellsL B ++ rest)) := by simp [cellsL_append, cellsL_cons]
  rw [e, e']
  congr 2
  rw [hx3, ← hA, List.take_left, show (cellsL A).length + Lay.k α = (cellsL A ++ Lay.cs y).length by rw [List.length_append, hy3], ← List.append_assoc (cellsL A) (Lay.cs y), List.drop_left, List.append_assoc]
theorem OwnR.some {W : World} {g cap : Nat} {fs : List α} (h : OwnR W g cap fs) {j : Nat} (hj : j < cap * Lay.k α) : (W.cell? ⟨g, j, none⟩).isSome = true := by
  obtain ⟨rest, h1, h2, _⟩ := h
  have hl : j < (cellsL fs ++ rest).length := by rw [List.length_append, cellsL_length, h2]; exact hj
  rw [List.length_append] at hl
  simp [World.cell?, h1, hl]
theorem OwnR.drew {W : World} {g cap : Nat} {fs : List α} (h : OwnR W g cap fs) : OwnR W.drew g cap fs := h
theorem OwnR.alloc {W : World} {g cap : Nat} {fs : List α} (h : OwnR W g cap fs) (o : Obj) : OwnR (W.alloc o) g cap fs := h.next ((Below.refl _ _).alloc (Nat.le_refl _) o)
/-- block b holds just this one -/
def OneR (W : World) (b : Nat) (x : α) : Prop := W.heap[b]? = some (.cells (Lay.cs x).toArray (Lay.ty α) (0, 0))
theorem OneR.row {W : World} {b : Nat} {x : α} (h : OneR W b x) : ∀ j v, (Lay.cs x)[j]? = some v → W.cell? ⟨b, 0 + j, none⟩ = some v := by
  intro j v hj
  unfold OneR at h
  simp [World.cell?, h, hj]
end
theorem cellsI_length (ss : List Int) : (cellsL ss).length = ss.length := (cellsL_length ss).trans (Nat.mul_one _)
theorem cellsE_length (es : List Ev) : (cellsL es).length = es.length * 2 := cellsL_length es
/-- all old blocks but those of F are as they were -/
structure Touch (F : Nat → Prop) (w w' : World) : Prop where
  os : w'.os = w.os
  tape : w'.tape = w.tape
  output : w'.output = w.output
  size : w.heap.size ≤ w'.heap.size
  block : ∀ k, k < w.heap.size → ¬ F k → w'.heap[k]? = w.heap[k]?
theorem Touch.refl (F : Nat → Prop) (w : World) : Touch F w w := ⟨rfl, rfl, rfl, Nat.le_refl _, fun _ _ _ => rfl⟩
theorem Touch.trans {F : Nat → Prop} {a b c : World} (h : Touch F a b) (k : Touch F b c) : Touch F a c :=
  ⟨k.os.trans h.os, k.tape.trans h.tape, k.output.trans h.output, Nat.le_trans h.size k.size, fun i hi hf => (k.block i (Nat.lt_of_lt_of_le hi h.size) hf).trans (h.block i hi hf)⟩
theorem Touch.of_below {F : Nat → Prop} {w w' : World} (h : Below w.heap.size w w') : Touch F w w' := ⟨h.os, h.tape, h.output, h.size, fun k hk _ => h.block k hk⟩
theorem Touch.of_grown {F : Nat → Prop} {w w' : World} {r : Option Nat} (h : w.grownBy w' r) (hr : ∀ k, r = some k → F k) : Touch F w w' := ⟨h.os, h.tape, h.output, h.size, fun k hk hf => h.block k hk (fun e => hf (hr k e.symm))⟩
theorem Touch.set {F : Nat → Prop} {w : World} {a : Addr} (hf : F a.block) (v : Value) : Touch F w (w.setCell a v) := ⟨rfl, rfl, rfl, by simp [World.setCell], fun k _ hn => Below.heap_setCell w a v k (fun e => hn (by rw [e]; exact hf))⟩
theorem Touch.drew {F : Nat → Prop} {w w' : World} (h : Touch F w w') : Touch F w w'.drew := ⟨h.os, h.tape, h.output, h.size, h.block⟩
theorem Touch.mono {F G : Nat → Prop} {w w' : World} (h : Touch F w w') (hg : ∀ k, k < w.heap.size → F k → G k) : Touch G w w' := ⟨h.os, h.tape, h.output, h.size, fun k hk hn => h.block k hk (fun hf => hn (hg k hk hf))⟩
theorem Touch.below {F : Nat → Prop} {w w' : World} {B : Nat} (h : Touch F w w') (hB : B ≤ w.heap.size) (hF : ∀ k, F k → B ≤ k) : Below B w w' :=
  ⟨h.os, h.tape, h.output, h.size, fun k hk => h.block k (Nat.lt_of_lt_of_le hk hB) (fun hf => by have := hF k hf; omega)⟩

theorem OwnS.low {α : Type} [Lay α] {W : World} {B : Nat} {v : Value} {xs : List α} (h : OwnS W B v xs) (k : Nat) (hk : v.ownBlock = some k) : k < W.heap.size := by
  rcases h with ⟨rfl, rfl⟩ | ⟨g, cap, rfl, _, h⟩
  · simp [Value.ownBlock] at hk
  · simp only [Value.ownBlock, Option.some.injEq] at hk
    rw [← hk]; exact h.lt
theorem OwnS.grown {α : Type} [Lay α] {W V : World} {B : Nat} {v : Value} {xs : List α} (h : OwnS W B v xs) {r : Option Nat} (hg : W.grownBy V r) (hr : ∀ k, v.ownBlock = some k → some k ≠ r) : OwnS V B v xs := by
  rcases h with h | ⟨g, cap, rfl, hB, h⟩
  · exact .inl h
  · obtain ⟨rest, h1, h2⟩ := h
    have hlt := (Array.getElem?_eq_some_iff.1 h1).1
    exact .inr ⟨g, cap, rfl, hB, rest, (hg.block g hlt (hr g rfl)).trans h1, h2⟩
theorem nset_same {w : World} {a : Addr} {v : Value} (h : w.cell? a = some v) : w.setCell a v = w := by
  obtain ⟨heap, tape, drawn, os, output⟩ := w
  simp only [World.setCell, World.cell?] at *
  congr 1
  apply Array.ext_getElem?
  intro k
  rw [Array.getElem?_modify]
  by_cases hk : a.block = k
  · subst hk
    simp only [if_true]
    cases ho : heap[a.block]? with
    | none => rfl
    | some o =>
      rw [ho] at h
      cases o with
      | cells c e fz =>
        simp only at h
        by_cases hs : a.spot.isSome = true
        · simp [hs] at h
        · simp only [hs] at h
          simp [hs]
          have hlt : a.off < c.size := (Array.getElem?_eq_some_iff.1 (by simpa using h)).1
          have hv : c[a.off] = v := (Array.getElem?_eq_some_iff.1 (by simpa using h)).2
          rw [← hv]
          simp [Array.setIfInBounds, hlt]
      | _ => simp at h
  · simp [hk]
theorem nbelow_drew {W V : World} (h : Below W.drew.heap.size W.drew V) : Below W.heap.size W V := ((Below.refl _ W).drew).trans h
theorem einfo0 : (Tryz.prog.info? 91).map (fun i => (i.zero, i.size, i.bytes)) = some (some (.agg #[.int .i64 0, .string ⟨#[]⟩]), 2, 24) := by kernel_rfl
theorem einfo : ∃ i0, Tryz.prog.info? 91 = some i0 ∧ i0.zero = some (.agg #[.int .i64 0, .string ⟨#[]⟩]) ∧ i0.size = 2 ∧ i0.bytes = 24 := by
  obtain ⟨i0, h, e⟩ := Option.map_eq_some_iff.1 einfo0
  simp only [Prod.mk.injEq] at e
  exact ⟨i0, h, e⟩
theorem one_news {α : Type} [Lay α] {W : World} {g : Nat} {x : α} (h : OneR W g x) (j : Nat) (u : Value) (hj : (Lay.cs x)[j]? = some u) : W.cell? ((⟨g, 0, none⟩ : Addr).add j) = some u := by
  rw [Addr.add_lit]
  exact h.row j u hj
theorem one_new (w : World) (k : Int) (p : List UInt8) : OneR (w.alloc (.cells #[.int .i64 k, .string ⟨p.toArray⟩] 91)) w.heap.size (⟨k, p⟩ : Ev) := heap_alloc_new w _
end Go.Proofs.YtalnmhgedfgooaaGreatDoor

namespace Go.Proofs.YtalnmhgedfgooaaGreatDoor
open Go.RowKit

def ncells (n : Nd) : List Value := [.string ⟨n.p.toArray⟩, .string ⟨n.d.toArray⟩, .int .i64 n.c, .int .i64 n.m, .int .i64 n.q, .int .i64 n.v, .int .i64 n.k, .int .i64 n.o, .int .i64 n.n]
/-- a Stat, a node, an event as a value -/
def statV (n : Nd) : Value := .agg #[.int .i64 n.c, .int .i64 n.m, .int .i64 n.q, .int .i64 n.v, .int .i64 n.k, .int .i64 n.o, .int .i64 n.n]
def nodeV (n : Nd) : Value := .agg #[.string ⟨n.p.toArray⟩, .string ⟨n.d.toArray⟩, .int .i64 n.c, .int .i64 n.m, .int .i64 n.q, .int .i64 n.v, .int .i64 n.k, .int .i64 n.o, .int .i64 n.n]
instance layN : Lay Nd := ⟨9, ncells, 46, fun _ => rfl, fun x u hu => by simp [ncells] at hu; rcases hu with rfl | rfl | rfl | rfl | rfl | rfl | rfl | rfl | rfl <;> rfl⟩
/- the cells of a node -/
theorem RowAt.nd {w : World} {b off : Nat} {xs : List Nd} (h : RowAt w b off (cellsL xs)) {i : Nat} {x : Nd} (hi : xs[i]? = some x) (c : Nat) (hc : c < 9) : ∀ v, (ncells x)[c]? = some v → w.cell? ⟨b, off + i * 9 + c, none⟩ = some v := fun v hv => by
  rw [Nat.add_assoc]
  exact h (i * 9 + c) v ((cellsL_get xs i x hi c hc).trans hv)
theorem RowAt.n0 {w : World} {b off : Nat} {xs : List Nd} (h : RowAt w b off (cellsL xs)) {i : Nat} {x : Nd} (hi : xs[i]? = some x) : w.cell? ⟨b, off + i * 9, none⟩ = some (.string ⟨x.p.toArray⟩) := h.nd hi 0 (by omega) _ rfl
theorem RowAt.n1 {w : World} {b off : Nat} {xs : List Nd} (h : RowAt w b off (cellsL xs)) {i : Nat} {x : Nd} (hi : xs[i]? = some x) : w.cell? ⟨b, off + i * 9 + 1, none⟩ = some (.string ⟨x.d.toArray⟩) := h.nd hi 1 (by omega) _ rfl
theorem RowAt.n2 {w : World} {b off : Nat} {xs : List Nd} (h : RowAt w b off (cellsL xs)) {i : Nat} {x : Nd} (hi : xs[i]? = some x) : w.cell? ⟨b, off + i * 9 + 2, none⟩ = some (.int .i64 x.c) := h.nd hi 2 (by omega) _ rfl
theorem RowAt.n3 {w : World} {b off : Nat} {xs : List Nd} (h : RowAt w b off (cellsL xs)) {i : Nat} {x : Nd} (hi : xs[i]? = some x) : w.cell? ⟨b, off + i * 9 + 3, none⟩ = some (.int .i64 x.m) := h.nd hi 3 (by omega) _ rfl
theorem RowAt.n4 {w : World} {b off : Nat} {xs : List Nd} (h : RowAt w b off (cellsL xs)) {i : Nat} {x : Nd} (hi : xs[i]? = some x) : w.cell? ⟨b, off + i * 9 + 4, none⟩ = some (.int .i64 x.q) := h.nd hi 4 (by omega) _ rfl
theorem RowAt.n5 {w : World} {b off : Nat} {xs : List Nd} (h : RowAt w b off (cellsL xs)) {i : Nat} {x : Nd} (hi : xs[i]? = some x) : w.cell? ⟨b, off + i * 9 + 5, none⟩ = some (.int .i64 x.v) := h.nd hi 5 (by omega) _ rfl
theorem RowAt.n6 {w : World} {b off : Nat} {xs : List Nd} (h : RowAt w b off (cellsL xs)) {i : Nat} {x : Nd} (hi : xs[i]? = some x) : w.cell? ⟨b, off + i * 9 + 6, none⟩ = some (.int .i64 x.k) := h.nd hi 6 (by omega) _ rfl
theorem RowAt.n7 {w : World} {b off : Nat} {xs : List Nd} (h : RowAt w b off (cellsL xs)) {i : Nat} {x : Nd} (hi : xs[i]? = some x) : w.cell? ⟨b, off + i * 9 + 7, none⟩ = some (.int .i64 x.o) := h.nd hi 7 (by omega) _ rfl
theorem RowAt.n8 {w : World} {b off : Nat} {xs : List Nd} (h : RowAt w b off (cellsL xs)) {i : Nat} {x : Nd} (hi : xs[i]? = some x) : w.cell? ⟨b, off + i * 9 + 8, none⟩ = some (.int .i64 x.n) := h.nd hi 8 (by omega) _ rfl
/-- a tree as a value -/
def TreeV (w : World) (v : Value) (t : Tr) : Prop := ∃ vn vs, v = .agg #[.int .i64 t.z, vn, vs] ∧ SeqV w vn t.ns ∧ SeqV w vs t.ss
theorem TreeV.next {w w' : World} {v : Value} {t : Tr} (h : TreeV w v t) (hb : Below w.heap.size w w') : TreeV w' v t := by
  obtain ⟨vn, vs, rfl, h1, h2⟩ := h
  exact ⟨vn, vs, rfl, h1.next hb, h2.next hb⟩

end Go.Proofs.YtalnmhgedfgooaaGreatDoor

namespace Go.Proofs.YtalnmhgedfgooaaGreatDoor
open Go.RowKit

theorem GoodN.mono {z z' : Int} {ns : List Nd} {ss : List Int} (g : GoodN z ns ss) (h : z ≤ z') : GoodN z' ns ss :=
  ⟨g.few, g.root, g.asc, fun n hn => by
    have k := g.ok n hn
    have := k.mz
    have := k.qz
    exact ⟨k.data, k.path, k.up, k.c0, k.cm, k.cq, by omega, by omega, k.v0, k.v1, k.k0, k.kids, k.own⟩⟩
theorem GoodN.more {z : Int} {ns : List Nd} {ss ss' : List Int} (g : GoodN z ns ss) (h : ∀ n ∈ ns, n.o ≠ 0 → n.o ∈ ss → n.o ∈ ss') : GoodN z ns ss' :=
  ⟨g.few, g.root, g.asc, fun n hn => by
    have k := g.ok n hn
    refine ⟨k.data, k.path, k.up, k.c0, k.cm, k.cq, k.mz, k.qz, k.v0, k.v1, k.k0, k.kids, ?_⟩
    rcases k.own with h' | ⟨h1, h2⟩
    · exact .inl h'
    · by_cases h0 : n.o = 0
      · exact .inl h0
      · exact .inr ⟨h n hn h0 h1, h2⟩⟩
theorem up_look {z : Int} {ns : List Nd} {ss : List Int} (g : GoodN z ns ss) {n : Nd} (hn : n ∈ ns) (hp : n.p ≠ [47]) : ∃ u, lookN ns (dirOf n.p) = some u ∧ u ∈ ns ∧ u.p = dirOf n.p ∧ u.p ≠ n.p ∧ u.o = 0 := by
  obtain ⟨u, hu, he⟩ := (g.ok n hn).up hp
  have hne : u.p ≠ n.p := by rw [he]; exact (dirOf_ne (g.ok n hn).path hp).1
  refine ⟨u, by rw [← he]; exact look_mem g.asc hu, hu, he, hne, ?_⟩
  rcases (g.ok u hu).own with h | ⟨_, h⟩
  · exact h
  · exfalso
    have h1 := (g.ok u hu).kids
    have h2 : 0 < kidsN ns u.p := List.countP_pos_iff.2 ⟨n, hn, by simp [he]⟩
    omega
theorem root_p {z : Int} {ns : List Nd} {ss : List Int} (g : GoodN z ns ss) {n : Nd} (hn : n ∈ ns) (h : n.o ≠ 0) : n.p ≠ [47] := by
  intro e
  obtain ⟨r, rest, hr, hp, ho⟩ := g.root
  have : n = r := nasc_uniq g.asc hn (by rw [hr]; simp) (by rw [e, hp])
  exact h (by rw [this]; exact ho)

/- a change that leaves all paths -/
theorem chg_good {z : Int} {ns : List Nd} {ss : List Int} (g : GoodN z ns ss) (f : Nd → Nd) (hf : ∀ n, (f n).p = n.p) (hk : ∀ n ∈ ns, NOk z ns ss n → NOk z ns ss (f n) ∧ (n.p = [47] → (f n).o = n.o)) : GoodN z (ns.map f) ss := by
  have hp : (ns.map f).map Nd.p = ns.map Nd.p := by rw [List.map_map]; exact List.map_congr_left fun n _ => hf n
  have hkd : ∀ p, kidsN (ns.map f) p = kidsN ns p := fun p => by rw [kidsN_paths, hp, ← kidsN_paths]
  refine ⟨by simpa using g.few, ?_, by rw [nasc_paths, hp, ← nasc_paths]; exact g.asc, ?_⟩
  · obtain ⟨r, rest, h, h1, h2⟩ := g.root
    exact ⟨f r, rest.map f, by rw [h]; rfl, by rw [hf, h1], by rw [(hk r (by rw [h]; simp) (g.ok r (by rw [h]; simp))).2 h1, h2]⟩
  · intro n hn
    obtain ⟨m, hm, rfl⟩ := List.mem_map.1 hn
    have k := (hk m hm (g.ok m hm)).1
    refine ⟨k.data, k.path, fun h => ?_, k.c0, k.cm, k.cq, k.mz, k.qz, k.v0, k.v1, k.k0, by rw [hkd]; exact k.kids, k.own⟩
    obtain ⟨u, hu, he⟩ := k.up h
    exact ⟨f u, List.mem_map.2 ⟨u, hu, rfl⟩, by rw [hf]; exact he⟩

/- a node goes -/
def rmN (z : Int) (ns : List Nd) (p : List UInt8) : List Nd := bumpAt (dirOf p) z (-1) (dropN ns p)
theorem rm_good {z : Int} {ns A B : List Nd} {ss : List Int} {n : Nd} {p : List UInt8} (g : GoodN z ns ss) (T : NThere ns A n B p) (hk : n.n = 0) (hp : p ≠ [47]) : GoodN z (rmN z ns p) ss := by
  have hn : n ∈ ns := by rw [T.eq]; simp
  have hnp := T.nm
  have hdrop := T.drop
  have hpaths : (rmN z ns p).map Nd.p = (A ++ B).map Nd.p := by rw [rmN, bumpAt_paths, hdrop]
  have hsub : (A ++ B).Sublist ns := by rw [T.eq]; exact (List.Sublist.refl A).append (List.sublist_cons_self n B)
  have hkid : ∀ x, kidsN (rmN z ns p) x + (if dirOf p = x then 1 else 0) = kidsN ns x := by
    intro x
    rw [kidsN_paths, hpaths, ← kidsN_paths, T.eq]
    simp only [kidsN, List.countP_append, List.countP_cons, decide_eq_true_eq, hnp]
    omega
  have hno : ∀ m ∈ ns, dirOf m.p ≠ p := by
    intro m hm e
    have h1 := (g.ok n hn).kids
    have h2 : 0 < kidsN ns n.p := List.countP_pos_iff.2 ⟨m, hm, by simp [e, hnp]⟩
    omega
  have hmem : ∀ m ∈ ns, m.p ≠ p → m ∈ A ++ B := by
    intro m hm h
    rw [← hdrop, dropN]
    exact List.mem_filter.2 ⟨hm, by simpa using h⟩
  refine ⟨?_, ?_, ?_, ?_⟩
  · have h1 := g.few
    have h2 : (rmN z ns p).length = (A ++ B).length := by have := congrArg List.length hpaths; simpa using this
    rw [T.eq] at h1
    simp at h1 h2 ⊢
    omega
  · obtain ⟨r, rest, h, h1, h2⟩ := g.root
    cases A with
    | nil =>
      have := T.eq
      rw [h] at this
      cases this
      exact absurd (hnp.symm.trans h1) hp
    | cons a A' =>
      have := T.eq
      rw [h] at this
      cases this
      rw [rmN, hdrop, bumpAt]
      refine ⟨_, _, List.map_cons, by rw [bump_p]; exact h1, ?_⟩
      split
      · exact h2
      · exact h2
  · rw [nasc_paths, hpaths, ← nasc_paths]
    exact g.asc.sublist hsub
  · intro m' hm'
    rw [rmN, hdrop, bumpAt] at hm'
    obtain ⟨m, hm, rfl⟩ := List.mem_map.1 hm'
    have hms := hsub.mem hm
    have k := g.ok m hms
    have hup : m.p ≠ [47] → ∃ u ∈ rmN z ns p, u.p = dirOf m.p := by
      intro h
      obtain ⟨u, hu, he⟩ := k.up h
      have h1 := hmem u hu (by rw [he]; exact hno m hms)
      exact ⟨_, by rw [rmN, hdrop, bumpAt]; exact List.mem_map.2 ⟨u, h1, rfl⟩, by rw [bump_p]; exact he⟩
    have hkm := hkid m.p
    have := k.kids
    have := k.c0
    have := k.cq
    have := k.qz
    have := k.k0
    split
    · rename_i e
      rw [if_pos e.symm] at hkm
      refine ⟨k.data, k.path, hup, k.c0, k.cm, ?_, k.mz, ?_, k.v0, k.v1, ?_, ?_, ?_⟩
      · show m.c ≤ z; omega
      · exact Int.le_refl _
      · show 0 ≤ m.k + 1; omega
      · show m.n + -1 = _; show _ = ((kidsN (rmN z ns p) m.p : Nat) : Int); omega
      · rcases k.own with h | ⟨h1, h2⟩
        · exact .inl h
        · omega
    · rename_i e
      rw [if_neg (fun h => e h.symm)] at hkm
      exact ⟨k.data, k.path, hup, k.c0, k.cm, k.cq, k.mz, k.qz, k.v0, k.v1, k.k0, by omega, k.own⟩

/- a node comes -/
def addN (z : Int) (ns : List Nd) (x : Nd) : List Nd := bumpAt (dirOf x.p) z 1 (insN ns x)
theorem add_good {z : Int} {ns A B : List Nd} {ss : List Int} {x : Nd} (g : GoodN z ns ss) (G : NGap ns A B x.p) (hl : ns.length < 400) (hg : goodB x.p = true) (hp : x.p ≠ [47]) (hu : ∃ u ∈ ns, u.p = dirOf x.p ∧ u.o = 0)
    (hd : x.d.length ≤ 256) (hz : 0 ≤ z) (hc : x.c = z) (hm : x.m = z) (hq : x.q = z) (hv : x.v = 0) (hk : x.k = 0) (hn : x.n = 0) (ho : x.o = 0 ∨ x.o ∈ ss) : GoodN z (addN z ns x) ss := by
  have hins := G.ins
  have hpaths : (addN z ns x).map Nd.p = (A ++ x :: B).map Nd.p := by rw [addN, bumpAt_paths, hins]
  have hmem : ∀ m ∈ ns, m ∈ A ++ x :: B := by
    intro m h
    rw [G.eq] at h
    rcases List.mem_append.1 h with h | h <;> simp [h]
  have hkid : ∀ y, kidsN (addN z ns x) y = kidsN ns y + (if dirOf x.p = y then 1 else 0) := by
    intro y
    rw [kidsN_paths, hpaths, ← kidsN_paths, G.eq]
    simp only [kidsN, List.countP_append, List.countP_cons, decide_eq_true_eq]
    omega
  have hno : kidsN ns x.p = 0 := by
    apply List.countP_eq_zero.2
    intro m hm
    simp only [decide_eq_true_eq]
    intro e
    have k := g.ok m hm
    by_cases h : m.p = [47]
    · rw [h, dirOf_root] at e
      rw [← e, ngood_nil] at hg
      cases hg
    · obtain ⟨u, hu, he⟩ := k.up h
      exact G.no u hu (he.trans e)
  obtain ⟨r, rest, hr, hr1, hr2⟩ := g.root
  refine ⟨?_, ?_, ?_, ?_⟩
  · have h2 : (addN z ns x).length = (A ++ x :: B).length := by have := congrArg List.length hpaths; simpa using this
    rw [G.eq] at hl
    simp at hl h2 ⊢
    omega
  · cases A with
    | nil =>
      exfalso
      have hB := G.eq
      simp at hB
      have h1 := G.hi r (by rw [← hB, hr]; simp)
      rw [hr1] at h1
      obtain ⟨s, hs⟩ := ngood_slash hg
      rw [hs] at h1 hp
      cases s with
      | nil => exact hp rfl
      | cons c s => simp [bl, Op.bytesLess] at h1
    | cons a A' =>
      have := G.eq
      rw [hr] at this
      cases this
      rw [addN, hins, bumpAt]
      refine ⟨_, _, List.map_cons, by rw [bump_p]; exact hr1, ?_⟩
      split
      · exact hr2
      · exact hr2
  · rw [nasc_paths, hpaths, ← nasc_paths]
    have h := g.asc
    rw [G.eq] at h
    unfold NAsc at h ⊢
    rw [List.pairwise_append] at h
    rw [List.pairwise_append, List.pairwise_cons]
    refine ⟨h.1, ⟨G.hi, h.2.1⟩, fun a ha b hb => ?_⟩
    rcases List.mem_cons.1 hb with rfl | hb
    · exact G.lo a ha
    · exact h.2.2 a ha b hb
  · have hin : ∀ m ∈ A ++ x :: B, (if m.p = dirOf x.p then bump z 1 m else m) ∈ addN z ns x := fun m h => by rw [addN, hins, bumpAt]; exact List.mem_map.2 ⟨m, h, rfl⟩
    intro m' hm'
    rw [addN, hins, bumpAt] at hm'
    obtain ⟨m, hm2, rfl⟩ := List.mem_map.1 hm'
    have hcase : m = x ∨ m ∈ ns := by
      rcases List.mem_append.1 hm2 with h | h
      · exact .inr (by rw [G.eq]; simp [h])
      · rcases List.mem_cons.1 h with h | h
        · exact .inl h
        · exact .inr (by rw [G.eq]; simp [h])
    rcases hcase with rfl | hms
    · rw [if_neg (fun h => (dirOf_ne hg hp).1 h.symm)]
      obtain ⟨u, hu1, hu2, _⟩ := hu
      have hkm := hkid m.p
      rw [if_neg (dirOf_ne hg hp).1, hno] at hkm
      refine ⟨hd, hg, fun _ => ⟨_, hin u (hmem u hu1), by rw [bump_p]; exact hu2⟩, by omega, by omega, by omega, by omega, by omega, by omega, by omega, by omega, by omega, ?_⟩
      rcases ho with h | h
      · exact .inl h
      · exact .inr ⟨h, hn⟩
    · have k := g.ok m hms
      have hup : m.p ≠ [47] → ∃ u ∈ addN z ns x, u.p = dirOf m.p := fun h => by
        obtain ⟨u, hu, he⟩ := k.up h
        exact ⟨_, hin u (hmem u hu), by rw [bump_p]; exact he⟩
      have hkm := hkid m.p
      have := k.kids
      have := k.cq
      have := k.qz
      have := k.k0
      split
      · rename_i e
        rw [if_pos e.symm] at hkm
        refine ⟨k.data, k.path, hup, k.c0, k.cm, ?_, k.mz, Int.le_refl _, k.v0, k.v1, ?_, ?_, ?_⟩
        · show m.c ≤ z; omega
        · show 0 ≤ m.k + 1; omega
        · show m.n + 1 = ((kidsN (addN z ns x) m.p : Nat) : Int); omega
        · obtain ⟨u, hu1, hu2, hu3⟩ := hu
          have : m = u := nasc_uniq g.asc hms hu1 (by rw [e, hu2])
          exact .inl (by rw [this]; exact hu3)
      · rename_i e
        rw [if_neg (fun h => e h.symm)] at hkm
        exact ⟨k.data, k.path, hup, k.c0, k.cm, k.cq, k.mz, k.qz, k.v0, k.v1, k.k0, by omega, k.own⟩

/- a node is set -/
theorem set_good {z : Int} {ns : List Nd} {ss : List Int} (g : GoodN z ns ss) (p d : List UInt8) (v : Int) (hd : d.length ≤ 256) (hv : 0 ≤ v ∧ v ≤ 2147483647) (hz : ∀ n ∈ ns, n.c ≤ z) : GoodN z (setAt p d v z ns) ss := by
  refine chg_good g _ (fun n => by split <;> rfl) (fun n hn k => ?_)
  split
  · exact ⟨⟨hd, k.path, k.up, k.c0, hz n hn, k.cq, Int.le_refl _, k.qz, hv.1, hv.2, k.k0, k.kids, k.own⟩, fun _ => rfl⟩
  · exact ⟨k, fun _ => rfl⟩

end Go.Proofs.YtalnmhgedfgooaaGreatDoor

namespace Go.Proofs.YtalnmhgedfgooaaGreatDoor
open Go.RowKit

def ownedP (ns : List Nd) (s : Int) : List (List UInt8) := (ns.filter fun n => decide (n.o = s)).map Nd.p
def rmAll (z : Int) (ns : List Nd) (ps : List (List UInt8)) : List Nd := ps.foldl (rmN z) ns
def rmEv (ps : List (List UInt8)) : List Ev := ps.flatMap fun p => [⟨2, p⟩, ⟨4, dirOf p⟩]
def fullN (ns : List Nd) : Bool := ns.any fun n => decide (2147483647 < n.k)
def newN (x : WTxn) : Nd := ⟨x.p, x.d, x.z, x.z, x.z, 0, 0, x.w, 0⟩
noncomputable def admE (t : Tr) (x : WTxn) : Int :=
  if goodT t = false then 3 else if gdE x ≠ 0 then gdE x else if x.z ≤ t.z then 13 else if x.o = 1 ∧ x.s ∈ t.ss then 8 else if x.o ≠ 1 ∧ x.s ∉ t.ss then 12 else 0
def creE (t : Tr) (x : WTxn) : Int := if (lookN t.ns x.p).isSome = true then 8 else (match lookN t.ns (dirOf x.p) with
  | none => 7
  | some u => if u.o ≠ 0 then 11 else if x.w ≠ 0 ∧ x.w ≠ x.s then 12 else if t.ns.length = 400 then 6 else 0)
def delE (t : Tr) (x : WTxn) : Int := match lookN t.ns x.p with
  | none => 7
  | some n => if n.n ≠ 0 then 10 else 0
def setE (t : Tr) (x : WTxn) : Int := match lookN t.ns x.p with
  | none => 7
  | some n => if x.v ≠ n.v + 1 then 9 else 0
def chgE (t : Tr) (x : WTxn) : Int := if x.o = 3 then creE t x else if x.o = 4 then delE t x else if x.o = 5 then setE t x else 0
def chgN (t : Tr) (x : WTxn) : List Nd := if x.o = 2 then rmAll x.z t.ns (ownedP t.ns x.s) else if x.o = 3 then addN x.z t.ns (newN x) else if x.o = 4 then rmN x.z t.ns x.p else if x.o = 5 then setAt x.p x.d x.v x.z t.ns else t.ns
def chgS (t : Tr) (x : WTxn) : List Int := if x.o = 1 then insS t.ss x.s else if x.o = 2 then dropS t.ss x.s else t.ss
def chgV (t : Tr) (x : WTxn) : List Ev := if x.o = 2 then rmEv (ownedP t.ns x.s) else if x.o = 3 then [⟨1, x.p⟩, ⟨4, dirOf x.p⟩] else if x.o = 4 then [⟨2, x.p⟩, ⟨4, dirOf x.p⟩] else if x.o = 5 then [⟨3, x.p⟩] else []
noncomputable def appE (t : Tr) (x : WTxn) : Int := if admE t x ≠ 0 then admE t x else if chgE t x ≠ 0 then chgE t x else if fullN (chgN t x) = true then 6 else 0
noncomputable def appT (t : Tr) (x : WTxn) : Tr := if appE t x = 0 then ⟨x.z, chgN t x, chgS t x⟩ else tr0
noncomputable def appV (t : Tr) (x : WTxn) : List Ev := if appE t x = 0 then chgV t x else []

theorem fullN_false {ns : List Nd} : fullN ns = false ↔ ∀ n ∈ ns, n.k ≤ 2147483647 := by
  rw [fullN, List.any_eq_false]
  constructor
  · intro h n hn; have := h n hn; simp at this; omega
  · intro h n hn; have := h n hn; simp; omega
theorem fullN_true {ns : List Nd} : fullN ns = true ↔ ∃ n ∈ ns, 2147483647 < n.k := by
  rw [fullN, List.any_eq_true]
  constructor
  · rintro ⟨n, hn, h⟩; exact ⟨n, hn, by simpa using h⟩
  · rintro ⟨n, hn, h⟩; exact ⟨n, hn, by simpa using h⟩

/- one of a row of removals -/
structure Rest (s : Int) (cur : List Nd) (ps : List (List UInt8)) : Prop where
  s0 : s ≠ 0
  nd : ps.Nodup
  there : ∀ p ∈ ps, ∃ n ∈ cur, n.p = p ∧ n.o = s
theorem mem_rm {z : Int} {ns : List Nd} {p : List UInt8} {n : Nd} (h : n ∈ rmN z ns p) : ∃ m ∈ ns, m.p ≠ p ∧ n = (if m.p = dirOf p then bump z (-1) m else m) := by
  rw [rmN, bumpAt] at h
  obtain ⟨m, hm, rfl⟩ := List.mem_map.1 h
  rw [dropN] at hm
  obtain ⟨h1, h2⟩ := List.mem_filter.1 hm
  exact ⟨m, h1, by simpa using h2, rfl⟩
theorem rm_mem {z : Int} {ns : List Nd} {p : List UInt8} {m : Nd} (h : m ∈ ns) (hp : m.p ≠ p) : (if m.p = dirOf p then bump z (-1) m else m) ∈ rmN z ns p := by
  rw [rmN, bumpAt]
  exact List.mem_map.2 ⟨m, by rw [dropN]; exact List.mem_filter.2 ⟨h, by simpa using hp⟩, rfl⟩
theorem bump_o (q : List UInt8) (z more : Int) (n : Nd) : (if n.p = q then bump z more n else n).o = n.o := by split <;> rfl
theorem bump_d (q : List UInt8) (z more : Int) (n : Nd) : (if n.p = q then bump z more n else n).d = n.d := by split <;> rfl
theorem bump_v (q : List UInt8) (z more : Int) (n : Nd) : (if n.p = q then bump z more n else n).v = n.v := by split <;> rfl
theorem bump_k (q : List UInt8) (z more : Int) (n : Nd) : n.k ≤ (if n.p = q then bump z more n else n).k := by
  split
  · show n.k ≤ n.k + 1; omega
  · exact Int.le_refl _
theorem rest_step {z s : Int} {cur : List Nd} {ss : List Int} {p : List UInt8} {ps : List (List UInt8)} (g : GoodN z cur ss) (R : Rest s cur (p :: ps)) :
    ∃ A n B u, NThere cur A n B p ∧ n.o = s ∧ n.n = 0 ∧ p ≠ [47] ∧ goodB p = true ∧ lookN cur (dirOf p) = some u ∧ u ∈ cur ∧ u.p = dirOf p ∧ u.p ≠ p ∧ u.o = 0 ∧ u.p ∉ ps ∧ GoodN z (rmN z cur p) ss ∧ Rest s (rmN z cur p) ps := by
  obtain ⟨n, hn, rfl, ho⟩ := R.there p (by simp)
  obtain ⟨A, B, T⟩ := there_of_look g.asc (look_mem g.asc hn)
  have h0 : n.o ≠ 0 := by rw [ho]; exact R.s0
  have hk : n.n = 0 := by
    rcases (g.ok n hn).own with h | ⟨_, h⟩
    · exact absurd h h0
    · exact h
  have hr := root_p g hn h0
  obtain ⟨u, hu1, hu2, hu3, hu4, hu5⟩ := up_look g hn hr
  refine ⟨A, n, B, u, T, ho, hk, hr, (g.ok n hn).path, hu1, hu2, hu3, hu4, hu5, ?_, rm_good g T hk hr, R.s0, (List.nodup_cons.1 R.nd).2, ?_⟩
  · intro hm
    obtain ⟨m, hm1, hm2, hm3⟩ := R.there u.p (by simp [hm])
    have : m = u := nasc_uniq g.asc hm1 hu2 hm2
    rw [this, hu5] at hm3
    exact R.s0 hm3.symm
  · intro q hq
    obtain ⟨m, hm1, hm2, hm3⟩ := R.there q (by simp [hq])
    have hne : m.p ≠ n.p := by
      rw [hm2]
      rintro rfl
      exact (List.nodup_cons.1 R.nd).1 hq
    exact ⟨_, rm_mem hm1 hne, by rw [bump_p]; exact hm2, by rw [bump_o]; exact hm3⟩
theorem rest_owned {z s : Int} {ns : List Nd} {ss : List Int} (g : GoodN z ns ss) (h : s ≠ 0) : Rest s ns (ownedP ns s) := by
  refine ⟨h, ?_, fun p hp => ?_⟩
  · have h1 : (ns.filter fun n => decide (n.o = s)).Pairwise fun a b => bl a.p b.p = true := g.asc.filter _
    rw [List.Nodup, ownedP, List.pairwise_map]
    exact h1.imp fun h => bl_ne h
  · obtain ⟨n, hn, rfl⟩ := List.mem_map.1 hp
    obtain ⟨h1, h2⟩ := List.mem_filter.1 hn
    exact ⟨n, h1, rfl, by simpa using h2⟩
theorem rmAll_good {z s : Int} {ss : List Int} : ∀ (ps : List (List UInt8)) (cur : List Nd), GoodN z cur ss → Rest s cur ps → GoodN z (rmAll z cur ps) ss
  | [], _, g, _ => g
  | p :: ps, cur, g, R => by
    obtain ⟨_, _, _, _, _, _, _, _, _, _, _, _, _, _, _, g', R'⟩ := rest_step g R
    exact rmAll_good ps (rmN z cur p) g' R'
theorem mem_rmAll {z : Int} : ∀ (ps : List (List UInt8)) (cur : List Nd) (n : Nd), n ∈ rmAll z cur ps → ∃ m ∈ cur, m.p = n.p ∧ m.o = n.o ∧ m.d = n.d ∧ m.v = n.v ∧ m.p ∉ ps
  | [], cur, n, h => ⟨n, h, rfl, rfl, rfl, rfl, by simp⟩
  | p :: ps, cur, n, h => by
    obtain ⟨m, h1, h2, h3, h4, h5, h6⟩ := mem_rmAll ps (rmN z cur p) n h
    obtain ⟨m', h1', hne, rfl⟩ := mem_rm h1
    rw [bump_p] at h2 h6
    rw [bump_o] at h3
    rw [bump_d] at h4
    rw [bump_v] at h5
    exact ⟨m', h1', h2, h3, h4, h5, by simp [hne, h6]⟩
theorem rmAll_mem {z : Int} : ∀ (ps : List (List UInt8)) (cur : List Nd) (m : Nd), m ∈ cur → m.p ∉ ps → ∃ n ∈ rmAll z cur ps, n.p = m.p ∧ n.o = m.o ∧ n.d = m.d ∧ n.v = m.v ∧ m.k ≤ n.k
  | [], _, m, h, _ => ⟨m, h, rfl, rfl, rfl, rfl, Int.le_refl _⟩
  | p :: ps, cur, m, h, hp => by
    simp only [List.mem_cons, not_or] at hp
    have h' := rm_mem (z := z) h hp.1
    obtain ⟨n, h1, h2, h3, h4, h5, h6⟩ := rmAll_mem ps (rmN z cur p) _ h' (by rw [bump_p]; exact hp.2)
    exact ⟨n, h1, by rw [h2, bump_p], by rw [h3, bump_o], by rw [h4, bump_d], by rw [h5, bump_v], Int.le_trans (bump_k _ _ _ _) h6⟩
theorem rm_length {z : Int} {ns A B : List Nd} {n : Nd} {p : List UInt8} (T : NThere ns A n B p) : (rmN z ns p).length + 1 = ns.length := by
  rw [rmN, bumpAt, List.length_map, T.drop, T.eq]
  simp; omega
theorem rmAll_length {z s : Int} {ss : List Int} : ∀ (ps : List (List UInt8)) (cur : List Nd), GoodN z cur ss → Rest s cur ps → (rmAll z cur ps).length + ps.length = cur.length
  | [], _, _, _ => by simp [rmAll]
  | p :: ps, cur, g, R => by
    obtain ⟨_, _, _, _, T, _, _, _, _, _, _, _, _, _, _, g', R'⟩ := rest_step g R
    have h1 := rm_length (z := z) T
    have h2 := rmAll_length ps (rmN z cur p) g' R'
    have h3 : rmAll z cur (p :: ps) = rmAll z (rmN z cur p) ps := rfl
    rw [h3]
    simp; omega
theorem full_stays {z : Int} (ps : List (List UInt8)) (cur : List Nd) (h : ∃ u ∈ cur, u.p ∉ ps ∧ 2147483647 < u.k) : fullN (rmAll z cur ps) = true := by
  obtain ⟨u, h1, h2, h3⟩ := h
  obtain ⟨n, hn, _, _, _, _, hk⟩ := rmAll_mem (z := z) ps cur u h1 h2
  exact fullN_true.2 ⟨n, hn, by omega⟩
theorem rm_cap {z : Int} {ns : List Nd} {p : List UInt8} {u : Nd} (ha : NAsc ns) (hu : u ∈ ns) (hp : u.p = dirOf p) (hk : u.k < 2147483647) (h : ∀ n ∈ ns, n.k ≤ 2147483647) : ∀ n ∈ rmN z ns p, n.k ≤ 2147483647 := by
  intro n hn
  obtain ⟨m, hm, _, rfl⟩ := mem_rm hn
  split
  · rename_i e
    have : m = u := nasc_uniq ha hm hu (by rw [e, hp])
    subst this
    show m.k + 1 ≤ _; omega
  · exact h m hm
/-- a parent that has no room -/
theorem rm_full {z : Int} {ns : List Nd} {p : List UInt8} {u : Nd} (hu : u ∈ ns) (hp : u.p = dirOf p) (hne : u.p ≠ p) (hk : u.k = 2147483647) (ps : List (List UInt8)) (hps : u.p ∉ ps) : fullN (rmAll z (rmN z ns p) ps) = true :=
  full_stays ps _ ⟨bump z (-1) u, by have := rm_mem (z := z) hu hne; rwa [if_pos hp] at this, hps, by show 2147483647 < u.k + 1; omega⟩

theorem rmAll_split (z : Int) (ns : List Nd) (ps : List (List UInt8)) (k : Nat) : rmAll z ns ps = rmAll z (rmAll z ns (ps.take k)) (ps.drop k) := by
  rw [rmAll, rmAll, rmAll, ← List.foldl_append, List.take_append_drop]
theorem rmAll_next (z : Int) (ns : List Nd) {ps : List (List UInt8)} {k : Nat} {p : List UInt8} (h : ps[k]? = some p) : rmAll z ns (ps.take (k + 1)) = rmN z (rmAll z ns (ps.take k)) p := by
  rw [rmAll, List.take_add_one, h, List.foldl_append]
  rfl
theorem rmEv_next {ps : List (List UInt8)} {k : Nat} {p : List UInt8} (h : ps[k]? = some p) : rmEv (ps.take (k + 1)) = rmEv (ps.take k) ++ [⟨2, p⟩, ⟨4, dirOf p⟩] := by
  rw [rmEv, List.take_add_one, h, List.flatMap_append]
  rfl
theorem rmEv_len (ps : List (List UInt8)) : (rmEv ps).length = 2 * ps.length := by
  induction ps with
  | nil => rfl
  | cons p ps ih =>
    rw [rmEv] at ih
    simp only [rmEv, List.flatMap_cons, List.length_append, List.length_cons, List.length_nil, ih]
    omega
theorem dirOf_len (p : List UInt8) : (dirOf p).length ≤ 200 := by
  cases hgb : goodB p with
  | false => rw [dirOf_bad hgb]; simp
  | true =>
    by_cases hr : p = [47]
    · rw [hr, dirOf_root]; simp
    · obtain ⟨a, c, he, hc⟩ := good_cut hgb
      have := goodB_le hgb
      rw [he] at hgb hr this ⊢
      rw [dirOf_cut hgb hr hc, nupL]
      split
      · simp
      · simp at this; omega
theorem there_drop {cur A B : List Nd} {n u : Nd} {p q : List UInt8} (ha : NAsc cur) (T : NThere cur A n B p) (hu : u ∈ cur) (hq : u.p = q) (hne : u.p ≠ p) : ∃ A' B', NThere (A ++ B) A' u B' q := by
  have hm : u ∈ A ++ B := by rw [← T.drop, dropN]; exact List.mem_filter.2 ⟨hu, by simpa using hne⟩
  have hs : NAsc (A ++ B) := ha.sublist (by rw [T.eq]; exact (List.Sublist.refl A).append (List.sublist_cons_self n B))
  rw [← hq]
  exact there_of_look hs (look_mem hs hm)

/- what is known behind the first checks -/
theorem adm_zero {t : Tr} {x : WTxn} (h : admE t x = 0) : GoodT t ∧ gdE x = 0 ∧ t.z < x.z ∧ (x.o = 1 → x.s ∉ t.ss) ∧ (x.o ≠ 1 → x.s ∈ t.ss) := by
  unfold admE at h
  split at h
  · omega
  · rename_i h1
    split at h
    · omega
    · rename_i h2
      split at h
      · omega
      · rename_i h3
        split at h
        · omega
        · rename_i h4
          split at h
          · omega
          · rename_i h5
            refine ⟨goodT_true.1 (by simpa using h1), by omega, by omega, fun e hm => h4 ⟨e, hm⟩, fun e => ?_⟩
            by_cases hm : x.s ∈ t.ss
            · exact hm
            · exact absurd ⟨e, hm⟩ h5
theorem app_zero {t : Tr} {x : WTxn} (h : appE t x = 0) : admE t x = 0 ∧ chgE t x = 0 ∧ fullN (chgN t x) = false := by
  unfold appE at h
  split at h
  · rename_i h1; exact absurd h h1
  · rename_i h1
    split at h
    · rename_i h2; exact absurd h h2
    · rename_i h2
      split at h
      · omega
      · rename_i h3; exact ⟨by omega, by omega, by simpa using h3⟩
theorem cre_zero {t : Tr} {x : WTxn} (h : creE t x = 0) : lookN t.ns x.p = none ∧ (∃ u, lookN t.ns (dirOf x.p) = some u ∧ u.o = 0) ∧ (x.w = 0 ∨ x.w = x.s) ∧ t.ns.length ≠ 400 := by
  unfold creE at h
  split at h
  · omega
  · rename_i h1
    split at h
    · omega
    · rename_i u hu
      split at h
      · omega
      · rename_i h2
        split at h
        · omega
        · rename_i h3
          split at h
          · omega
          · rename_i h4
            refine ⟨by simpa using h1, ⟨u, hu, by omega⟩, ?_, h4⟩
            by_cases e : x.w = 0
            · exact .inl e
            · by_cases e' : x.w = x.s
              · exact .inr e'
              · exact absurd ⟨e, e'⟩ h3
theorem del_zero {t : Tr} {x : WTxn} (h : delE t x = 0) : ∃ n, lookN t.ns x.p = some n ∧ n.n = 0 := by
  unfold delE at h
  split at h
  · omega
  · rename_i n hn
    split at h
    · omega
    · exact ⟨n, hn, by omega⟩
theorem set_zero {t : Tr} {x : WTxn} (h : setE t x = 0) : ∃ n, lookN t.ns x.p = some n ∧ x.v = n.v + 1 := by
  unfold setE at h
  split at h
  · omega
  · rename_i n hn
    split at h
    · omega
    · exact ⟨n, hn, by omega⟩
structure Fine (x : WTxn) : Prop where
  op : 1 ≤ x.o ∧ x.o ≤ 5
  z : 0 ≤ x.z ∧ zGood x.z = true
  s : 1 ≤ x.s ∧ x.s ≤ 2147483647
  v : 0 ≤ x.v ∧ x.v ≤ 2147483647
  w : 0 ≤ x.w ∧ x.w ≤ 2147483647
  d : x.d.length ≤ 256
  path : x.o = 3 ∨ x.o = 4 → goodB x.p = true ∧ x.p ≠ [47]
  path5 : x.o = 5 → goodB x.p = true
  data : x.o ≠ 3 → x.o ≠ 5 → x.d = []

end Go.Proofs.YtalnmhgedfgooaaGreatDoor

namespace Go.Proofs.YtalnmhgedfgooaaGreatDoor
open Go.RowKit

theorem fine_of {x : WTxn} (h : gdE x = 0) : Fine x := by
  obtain ⟨h1, h2, h3, h4⟩ := gdE_zero h
  obtain ⟨n1, n2, n3, n4⟩ := numB_iff.1 h2
  have o := opB_iff.1 h1
  have z := n1
  simp only [zGood, Bool.and_eq_true, decide_eq_true_eq] at z
  refine ⟨o, ⟨z.1, n1⟩, cntB_iff.1 n2, cntB_iff.1 n3, cntB_iff.1 n4, h3, ?_, ?_, ?_⟩
  · rintro (e | e)
    · simp [fmB, e] at h4
      exact ⟨h4.1.1, h4.1.2⟩
    · simp [fmB, e] at h4
      exact ⟨h4.1.1.1.1, h4.1.1.1.2⟩
  · intro e
    simp [fmB, e] at h4
    exact h4.1
  · intro e3 e5
    by_cases e4 : x.o = 4
    · simp [fmB, e4] at h4
      exact h4.1.1.2
    · simp [fmB, e3, e4, e5] at h4
      exact h4.1.1.2
theorem app_good {t : Tr} {x : WTxn} (h : appE t x = 0) : GoodT (appT t x) ∧ (appT t x).z = x.z ∧ t.z < x.z := by
  obtain ⟨ha, hc, hf⟩ := app_zero h
  obtain ⟨g, hg, hz, h1, h2⟩ := adm_zero ha
  have f := fine_of hg
  have hs := g.ses
  have gn : GoodN x.z t.ns t.ss := g.nod.mono (by omega)
  rw [appT, if_pos h]
  refine ⟨⟨f.z.2, ?_, ?_, fullN_false.1 hf⟩, rfl, hz⟩
  · show SAsc (chgS t x)
    rw [chgS]
    split
    · rename_i e; exact sasc_ins hs f.s (h1 e)
    · split
      · exact sasc_drop _ hs
      · exact hs
  · show GoodN x.z (chgN t x) (chgS t x)
    rw [chgN, chgS]
    by_cases e1 : x.o = 1
    · rw [if_neg (by omega), if_neg (by omega), if_neg (by omega), if_neg (by omega), if_pos e1]
      exact gn.more (fun n _ _ h => mem_insS h)
    · rw [if_neg e1]
      have hm := h2 e1
      by_cases e2 : x.o = 2
      · rw [if_pos e2, if_pos e2]
        have R := rest_owned gn (s := x.s) (by have := f.s; omega)
        refine (rmAll_good _ _ gn R).more (fun n hn h0 hi => ?_)
        rw [dropS]
        refine List.mem_filter.2 ⟨hi, ?_⟩
        simp only [decide_eq_true_eq]
        intro e
        obtain ⟨m, hm1, hm2, hm3, _, _, hm4⟩ := mem_rmAll _ _ n hn
        apply hm4
        rw [ownedP]
        exact List.mem_map.2 ⟨m, List.mem_filter.2 ⟨hm1, by simp only [decide_eq_true_eq]; rw [hm3, e]⟩, rfl⟩
      · rw [if_neg e2, if_neg e2]
        by_cases e3 : x.o = 3
        · rw [if_pos e3]
          rw [chgE, if_pos e3] at hc
          obtain ⟨c1, ⟨u, c2, c3⟩, c4, c5⟩ := cre_zero hc
          obtain ⟨A, B, G⟩ := gap_of_look g.nod.asc c1
          obtain ⟨p1, p2⟩ := f.path (.inl e3)
          have hu := lookN_some c2
          refine add_good (x := newN x) gn G (by have := g.nod.few; omega) p1 p2 ⟨u, hu.1, hu.2, c3⟩ f.d f.z.1 rfl rfl rfl rfl rfl rfl ?_
          rcases c4 with c | c
          · exact .inl c
          · exact .inr (by show x.w ∈ t.ss; rw [c]; exact hm)
        · rw [if_neg e3]
          by_cases e4 : x.o = 4
          · rw [if_pos e4]
            rw [chgE, if_neg e3, if_pos e4] at hc
            obtain ⟨n, c1, c2⟩ := del_zero hc
            obtain ⟨A, B, T⟩ := there_of_look g.nod.asc c1
            exact rm_good gn T c2 (f.path (.inr e4)).2
          · rw [if_neg e4]
            by_cases e5 : x.o = 5
            · rw [if_pos e5]
              exact set_good gn x.p x.d x.v f.d f.v (fun n hn => by have k := g.nod.ok n hn; have := k.cm; have := k.mz; omega)
            · have := f.op; omega

end Go.Proofs.YtalnmhgedfgooaaGreatDoor
