/-
  A tree as plain lists: nodes by path, sessions, what a good one is, where a path stands. No program is named here.
  What a transaction makes of a tree, as plain lists; that good trees stay good. No program is named here.
-/
import Derived.Test.YtcplpbelficbeaaGreatDoorRQA
import Derived.Test.YtcplpbelficbeaaGreatDoorRQB
namespace Go.Proofs.YtcplpbelficbeaaGreatDoor
open Go.RowKit

/- a path's parent and last step -/
def lastCut : List UInt8 → Option (List UInt8 × List UInt8)
  | [] => none
  | c :: l => match lastCut l with
    | some (a, b) => some (c :: a, b)
    | none => if c = 47 then some ([], l) else none
theorem lastCut_none : ∀ b : List UInt8, 47 ∉ b → lastCut b = none
  | [], _ => rfl
  | c :: l, h => by
    have h1 : c ≠ 47 := by rintro rfl; simp at h
    rw [lastCut, lastCut_none l (by simp at h; exact h.2)]
    simp [h1]
theorem lastCut_some (b : List UInt8) (hb : 47 ∉ b) : ∀ a : List UInt8, lastCut (a ++ 47 :: b) = some (a, b)
  | [] => by simp [lastCut, lastCut_none b hb]
  | c :: a => by simp [lastCut, lastCut_some b hb a]
def nupL (a : List UInt8) : List UInt8 := if a = [] then [47] else a
def dirOf (p : List UInt8) : List UInt8 := if goodB p = true ∧ p ≠ [47] then (match lastCut p with
  | some (a, _) => nupL a
  | none => []) else []
def stepOf (p : List UInt8) : List UInt8 := if goodB p = true ∧ p ≠ [47] then (match lastCut p with
  | some (_, b) => b
  | none => []) else []
def splE (p : List UInt8) : Int := if goodB p = true then (if p = [47] then 7 else 0) else 2
theorem ngood_slash {p : List UInt8} (h : goodB p = true) : ∃ r, p = 47 :: r := by
  simp only [goodB, Bool.and_eq_true] at h
  have h1 := h.1.2
  cases p with
  | nil => simp [Lib.hasPrefix, List.isPrefixOf] at h1
  | cons c r => simp [Lib.hasPrefix, List.isPrefixOf] at h1; exact ⟨r, by rw [h1]⟩
theorem ngood_nil : goodB [] = false := by decide +kernel
theorem good_cut {p : List UInt8} (h : goodB p = true) : ∃ a b, p = a ++ 47 :: b ∧ 47 ∉ b := by
  obtain ⟨r, rfl⟩ := ngood_slash h
  exact last_slash _ (by simp)
theorem dirOf_cut {a b : List UInt8} (h : goodB (a ++ 47 :: b) = true) (hn : a ++ 47 :: b ≠ [47]) (hb : 47 ∉ b) : dirOf (a ++ 47 :: b) = nupL a := by
  rw [dirOf, if_pos ⟨h, hn⟩, lastCut_some b hb a]
theorem stepOf_cut {a b : List UInt8} (h : goodB (a ++ 47 :: b) = true) (hn : a ++ 47 :: b ≠ [47]) (hb : 47 ∉ b) : stepOf (a ++ 47 :: b) = b := by
  rw [stepOf, if_pos ⟨h, hn⟩, lastCut_some b hb a]
theorem dirOf_bad {p : List UInt8} (h : goodB p = false) : dirOf p = [] := by rw [dirOf, if_neg (by simp [h])]
theorem stepOf_bad {p : List UInt8} (h : goodB p = false) : stepOf p = [] := by rw [stepOf, if_neg (by simp [h])]
theorem dirOf_root : dirOf [47] = [] := by rw [dirOf, if_neg (by simp)]
theorem stepOf_root : stepOf [47] = [] := by rw [stepOf, if_neg (by simp)]
theorem splE_bad {p : List UInt8} (h : goodB p = false) : splE p = 2 := by rw [splE, if_neg (by simp [h])]
theorem splE_root : splE [47] = 7 := by rw [splE, if_pos goodB_root, if_pos rfl]
theorem splE_ok {p : List UInt8} (h : goodB p = true) (hn : p ≠ [47]) : splE p = 0 := by rw [splE, if_pos h, if_neg hn]
theorem dirOf_ne {p : List UInt8} (h : goodB p = true) (hn : p ≠ [47]) : dirOf p ≠ p ∧ dirOf p ≠ [] := by
  obtain ⟨a, b, rfl, hb⟩ := good_cut h
  rw [dirOf_cut h hn hb, nupL]
  split
  · rename_i h0; subst h0
    exact ⟨fun e => hn (by simpa using e.symm), by simp⟩
  · rename_i h0
    refine ⟨fun e => ?_, h0⟩
    have := congrArg List.length e
    simp at this
/- nodes -/
structure Nd where
  p : List UInt8
  d : List UInt8
  c : Int
  m : Int
  q : Int
  v : Int
  k : Int
  o : Int
  n : Int
instance : Inhabited Nd := ⟨⟨[], [], 0, 0, 0, 0, 0, 0, 0⟩⟩
structure Tr where
  z : Int
  ns : List Nd
  ss : List Int
def tr0 : Tr := ⟨0, [], []⟩
def nroot : Nd := ⟨[47], [], 0, 0, 0, 0, 0, 0, 0⟩
def trNew : Tr := ⟨0, [nroot], []⟩

def NAsc (ns : List Nd) : Prop := ns.Pairwise fun a b => bl a.p b.p = true
def kidsN (ns : List Nd) (p : List UInt8) : Nat := ns.countP fun x => decide (dirOf x.p = p)
structure NOk (z : Int) (ns : List Nd) (ss : List Int) (n : Nd) : Prop where
  data : n.d.length ≤ 256
  path : goodB n.p = true
  up : n.p ≠ [47] → ∃ u ∈ ns, u.p = dirOf n.p
  c0 : 0 ≤ n.c
  cm : n.c ≤ n.m
  cq : n.c ≤ n.q
  mz : n.m ≤ z
  qz : n.q ≤ z
  v0 : 0 ≤ n.v
  v1 : n.v ≤ 2147483647
  k0 : 0 ≤ n.k
  kids : n.n = kidsN ns n.p
  own : n.o = 0 ∨ n.o ∈ ss ∧ n.n = 0
structure GoodN (z : Int) (ns : List Nd) (ss : List Int) : Prop where
  few : ns.length ≤ 400
  root : ∃ r rest, ns = r :: rest ∧ r.p = [47] ∧ r.o = 0
  asc : NAsc ns
  ok : ∀ n ∈ ns, NOk z ns ss n
def SAsc (ss : List Int) : Prop := ss.Pairwise (· < ·) ∧ ∀ s ∈ ss, 1 ≤ s ∧ s ≤ 2147483647
structure GoodT (t : Tr) : Prop where
  zx : zGood t.z = true
  ses : SAsc t.ss
  nod : GoodN t.z t.ns t.ss
  cap : ∀ n ∈ t.ns, n.k ≤ 2147483647
noncomputable def goodT (t : Tr) : Bool := @decide (GoodT t) (Classical.propDecidable _)
theorem goodT_true {t : Tr} : goodT t = true ↔ GoodT t := by unfold goodT; exact @decide_eq_true_iff _ (Classical.propDecidable _)
theorem goodT_false {t : Tr} : goodT t = false ↔ ¬ GoodT t := by unfold goodT; exact @decide_eq_false_iff_not _ (Classical.propDecidable _)

theorem nasc_uniq {ns : List Nd} (h : NAsc ns) {a b : Nd} (ha : a ∈ ns) (hb : b ∈ ns) (e : a.p = b.p) : a = b := by
  obtain ⟨i, hi, rfl⟩ := List.getElem_of_mem ha
  obtain ⟨j, hj, rfl⟩ := List.getElem_of_mem hb
  have h := List.pairwise_iff_getElem.1 h
  by_cases h1 : i < j
  · exact absurd e (bl_ne (h i j hi hj h1))
  · by_cases h2 : j < i
    · exact absurd e.symm (bl_ne (h j i hj hi h2))
    · obtain rfl : i = j := by omega
      rfl

/- where a path stands -/
structure NThere (ns A : List Nd) (n : Nd) (B : List Nd) (p : List UInt8) : Prop where
  eq : ns = A ++ n :: B
  nm : n.p = p
  lo : ∀ a ∈ A, bl a.p p = true
  hi : ∀ b ∈ B, bl p b.p = true
structure NGap (ns A B : List Nd) (p : List UInt8) : Prop where
  eq : ns = A ++ B
  lo : ∀ a ∈ A, bl a.p p = true
  hi : ∀ b ∈ B, bl p b.p = true
theorem nwhere (p : List UInt8) : ∀ ns : List Nd, NAsc ns → (∃ A n B, NThere ns A n B p) ∨ ∃ A B, NGap ns A B p
  | [], _ => .inr ⟨[], [], rfl, by simp, by simp⟩
  | x :: r, h => by
    obtain ⟨hx, hr⟩ := List.pairwise_cons.1 h
    cases h1 : bl x.p p with
    | true =>
      rcases nwhere p r hr with ⟨A, f, B, T⟩ | ⟨A, B, G⟩
      · exact .inl ⟨x :: A, f, B, by rw [T.eq]; rfl, T.nm, by simp [h1]; exact T.lo, T.hi⟩
      · exact .inr ⟨x :: A, B, by rw [G.eq]; rfl, by simp [h1]; exact G.lo, G.hi⟩
    | false =>
      cases h2 : bl p x.p with
      | true => exact .inr ⟨[], x :: r, rfl, by simp, by simp [h2]; exact fun b hb => bl_trans _ _ _ h2 (hx b hb)⟩
      | false =>
        have e := bl_total _ _ h1 h2
        exact .inl ⟨[], x, r, rfl, e, by simp, fun b hb => by rw [← e]; exact hx b hb⟩
def lookN (ns : List Nd) (p : List UInt8) : Option Nd := ns.find? fun n => decide (n.p = p)
theorem NThere.look {ns A B : List Nd} {n : Nd} {p : List UInt8} (T : NThere ns A n B p) : lookN ns p = some n := by
  rw [lookN, T.eq, List.find?_append, List.find?_eq_none.2 (fun a ha => by simp [bl_ne (T.lo a ha)])]
  simp [T.nm]
theorem NGap.no {ns A B : List Nd} {p : List UInt8} (G : NGap ns A B p) : ∀ n ∈ ns, n.p ≠ p := by
  intro n hn
  rw [G.eq] at hn
  rcases List.mem_append.1 hn with h | h
  · exact bl_ne (G.lo n h)
  · exact (bl_ne (G.hi n h)).symm
theorem NGap.look {ns A B : List Nd} {p : List UInt8} (G : NGap ns A B p) : lookN ns p = none := by
  rw [lookN, List.find?_eq_none]
  intro n hn
  simp [G.no n hn]
theorem lookN_some {ns : List Nd} {p : List UInt8} {n : Nd} (h : lookN ns p = some n) : n ∈ ns ∧ n.p = p := by
  refine ⟨List.mem_of_find?_eq_some h, ?_⟩
  have := List.find?_some h
  simpa using this
theorem look_mem {ns : List Nd} (h : NAsc ns) {n : Nd} (hn : n ∈ ns) : lookN ns n.p = some n := by
  rcases nwhere n.p ns h with ⟨A, m, B, T⟩ | ⟨A, B, G⟩
  · rw [T.look, nasc_uniq h (by rw [T.eq]; simp) hn T.nm]
  · exact absurd rfl (G.no n hn)
theorem there_of_look {ns : List Nd} (h : NAsc ns) {p : List UInt8} {n : Nd} (hn : lookN ns p = some n) : ∃ A B, NThere ns A n B p := by
  rcases nwhere p ns h with ⟨A, m, B, T⟩ | ⟨A, B, G⟩
  · rw [T.look] at hn; cases hn; exact ⟨A, B, T⟩
  · rw [G.look] at hn; cases hn
theorem gap_of_look {ns : List Nd} (h : NAsc ns) {p : List UInt8} (hn : lookN ns p = none) : ∃ A B, NGap ns A B p := by
  rcases nwhere p ns h with ⟨A, m, B, T⟩ | ⟨A, B, G⟩
  · rw [T.look] at hn; cases hn
  · exact ⟨A, B, G⟩

/- changes -/
def dropN (ns : List Nd) (p : List UInt8) : List Nd := ns.filter fun n => decide (n.p ≠ p)
def insN (ns : List Nd) (x : Nd) : List Nd := (ns.filter fun n => bl n.p x.p) ++ x :: (ns.filter fun n => bl x.p n.p)
def bump (z more : Int) (n : Nd) : Nd := ⟨n.p, n.d, n.c, n.m, z, n.v, n.k + 1, n.o, n.n + more⟩
def bumpAt (p : List UInt8) (z more : Int) (ns : List Nd) : List Nd := ns.map fun n => if n.p = p then bump z more n else n
def setAt (p d : List UInt8) (v z : Int) (ns : List Nd) : List Nd := ns.map fun n => if n.p = p then ⟨n.p, d, n.c, z, n.q, v, n.k, n.o, n.n⟩ else n
theorem filter_all {α : Type} (f : α → Bool) (l : List α) (h : ∀ x ∈ l, f x = true) : l.filter f = l := List.filter_eq_self.2 h
theorem filter_no {α : Type} (f : α → Bool) (l : List α) (h : ∀ x ∈ l, f x = false) : l.filter f = [] := List.filter_eq_nil_iff.2 (fun x hx => by simp [h x hx])
theorem map_same {α : Type} (f : α → α) (l : List α) (h : ∀ x ∈ l, f x = x) : l.map f = l := by
  induction l with
  | nil => rfl
  | cons x r ih => rw [List.map_cons, h x (by simp), ih (fun y hy => h y (by simp [hy]))]
theorem NThere.drop {ns A B : List Nd} {n : Nd} {p : List UInt8} (T : NThere ns A n B p) : dropN ns p = A ++ B := by
  rw [dropN, T.eq, List.filter_append, List.filter_cons, filter_all _ A (fun a ha => by simp [bl_ne (T.lo a ha)]), filter_all _ B (fun a ha => by simp [(bl_ne (T.hi a ha)).symm])]
  simp [T.nm]
theorem NGap.ins {ns A B : List Nd} {x : Nd} (G : NGap ns A B x.p) : insN ns x = A ++ x :: B := by
  rw [insN, G.eq, List.filter_append, List.filter_append, filter_all _ A (fun a ha => G.lo a ha), filter_no _ B (fun a ha => bl_asymm (G.hi a ha)), filter_no _ A (fun a ha => bl_asymm (G.lo a ha)), filter_all _ B (fun a ha => G.hi a ha)]
  simp
theorem NThere.mapAt {ns A B : List Nd} {n : Nd} {p : List UInt8} (T : NThere ns A n B p) (g : Nd → Nd) : (ns.map fun x => if x.p = p then g x else x) = A ++ g n :: B := by
  rw [T.eq, List.map_append, List.map_cons, map_same _ A (fun a ha => by simp [bl_ne (T.lo a ha)]), map_same _ B (fun a ha => by simp [(bl_ne (T.hi a ha)).symm])]
  simp [T.nm]
theorem NThere.bump {ns A B : List Nd} {n : Nd} {p : List UInt8} (T : NThere ns A n B p) (z more : Int) : bumpAt p z more ns = A ++ bump z more n :: B := T.mapAt _
theorem NThere.put {ns A B : List Nd} {n : Nd} {p : List UInt8} (T : NThere ns A n B p) (d : List UInt8) (v z : Int) : setAt p d v z ns = A ++ ⟨n.p, d, n.c, z, n.q, v, n.k, n.o, n.n⟩ :: B := T.mapAt _
theorem bump_p (p : List UInt8) (z more : Int) (n : Nd) : (if n.p = p then bump z more n else n).p = n.p := by split <;> rfl
theorem bumpAt_paths (p : List UInt8) (z more : Int) (ns : List Nd) : (bumpAt p z more ns).map Nd.p = ns.map Nd.p := by
  rw [bumpAt, List.map_map]
  apply List.map_congr_left
  intro n _
  exact bump_p p z more n
theorem nasc_paths (ns : List Nd) : NAsc ns ↔ (ns.map Nd.p).Pairwise fun a b => bl a b = true := by rw [List.pairwise_map]; rfl
theorem kidsN_paths (ns : List Nd) (p : List UInt8) : kidsN ns p = (ns.map Nd.p).countP fun x => decide (dirOf x = p) := by rw [List.countP_map]; rfl

/- a session -/
def insS (ss : List Int) (s : Int) : List Int := (ss.filter fun x => decide (x < s)) ++ s :: (ss.filter fun x => decide (s < x))
def dropS (ss : List Int) (s : Int) : List Int := ss.filter fun x => decide (x ≠ s)
structure SThere (ss A B : List Int) (s : Int) : Prop where
  eq : ss = A ++ s :: B
  lo : ∀ a ∈ A, a < s
  hi : ∀ b ∈ B, s < b
structure SGap (ss A B : List Int) (s : Int) : Prop where
  eq : ss = A ++ B
  lo : ∀ a ∈ A, a < s
  hi : ∀ b ∈ B, s < b
theorem swhere (s : Int) : ∀ ss : List Int, ss.Pairwise (· < ·) → (∃ A B, SThere ss A B s) ∨ ∃ A B, SGap ss A B s
  | [], _ => .inr ⟨[], [], rfl, by simp, by simp⟩
  | x :: r, h => by
    obtain ⟨hx, hr⟩ := List.pairwise_cons.1 h
    by_cases h1 : x < s
    · rcases swhere s r hr with ⟨A, B, T⟩ | ⟨A, B, G⟩
      · exact .inl ⟨x :: A, B, by rw [T.eq]; rfl, by simp [h1]; exact T.lo, T.hi⟩
      · exact .inr ⟨x :: A, B, by rw [G.eq]; rfl, by simp [h1]; exact G.lo, G.hi⟩
    · by_cases h2 : s < x
      · exact .inr ⟨[], x :: r, rfl, by simp, by simp [h2]; exact fun b hb => Int.lt_trans h2 (hx b hb)⟩
      · obtain rfl : x = s := by omega
        exact .inl ⟨[], r, rfl, by simp, hx⟩
theorem SThere.mem {ss A B : List Int} {s : Int} (T : SThere ss A B s) : s ∈ ss := by rw [T.eq]; simp
theorem SGap.not {ss A B : List Int} {s : Int} (G : SGap ss A B s) : s ∉ ss := by
  intro h
  rw [G.eq] at h
  rcases List.mem_append.1 h with h | h
  · exact absurd (G.lo s h) (by omega)
  · exact absurd (G.hi s h) (by omega)
theorem SGap.ins {ss A B : List Int} {s : Int} (G : SGap ss A B s) : insS ss s = A ++ s :: B := by
  rw [insS, G.eq, List.filter_append, List.filter_append, filter_all _ A (fun a ha => by simpa using G.lo a ha), filter_no _ B (fun a ha => by have := G.hi a ha; simp; omega), filter_no _ A (fun a ha => by have := G.lo a ha; simp; omega), filter_all _ B (fun a ha => by simpa using G.hi a ha)]
  simp
theorem SThere.drop {ss A B : List Int} {s : Int} (T : SThere ss A B s) : dropS ss s = A ++ B := by
  rw [dropS, T.eq, List.filter_append, List.filter_cons, filter_all _ A (fun a ha => by have := T.lo a ha; simp; omega), filter_all _ B (fun a ha => by have := T.hi a ha; simp; omega)]
  simp
theorem rising_len (M : Int) : ∀ (ss : List Int) (lo : Int), ss.Pairwise (· < ·) → (∀ s ∈ ss, lo < s ∧ s ≤ M) → lo ≤ M → (ss.length : Int) ≤ M - lo
  | [], lo, _, _, h => by simp; omega
  | x :: r, lo, hp, hb, _ => by
    obtain ⟨hx, hr⟩ := List.pairwise_cons.1 hp
    have h1 := hb x (by simp)
    have := rising_len M r x hr (fun s hs => ⟨hx s hs, (hb s (by simp [hs])).2⟩) h1.2
    simp; omega
theorem sasc_len {ss : List Int} (h : SAsc ss) : ss.length ≤ 2147483647 := by
  have := rising_len 2147483647 ss 0 h.1 (fun s hs => by have := h.2 s hs; omega) (by omega)
  omega
theorem sasc_ins {ss : List Int} {s : Int} (h : SAsc ss) (hs : 1 ≤ s ∧ s ≤ 2147483647) (hn : s ∉ ss) : SAsc (insS ss s) := by
  rcases swhere s ss h.1 with ⟨A, B, T⟩ | ⟨A, B, G⟩
  · exact absurd T.mem hn
  · rw [G.ins]
    have h1 := h.1
    have h2 := h.2
    rw [G.eq] at h1 h2
    rw [List.pairwise_append] at h1
    refine ⟨?_, ?_⟩
    · rw [List.pairwise_append, List.pairwise_cons]
      refine ⟨h1.1, ⟨G.hi, h1.2.1⟩, fun a ha b hb => ?_⟩
      rcases List.mem_cons.1 hb with rfl | hb
      · exact G.lo a ha
      · exact h1.2.2 a ha b hb
    · intro x hx
      rcases List.mem_append.1 hx with h | h
      · exact h2 x (by simp [h])
      · rcases List.mem_cons.1 h with rfl | h
        · exact hs
        · exact h2 x (by simp [h])
theorem sasc_drop {ss : List Int} (s : Int) (h : SAsc ss) : SAsc (dropS ss s) := ⟨h.1.filter _, fun x hx => h.2 x (List.mem_filter.1 hx).1⟩
theorem mem_insS {ss : List Int} {s x : Int} (hx : x ∈ ss) : x ∈ insS ss s := by
  rw [insS]
  by_cases h1 : x < s
  · exact List.mem_append_left _ (List.mem_filter.2 ⟨hx, by simpa using h1⟩)
  · by_cases h2 : s < x
    · exact List.mem_append_right _ (List.mem_cons_of_mem _ (List.mem_filter.2 ⟨hx, by simpa using h2⟩))
    · obtain rfl : x = s := by omega
      exact List.mem_append_right _ (by simp)

end Go.Proofs.YtcplpbelficbeaaGreatDoor

namespace Go.Proofs.YtcplpbelficbeaaGreatDoor
open Go.RowKit

theorem GoodN.mono {z z' : Int} {ns : List Nd} {ss : List Int} (g : GoodN z ns ss) (h : z ≤ z') : GoodN z' ns ss :=
  ⟨g.few, g.root, g.asc, fun n hn => by
    have k := g.ok n hn
    have := k.mz
    have := k.qz
    exact ⟨k.data, k.path, k.up, k.c0, k.cm, k.cq, by omega, by omega, k.v0, k.v1, k.k0, k.kids, k.own⟩⟩
theorem GoodN.more {z : Int} {ns : List Nd} {ss ss' : List Int} (g : GoodN z ns ss) (h : ∀ n ∈ ns, n.o ≠ 0 → n.o ∈ ss → n.o ∈ ss') : GoodN z ns ss' :=
  ⟨g.few, g.root, g.asc, fun n hn => by
    have k := g.ok n hn
    refine ⟨k.data, k.path, k.up, k.c0, k.cm, k.cq, k.mz, k.qz, k.v0, k.v1, k.k0, k.kids, ?_⟩
    rcases k.own with h' | ⟨h1, h2⟩
    · exact .inl h'
    · by_cases h0 : n.o = 0
      · exact .inl h0
      · exact .inr ⟨h n hn h0 h1, h2⟩⟩
theorem up_look {z : Int} {ns : List Nd} {ss : List Int} (g : GoodN z ns ss) {n : Nd} (hn : n ∈ ns) (hp : n.p ≠ [47]) : ∃ u, lookN ns (dirOf n.p) = some u ∧ u ∈ ns ∧ u.p = dirOf n.p ∧ u.p ≠ n.p ∧ u.o = 0 := by
  obtain ⟨u, hu, he⟩ := (g.ok n hn).up hp
  have hne : u.p ≠ n.p := by rw [he]; exact (dirOf_ne (g.ok n hn).path hp).1
  refine ⟨u, by rw [← he]; exact look_mem g.asc hu, hu, he, hne, ?_⟩
  rcases (g.ok u hu).own with h | ⟨_, h⟩
  · exact h
  · exfalso
    have h1 := (g.ok u hu).kids
    have h2 : 0 < kidsN ns u.p := List.countP_pos_iff.2 ⟨n, hn, by simp [he]⟩
    omega
theorem root_p {z : Int} {ns : List Nd} {ss : List Int} (g : GoodN z ns ss) {n : Nd} (hn : n ∈ ns) (h : n.o ≠ 0) : n.p ≠ [47] := by
  intro e
  obtain ⟨r, rest, hr, hp, ho⟩ := g.root
  have : n = r := nasc_uniq g.asc hn (by rw [hr]; simp) (by rw [e, hp])
  exact h (by rw [this]; exact ho)

/- a change that leaves all paths -/
theorem chg_good {z : Int} {ns : List Nd} {ss : List Int} (g : GoodN z ns ss) (f : Nd → Nd) (hf : ∀ n, (f n).p = n.p) (hk : ∀ n ∈ ns, NOk z ns ss n → NOk z ns ss (f n) ∧ (n.p = [47] → (f n).o = n.o)) : GoodN z (ns.map f) ss := by
  have hp : (ns.map f).map Nd.p = ns.map Nd.p := by rw [List.map_map]; exact List.map_congr_left fun n _ => hf n
  have hkd : ∀ p, kidsN (ns.map f) p = kidsN ns p := fun p => by rw [kidsN_paths, hp, ← kidsN_paths]
  refine ⟨by simpa using g.few, ?_, by rw [nasc_paths, hp, ← nasc_paths]; exact g.asc, ?_⟩
  · obtain ⟨r, rest, h, h1, h2⟩ := g.root
    exact ⟨f r, rest.map f, by rw [h]; rfl, by rw [hf, h1], by rw [(hk r (by rw [h]; simp) (g.ok r (by rw [h]; simp))).2 h1, h2]⟩
  · intro n hn
    obtain ⟨m, hm, rfl⟩ := List.mem_map.1 hn
    have k := (hk m hm (g.ok m hm)).1
    refine ⟨k.data, k.path, fun h => ?_, k.c0, k.cm, k.cq, k.mz, k.qz, k.v0, k.v1, k.k0, by rw [hkd]; exact k.kids, k.own⟩
    obtain ⟨u, hu, he⟩ := k.up h
    exact ⟨f u, List.mem_map.2 ⟨u, hu, rfl⟩, by rw [hf]; exact he⟩

/- a node goes -/
def rmN (z : Int) (ns : List Nd) (p : List UInt8) : List Nd := bumpAt (dirOf p) z (-1) (dropN ns p)
theorem rm_good {z : Int} {ns A B : List Nd} {ss : List Int} {n : Nd} {p : List UInt8} (g : GoodN z ns ss) (T : NThere ns A n B p) (hk : n.n = 0) (hp : p ≠ [47]) : GoodN z (rmN z ns p) ss := by
  have hn : n ∈ ns := by rw [T.eq]; simp
  have hnp := T.nm
  have hdrop := T.drop
  have hpaths : (rmN z ns p).map Nd.p = (A ++ B).map Nd.p := by rw [rmN, bumpAt_paths, hdrop]
  have hsub : (A ++ B).Sublist ns := by rw [T.eq]; exact (List.Sublist.refl A).append (List.sublist_cons_self n B)
  have hkid : ∀ x, kidsN (rmN z ns p) x + (if dirOf p = x then 1 else 0) = kidsN ns x := by
    intro x
    rw [kidsN_paths, hpaths, ← kidsN_paths, T.eq]
    simp only [kidsN, List.countP_append, List.countP_cons, decide_eq_true_eq, hnp]
    omega
  have hno : ∀ m ∈ ns, dirOf m.p ≠ p := by
    intro m hm e
    have h1 := (g.ok n hn).kids
    have h2 : 0 < kidsN ns n.p := List.countP_pos_iff.2 ⟨m, hm, by simp [e, hnp]⟩
    omega
  have hmem : ∀ m ∈ ns, m.p ≠ p → m ∈ A ++ B := by
    intro m hm h
    rw [← hdrop, dropN]
    exact List.mem_filter.2 ⟨hm, by simpa using h⟩
  refine ⟨?_, ?_, ?_, ?_⟩
  · have h1 := g.few
    have h2 : (rmN z ns p).length = (A ++ B).length := by have := congrArg List.length hpaths; simpa using this
    rw [T.eq] at h1
    simp at h1 h2 ⊢
    omega
  · obtain ⟨r, rest, h, h1, h2⟩ := g.root
    cases A with
    | nil =>
      have := T.eq
      rw [h] at this
      cases this
      exact absurd (hnp.symm.trans h1) hp
    | cons a A' =>
      have := T.eq
      rw [h] at this
      cases this
      rw [rmN, hdrop, bumpAt]
      refine ⟨_, _, List.map_cons, by rw [bump_p]; exact h1, ?_⟩
      split
      · exact h2
      · exact h2
  · rw [nasc_paths, hpaths, ← nasc_paths]
    exact g.asc.sublist hsub
  · intro m' hm'
    rw [rmN, hdrop, bumpAt] at hm'
    obtain ⟨m, hm, rfl⟩ := List.mem_map.1 hm'
    have hms := hsub.mem hm
    have k := g.ok m hms
    have hup : m.p ≠ [47] → ∃ u ∈ rmN z ns p, u.p = dirOf m.p := by
      intro h
      obtain ⟨u, hu, he⟩ := k.up h
      have h1 := hmem u hu (by rw [he]; exact hno m hms)
      exact ⟨_, by rw [rmN, hdrop, bumpAt]; exact List.mem_map.2 ⟨u, h1, rfl⟩, by rw [bump_p]; exact he⟩
    have hkm := hkid m.p
    have := k.kids
    have := k.c0
    have := k.cq
    have := k.qz
    have := k.k0
    split
    · rename_i e
      rw [if_pos e.symm] at hkm
      refine ⟨k.data, k.path, hup, k.c0, k.cm, ?_, k.mz, ?_, k.v0, k.v1, ?_, ?_, ?_⟩
      · show m.c ≤ z; omega
      · exact Int.le_refl _
      · show 0 ≤ m.k + 1; omega
      · show m.n + -1 = _; show _ = ((kidsN (rmN z ns p) m.p : Nat) : Int); omega
      · rcases k.own with h | ⟨h1, h2⟩
        · exact .inl h
        · omega
    · rename_i e
      rw [if_neg (fun h => e h.symm)] at hkm
      exact ⟨k.data, k.path, hup, k.c0, k.cm, k.cq, k.mz, k.qz, k.v0, k.v1, k.k0, by omega, k.own⟩

/- a node comes -/
def addN (z : Int) (ns : List Nd) (x : Nd) : List Nd := bumpAt (dirOf x.p) z 1 (insN ns x)
theorem add_good {z : Int} {ns A B : List Nd} {ss : List Int} {x : Nd} (g : GoodN z ns ss) (G : NGap ns A B x.p) (hl : ns.length < 400) (hg : goodB x.p = true) (hp : x.p ≠ [47]) (hu : ∃ u ∈ ns, u.p = dirOf x.p ∧ u.o = 0)
    (hd : x.d.length ≤ 256) (hz : 0 ≤ z) (hc : x.c = z) (hm : x.m = z) (hq : x.q = z) (hv : x.v = 0) (hk : x.k = 0) (hn : x.n = 0) (ho : x.o = 0 ∨ x.o ∈ ss) : GoodN z (addN z ns x) ss := by
  have hins := G.ins
  have hpaths : (addN z ns x).map Nd.p = (A ++ x :: B).map Nd.p := by rw [addN, bumpAt_paths, hins]
  have hmem : ∀ m ∈ ns, m ∈ A ++ x :: B := by
    intro m h
    rw [G.eq] at h
    rcases List.mem_append.1 h with h | h <;> simp [h]
  have hkid : ∀ y, kidsN (addN z ns x) y = kidsN ns y + (if dirOf x.p = y then 1 else 0) := by
    intro y
    rw [kidsN_paths, hpaths, ← kidsN_paths, G.eq]
    simp only [kidsN, List.countP_append, List.countP_cons, decide_eq_true_eq]
    omega
  have hno : kidsN ns x.p = 0 := by
    apply List.countP_eq_zero.2
    intro m hm
    simp only [decide_eq_true_eq]
    intro e
    have k := g.ok m hm
    by_cases h : m.p = [47]
    · rw [h, dirOf_root] at e
      rw [← e, ngood_nil] at hg
      cases hg
    · obtain ⟨u, hu, he⟩ := k.up h
      exact G.no u hu (he.trans e)
  obtain ⟨r, rest, hr, hr1, hr2⟩ := g.root
  refine ⟨?_, ?_, ?_, ?_⟩
  · have h2 : (addN z ns x).length = (A ++ x :: B).length := by have := congrArg List.length hpaths; simpa using this
    rw [G.eq] at hl
    simp at hl h2 ⊢
    omega
  · cases A with
    | nil =>
      exfalso
      have hB := G.eq
      simp at hB
      have h1 := G.hi r (by rw [← hB, hr]; simp)
      rw [hr1] at h1
      obtain ⟨s, hs⟩ := ngood_slash hg
      rw [hs] at h1 hp
      cases s with
      | nil => exact hp rfl
      | cons c s => simp [bl, Op.bytesLess] at h1
    | cons a A' =>
      have := G.eq
      rw [hr] at this
      cases this
      rw [addN, hins, bumpAt]
      refine ⟨_, _, List.map_cons, by rw [bump_p]; exact hr1, ?_⟩
      split
      · exact hr2
      · exact hr2
  · rw [nasc_paths, hpaths, ← nasc_paths]
    have h := g.asc
    rw [G.eq] at h
    unfold NAsc at h ⊢
    rw [List.pairwise_append] at h
    rw [List.pairwise_append, List.pairwise_cons]
    refine ⟨h.1, ⟨G.hi, h.2.1⟩, fun a ha b hb => ?_⟩
    rcases List.mem_cons.1 hb with rfl | hb
    · exact G.lo a ha
    · exact h.2.2 a ha b hb
  · have hin : ∀ m ∈ A ++ x :: B, (if m.p = dirOf x.p then bump z 1 m else m) ∈ addN z ns x := fun m h => by rw [addN, hins, bumpAt]; exact List.mem_map.2 ⟨m, h, rfl⟩
    intro m' hm'
    rw [addN, hins, bumpAt] at hm'
    obtain ⟨m, hm2, rfl⟩ := List.mem_map.1 hm'
    have hcase : m = x ∨ m ∈ ns := by
      rcases List.mem_append.1 hm2 with h | h
      · exact .inr (by rw [G.eq]; simp [h])
      · rcases List.mem_cons.1 h with h | h
        · exact .inl h
        · exact .inr (by rw [G.eq]; simp [h])
    rcases hcase with rfl | hms
    · rw [if_neg (fun h => (dirOf_ne hg hp).1 h.symm)]
      obtain ⟨u, hu1, hu2, _⟩ := hu
      have hkm := hkid m.p
      rw [if_neg (dirOf_ne hg hp).1, hno] at hkm
      refine ⟨hd, hg, fun _ => ⟨_, hin u (hmem u hu1), by rw [bump_p]; exact hu2⟩, by omega, by omega, by omega, by omega, by omega, by omega, by omega, by omega, by omega, ?_⟩
      rcases ho with h | h
      · exact .inl h
      · exact .inr ⟨h, hn⟩
    · have k := g.ok m hms
      have hup : m.p ≠ [47] → ∃ u ∈ addN z ns x, u.p = dirOf m.p := fun h => by
        obtain ⟨u, hu, he⟩ := k.up h
        exact ⟨_, hin u (hmem u hu), by rw [bump_p]; exact he⟩
      have hkm := hkid m.p
      have := k.kids
      have := k.cq
      have := k.qz
      have := k.k0
      split
      · rename_i e
        rw [if_pos e.symm] at hkm
        refine ⟨k.data, k.path, hup, k.c0, k.cm, ?_, k.mz, Int.le_refl _, k.v0, k.v1, ?_, ?_, ?_⟩
        · show m.c ≤ z; omega
        · show 0 ≤ m.k + 1; omega
        · show m.n + 1 = ((kidsN (addN z ns x) m.p : Nat) : Int); omega
        · obtain ⟨u, hu1, hu2, hu3⟩ := hu
          have : m = u := nasc_uniq g.asc hms hu1 (by rw [e, hu2])
          exact .inl (by rw [this]; exact hu3)
      · rename_i e
        rw [if_neg (fun h => e h.symm)] at hkm
        exact ⟨k.data, k.path, hup, k.c0, k.cm, k.cq, k.mz, k.qz, k.v0, k.v1, k.k0, by omega, k.own⟩

/- a node is set -/
theorem set_good {z : Int} {ns : List Nd} {ss : List Int} (g : GoodN z ns ss) (p d : List UInt8) (v : Int) (hd : d.length ≤ 256) (hv : 0 ≤ v ∧ v ≤ 2147483647) (hz : ∀ n ∈ ns, n.c ≤ z) : GoodN z (setAt p d v z ns) ss := by
  refine chg_good g _ (fun n => by split <;> rfl) (fun n hn k => ?_)
  split
  · exact ⟨⟨hd, k.path, k.up, k.c0, hz n hn, k.cq, Int.le_refl _, k.qz, hv.1, hv.2, k.k0, k.kids, k.own⟩, fun _ => rfl⟩
  · exact ⟨k, fun _ => rfl⟩

end Go.Proofs.YtcplpbelficbeaaGreatDoor
