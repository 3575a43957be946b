/-
  What a transaction makes of a tree, as plain lists; that good trees stay good. No program is named here.
  The answer of Apply, as plain lists; that what comes of a good tree is a good one; a session's nodes, taken away one by one. No program is named here.
  What zxid.Good answers, for every number: the walk.
  A transaction as a value.
-/
import Derived.Test.YtoacignhobchbaaGreatDoorSUD
import Derived.Test.YtoacignhobchbaaGreatDoorRows
import Derived.Test.YtoacignhobchbaaGreatDoorSUA
import Derived.WalkKit
import Derived.WalkSpells
import Derived.WalkLawsBesides
import Derived.Test.YtoacignhobchbaaGreatDoorProg
namespace Go.Proofs.YtoacignhobchbaaGreatDoor
open Go.RowKit

theorem GoodN.mono {z z' : Int} {ns : List Nd} {ss : List Int} (g : GoodN z ns ss) (h : z ≤ z') : GoodN z' ns ss :=
  ⟨g.few, g.root, g.asc, fun n hn => by
    have k := g.ok n hn
    have := k.mz
    have := k.qz
    exact ⟨k.data, k.path, k.up, k.c0, k.cm, k.cq, by omega, by omega, k.v0, k.v1, k.k0, k.kids, k.own⟩⟩
theorem GoodN.more {z : Int} {ns : List Nd} {ss ss' : List Int} (g : GoodN z ns ss) (h : ∀ n ∈ ns, n.o ≠ 0 → n.o ∈ ss → n.o ∈ ss') : GoodN z ns ss' :=
  ⟨g.few, g.root, g.asc, fun n hn => by
    have k := g.ok n hn
    refine ⟨k.data, k.path, k.up, k.c0, k.cm, k.cq, k.mz, k.qz, k.v0, k.v1, k.k0, k.kids, ?_⟩
    rcases k.own with h' | ⟨h1, h2⟩
    · exact .inl h'
    · by_cases h0 : n.o = 0
      · exact .inl h0
      · exact .inr ⟨h n hn h0 h1, h2⟩⟩
theorem up_look {z : Int} {ns : List Nd} {ss : List Int} (g : GoodN z ns ss) {n : Nd} (hn : n ∈ ns) (hp : n.p ≠ [47]) : ∃ u, lookN ns (dirOf n.p) = some u ∧ u ∈ ns ∧ u.p = dirOf n.p ∧ u.p ≠ n.p ∧ u.o = 0 := by
  obtain ⟨u, hu, he⟩ := (g.ok n hn).up hp
  have hne : u.p ≠ n.p := by rw [he]; exact (dirOf_ne (g.ok n hn).path hp).1
  refine ⟨u, by rw [← he]; exact look_mem g.asc hu, hu, he, hne, ?_⟩
  rcases (g.ok u hu).own with h | ⟨_, h⟩
  · exact h
  · exfalso
    have h1 := (g.ok u hu).kids
    have h2 : 0 < kidsN ns u.p := List.countP_pos_iff.2 ⟨n, hn, by simp [he]⟩
    omega
theorem root_p {z : Int} {ns : List Nd} {ss : List Int} (g : GoodN z ns ss) {n : Nd} (hn : n ∈ ns) (h : n.o ≠ 0) : n.p ≠ [47] := by
  intro e
  obtain ⟨r, rest, hr, hp, ho⟩ := g.root
  have : n = r := nasc_uniq g.asc hn (by rw [hr]; simp) (by rw [e, hp])
  exact h (by rw [this]; exact ho)

/- a change that leaves all paths -/
theorem chg_good {z : Int} {ns : List Nd} {ss : List Int} (g : GoodN z ns ss) (f : Nd → Nd) (hf : ∀ n, (f n).p = n.p) (hk : ∀ n ∈ ns, NOk z ns ss n → NOk z ns ss (f n) ∧ (n.p = [47] → (f n).o = n.o)) : GoodN z (ns.map f) ss := by
  have hp : (ns.map f).map Nd.p = ns.map Nd.p := by rw [List.map_map]; exact List.map_congr_left fun n _ => hf n
  have hkd : ∀ p, kidsN (ns.map f) p = kidsN ns p := fun p => by rw [kidsN_paths, hp, ← kidsN_paths]
  refine ⟨by simpa using g.few, ?_, by rw [nasc_paths, hp, ← nasc_paths]; exact g.asc, ?_⟩
  · obtain ⟨r, rest, h, h1, h2⟩ := g.root
    exact ⟨f r, rest.map f, by rw [h]; rfl, by rw [hf, h1], by rw [(hk r (by rw [h]; simp) (g.ok r (by rw [h]; simp))).2 h1, h2]⟩
  · intro n hn
    obtain ⟨m, hm, rfl⟩ := List.mem_map.1 hn
    have k := (hk m hm (g.ok m hm)).1
    refine ⟨k.data, k.path, fun h => ?_, k.c0, k.cm, k.cq, k.mz, k.qz, k.v0, k.v1, k.k0, by rw [hkd]; exact k.kids, k.own⟩
    obtain ⟨u, hu, he⟩ := k.up h
    exact ⟨f u, List.mem_map.2 ⟨u, hu, rfl⟩, by rw [hf]; exact he⟩

/- a node goes -/
def rmN (z : Int) (ns : List Nd) (p : List UInt8) : List Nd := bumpAt (dirOf p) z (-1) (dropN ns p)
theorem rm_good {z : Int} {ns A B : List Nd} {ss : List Int} {n : Nd} {p : List UInt8} (g : GoodN z ns ss) (T : NThere ns A n B p) (hk : n.n = 0) (hp : p ≠ [47]) : GoodN z (rmN z ns p) ss := by
  have hn : n ∈ ns := by rw [T.eq]; simp
  have hnp := T.nm
  have hdrop := T.drop
  have hpaths : (rmN z ns p).map Nd.p = (A ++ B).map Nd.p := by rw [rmN, bumpAt_paths, hdrop]
  have hsub : (A ++ B).Sublist ns := by rw [T.eq]; exact (List.Sublist.refl A).append (List.sublist_cons_self n B)
  have hkid : ∀ x, kidsN (rmN z ns p) x + (if dirOf p = x then 1 else 0) = kidsN ns x := by
    intro x
    rw [kidsN_paths, hpaths, ← kidsN_paths, T.eq]
    simp only [kidsN, List.countP_append, List.countP_cons, decide_eq_true_eq, hnp]
    omega
  have hno : ∀ m ∈ ns, dirOf m.p ≠ p := by
    intro m hm e
    have h1 := (g.ok n hn).kids
    have h2 : 0 < kidsN ns n.p := List.countP_pos_iff.2 ⟨m, hm, by simp [e, hnp]⟩
    omega
  have hmem : ∀ m ∈ ns, m.p ≠ p → m ∈ A ++ B := by
    intro m hm h
    rw [← hdrop, dropN]
    exact List.mem_filter.2 ⟨hm, by simpa using h⟩
  refine ⟨?_, ?_, ?_, ?_⟩
  · have h1 := g.few
    have h2 : (rmN z ns p).length = (A ++ B).length := by have := congrArg List.length hpaths; simpa using this
    rw [T.eq] at h1
    simp at h1 h2 ⊢
    omega
  · obtain ⟨r, rest, h, h1, h2⟩ := g.root
    cases A with
    | nil =>
      have := T.eq
      rw [h] at this
      cases this
      exact absurd (hnp.symm.trans h1) hp
    | cons a A' =>
      have := T.eq
      rw [h] at this
      cases this
      rw [rmN, hdrop, bumpAt]
      refine ⟨_, _, List.map_cons, by rw [bump_p]; exact h1, ?_⟩
      split
      · exact h2
      · exact h2
  · rw [nasc_paths, hpaths, ← nasc_paths]
    exact g.asc.sublist hsub
  · intro m' hm'
    rw [rmN, hdrop, bumpAt] at hm'
    obtain ⟨m, hm, rfl⟩ := List.mem_map.1 hm'
    have hms := hsub.mem hm
    have k := g.ok m hms
    have hup : m.p ≠ [47] → ∃ u ∈ rmN z ns p, u.p = dirOf m.p := by
      intro h
      obtain ⟨u, hu, he⟩ := k.up h
      have h1 := hmem u hu (by rw [he]; exact hno m hms)
      exact ⟨_, by rw [rmN, hdrop, bumpAt]; exact List.mem_map.2 ⟨u, h1, rfl⟩, by rw [bump_p]; exact he⟩
    have hkm := hkid m.p
    have := k.kids
    have := k.c0
    have := k.cq
    have := k.qz
    have := k.k0
    split
    · rename_i e
      rw [if_pos e.symm] at hkm
      refine ⟨k.data, k.path, hup, k.c0, k.cm, ?_, k.mz, ?_, k.v0, k.v1, ?_, ?_, ?_⟩
      · show m.c ≤ z; omega
      · exact Int.le_refl _
      · show 0 ≤ m.k + 1; omega
      · show m.n + -1 = _; show _ = ((kidsN (rmN z ns p) m.p : Nat) : Int); omega
      · rcases k.own with h | ⟨h1, h2⟩
        · exact .inl h
        · omega
    · rename_i e
      rw [if_neg (fun h => e h.symm)] at hkm
      exact ⟨k.data, k.path, hup, k.c0, k.cm, k.cq, k.mz, k.qz, k.v0, k.v1, k.k0, by omega, k.own⟩

/- a node comes -/
def addN (z : Int) (ns : List Nd) (x : Nd) : List Nd := bumpAt (dirOf x.p) z 1 (insN ns x)
theorem add_good {z : Int} {ns A B : List Nd} {ss : List Int} {x : Nd} (g : GoodN z ns ss) (G : NGap ns A B x.p) (hl : ns.length < 400) (hg : goodB x.p = true) (hp : x.p ≠ [47]) (hu : ∃ u ∈ ns, u.p = dirOf x.p ∧ u.o = 0)
    (hd : x.d.length ≤ 256) (hz : 0 ≤ z) (hc : x.c = z) (hm : x.m = z) (hq : x.q = z) (hv : x.v = 0) (hk : x.k = 0) (hn : x.n = 0) (ho : x.o = 0 ∨ x.o ∈ ss) : GoodN z (addN z ns x) ss := by
  have hins := G.ins
  have hpaths : (addN z ns x).map Nd.p = (A ++ x :: B).map Nd.p := by rw [addN, bumpAt_paths, hins]
  have hmem : ∀ m ∈ ns, m ∈ A ++ x :: B := by
    intro m h
    rw [G.eq] at h
    rcases List.mem_append.1 h with h | h <;> simp [h]
  have hkid : ∀ y, kidsN (addN z ns x) y = kidsN ns y + (if dirOf x.p = y then 1 else 0) := by
    intro y
    rw [kidsN_paths, hpaths, ← kidsN_paths, G.eq]
    simp only [kidsN, List.countP_append, List.countP_cons, decide_eq_true_eq]
    omega
  have hno : kidsN ns x.p = 0 := by
    apply List.countP_eq_zero.2
    intro m hm
    simp only [decide_eq_true_eq]
    intro e
    have k := g.ok m hm
    by_cases h : m.p = [47]
    · rw [h, dirOf_root] at e
      rw [← e, ngood_nil] at hg
      cases hg
    · obtain ⟨u, hu, he⟩ := k.up h
      exact G.no u hu (he.trans e)
  obtain ⟨r, rest, hr, hr1, hr2⟩ := g.root
  refine ⟨?_, ?_, ?_, ?_⟩
  · have h2 : (addN z ns x).length = (A ++ x :: B).length := by have := congrArg List.length hpaths; simpa using this
    rw [G.eq] at hl
    simp at hl h2 ⊢
    omega
  · cases A with
    | nil =>
      exfalso
      have hB := G.eq
      simp at hB
      have h1 := G.hi r (by rw [← hB, hr]; simp)
      rw [hr1] at h1
      obtain ⟨s, hs⟩ := ngood_slash hg
      rw [hs] at h1 hp
      cases s with
      | nil => exact hp rfl
      | cons c s => simp [bl, Op.bytesLess] at h1
    | cons a A' =>
      have := G.eq
      rw [hr] at this
      cases this
      rw [addN, hins, bumpAt]
      refine ⟨_, _, List.map_cons, by rw [bump_p]; exact hr1, ?_⟩
      split
      · exact hr2
      · exact hr2
  · rw [nasc_paths, hpaths, ← nasc_paths]
    have h := g.asc
    rw [G.eq] at h
    unfold NAsc at h ⊢
    rw [List.pairwise_append] at h
    rw [List.pairwise_append, List.pairwise_cons]
    refine ⟨h.1, ⟨G.hi, h.2.1⟩, fun a ha b hb => ?_⟩
    rcases List.mem_cons.1 hb with rfl | hb
    · exact G.lo a ha
    · exact h.2.2 a ha b hb
  · have hin : ∀ m ∈ A ++ x :: B, (if m.p = dirOf x.p then bump z 1 m else m) ∈ addN z ns x := fun m h => by rw [addN, hins, bumpAt]; exact List.mem_map.2 ⟨m, h, rfl⟩
    intro m' hm'
    rw [addN, hins, bumpAt] at hm'
    obtain ⟨m, hm2, rfl⟩ := List.mem_map.1 hm'
    have hcase : m = x ∨ m ∈ ns := by
      rcases List.mem_append.1 hm2 with h | h
      · exact .inr (by rw [G.eq]; simp [h])
      · rcases List.mem_cons.1 h with h | h
        · exact .inl h
        · exact .inr (by rw [G.eq]; simp [h])
    rcases hcase with rfl | hms
    · rw [if_neg (fun h => (dirOf_ne hg hp).1 h.symm)]
      obtain ⟨u, hu1, hu2, _⟩ := hu
      have hkm := hkid m.p
      rw [if_neg (dirOf_ne hg hp).1, hno] at hkm
      refine ⟨hd, hg, fun _ => ⟨_, hin u (hmem u hu1), by rw [bump_p]; exact hu2⟩, by omega, by omega, by omega, by omega, by omega, by omega, by omega, by omega, by omega, ?_⟩
      rcases ho with h | h
      · exact .inl h
      · exact .inr ⟨h, hn⟩
    · have k := g.ok m hms
      have hup : m.p ≠ [47] → ∃ u ∈ addN z ns x, u.p = dirOf m.p := fun h => by
        obtain ⟨u, hu, he⟩ := k.up h
        exact ⟨_, hin u (hmem u hu), by rw [bump_p]; exact he⟩
      have hkm := hkid m.p
      have := k.kids
      have := k.cq
      have := k.qz
      have := k.k0
      split
      · rename_i e
        rw [if_pos e.symm] at hkm
        refine ⟨k.data, k.path, hup, k.c0, k.cm, ?_, k.mz, Int.le_refl _, k.v0, k.v1, ?_, ?_, ?_⟩
        · show m.c ≤ z; omega
        · show 0 ≤ m.k + 1; omega
        · show m.n + 1 = ((kidsN (addN z ns x) m.p : Nat) : Int); omega
        · obtain ⟨u, hu1, hu2, hu3⟩ := hu
          have : m = u := nasc_uniq g.asc hms hu1 (by rw [e, hu2])
          exact .inl (by rw [this]; exact hu3)
      · rename_i e
        rw [if_neg (fun h => e h.symm)] at hkm
        exact ⟨k.data, k.path, hup, k.c0, k.cm, k.cq, k.mz, k.qz, k.v0, k.v1, k.k0, by omega, k.own⟩

/- a node is set -/
theorem set_good {z : Int} {ns : List Nd} {ss : List Int} (g : GoodN z ns ss) (p d : List UInt8) (v : Int) (hd : d.length ≤ 256) (hv : 0 ≤ v ∧ v ≤ 2147483647) (hz : ∀ n ∈ ns, n.c ≤ z) : GoodN z (setAt p d v z ns) ss := by
  refine chg_good g _ (fun n => by split <;> rfl) (fun n hn k => ?_)
  split
  · exact ⟨⟨hd, k.path, k.up, k.c0, hz n hn, k.cq, Int.le_refl _, k.qz, hv.1, hv.2, k.k0, k.kids, k.own⟩, fun _ => rfl⟩
  · exact ⟨k, fun _ => rfl⟩

end Go.Proofs.YtoacignhobchbaaGreatDoor

namespace Go.Proofs.YtoacignhobchbaaGreatDoor
open Go.RowKit

def ownedP (ns : List Nd) (s : Int) : List (List UInt8) := (ns.filter fun n => decide (n.o = s)).map Nd.p
def rmAll (z : Int) (ns : List Nd) (ps : List (List UInt8)) : List Nd := ps.foldl (rmN z) ns
def rmEv (ps : List (List UInt8)) : List Ev := ps.flatMap fun p => [⟨2, p⟩, ⟨4, dirOf p⟩]
def fullN (ns : List Nd) : Bool := ns.any fun n => decide (2147483647 < n.k)
def newN (x : WTxn) : Nd := ⟨x.p, x.d, x.z, x.z, x.z, 0, 0, x.w, 0⟩
noncomputable def admE (t : Tr) (x : WTxn) : Int :=
  if goodT t = false then 3 else if gdE x ≠ 0 then gdE x else if x.z ≤ t.z then 13 else if x.o = 1 ∧ x.s ∈ t.ss then 8 else if x.o ≠ 1 ∧ x.s ∉ t.ss then 12 else 0
def creE (t : Tr) (x : WTxn) : Int := if (lookN t.ns x.p).isSome = true then 8 else (match lookN t.ns (dirOf x.p) with
  | none => 7
  | some u => if u.o ≠ 0 then 11 else if x.w ≠ 0 ∧ x.w ≠ x.s then 12 else if t.ns.length = 400 then 6 else 0)
def delE (t : Tr) (x : WTxn) : Int := match lookN t.ns x.p with
  | none => 7
  | some n => if n.n ≠ 0 then 10 else 0
def setE (t : Tr) (x : WTxn) : Int := match lookN t.ns x.p with
  | none => 7
  | some n => if x.v ≠ n.v + 1 then 9 else 0
def chgE (t : Tr) (x : WTxn) : Int := if x.o = 3 then creE t x else if x.o = 4 then delE t x else if x.o = 5 then setE t x else 0
def chgN (t : Tr) (x : WTxn) : List Nd := if x.o = 2 then rmAll x.z t.ns (ownedP t.ns x.s) else if x.o = 3 then addN x.z t.ns (newN x) else if x.o = 4 then rmN x.z t.ns x.p else if x.o = 5 then setAt x.p x.d x.v x.z t.ns else t.ns
def chgS (t : Tr) (x : WTxn) : List Int := if x.o = 1 then insS t.ss x.s else if x.o = 2 then dropS t.ss x.s else t.ss
def chgV (t : Tr) (x : WTxn) : List Ev := if x.o = 2 then rmEv (ownedP t.ns x.s) else if x.o = 3 then [⟨1, x.p⟩, ⟨4, dirOf x.p⟩] else if x.o = 4 then [⟨2, x.p⟩, ⟨4, dirOf x.p⟩] else if x.o = 5 then [⟨3, x.p⟩] else []
noncomputable def appE (t : Tr) (x : WTxn) : Int := if admE t x ≠ 0 then admE t x else if chgE t x ≠ 0 then chgE t x else if fullN (chgN t x) = true then 6 else 0
noncomputable def appT (t : Tr) (x : WTxn) : Tr := if appE t x = 0 then ⟨x.z, chgN t x, chgS t x⟩ else tr0
noncomputable def appV (t : Tr) (x : WTxn) : List Ev := if appE t x = 0 then chgV t x else []

theorem fullN_false {ns : List Nd} : fullN ns = false ↔ ∀ n ∈ ns, n.k ≤ 2147483647 := by
  rw [fullN, List.any_eq_false]
  constructor
  · intro h n hn; have := h n hn; simp at this; omega
  · intro h n hn; have := h n hn; simp; omega
theorem fullN_true {ns : List Nd} : fullN ns = true ↔ ∃ n ∈ ns, 2147483647 < n.k := by
  rw [fullN, List.any_eq_true]
  constructor
  · rintro ⟨n, hn, h⟩; exact ⟨n, hn, by simpa using h⟩
  · rintro ⟨n, hn, h⟩; exact ⟨n, hn, by simpa using h⟩

/- one of a row of removals -/
structure Rest (s : Int) (cur : List Nd) (ps : List (List UInt8)) : Prop where
  s0 : s ≠ 0
  nd : ps.Nodup
  there : ∀ p ∈ ps, ∃ n ∈ cur, n.p = p ∧ n.o = s
theorem mem_rm {z : Int} {ns : List Nd} {p : List UInt8} {n : Nd} (h : n ∈ rmN z ns p) : ∃ m ∈ ns, m.p ≠ p ∧ n = (if m.p = dirOf p then bump z (-1) m else m) := by
  rw [rmN, bumpAt] at h
  obtain ⟨m, hm, rfl⟩ := List.mem_map.1 h
  rw [dropN] at hm
  obtain ⟨h1, h2⟩ := List.mem_filter.1 hm
  exact ⟨m, h1, by simpa using h2, rfl⟩
theorem rm_mem {z : Int} {ns : List Nd} {p : List UInt8} {m : Nd} (h : m ∈ ns) (hp : m.p ≠ p) : (if m.p = dirOf p then bump z (-1) m else m) ∈ rmN z ns p := by
  rw [rmN, bumpAt]
  exact List.mem_map.2 ⟨m, by rw [dropN]; exact List.mem_filter.2 ⟨h, by simpa using hp⟩, rfl⟩
theorem bump_o (q : List UInt8) (z more : Int) (n : Nd) : (if n.p = q then bump z more n else n).o = n.o := by split <;> rfl
theorem bump_d (q : List UInt8) (z more : Int) (n : Nd) : (if n.p = q then bump z more n else n).d = n.d := by split <;> rfl
theorem bump_v (q : List UInt8) (z more : Int) (n : Nd) : (if n.p = q then bump z more n else n).v = n.v := by split <;> rfl
theorem bump_k (q : List UInt8) (z more : Int) (n : Nd) : n.k ≤ (if n.p = q then bump z more n else n).k := by
  split
  · show n.k ≤ n.k + 1; omega
  · exact Int.le_refl _
theorem rest_step {z s : Int} {cur : List Nd} {ss : List Int} {p : List UInt8} {ps : List (List UInt8)} (g : GoodN z cur ss) (R : Rest s cur (p :: ps)) :
    ∃ A n B u, NThere cur A n B p ∧ n.o = s ∧ n.n = 0 ∧ p ≠ [47] ∧ goodB p = true ∧ lookN cur (dirOf p) = some u ∧ u ∈ cur ∧ u.p = dirOf p ∧ u.p ≠ p ∧ u.o = 0 ∧ u.p ∉ ps ∧ GoodN z (rmN z cur p) ss ∧ Rest s (rmN z cur p) ps := by
  obtain ⟨n, hn, rfl, ho⟩ := R.there p (by simp)
  obtain ⟨A, B, T⟩ := there_of_look g.asc (look_mem g.asc hn)
  have h0 : n.o ≠ 0 := by rw [ho]; exact R.s0
  have hk : n.n = 0 := by
    rcases (g.ok n hn).own with h | ⟨_, h⟩
    · exact absurd h h0
    · exact h
  have hr := root_p g hn h0
  obtain ⟨u, hu1, hu2, hu3, hu4, hu5⟩ := up_look g hn hr
  refine ⟨A, n, B, u, T, ho, hk, hr, (g.ok n hn).path, hu1, hu2, hu3, hu4, hu5, ?_, rm_good g T hk hr, R.s0, (List.nodup_cons.1 R.nd).2, ?_⟩
  · intro hm
    obtain ⟨m, hm1, hm2, hm3⟩ := R.there u.p (by simp [hm])
    have : m = u := nasc_uniq g.asc hm1 hu2 hm2
    rw [this, hu5] at hm3
    exact R.s0 hm3.symm
  · intro q hq
    obtain ⟨m, hm1, hm2, hm3⟩ := R.there q (by simp [hq])
    have hne : m.p ≠ n.p := by
      rw [hm2]
      rintro rfl
      exact (List.nodup_cons.1 R.nd).1 hq
    exact ⟨_, rm_mem hm1 hne, by rw [bump_p]; exact hm2, by rw [bump_o]; exact hm3⟩
theorem rest_owned {z s : Int} {ns : List Nd} {ss : List Int} (g : GoodN z ns ss) (h : s ≠ 0) : Rest s ns (ownedP ns s) := by
  refine ⟨h, ?_, fun p hp => ?_⟩
  · have h1 : (ns.filter fun n => decide (n.o = s)).Pairwise fun a b => bl a.p b.p = true := g.asc.filter _
    rw [List.Nodup, ownedP, List.pairwise_map]
    exact h1.imp fun h => bl_ne h
  · obtain ⟨n, hn, rfl⟩ := List.mem_map.1 hp
    obtain ⟨h1, h2⟩ := List.mem_filter.1 hn
    exact ⟨n, h1, rfl, by simpa using h2⟩
theorem rmAll_good {z s : Int} {ss : List Int} : ∀ (ps : List (List UInt8)) (cur : List Nd), GoodN z cur ss → Rest s cur ps → GoodN z (rmAll z cur ps) ss
  | [], _, g, _ => g
  | p :: ps, cur, g, R => by
    obtain ⟨_, _, _, _, _, _, _, _, _, _, _, _, _, _, _, g', R'⟩ := rest_step g R
    exact rmAll_good ps (rmN z cur p) g' R'
theorem mem_rmAll {z : Int} : ∀ (ps : List (List UInt8)) (cur : List Nd) (n : Nd), n ∈ rmAll z cur ps → ∃ m ∈ cur, m.p = n.p ∧ m.o = n.o ∧ m.d = n.d ∧ m.v = n.v ∧ m.p ∉ ps
  | [], cur, n, h => ⟨n, h, rfl, rfl, rfl, rfl, by simp⟩
  | p :: ps, cur, n, h => by
    obtain ⟨m, h1, h2, h3, h4, h5, h6⟩ := mem_rmAll ps (rmN z cur p) n h
    obtain ⟨m', h1', hne, rfl⟩ := mem_rm h1
    rw [bump_p] at h2 h6
    rw [bump_o] at h3
    rw [bump_d] at h4
    rw [bump_v] at h5
    exact ⟨m', h1', h2, h3, h4, h5, by simp [hne, h6]⟩
theorem rmAll_mem {z : Int} : ∀ (ps : List (List UInt8)) (cur : List Nd) (m : Nd), m ∈ cur → m.p ∉ ps → ∃ n ∈ rmAll z cur ps, n.p = m.p ∧ n.o = m.o ∧ n.d = m.d ∧ n.v = m.v ∧ m.k ≤ n.k
  | [], _, m, h, _ => ⟨m, h, rfl, rfl, rfl, rfl, Int.le_refl _⟩
  | p :: ps, cur, m, h, hp => by
    simp only [List.mem_cons, not_or] at hp
    have h' := rm_mem (z := z) h hp.1
    obtain ⟨n, h1, h2, h3, h4, h5, h6⟩ := rmAll_mem ps (rmN z cur p) _ h' (by rw [bump_p]; exact hp.2)
    exact ⟨n, h1, by rw [h2, bump_p], by rw [h3, bump_o], by rw [h4, bump_d], by rw [h5, bump_v], Int.le_trans (bump_k _ _ _ _) h6⟩
theorem full_stays {z : Int} (ps : List (List UInt8)) (cur : List Nd) (h : ∃ u ∈ cur, u.p ∉ ps ∧ 2147483647 < u.k) : fullN (rmAll z cur ps) = true := by
  obtain ⟨u, h1, h2, h3⟩ := h
  obtain ⟨n, hn, _, _, _, _, hk⟩ := rmAll_mem (z := z) ps cur u h1 h2
  exact fullN_true.2 ⟨n, hn, by omega⟩
theorem rm_cap {z : Int} {ns : List Nd} {p : List UInt8} {u : Nd} (ha : NAsc ns) (hu : u ∈ ns) (hp : u.p = dirOf p) (hk : u.k < 2147483647) (h : ∀ n ∈ ns, n.k ≤ 2147483647) : ∀ n ∈ rmN z ns p, n.k ≤ 2147483647 := by
  intro n hn
  obtain ⟨m, hm, _, rfl⟩ := mem_rm hn
  split
  · rename_i e
    have : m = u := nasc_uniq ha hm hu (by rw [e, hp])
    subst this
    show m.k + 1 ≤ _; omega
  · exact h m hm
/-- a parent that has no room -/
theorem rm_full {z : Int} {ns : List Nd} {p : List UInt8} {u : Nd} (hu : u ∈ ns) (hp : u.p = dirOf p) (hne : u.p ≠ p) (hk : u.k = 2147483647) (ps : List (List UInt8)) (hps : u.p ∉ ps) : fullN (rmAll z (rmN z ns p) ps) = true :=
  full_stays ps _ ⟨bump z (-1) u, by have := rm_mem (z := z) hu hne; rwa [if_pos hp] at this, hps, by show 2147483647 < u.k + 1; omega⟩

theorem rmAll_split (z : Int) (ns : List Nd) (ps : List (List UInt8)) (k : Nat) : rmAll z ns ps = rmAll z (rmAll z ns (ps.take k)) (ps.drop k) := by
  rw [rmAll, rmAll, rmAll, ← List.foldl_append, List.take_append_drop]
theorem rmAll_next (z : Int) (ns : List Nd) {ps : List (List UInt8)} {k : Nat} {p : List UInt8} (h : ps[k]? = some p) : rmAll z ns (ps.take (k + 1)) = rmN z (rmAll z ns (ps.take k)) p := by
  rw [rmAll, List.take_add_one, h, List.foldl_append]
  rfl
theorem rmEv_next {ps : List (List UInt8)} {k : Nat} {p : List UInt8} (h : ps[k]? = some p) : rmEv (ps.take (k + 1)) = rmEv (ps.take k) ++ [⟨2, p⟩, ⟨4, dirOf p⟩] := by
  rw [rmEv, List.take_add_one, h, List.flatMap_append]
  rfl
theorem rmEv_len (ps : List (List UInt8)) : (rmEv ps).length = 2 * ps.length := by
  induction ps with
  | nil => rfl
  | cons p ps ih =>
    rw [rmEv] at ih
    simp only [rmEv, List.flatMap_cons, List.length_append, List.length_cons, List.length_nil, ih]
    omega
theorem dirOf_len (p : List UInt8) : (dirOf p).length ≤ 200 := by
  cases hgb : goodB p with
  | false => rw [dirOf_bad hgb]; simp
  | true =>
    by_cases hr : p = [47]
    · rw [hr, dirOf_root]; simp
    · obtain ⟨a, c, he, hc⟩ := good_cut hgb
      have := goodB_le hgb
      rw [he] at hgb hr this ⊢
      rw [dirOf_cut hgb hr hc, nupL]
      split
      · simp
      · simp at this; omega
theorem there_drop {cur A B : List Nd} {n u : Nd} {p q : List UInt8} (ha : NAsc cur) (T : NThere cur A n B p) (hu : u ∈ cur) (hq : u.p = q) (hne : u.p ≠ p) : ∃ A' B', NThere (A ++ B) A' u B' q := by
  have hm : u ∈ A ++ B := by rw [← T.drop, dropN]; exact List.mem_filter.2 ⟨hu, by simpa using hne⟩
  have hs : NAsc (A ++ B) := ha.sublist (by rw [T.eq]; exact (List.Sublist.refl A).append (List.sublist_cons_self n B))
  rw [← hq]
  exact there_of_look hs (look_mem hs hm)

/- what is known behind the first checks -/
theorem adm_zero {t : Tr} {x : WTxn} (h : admE t x = 0) : GoodT t ∧ gdE x = 0 ∧ t.z < x.z ∧ (x.o = 1 → x.s ∉ t.ss) ∧ (x.o ≠ 1 → x.s ∈ t.ss) := by
  unfold admE at h
  split at h
  · omega
  · rename_i h1
    split at h
    · omega
    · rename_i h2
      split at h
      · omega
      · rename_i h3
        split at h
        · omega
        · rename_i h4
          split at h
          · omega
          · rename_i h5
            refine ⟨goodT_true.1 (by simpa using h1), by omega, by omega, fun e hm => h4 ⟨e, hm⟩, fun e => ?_⟩
            by_cases hm : x.s ∈ t.ss
            · exact hm
            · exact absurd ⟨e, hm⟩ h5
theorem app_zero {t : Tr} {x : WTxn} (h : appE t x = 0) : admE t x = 0 ∧ chgE t x = 0 ∧ fullN (chgN t x) = false := by
  unfold appE at h
  split at h
  · rename_i h1; exact absurd h h1
  · rename_i h1
    split at h
    · rename_i h2; exact absurd h h2
    · rename_i h2
      split at h
      · omega
      · rename_i h3; exact ⟨by omega, by omega, by simpa using h3⟩
theorem cre_zero {t : Tr} {x : WTxn} (h : creE t x = 0) : lookN t.ns x.p = none ∧ (∃ u, lookN t.ns (dirOf x.p) = some u ∧ u.o = 0) ∧ (x.w = 0 ∨ x.w = x.s) ∧ t.ns.length ≠ 400 := by
  unfold creE at h
  split at h
  · omega
  · rename_i h1
    split at h
    · omega
    · rename_i u hu
      split at h
      · omega
      · rename_i h2
        split at h
        · omega
        · rename_i h3
          split at h
          · omega
          · rename_i h4
            refine ⟨by simpa using h1, ⟨u, hu, by omega⟩, ?_, h4⟩
            by_cases e : x.w = 0
            · exact .inl e
            · by_cases e' : x.w = x.s
              · exact .inr e'
              · exact absurd ⟨e, e'⟩ h3
theorem del_zero {t : Tr} {x : WTxn} (h : delE t x = 0) : ∃ n, lookN t.ns x.p = some n ∧ n.n = 0 := by
  unfold delE at h
  split at h
  · omega
  · rename_i n hn
    split at h
    · omega
    · exact ⟨n, hn, by omega⟩
structure Fine (x : WTxn) : Prop where
  op : 1 ≤ x.o ∧ x.o ≤ 5
  z : 0 ≤ x.z ∧ zGood x.z = true
  s : 1 ≤ x.s ∧ x.s ≤ 2147483647
  v : 0 ≤ x.v ∧ x.v ≤ 2147483647
  w : 0 ≤ x.w ∧ x.w ≤ 2147483647
  d : x.d.length ≤ 256
  path : x.o = 3 ∨ x.o = 4 → goodB x.p = true ∧ x.p ≠ [47]
  path5 : x.o = 5 → goodB x.p = true
  data : x.o ≠ 3 → x.o ≠ 5 → x.d = []

end Go.Proofs.YtoacignhobchbaaGreatDoor

namespace Go.Proofs.YtoacignhobchbaaGreatDoor
open Go.RowKit

theorem zret_bool {a b : Bool} (h : a = b) : Ending.returned (.bool a) = .returned (.bool b) := by rw [h]

set_option maxRecDepth 10000 in
set_option maxHeartbeats 400000 in
theorem zgood_any (z : Int) (w : World) :
    Calls Tryz.prog 25 #[.int .i64 z] w fun e w' => e = .returned (.bool (zGood z)) ∧ w' = w := by
  go_enter Tryz.func25, Tryz.ntmps25
  go_wp2
  go_ret
  exact ⟨zret_bool (by rw [Bool.eq_iff_iff, zGood_iff, beq_iff_eq]; omega), rfl⟩

end Go.Proofs.YtoacignhobchbaaGreatDoor

namespace Go.Proofs.YtoacignhobchbaaGreatDoor
open Go.RowKit
/-- a transaction as a value -/
def txnV (t : WTxn) : Value := .agg #[.int .i64 t.z, .int .i64 t.o, .int .i64 t.s, .string ⟨t.p.toArray⟩, .string ⟨t.d.toArray⟩, .int .i64 t.v, .int .i64 t.w]
end Go.Proofs.YtoacignhobchbaaGreatDoor
