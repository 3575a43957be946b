/-
  What tree.ordered, tree.numbered, tree.held and tree.sound answer: the walks; and that a tree is good just where all of them say so.
-/
import Derived.Test.YtkgaoedlnejigaaDoorRLC
namespace Go.Proofs.YtkgaoedlnejigaaDoor
open Go.RowKit
theorem nret_bool {a b : Bool} (h : a = b) : Ending.returned (.bool a) = .returned (.bool b) := by rw [h]

/- the parts of Good -/
structure OrdN (ns : List Nd) : Prop where
  few : ns.length ≤ 400
  root : ∃ r rest, ns = r :: rest ∧ r.p = [47]
  asc : NAsc ns
def HeldP (ns : List Nd) (p : List UInt8) : Prop := (lookN ns (dirOf p)).isSome = true ∨ splE p = 7
structure SoundP (z : Int) (n : Nd) (ks : Int) (ss : List Int) : Prop where
  c0 : 0 ≤ n.c
  cm : n.c ≤ n.m
  cq : n.c ≤ n.q
  mz : n.m ≤ z
  qz : n.q ≤ z
  v0 : 0 ≤ n.v
  v1 : n.v ≤ 2147483647
  k0 : 0 ≤ n.k
  k1 : n.k ≤ 2147483647
  kids : n.n = ks
  own : n.o = 0 ∨ ks = 0 ∧ n.o ∈ ss
structure PartP (z : Int) (ns : List Nd) (ss : List Int) (n : Nd) : Prop where
  data : n.d.length ≤ 256
  held : HeldP ns n.p
  sound : SoundP z n (kidsN ns n.p) ss
theorem bl_low {q : List UInt8} (h : bl [47] q = true) : q ≠ [] := by rintro rfl; simp [bl, Op.bytesLess] at h
theorem ord_nonempty {ns : List Nd} (h : OrdN ns) {n : Nd} (hn : n ∈ ns) : n.p ≠ [] := by
  obtain ⟨r, rest, rfl, hr⟩ := h.root
  rcases List.mem_cons.1 hn with rfl | hn
  · rw [hr]; simp
  · have := (List.pairwise_cons.1 h.asc).1 n hn
    rw [hr] at this
    exact bl_low this
theorem good_parts {t : Tr} : GoodT t ↔ zGood t.z = true ∧ OrdN t.ns ∧ SAsc t.ss ∧ (∀ n ∈ t.ns, PartP t.z t.ns t.ss n) ∧ ∀ r, t.ns[0]? = some r → r.o = 0 := by
  constructor
  · intro g
    obtain ⟨r, rest, hr, hp, ho⟩ := g.nod.root
    refine ⟨g.zx, ⟨g.nod.few, ⟨r, rest, hr, hp⟩, g.nod.asc⟩, g.ses, fun n hn => ?_, fun r' h => by rw [hr] at h; simp at h; rw [← h]; exact ho⟩
    have k := g.nod.ok n hn
    refine ⟨k.data, ?_, ⟨k.c0, k.cm, k.cq, k.mz, k.qz, k.v0, k.v1, k.k0, g.cap n hn, k.kids, ?_⟩⟩
    · by_cases h : n.p = [47]
      · exact .inr (by rw [h]; exact splE_root)
      · obtain ⟨u, hu, he⟩ := k.up h
        exact .inl (by rw [← he, look_mem g.nod.asc hu]; rfl)
    · rcases k.own with h | ⟨h1, h2⟩
      · exact .inl h
      · exact .inr ⟨by rw [← k.kids]; exact h2, h1⟩
  · rintro ⟨hz, ho, hs, hp, hr⟩
    refine ⟨hz, hs, ⟨ho.few, ?_, ho.asc, fun n hn => ?_⟩, fun n hn => (hp n hn).sound.k1⟩
    · obtain ⟨r, rest, h1, h2⟩ := ho.root
      exact ⟨r, rest, h1, h2, hr r (by rw [h1]; rfl)⟩
    · have k := hp n hn
      have s := k.sound
      have hg : goodB n.p = true ∧ (n.p ≠ [47] → ∃ u ∈ t.ns, u.p = dirOf n.p) := by
        rcases k.held with h | h
        · obtain ⟨u, hu⟩ := Option.isSome_iff_exists.1 h
          obtain ⟨hu1, hu2⟩ := lookN_some hu
          have hne : dirOf n.p ≠ [] := by rw [← hu2]; exact ord_nonempty ho hu1
          cases hb : goodB n.p with
          | false => exact absurd (dirOf_bad hb) hne
          | true => exact ⟨rfl, fun _ => ⟨u, hu1, hu2⟩⟩
        · cases hb : goodB n.p with
          | false => rw [splE_bad hb] at h; omega
          | true =>
            by_cases h1 : n.p = [47]
            · exact ⟨rfl, fun h2 => absurd h1 h2⟩
            · rw [splE_ok hb h1] at h; omega
      refine ⟨k.data, hg.1, hg.2, s.c0, s.cm, s.cq, s.mz, s.qz, s.v0, s.v1, s.k0, s.kids, ?_⟩
      rcases s.own with h | ⟨h1, h2⟩
      · exact .inl h
      · exact .inr ⟨h2, by rw [s.kids]; exact h1⟩

/- ordered -/
def RiseTo (ns : List Nd) (k : Nat) : Prop := ∀ i, i < k → ∀ a b, ns[i]? = some a → ns[i + 1]? = some b → bl a.p b.p = true
theorem asc_of_rise {ns : List Nd} {k : Nat} (h : RiseTo ns k) (hk : ns.length ≤ k + 1) : NAsc ns := by
  have step : ∀ j i, (hij : i < j) → ∀ (hj : j < ns.length), bl (ns[i]'(Nat.lt_trans hij hj)).p ns[j].p = true := by
    intro j
    induction j with
    | zero => intro i hi; omega
    | succ j ih =>
      intro i hi hj
      have h1 := h j (by omega) ns[j] ns[j + 1] (by simp) (by simp)
      by_cases e : i = j
      · subst e; exact h1
      · exact bl_trans _ _ _ (ih i (by omega) (by omega)) h1
  exact List.pairwise_iff_getElem.2 fun i j hi hj hij => step j i hij hj
theorem asc_rise {ns : List Nd} (h : NAsc ns) {i : Nat} {a b : Nd} (ha : ns[i]? = some a) (hb : ns[i + 1]? = some b) : bl a.p b.p = true := by
  obtain ⟨h1, rfl⟩ := List.getElem?_eq_some_iff.1 ha
  obtain ⟨h2, rfl⟩ := List.getElem?_eq_some_iff.1 hb
  exact List.pairwise_iff_getElem.1 h i (i + 1) h1 h2 (by omega)

/- numbered -/
def leastOf (ss : List Int) : Nat → Int
  | 0 => 1
  | k + 1 => ss.getD k 0 + 1
def OkS (ss : List Int) (k : Nat) : Prop := ∀ i, i < k → ∀ x, ss[i]? = some x → leastOf ss i ≤ x ∧ x ≤ 2147483647
theorem oks_succ {ss : List Int} {k : Nat} (h : OkS ss k) {x : Int} (hx : ss[k]? = some x) (h1 : leastOf ss k ≤ x) (h2 : x ≤ 2147483647) : OkS ss (k + 1) := by
  intro i hi y hy
  by_cases e : i = k
  · subst e; rw [hx] at hy; cases hy; exact ⟨h1, h2⟩
  · exact h i (by omega) y hy
theorem leastOf_succ {ss : List Int} {k : Nat} {x : Int} (hx : ss[k]? = some x) : leastOf ss (k + 1) = x + 1 := by simp [leastOf, List.getD, hx]
theorem sasc_oks {ss : List Int} (h : SAsc ss) {k : Nat} {x : Int} (hx : ss[k]? = some x) : leastOf ss k ≤ x ∧ x ≤ 2147483647 := by
  have hb := h.2 x (List.mem_of_getElem? hx)
  refine ⟨?_, hb.2⟩
  cases k with
  | zero => simp only [leastOf]; omega
  | succ k =>
    obtain ⟨h1, rfl⟩ := List.getElem?_eq_some_iff.1 hx
    rw [leastOf_succ (List.getElem?_eq_getElem (show k < ss.length by omega))]
    have := List.pairwise_iff_getElem.1 h.1 k (k + 1) (by omega) h1 (by omega)
    omega
theorem oks_sasc {ss : List Int} (h : OkS ss ss.length) : SAsc ss := by
  have step : ∀ j i, (hij : i < j) → ∀ (hj : j < ss.length), ss[i]'(Nat.lt_trans hij hj) < ss[j] := by
    intro j
    induction j with
    | zero => intro i hi; omega
    | succ j ih =>
      intro i hi hj
      have h1 := (h (j + 1) hj _ (List.getElem?_eq_getElem hj)).1
      rw [leastOf_succ (List.getElem?_eq_getElem (show j < ss.length by omega))] at h1
      by_cases e : i = j
      · subst e; omega
      · have := ih i (by omega) (by omega); omega
  have pos : ∀ i, (hi : i < ss.length) → 1 ≤ ss[i] := by
    intro i
    induction i with
    | zero => intro hi; exact (h 0 hi _ (List.getElem?_eq_getElem hi)).1
    | succ i ih => intro hi; have := step (i + 1) i (by omega) hi; have := ih (by omega); omega
  refine ⟨List.pairwise_iff_getElem.2 fun i j hi hj hij => step j i hij hj, fun s hs => ?_⟩
  obtain ⟨i, hi, rfl⟩ := List.getElem_of_mem hs
  exact ⟨pos i hi, (h i hi _ (List.getElem?_eq_getElem hi)).2⟩

/- held -/
/- sound -/
end Go.Proofs.YtkgaoedlnejigaaDoor
