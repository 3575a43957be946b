/-
  What tree.ordered, tree.numbered, tree.held and tree.sound answer: the walks; and that a tree is good just where all of them say so.
-/
import Derived.Test.YtcplpbelficbeaaGreatDoorRQF
namespace Go.Proofs.YtcplpbelficbeaaGreatDoor
open Go.RowKit

noncomputable def pd (P : Prop) : Bool := @decide P (Classical.propDecidable _)
theorem pd_true {P : Prop} (h : P) : pd P = true := by unfold pd; exact @decide_eq_true _ (Classical.propDecidable _) h
theorem pd_false {P : Prop} (h : ¬ P) : pd P = false := by unfold pd; exact @decide_eq_false _ (Classical.propDecidable _) h
theorem pd_iff {P : Prop} : pd P = true ↔ P := by unfold pd; exact @decide_eq_true_iff _ (Classical.propDecidable _)
theorem nret_bool {a b : Bool} (h : a = b) : Ending.returned (.bool a) = .returned (.bool b) := by rw [h]

/- the parts of Good -/
structure OrdN (ns : List Nd) : Prop where
  few : ns.length ≤ 400
  root : ∃ r rest, ns = r :: rest ∧ r.p = [47]
  asc : NAsc ns
def HeldP (ns : List Nd) (p : List UInt8) : Prop := (lookN ns (dirOf p)).isSome = true ∨ splE p = 7
structure SoundP (z : Int) (n : Nd) (ks : Int) (ss : List Int) : Prop where
  c0 : 0 ≤ n.c
  cm : n.c ≤ n.m
  cq : n.c ≤ n.q
  mz : n.m ≤ z
  qz : n.q ≤ z
  v0 : 0 ≤ n.v
  v1 : n.v ≤ 2147483647
  k0 : 0 ≤ n.k
  k1 : n.k ≤ 2147483647
  kids : n.n = ks
  own : n.o = 0 ∨ ks = 0 ∧ n.o ∈ ss
structure PartP (z : Int) (ns : List Nd) (ss : List Int) (n : Nd) : Prop where
  data : n.d.length ≤ 256
  held : HeldP ns n.p
  sound : SoundP z n (kidsN ns n.p) ss
theorem bl_low {q : List UInt8} (h : bl [47] q = true) : q ≠ [] := by rintro rfl; simp [bl, Op.bytesLess] at h
theorem ord_nonempty {ns : List Nd} (h : OrdN ns) {n : Nd} (hn : n ∈ ns) : n.p ≠ [] := by
  obtain ⟨r, rest, rfl, hr⟩ := h.root
  rcases List.mem_cons.1 hn with rfl | hn
  · rw [hr]; simp
  · have := (List.pairwise_cons.1 h.asc).1 n hn
    rw [hr] at this
    exact bl_low this
theorem good_parts {t : Tr} : GoodT t ↔ zGood t.z = true ∧ OrdN t.ns ∧ SAsc t.ss ∧ (∀ n ∈ t.ns, PartP t.z t.ns t.ss n) ∧ ∀ r, t.ns[0]? = some r → r.o = 0 := by
  constructor
  · intro g
    obtain ⟨r, rest, hr, hp, ho⟩ := g.nod.root
    refine ⟨g.zx, ⟨g.nod.few, ⟨r, rest, hr, hp⟩, g.nod.asc⟩, g.ses, fun n hn => ?_, fun r' h => by rw [hr] at h; simp at h; rw [← h]; exact ho⟩
    have k := g.nod.ok n hn
    refine ⟨k.data, ?_, ⟨k.c0, k.cm, k.cq, k.mz, k.qz, k.v0, k.v1, k.k0, g.cap n hn, k.kids, ?_⟩⟩
    · by_cases h : n.p = [47]
      · exact .inr (by rw [h]; exact splE_root)
      · obtain ⟨u, hu, he⟩ := k.up h
        exact .inl (by rw [← he, look_mem g.nod.asc hu]; rfl)
    · rcases k.own with h | ⟨h1, h2⟩
      · exact .inl h
      · exact .inr ⟨by rw [← k.kids]; exact h2, h1⟩
  · rintro ⟨hz, ho, hs, hp, hr⟩
    refine ⟨hz, hs, ⟨ho.few, ?_, ho.asc, fun n hn => ?_⟩, fun n hn => (hp n hn).sound.k1⟩
    · obtain ⟨r, rest, h1, h2⟩ := ho.root
      exact ⟨r, rest, h1, h2, hr r (by rw [h1]; rfl)⟩
    · have k := hp n hn
      have s := k.sound
      have hg : goodB n.p = true ∧ (n.p ≠ [47] → ∃ u ∈ t.ns, u.p = dirOf n.p) := by
        rcases k.held with h | h
        · obtain ⟨u, hu⟩ := Option.isSome_iff_exists.1 h
          obtain ⟨hu1, hu2⟩ := lookN_some hu
          have hne : dirOf n.p ≠ [] := by rw [← hu2]; exact ord_nonempty ho hu1
          cases hb : goodB n.p with
          | false => exact absurd (dirOf_bad hb) hne
          | true => exact ⟨rfl, fun _ => ⟨u, hu1, hu2⟩⟩
        · cases hb : goodB n.p with
          | false => rw [splE_bad hb] at h; omega
          | true =>
            by_cases h1 : n.p = [47]
            · exact ⟨rfl, fun h2 => absurd h1 h2⟩
            · rw [splE_ok hb h1] at h; omega
      refine ⟨k.data, hg.1, hg.2, s.c0, s.cm, s.cq, s.mz, s.qz, s.v0, s.v1, s.k0, s.kids, ?_⟩
      rcases s.own with h | ⟨h1, h2⟩
      · exact .inl h
      · exact .inr ⟨h2, by rw [s.kids]; exact h1⟩

/- ordered -/
def RiseTo (ns : List Nd) (k : Nat) : Prop := ∀ i, i < k → ∀ a b, ns[i]? = some a → ns[i + 1]? = some b → bl a.p b.p = true
theorem rise_succ {ns : List Nd} {k : Nat} (h : RiseTo ns k) {a b : Nd} (ha : ns[k]? = some a) (hb : ns[k + 1]? = some b) (hl : bl a.p b.p = true) : RiseTo ns (k + 1) := by
  intro i hi x y hx hy
  by_cases e : i = k
  · subst e; rw [ha] at hx; rw [hb] at hy; cases hx; cases hy; exact hl
  · exact h i (by omega) x y hx hy
theorem asc_of_rise {ns : List Nd} {k : Nat} (h : RiseTo ns k) (hk : ns.length ≤ k + 1) : NAsc ns := by
  have step : ∀ j i, (hij : i < j) → ∀ (hj : j < ns.length), bl (ns[i]'(Nat.lt_trans hij hj)).p ns[j].p = true := by
    intro j
    induction j with
    | zero => intro i hi; omega
    | succ j ih =>
      intro i hi hj
      have h1 := h j (by omega) ns[j] ns[j + 1] (by simp) (by simp)
      by_cases e : i = j
      · subst e; exact h1
      · exact bl_trans _ _ _ (ih i (by omega) (by omega)) h1
  exact List.pairwise_iff_getElem.2 fun i j hi hj hij => step j i hij hj
theorem asc_rise {ns : List Nd} (h : NAsc ns) {i : Nat} {a b : Nd} (ha : ns[i]? = some a) (hb : ns[i + 1]? = some b) : bl a.p b.p = true := by
  obtain ⟨h1, rfl⟩ := List.getElem?_eq_some_iff.1 ha
  obtain ⟨h2, rfl⟩ := List.getElem?_eq_some_iff.1 hb
  exact List.pairwise_iff_getElem.1 h i (i + 1) h1 h2 (by omega)

set_option maxRecDepth 20000 in
set_option maxHeartbeats 2000000 in
theorem ordered_any (v : Value) (ns : List Nd) (w : World) (hv : SeqV w v ns) :
    Calls Tryz.prog 27 #[v] w fun e w' => e = .returned (.bool (pd (OrdN ns))) ∧ Below w.heap.size w w' := by
  rcases hv with ⟨a, cap, rfl, rfl, _⟩ | ⟨b, off, cap, rfl, hle, hm, hb, hne, hr⟩
  · have F := hide (pd_false (P := OrdN []) (fun h => by obtain ⟨r, rest, h, _⟩ := h.root; cases h)).symm
    go_enter Tryz.func27, Tryz.ntmps27
    go_wp2_with fail
    go_ret
    exact ⟨nret_bool (unhide F), Below.refl _ _⟩
  · obtain ⟨r, rest, rfl⟩ : ∃ r rest, ns = r :: rest := by
      cases ns with
      | nil => exact absurd rfl hne
      | cons r rest => exact ⟨r, rest, rfl⟩
    have e0 := hr.n0 (i := 0) (x := r) rfl
    have H := hide hr
    simp only [List.length_cons] at hle ⊢
    simp only [maxLen] at hm
    clear hr hne
    by_cases hl : rest.length + 1 ≤ 400
    · by_cases hp : r.p = [47]
      · have hp2 : (r.p == [47]) = true := by rw [hp]; rfl
        have HL := hide hl
        have HP := hide hp
        clear hp
        simp only [Nat.zero_mul, Nat.add_zero] at e0
        by_cases hc1 : cap = 1
        · obtain rfl : rest = [] := List.eq_nil_of_length_eq_zero (by omega)
          subst hc1
          have T := hide (pd_true (P := OrdN [r]) ⟨by simp, ⟨r, [], rfl, unhide HP⟩, List.pairwise_singleton _ _⟩).symm
          clear hle hl
          simp only [List.length_nil]
          go_enter Tryz.func27, Tryz.ntmps27
          go_wp2_with fail
          go_loopg [23] 1 (fun _ s23 wr => s23 = .int .i64 0 ∧ wr = w)
          case atStart => exact ⟨rfl, rfl⟩
          case round =>
            obtain ⟨rfl, rfl⟩ := hrel
            go_wp2_with fail
            go_ret
            exact ⟨nret_bool (unhide T), Below.refl _ _⟩
        · go_enter Tryz.func27, Tryz.ntmps27
          go_wp2_with fail
          go_loopg [23] rest.length (fun kx s23 wr => ∃ k : Nat, s23 = .int .i64 k ∧ k ≤ rest.length ∧ rest.length - k ≤ kx ∧ Hid (Below w.heap.size w wr) ∧ Hid (RiseTo (r :: rest) k))
          case atStart => exact ⟨0, rfl, Nat.zero_le _, Nat.le_refl _, hide (Below.refl _ _), hide (fun i hi => absurd hi (Nat.not_lt_zero _))⟩
          case round =>
            obtain ⟨k, rfl, hk, hg, hB, hR⟩ := hrel
            by_cases hlt : k < rest.length
            · obtain ⟨x, hx⟩ : ∃ x, (r :: rest)[k + 1]? = some x := ⟨_, List.getElem?_eq_getElem (by simp; omega)⟩
              obtain ⟨y, hy⟩ : ∃ y, (r :: rest)[k]? = some y := ⟨_, List.getElem?_eq_getElem (by simp; omega)⟩
              have q := (unhide H).kept (unhide hB) hb
              have d0 := q.n0 hx
              have d1 := q.n1 hx
              have d2 := q.n2 hx
              have d3 := q.n3 hx
              have d4 := q.n4 hx
              have d5 := q.n5 hx
              have d6 := q.n6 hx
              have d7 := q.n7 hx
              have d8 := q.n8 hx
              have c0 := q.n0 hy
              have hbw : b < wr.heap.size := Nat.lt_of_lt_of_le hb (unhide hB).size
              have hofs : off + 9 + k * 9 = off + (k + 1) * 9 := by omega
              rw [← hofs] at d0 d1 d2 d3 d4 d5 d6 d7 d8
              clear hofs
              have hk1 : (k : Int) < (rest.length : Int) + 1 := by omega
              cases hbl : bl y.p x.p with
              | true =>
                have R2 := hide (rise_succ (unhide hR) hy hx hbl)
                have hbl1 : Op.bytesLess x.p y.p = false := bl_asymm hbl
                have hbl2 : (x.p == y.p) = false := by simpa using (bl_ne hbl).symm
                clear hx hy q hbl
                go_wp2_with fail
                go_region
                go_wp2_with fail
                go_roundg (rest.length - (k + 1))
                case measure => omega
                case rel => exact ⟨k + 1, rfl, by omega, Nat.le_refl _, hide (nnext (unhide hB) ((allocB _ _).drew)), R2⟩
              | false =>
                have F := hide (pd_false (P := OrdN (r :: rest)) (fun h => by have := asc_rise h.asc hy hx; rw [hbl] at this; cases this)).symm
                clear hx hy q
                cases hb1 : bl x.p y.p with
                | true =>
                  have hbl1 : Op.bytesLess x.p y.p = true := hb1
                  clear hbl hb1
                  go_wp2_with fail
                  go_region
                  go_wp2_with fail
                  go_ret
                  exact ⟨nret_bool (unhide F), nnext (unhide hB) ((allocB _ _).drew)⟩
                | false =>
                  have hbl1 : Op.bytesLess x.p y.p = false := hb1
                  have hbl2 : (x.p == y.p) = true := by simpa using bl_total _ _ hb1 hbl
                  clear hbl hb1
                  go_wp2_with fail
                  go_region
                  go_wp2_with fail
                  go_ret
                  exact ⟨nret_bool (unhide F), nnext (unhide hB) ((allocB _ _).drew)⟩
            · obtain rfl : k = rest.length := by omega
              go_wp2_with fail
              go_ret
              exact ⟨nret_bool (pd_true (P := OrdN (r :: rest)) ⟨unhide HL, ⟨r, rest, rfl, unhide HP⟩, asc_of_rise (unhide hR) (by simp)⟩).symm, unhide hB⟩
      · have hp2 : (r.p == [47]) = false := by simpa using hp
        have F := hide (pd_false (P := OrdN (r :: rest)) (fun h => by obtain ⟨r', s', h1, h2⟩ := h.root; cases h1; exact hp h2)).symm
        clear hp
        simp only [Nat.zero_mul, Nat.add_zero] at e0
        go_enter Tryz.func27, Tryz.ntmps27
        go_wp2_with fail
        go_ret
        exact ⟨nret_bool (unhide F), Below.refl _ _⟩
    · have F := hide (pd_false (P := OrdN (r :: rest)) (fun h => hl (by simpa using h.few))).symm
      go_enter Tryz.func27, Tryz.ntmps27
      go_wp2_with fail
      go_ret
      exact ⟨nret_bool (unhide F), Below.refl _ _⟩

/- numbered -/
def leastOf (ss : List Int) : Nat → Int
  | 0 => 1
  | k + 1 => ss.getD k 0 + 1
def OkS (ss : List Int) (k : Nat) : Prop := ∀ i, i < k → ∀ x, ss[i]? = some x → leastOf ss i ≤ x ∧ x ≤ 2147483647
theorem oks_succ {ss : List Int} {k : Nat} (h : OkS ss k) {x : Int} (hx : ss[k]? = some x) (h1 : leastOf ss k ≤ x) (h2 : x ≤ 2147483647) : OkS ss (k + 1) := by
  intro i hi y hy
  by_cases e : i = k
  · subst e; rw [hx] at hy; cases hy; exact ⟨h1, h2⟩
  · exact h i (by omega) y hy
theorem leastOf_succ {ss : List Int} {k : Nat} {x : Int} (hx : ss[k]? = some x) : leastOf ss (k + 1) = x + 1 := by simp [leastOf, List.getD, hx]
theorem sasc_oks {ss : List Int} (h : SAsc ss) {k : Nat} {x : Int} (hx : ss[k]? = some x) : leastOf ss k ≤ x ∧ x ≤ 2147483647 := by
  have hb := h.2 x (List.mem_of_getElem? hx)
  refine ⟨?_, hb.2⟩
  cases k with
  | zero => simp only [leastOf]; omega
  | succ k =>
    obtain ⟨h1, rfl⟩ := List.getElem?_eq_some_iff.1 hx
    rw [leastOf_succ (List.getElem?_eq_getElem (show k < ss.length by omega))]
    have := List.pairwise_iff_getElem.1 h.1 k (k + 1) (by omega) h1 (by omega)
    omega
theorem oks_sasc {ss : List Int} (h : OkS ss ss.length) : SAsc ss := by
  have step : ∀ j i, (hij : i < j) → ∀ (hj : j < ss.length), ss[i]'(Nat.lt_trans hij hj) < ss[j] := by
    intro j
    induction j with
    | zero => intro i hi; omega
    | succ j ih =>
      intro i hi hj
      have h1 := (h (j + 1) hj _ (List.getElem?_eq_getElem hj)).1
      rw [leastOf_succ (List.getElem?_eq_getElem (show j < ss.length by omega))] at h1
      by_cases e : i = j
      · subst e; omega
      · have := ih i (by omega) (by omega); omega
  have pos : ∀ i, (hi : i < ss.length) → 1 ≤ ss[i] := by
    intro i
    induction i with
    | zero => intro hi; exact (h 0 hi _ (List.getElem?_eq_getElem hi)).1
    | succ i ih => intro hi; have := step (i + 1) i (by omega) hi; have := ih (by omega); omega
  refine ⟨List.pairwise_iff_getElem.2 fun i j hi hj hij => step j i hij hj, fun s hs => ?_⟩
  obtain ⟨i, hi, rfl⟩ := List.getElem_of_mem hs
  exact ⟨pos i hi, (h i hi _ (List.getElem?_eq_getElem hi)).2⟩

set_option maxRecDepth 10000 in
set_option maxHeartbeats 2000000 in
theorem numbered_any (v : Value) (ss : List Int) (w : World) (hv : SeqV w v ss) (hi : ∀ s ∈ ss, -9223372036854775808 ≤ s ∧ s ≤ 9223372036854775807) :
    Calls Tryz.prog 28 #[v] w fun e w' => e = .returned (.bool (pd (SAsc ss))) ∧ w' = w := by
  have T := hide (fun h : OkS ss ss.length => (pd_true (oks_sasc h)).symm)
  have F := hide (fun (k : Nat) (x : Int) (hx : ss[k]? = some x) (h : ¬ (leastOf ss k ≤ x ∧ x ≤ 2147483647)) => (pd_false (fun g : SAsc ss => h (sasc_oks g hx))).symm)
  have HI := hide hi
  clear hi
  generalize pd (SAsc ss) = fin at T F ⊢
  have R : ∀ k x, ss[k]? = some x → ∃ b off cap, v = .slice (some ⟨b, off, none⟩) ss.length cap ∧ w.cell? ⟨b, off + k, none⟩ = some (.int .i64 x) := fun k x hx => by
    obtain ⟨b, off, cap, rfl, _, hr, _, _⟩ := seq_row hv (by rintro rfl; simp at hx)
    exact ⟨b, off, cap, rfl, hr.i0 hx⟩
  have HR := hide R
  have hml : ss.length ≤ 9223372036854775807 := by
    rcases hv with ⟨a, cap, rfl, rfl, _⟩ | ⟨b, off, cap, rfl, h1, h2, _⟩
    · simp
    · simp only [maxLen] at h2; omega
  obtain ⟨a, c, rfl⟩ := seq_slice hv
  clear R hv
  go_enter Tryz.func28, Tryz.ntmps28
  go_wp2_with fail
  go_loopg [3, 8] ss.length (fun kx s3 s8 wr => ∃ k : Nat, s3 = .int .i64 (leastOf ss k) ∧ s8 = .int .i64 k ∧ k ≤ ss.length ∧ ss.length - k ≤ kx ∧ wr = w ∧ Hid (OkS ss k))
  case atStart => exact ⟨0, rfl, rfl, Nat.zero_le _, Nat.le_refl _, rfl, hide (fun i hi => absurd hi (Nat.not_lt_zero _))⟩
  case round =>
    obtain ⟨k, rfl, rfl, hk, hg, rfl, hO⟩ := hrel
    by_cases hlt : k < ss.length
    · obtain ⟨x, hx⟩ : ∃ x, ss[k]? = some x := ⟨_, List.getElem?_eq_getElem hlt⟩
      obtain ⟨b, off, cap, hv, e0⟩ := unhide HR k x hx
      have hbx := unhide HI x (List.mem_of_getElem? hx)
      simp only [Value.slice.injEq] at hv
      obtain ⟨rfl, _, rfl⟩ := hv
      have HX := hide hx
      clear hx
      have LS := hide (leastOf_succ (unhide HX))
      by_cases h1 : leastOf ss k ≤ x
      · by_cases h2 : x ≤ 2147483647
        · have O2 := hide (oks_succ (unhide hO) (unhide HX) h1 h2)
          generalize leastOf ss k = ls at h1
          go_wp2_with fail
          go_roundg (ss.length - (k + 1))
          case measure => omega
          case rel => exact ⟨k + 1, by rw [unhide LS], rfl, by omega, Nat.le_refl _, rfl, O2⟩
        · have G := hide (unhide F k x (unhide HX) (by omega))
          generalize leastOf ss k = ls at h1
          go_wp2_with fail
          go_ret
          exact ⟨nret_bool (unhide G), rfl⟩
      · have G := hide (unhide F k x (unhide HX) (by omega))
        generalize leastOf ss k = ls at h1
        go_wp2_with fail
        go_ret
        exact ⟨nret_bool (unhide G), rfl⟩
    · obtain rfl : k = ss.length := by omega
      have G := hide (unhide T (unhide hO))
      go_wp2_with fail
      go_ret
      exact ⟨nret_bool (unhide G), rfl⟩

/- held -/
set_option maxRecDepth 10000 in
set_option maxHeartbeats 400000 in
theorem held_any (v : Value) (ns : List Nd) (p : List UInt8) (w : World) (hv : SeqV w v ns) (ha : OrdN ns) :
    Calls Tryz.prog 30 #[v, .string ⟨p.toArray⟩] w fun e w' => e = .returned (.bool (pd (HeldP ns p))) ∧ Below w.heap.size w w' := by
  have C : ∀ W : World, Below w.heap.size w W → ∃ i : Nat, Calls Tryz.prog 43 #[v, .string ⟨(dirOf p).toArray⟩] W fun e w' => e = .returned (.tuple #[.int .i64 i, .bool (lookN ns (dirOf p)).isSome]) ∧ Below W.heap.size W w' := fun W hW => by
    obtain ⟨i, _, h⟩ := nfind_any v ns (dirOf p) W (hv.next hW) (by have := ha.few; omega) ha.asc
    exact ⟨i, h⟩
  have C' := hide C
  have F : pd (HeldP ns p) = ((lookN ns (dirOf p)).isSome || splE p == 7) := by
    cases h : (lookN ns (dirOf p)).isSome with
    | true => exact pd_true (.inl h)
    | false =>
      by_cases h2 : splE p = 7
      · rw [pd_true (.inr h2), h2]; rfl
      · rw [pd_false (fun hh => hh.elim (fun h1 => by rw [h] at h1; cases h1) h2)]; simp [h2]
  rw [F]
  obtain ⟨a, c, rfl⟩ := seq_slice hv
  have CS := fun W => split_any p W
  clear C hv ha F
  generalize (lookN ns (dirOf p)).isSome = hd at C' ⊢
  generalize dirOf p = dp at C' CS
  generalize stepOf p = sp at CS
  generalize splE p = ep at CS ⊢
  generalize ns.length = nl at C' ⊢
  go_enter Tryz.func30, Tryz.ntmps30
  go_wp2_with fail
  refine (CS _).mono ?_
  rintro e w1 ⟨rfl, hb1⟩
  go_wp2_with fail
  obtain ⟨i, C2⟩ := unhide C' _ hb1
  refine C2.mono ?_
  rintro e w2 ⟨rfl, hb2⟩
  have hB := nnext hb1 hb2
  clear CS C2 C' hb1 hb2
  cases hd with
  | true =>
    go_wp2_with fail
    go_ret
    exact ⟨rfl, hB⟩
  | false =>
    go_wp2_with fail
    go_ret
    exact ⟨rfl, hB⟩

/- sound -/
set_option maxRecDepth 20000 in
set_option maxHeartbeats 4000000 in
theorem sound_any (z : Int) (vn vs : Value) (n : Nd) (kids : Int) (ss : List Int) (w : World) (hv : SeqV w vs ss) (hs : SAsc ss) :
    Calls Tryz.prog 31 #[.agg #[.int .i64 z, vn, vs], statV n, .int .i64 kids] w fun e w' => e = .returned (.bool (pd (SoundP z n kids ss))) ∧ Below w.heap.size w w' := by
  have CO : ∀ W : World, Below w.heap.size w W → Calls Tryz.prog 35 #[.agg #[.int .i64 z, vn, vs], .int .i64 n.o] W fun e w' => e = .returned (.bool (decide (n.o ∈ ss))) ∧ Below W.heap.size W w' := fun W hW => topen_any z vn vs ss n.o W (hv.next hW) hs
  have C' := hide CO
  have F := hide (fun h : ¬ SoundP z n kids ss => (pd_false h).symm)
  have T := hide (fun h : SoundP z n kids ss => (pd_true h).symm)
  have SP := hide (Iff.intro (fun h : SoundP z n kids ss => And.intro h.c0 (And.intro h.cm (And.intro h.cq (And.intro h.mz (And.intro h.qz (And.intro h.v0 (And.intro h.v1 (And.intro h.k0 (And.intro h.k1 (And.intro h.kids h.own)))))))))) (fun ⟨a, b, c, d, e, f, g, h, i, j, k⟩ => (⟨a, b, c, d, e, f, g, h, i, j, k⟩ : SoundP z n kids ss)))
  generalize pd (SoundP z n kids ss) = fin at F T ⊢
  obtain ⟨a, c, rfl⟩ := seq_slice hv
  clear CO hv hs
  unfold statV
  obtain ⟨np, nd, nc, nm, nq, nv, nk, no, nn⟩ := n
  simp only at C' SP ⊢
  go_enter Tryz.func31, Tryz.ntmps31
  go_wp2_with fail
  go_region
  go_wp2_with fail
  all_goals try simp only [bne_iff_ne, ne_eq, bne_eq_false_iff_eq] at *
  all_goals (first
    | (go_ret; exact ⟨nret_bool (unhide F (fun h => by have := (unhide SP).1 h; omega)), (((Below.refl _ _).alloc (Nat.le_refl _) _).alloc (by simp) _).drew⟩)
    | (go_ret; exact ⟨nret_bool (unhide T ((unhide SP).2 (by omega))), (((Below.refl _ _).alloc (Nat.le_refl _) _).alloc (by simp) _).drew⟩)
    | (go_ret; exact ⟨nret_bool ((beq_eq_false_iff_ne.2 (by assumption)).trans (unhide F (fun h => by rcases ((unhide SP).1 h).2.2.2.2.2.2.2.2.2.2 with h | h <;> omega))), (((Below.refl _ _).alloc (Nat.le_refl _) _).alloc (by simp) _).drew⟩)
    | skip)
  refine (unhide C' _ ((((Below.refl _ _).alloc (Nat.le_refl _) _).alloc (by simp) _).drew)).mono ?_
  rintro e w1 ⟨rfl, hb1⟩
  have hB := nnext ((((Below.refl w.heap.size w).alloc (Nat.le_refl _) _).alloc (by simp) _).drew) hb1
  by_cases hmem : no ∈ ss
  · have G := hide (unhide T ((unhide SP).2 ⟨by omega, by omega, by omega, by omega, by omega, by omega, by omega, by omega, by omega, by omega, .inr ⟨by omega, hmem⟩⟩))
    go_wp2_with fail
    go_ret
    exact ⟨nret_bool (unhide G), hB⟩
  · have G := hide (unhide F (fun h => by have := ((unhide SP).1 h).2.2.2.2.2.2.2.2.2.2; rcases this with h | h; · omega
                                          · exact hmem h.2))
    go_wp2_with fail
    go_ret
    exact ⟨nret_bool ((beq_eq_false_iff_ne.2 (by assumption)).trans (unhide G)), hB⟩

end Go.Proofs.YtcplpbelficbeaaGreatDoor
