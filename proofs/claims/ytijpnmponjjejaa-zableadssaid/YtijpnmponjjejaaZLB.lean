/-
  What wal.Last and wal.follows answer: the walks.
  cmp.Compare, cmp.Or at two numbers, zab.compare: the walks.
  Who leads, as plain arithmetic over keys (an id, an epoch, a last number); no program is named here.
  What zxid.Good answers, for every number: the walk.
  What zxid's functions on numbers answer, for every number: the walks.
  zab.admitted, newest, leading: the walks.
  zab.admitted: the walk.
  zab.newest, zab.leading: the walks.
  zab.Quorum, zab.Elect, aviarykeep.elects: the walks.
  Who leads, in whatever order they stand: plain lemmas.
  What aviarykeep.pick answers: the walk.
-/
import Derived.Test.YtijpnmponjjejaaZLA
import Derived.Test.YtijpnmponjjejaaRows
import Derived.WalkSpells
import Derived.WalkLawsBesides
import Derived.Deep.RegionHeld3
import Derived.Deep.RegionLaw
import Derived.Deep.CutRange
import Derived.Deep.Cut
import Derived.BigQuiet
import Derived.WalkKit
import Derived.Lib.MinMax
namespace Go.Proofs.Ytijpnmponjjejaa
open Go.RowKit
set_option maxRecDepth 10000 in
set_option maxHeartbeats 400000 in
theorem last_any (v : Value) (ts : List WTxn) (w : World) (hv : LogV w v ts) :
    Calls Try.prog 20 #[v] w fun e w' => e = .returned (.int .i64 (lastZ ts)) ∧ w' = w := by
  by_cases h0 : ts.length = 0
  · obtain ⟨a, c, rfl⟩ := log_slice hv
    obtain rfl := List.length_eq_zero_iff.1 h0
    clear hv h0
    rw [lastZ_nil]
    go_enter Try.func20, Try.ntmps20
    go_wp2_with fail
    go_ret
    exact ⟨rfl, rfl⟩
  · obtain ⟨m, x, rfl⟩ := snoc_of h0
    have hi : (m ++ [x])[m.length]? = some x := by simp
    obtain ⟨b, off, cap, rfl, hb, hr, hlt, hc, hm⟩ := log_row hv hi
    have e := hr.z hi
    have hl : (m ++ [x]).length = m.length + 1 := by simp
    rw [lastZ_snoc, hl]
    simp only [maxLen] at hm
    rw [hl] at hc
    have hM : m.length < 9223372036854775807 := by omega
    clear hv h0 hr hi hl hlt hc hm
    generalize m.length = k at *
    go_enter Try.func20, Try.ntmps20
    go_wp2_with fail
    go_ret
    exact ⟨rfl, rfl⟩

end Go.Proofs.Ytijpnmponjjejaa

namespace Go.Proofs.Ytijpnmponjjejaa
open Go.RowKit

def cmpI (x y : Int) : Int := if x < y then -1 else if y < x then 1 else 0
set_option maxRecDepth 10000 in
theorem nan_any (x : Int) (w : World) : Calls Try.prog 45 #[.int .i64 x] w fun e w' => e = .returned (.bool false) ∧ w' = w := by
  go_enter Try.func45, Try.ntmps45
  go_wp2_with fail
  go_ret
  exact ⟨rfl, rfl⟩
set_option maxRecDepth 10000 in
set_option maxHeartbeats 1000000 in
theorem cmp_any (x y : Int) (w : World) : Calls Try.prog 44 #[.int .i64 x, .int .i64 y] w fun e w' => e = .returned (.int .i64 (cmpI x y)) ∧ w' = w := by
  by_cases h : x < y
  · have e : cmpI x y = -1 := by simp [cmpI, h]
    rw [e]
    clear e
    go_enter Try.func44, Try.ntmps44
    go_wp2_with fail
    refine (nan_any _ _).mono ?_
    rintro e w1 ⟨rfl, rfl⟩
    go_wp2_with fail
    refine (nan_any _ _).mono ?_
    rintro e w1 ⟨rfl, rfl⟩
    go_wp2_with fail
    go_ret
    exact ⟨rfl, rfl⟩
  · by_cases h2 : y < x
    · have e : cmpI x y = 1 := by simp [cmpI, h, h2]
      rw [e]
      clear e
      go_enter Try.func44, Try.ntmps44
      go_wp2_with fail
      refine (nan_any _ _).mono ?_
      rintro e w1 ⟨rfl, rfl⟩
      go_wp2_with fail
      refine (nan_any _ _).mono ?_
      rintro e w1 ⟨rfl, rfl⟩
      go_wp2_with fail
      go_ret
      exact ⟨rfl, rfl⟩
    · have e : cmpI x y = 0 := by simp [cmpI, h, h2]
      rw [e]
      clear e
      go_enter Try.func44, Try.ntmps44
      go_wp2_with fail
      refine (nan_any _ _).mono ?_
      rintro e w1 ⟨rfl, rfl⟩
      go_wp2_with fail
      refine (nan_any _ _).mono ?_
      rintro e w1 ⟨rfl, rfl⟩
      go_wp2_with fail
      go_ret
      exact ⟨rfl, rfl⟩
def orI (x y : Int) : Int := if x = 0 then y else x
set_option maxRecDepth 10000 in
set_option maxHeartbeats 1000000 in
theorem or_any (g : Nat) (x y : Int) (w : World) (h0 : w.cell? ⟨g, 0, none⟩ = some (.int .i64 x)) (h1 : w.cell? ⟨g, 1, none⟩ = some (.int .i64 y)) :
    Calls Try.prog 43 #[.slice (some ⟨g, 0, none⟩) 2 2] w fun e w' => e = .returned (.int .i64 (orI x y)) ∧ w' = w := by
  go_enter Try.func43, Try.ntmps43
  go_wp2_with fail
  go_loopg [8] 2 (fun kx s8 wr => ∃ k : Nat, s8 = .int .i64 k ∧ k ≤ 2 ∧ 2 - k ≤ kx ∧ wr = w ∧ (k = 0 ∨ k = 1 ∧ x = 0 ∨ k = 2 ∧ x = 0 ∧ y = 0))
  case atStart => exact ⟨0, rfl, by omega, by omega, rfl, .inl rfl⟩
  case round =>
    obtain ⟨k, rfl, hk, hkx, rfl, h⟩ := hrel
    rcases h with rfl | ⟨rfl, hx⟩ | ⟨rfl, hx, hy⟩
    · by_cases hx : x = 0
      · go_wp2_with fail
        go_roundg 1
        case measure => omega
        case rel => exact ⟨1, rfl, by omega, by omega, rfl, .inr (.inl ⟨rfl, hx⟩)⟩
      · have e : orI x y = x := by simp [orI, hx]
        have HE := hide e
        clear e
        go_wp2_with fail
        go_ret
        rw [unhide HE]
        exact ⟨rfl, rfl⟩
    · by_cases hy : y = 0
      · go_wp2_with fail
        go_roundg 0
        case measure => omega
        case rel => exact ⟨2, rfl, by omega, by omega, rfl, .inr (.inr ⟨rfl, hx, hy⟩)⟩
      · have e : orI x y = y := by simp [orI, hx]
        have HE := hide e
        clear e
        go_wp2_with fail
        go_ret
        rw [unhide HE]
        exact ⟨rfl, rfl⟩
    · have e : orI x y = 0 := by simp [orI, hx, hy]
      have HE := hide e
      clear e
      go_wp2_with fail
      go_ret
      rw [unhide HE]
      exact ⟨rfl, rfl⟩

set_option maxRecDepth 10000 in
set_option maxHeartbeats 4000000 in
theorem compare_any (p q : Pe) (w : World) (hp : LogV w p.log p.ts) (hq : LogV w q.log q.ts) :
    Calls Try.prog 39 #[peV p, peV q] w fun e w' => e = .returned (.int .i64 (orI (cmpI (lastZ p.ts) (lastZ q.ts)) (cmpI p.id q.id))) ∧ Below w.heap.size w w' := by
  obtain ⟨W0, hW0⟩ : ∃ W0, W0 = (w.alloc (.cells #[.int .i64 p.id, .int .i64 p.ep, .slice p.a p.ts.length p.c, .int .i64 p.dn] 29)).alloc (.cells #[.int .i64 q.id, .int .i64 q.ep, .slice q.a q.ts.length q.c, .int .i64 q.dn] 29) := ⟨_, rfl⟩
  have B0 : Below w.heap.size w W0 := by rw [hW0]; exact nnext (allocB _ _) (allocB _ _)
  have P0 : PBox W0 w.heap.size p := by rw [hW0]; exact (PBox.new w p).next (allocB _ _)
  have Q0 : PBox W0 (w.heap.size + 1) q := by
    rw [hW0]
    have := PBox.new (w.alloc (.cells #[.int .i64 p.id, .int .i64 p.ep, .slice p.a p.ts.length p.c, .int .i64 p.dn] 29)) q
    simpa using this
  have CP := hide (fun W (h : W = W0.drew) => last_any p.log p.ts W (by rw [h]; exact (hp.next B0).drew))
  have CQ := hide (fun W (h : W = W0.drew) => last_any q.log q.ts W (by rw [h]; exact (hq.next B0).drew))
  have p0 := P0.c0
  have p2 := P0.c2
  have q0 := Q0.c0
  have q2 := Q0.c2
  have HB := hide B0
  have hlt := Q0.lt
  clear B0 P0 Q0 hp hq
  obtain ⟨i, ep, a, c, ts, dn⟩ := p
  obtain ⟨j, eq, b, d, us, dm⟩ := q
  simp only [Pe.log] at *
  unfold peV
  simp only
  generalize lastZ ts = z at *
  generalize lastZ us = y at *
  go_enter Try.func39, Try.ntmps39
  go_upto_region 1 with fail
  rw [← hW0]
  clear hW0
  have KO : Hid (∀ x y : Int, (W0.alloc (.cells #[.int .i64 x, .int .i64 y] 3)).drew.cell? ⟨W0.heap.size, 0, none⟩ = some (.int .i64 x) ∧ (W0.alloc (.cells #[.int .i64 x, .int .i64 y] 3)).drew.cell? ⟨W0.heap.size, 1, none⟩ = some (.int .i64 y)) := hide (fun x y => by
    have h := heap_alloc_new W0 (.cells #[.int .i64 x, .int .i64 y] 3)
    show (W0.alloc (.cells #[.int .i64 x, .int .i64 y] 3)).cell? ⟨W0.heap.size, 0, none⟩ = some (.int .i64 x) ∧ (W0.alloc (.cells #[.int .i64 x, .int .i64 y] 3)).cell? ⟨W0.heap.size, 1, none⟩ = some (.int .i64 y)
    unfold World.cell?
    rw [h]
    exact ⟨rfl, rfl⟩)
  have HBO : Hid (∀ o : Obj, Below w.heap.size w (W0.alloc o).drew) := hide (fun o => (nnext (unhide HB) (allocB _ _)).drew)
  have K : Hid (∀ W, W = W0.drew → W.cell? ⟨w.heap.size, 0, none⟩ = some (.int .i64 i) ∧ W.cell? ⟨w.heap.size, 2, none⟩ = some (.slice a ts.length c) ∧ W.cell? ⟨w.heap.size + 1, 0, none⟩ = some (.int .i64 j) ∧ W.cell? ⟨w.heap.size + 1, 2, none⟩ = some (.slice b us.length d)) := hide (fun W h => by rw [h]; exact ⟨p0, p2, q0, q2⟩)
  have KA : Hid (∀ o : Obj, (W0.alloc o).drew.cell? ⟨w.heap.size, 0, none⟩ = some (.int .i64 i) ∧ (W0.alloc o).drew.cell? ⟨w.heap.size, 2, none⟩ = some (.slice a ts.length c) ∧ (W0.alloc o).drew.cell? ⟨w.heap.size + 1, 0, none⟩ = some (.int .i64 j) ∧ (W0.alloc o).drew.cell? ⟨w.heap.size + 1, 2, none⟩ = some (.slice b us.length d)) := hide (fun o => by
    have h : Below W0.heap.size W0 (W0.alloc o).drew := (allocB W0 o).drew
    exact ⟨(h.cell (p := ⟨w.heap.size, 0, none⟩) (by simp only; omega)).trans p0, (h.cell (p := ⟨w.heap.size, 2, none⟩) (by simp only; omega)).trans p2, (h.cell (p := ⟨w.heap.size + 1, 0, none⟩) (by simp only; omega)).trans q0, (h.cell (p := ⟨w.heap.size + 1, 2, none⟩) (by simp only; omega)).trans q2⟩)
  have KZ := hide (And.intro p0 (And.intro p2 (And.intro q0 q2)))
  go_region_held3 (fun w' => w'.cell? ⟨w.heap.size, 0, none⟩ = some (.int .i64 i) ∧ w'.cell? ⟨w.heap.size, 2, none⟩ = some (.slice a ts.length c) ∧ w'.cell? ⟨w.heap.size + 1, 0, none⟩ = some (.int .i64 j) ∧ w'.cell? ⟨w.heap.size + 1, 2, none⟩ = some (.slice b us.length d)) (first | with_reducible exact unhide KZ | with_reducible exact unhide K _ rfl | with_reducible exact unhide KA _) (first
    | (go_at_call 20; first | (with_reducible refine (unhide CP _ rfl).mono ?_; rintro e w1 ⟨rfl, rfl⟩) | (with_reducible refine (unhide CQ _ rfl).mono ?_; rintro e w1 ⟨rfl, rfl⟩))
    | (go_at_call 44; refine (cmp_any _ _ _).mono ?_; rintro e w1 ⟨rfl, rfl⟩)
    | (go_at_call 43; refine (or_any _ _ _ _ (unhide KO _ _).1 (unhide KO _ _).2).mono ?_; rintro e w1 ⟨rfl, rfl⟩))
  all_goals go_wp2_with fail
  all_goals go_ret
  all_goals exact ⟨rfl, unhide HBO _⟩
end Go.Proofs.Ytijpnmponjjejaa

namespace Go.Proofs.Ytijpnmponjjejaa
open Go.RowKit

abbrev Key := Int × Int × Int
def errP (pre : List Key) (k : Key) : Int :=
  if pre.any (fun q => q.1 == k.1) = true then 8 else if k.1 < 0 ∨ 3 ≤ k.1 then 3 else if k.2.1 < 0 ∨ 2147483647 < k.2.1 then 3 else 0
/-- what is wrong with the first that something is wrong with -/
def Adm (ks : List Key) (E : Int) : Prop :=
  (E = 0 ∧ ∀ i k, ks[i]? = some k → errP (ks.take i) k = 0) ∨
  (E ≠ 0 ∧ ∃ n k, ks[n]? = some k ∧ errP (ks.take n) k = E ∧ ∀ i q, i < n → ks[i]? = some q → errP (ks.take i) q = 0)
theorem adm_ex (ks : List Key) : ∃ E, Adm ks E := by
  have main : ∀ n, (∀ i k, i < n → ks[i]? = some k → errP (ks.take i) k = 0) ∨ ∃ E, E ≠ 0 ∧ ∃ n k, ks[n]? = some k ∧ errP (ks.take n) k = E ∧ ∀ i q, i < n → ks[i]? = some q → errP (ks.take i) q = 0 := by
    intro n
    induction n with
    | zero => exact .inl fun i k h => by omega
    | succ n ih =>
      rcases ih with ih | ih
      · cases hk : ks[n]? with
        | none =>
          refine .inl fun i k hi h => ?_
          by_cases e : i = n
          · subst e; rw [hk] at h; cases h
          · exact ih i k (by omega) h
        | some k =>
          by_cases he : errP (ks.take n) k = 0
          · refine .inl fun i q hi h => ?_
            by_cases e : i = n
            · subst e; rw [hk] at h; cases h; exact he
            · exact ih i q (by omega) h
          · exact .inr ⟨_, he, n, k, hk, rfl, ih⟩
      · exact .inr ih
  rcases main ks.length with h | ⟨E, h0, h⟩
  · exact ⟨0, .inl ⟨rfl, fun i k hk => h i k (List.getElem?_eq_some_iff.1 hk).1 hk⟩⟩
  · exact ⟨E, .inr ⟨h0, h⟩⟩
theorem adm_at {ks : List Key} {E : Int} (h : Adm ks E) {n : Nat} (hn : ∀ i q, i < n → ks[i]? = some q → errP (ks.take i) q = 0) {x : Key} (hx : ks[n]? = some x) (he : errP (ks.take n) x ≠ 0) : E = errP (ks.take n) x := by
  rcases h with ⟨_, h⟩ | ⟨h0, m, k, hk, e, h⟩
  · exact absurd (h n x hx) he
  · rcases Nat.lt_trichotomy m n with hl | hl | hl
    · exact absurd ((hn m k hl hk).symm.trans e).symm h0
    · subst hl
      rw [hk] at hx
      cases hx
      exact e.symm
    · exact absurd (h n x hl hx) he
theorem adm_end {ks : List Key} {E : Int} (h : Adm ks E) (hn : ∀ i q, i < ks.length → ks[i]? = some q → errP (ks.take i) q = 0) : E = 0 := by
  rcases h with ⟨h, _⟩ | ⟨h0, m, k, hk, e, _⟩
  · exact h
  · exact absurd ((hn m k (List.getElem?_eq_some_iff.1 hk).1 hk).symm.trans e).symm h0
def newN (ks : List Key) : Int := ks.foldl (fun a k => max (max a k.2.1) (zEpoch k.2.2)) 0
theorem newN_snoc (ks : List Key) (k : Key) : newN (ks ++ [k]) = max (max (newN ks) k.2.1) (zEpoch k.2.2) := by simp [newN]
theorem take_more2 {α : Type} {l : List α} {k : Nat} {x : α} (h : l[k]? = some x) : l.take (k + 1) = l.take k ++ [x] := by
  obtain ⟨hk, rfl⟩ := List.getElem?_eq_some_iff.1 h
  exact List.take_succ_eq_append_getElem hk
/-- does the first know more than the second? -/
def bet (p q : Key) : Bool := decide (q.2.2 < p.2.2) || (decide (p.2.2 = q.2.2) && decide (q.1 < p.1))
def leadAt (ks : List Key) : Nat → Nat
  | 0 => 0
  | n + 1 => if bet (ks.getD n (0, 0, 0)) (ks.getD (leadAt ks n) (0, 0, 0)) = true then n else leadAt ks n
theorem leadAt_lt (ks : List Key) : ∀ n, leadAt ks n < max n 1
  | 0 => by simp [leadAt]
  | n + 1 => by
    have := leadAt_lt ks n
    unfold leadAt
    split <;> omega
theorem leadAt_more {ks : List Key} {n : Nat} {p q : Key} (hp : ks[n]? = some p) (hq : ks[leadAt ks n]? = some q) : leadAt ks (n + 1) = if bet p q = true then n else leadAt ks n := by
  rw [leadAt, List.getD_eq_getElem?_getD, List.getD_eq_getElem?_getD, hp, hq]
  rfl
/-- the answer of an election -/
def EAns (ks : List Key) (k n E : Int) : Prop :=
  ∃ A, Adm ks A ∧ ((A ≠ 0 ∧ k = 0 ∧ n = 0 ∧ E = A) ∨ (A = 0 ∧ ((ks.length < 2 ∧ k = 0 ∧ n = 0 ∧ E = 14) ∨ (2 ≤ ks.length ∧ ((2147483647 < newN ks + 1 ∧ k = 0 ∧ n = 0 ∧ E = 6) ∨ (newN ks + 1 ≤ 2147483647 ∧ k = leadAt ks ks.length ∧ n = newN ks + 1 ∧ E = 0))))))
theorem ans_ex (ks : List Key) : ∃ k n E, EAns ks k n E := by
  obtain ⟨A, hA⟩ := adm_ex ks
  by_cases h0 : A = 0
  · by_cases h1 : ks.length < 2
    · exact ⟨0, 0, 14, A, hA, .inr ⟨h0, .inl ⟨h1, rfl, rfl, rfl⟩⟩⟩
    · by_cases h2 : 2147483647 < newN ks + 1
      · exact ⟨0, 0, 6, A, hA, .inr ⟨h0, .inr ⟨by omega, .inl ⟨h2, rfl, rfl, rfl⟩⟩⟩⟩
      · exact ⟨_, _, 0, A, hA, .inr ⟨h0, .inr ⟨by omega, .inr ⟨by omega, rfl, rfl, rfl⟩⟩⟩⟩
  · exact ⟨0, 0, A, A, hA, .inl ⟨h0, rfl, rfl, rfl⟩⟩
/-- of an admitted list: bounds -/
theorem Adm.ok {ks : List Key} (h : Adm ks 0) {i : Nat} {k : Key} (hk : ks[i]? = some k) : (∀ q ∈ ks.take i, q.1 ≠ k.1) ∧ 0 ≤ k.1 ∧ k.1 < 3 ∧ 0 ≤ k.2.1 ∧ k.2.1 ≤ 2147483647 := by
  rcases h with ⟨_, h⟩ | ⟨h, _⟩
  · have := h i k hk
    unfold errP at this
    by_cases h1 : (ks.take i).any (fun q => q.1 == k.1) = true
    · simp [h1] at this
    · by_cases h2 : k.1 < 0 ∨ 3 ≤ k.1
      · simp [h1, h2] at this
      · by_cases h3 : k.2.1 < 0 ∨ 2147483647 < k.2.1
        · simp [h1, h2, h3] at this
        · refine ⟨fun q hq e => h1 ?_, by omega, by omega, by omega, by omega⟩
          exact List.any_eq_true.2 ⟨q, hq, by simp [e]⟩
  · exact absurd rfl h
theorem newN_le {ks : List Key} (M : Int) (h0 : 0 ≤ M) : (∀ k ∈ ks, k.2.1 ≤ M ∧ zEpoch k.2.2 ≤ M) → newN ks ≤ M := by
  have main : ∀ (l : List Key) (a : Int), a ≤ M → (∀ k ∈ l, k.2.1 ≤ M ∧ zEpoch k.2.2 ≤ M) → l.foldl (fun a k => max (max a k.2.1) (zEpoch k.2.2)) a ≤ M := by
    intro l
    induction l with
    | nil => intro a ha _; exact ha
    | cons x r ih =>
      intro a ha h
      have := h x (by simp)
      exact ih (max (max a x.2.1) (zEpoch x.2.2)) (by omega) fun k hk => h k (by simp [hk])
  exact main ks 0 h0
theorem newN_ge {ks : List Key} {k : Key} (hk : k ∈ ks) : k.2.1 ≤ newN ks ∧ zEpoch k.2.2 ≤ newN ks := by
  have up : ∀ (l : List Key) (a : Int), a ≤ l.foldl (fun a k => max (max a k.2.1) (zEpoch k.2.2)) a := by
    intro l
    induction l with
    | nil => intro a; exact Int.le_refl _
    | cons x r ih => intro a; exact Int.le_trans (show a ≤ max (max a x.2.1) (zEpoch x.2.2) by omega) (ih _)
  have main : ∀ (l : List Key) (a : Int), k ∈ l → k.2.1 ≤ l.foldl (fun a k => max (max a k.2.1) (zEpoch k.2.2)) a ∧ zEpoch k.2.2 ≤ l.foldl (fun a k => max (max a k.2.1) (zEpoch k.2.2)) a := by
    intro l
    induction l with
    | nil => intro a h; simp at h
    | cons x r ih =>
      intro a h
      rcases List.mem_cons.1 h with rfl | h
      · have := up r (max (max a k.2.1) (zEpoch k.2.2))
        constructor
        · exact Int.le_trans (by omega) this
        · exact Int.le_trans (by omega) this
      · exact ih _ h
  exact main ks 0 hk
theorem zEpoch_le (z : Int) : 0 ≤ zEpoch z ∧ zEpoch z ≤ 2147483647 := by
  cases hg : zGood z with
  | false => rw [zEpoch_no hg]; decide
  | true =>
    have := zGood_iff.1 hg
    rw [zEpoch_yes hg]
    omega
theorem newN_nonneg (ks : List Key) : 0 ≤ newN ks := by
  have up : ∀ (l : List Key) (a : Int), a ≤ l.foldl (fun a k => max (max a k.2.1) (zEpoch k.2.2)) a := by
    intro l
    induction l with
    | nil => intro a; exact Int.le_refl _
    | cons x r ih => intro a; exact Int.le_trans (show a ≤ max (max a x.2.1) (zEpoch x.2.2) by omega) (ih _)
  exact up ks 0
end Go.Proofs.Ytijpnmponjjejaa

namespace Go.Proofs.Ytijpnmponjjejaa
open Go.RowKit

theorem zret_bool {a b : Bool} (h : a = b) : Ending.returned (.bool a) = .returned (.bool b) := by rw [h]

set_option maxRecDepth 10000 in
set_option maxHeartbeats 400000 in
theorem zgood_any (z : Int) (w : World) :
    Calls Try.prog 23 #[.int .i64 z] w fun e w' => e = .returned (.bool (zGood z)) ∧ w' = w := by
  go_enter Try.func23, Try.ntmps23
  go_wp2
  go_ret
  exact ⟨zret_bool (by rw [Bool.eq_iff_iff, zGood_iff, beq_iff_eq]; omega), rfl⟩

end Go.Proofs.Ytijpnmponjjejaa

namespace Go.Proofs.Ytijpnmponjjejaa
open Go.RowKit
set_option maxRecDepth 10000 in
set_option maxHeartbeats 400000 in
theorem zepoch_any (z : Int) (w : World) :
    Calls Try.prog 21 #[.int .i64 z] w fun e w' => e = .returned (.int .i64 (zEpoch z)) ∧ w' = w := by
  cases hg : zGood z
  · have H := hide (zEpoch_no hg)
    have Hg := hide hg
    clear hg
    go_enter Try.func21, Try.ntmps21
    go_wp2_with fail
    refine (zgood_any z _).mono ?_
    rintro e w1 ⟨rfl, rfl⟩
    rw [unhide Hg]
    go_wp2_with fail
    go_ret
    exact ⟨ret_int (unhide H).symm, rfl⟩
  · have H := hide (zEpoch_yes hg)
    have Hg := hide hg
    clear hg
    go_enter Try.func21, Try.ntmps21
    go_wp2_with fail
    refine (zgood_any z _).mono ?_
    rintro e w1 ⟨rfl, rfl⟩
    rw [unhide Hg]
    go_wp2_with fail
    go_ret
    exact ⟨ret_int (unhide H).symm, rfl⟩

end Go.Proofs.Ytijpnmponjjejaa

namespace Go.Proofs.Ytijpnmponjjejaa
open Go.RowKit

def kk (p : Pe) : Key := (p.id, p.ep, lastZ p.ts)
theorem kk_get {ps : List Pe} {i : Nat} {p : Pe} (h : ps[i]? = some p) : (ps.map kk)[i]? = some (kk p) := by rw [List.getElem?_map, h]; rfl
theorem kk_take (ps : List Pe) (i : Nat) : (ps.map kk).take i = (ps.take i).map kk := by rw [List.map_take]
theorem bret_bool {i : Int} {b : Bool} (h : decide (0 ≤ i) = b) : Ending.returned (.bool (decide (0 ≤ i))) = .returned (.bool b) := by rw [h]
/-- the row of a beginning -/
theorem seq_take {α : Type} [Lay α] {w : World} {b off n cap : Nat} {xs : List α} (h : SeqV w (.slice (some ⟨b, off, none⟩) n cap) xs) (k : Nat) (hk : k ≤ xs.length) : SeqV w (.slice (some ⟨b, off, none⟩) k cap) (xs.take k) := by
  have hl : (xs.take k).length = k := by simp; omega
  rcases h with ⟨a, c, e, rfl, hm⟩ | ⟨b', off', cap', e, h1, h2, h3, h0, h4⟩
  · simp only [Value.slice.injEq] at e
    obtain ⟨_, _, rfl⟩ := e
    simp only [List.length_nil, Nat.le_zero] at hk
    subst hk
    exact .inl ⟨_, _, rfl, rfl, hm⟩
  · simp only [Value.slice.injEq, Option.some.injEq, Addr.mk.injEq, and_true] at e
    obtain ⟨⟨rfl, rfl⟩, _, rfl⟩ := e
    by_cases hz : k = 0
    · subst hz
      exact .inl ⟨_, _, rfl, by simp, h2⟩
    · refine .inr ⟨b, off, cap, by rw [hl], by omega, h2, h3, fun e => by rw [e] at hl; simp at hl; omega, fun j u hj => h4 j u ?_⟩
      have e : cellsL xs = cellsL (xs.take k) ++ cellsL (xs.drop k) := by rw [← cellsL_append, List.take_append_drop]
      rw [e, List.getElem?_append_left (List.getElem?_eq_some_iff.1 hj).1]
      exact hj

set_option maxRecDepth 10000 in
set_option maxHeartbeats 1000000 in
theorem same_any (q p : Pe) (g : Nat) (w : World) (hp : PBox w g p) :
    Calls Try.prog 37 #[peV q, .pointer (some ⟨g, 0, none⟩)] w fun e w' => e = .returned (.bool (q.id == p.id)) ∧ Below w.heap.size w w' := by
  have B0 := allocB w (.cells #[.int .i64 q.id, .int .i64 q.ep, .slice q.a q.ts.length q.c, .int .i64 q.dn] 29)
  have e0 := (hp.next B0).c0
  have f0 := (PBox.new w q).c0
  have HB := hide B0
  obtain ⟨i, ep, a, c, ts, dn⟩ := q
  obtain ⟨j, eq, b, d, us, dm⟩ := p
  simp only at *
  clear hp B0
  unfold peV
  simp only
  go_enter Try.func37, Try.ntmps37
  go_wp2_with fail
  go_ret
  refine ⟨?_, unhide HB⟩
  by_cases h : i = j <;> simp [h]

set_option maxRecDepth 10000 in
set_option maxHeartbeats 1000000 in
theorem idx_any (v : Value) (xs : List Pe) (p : Pe) (g : Nat) (w : World) (hv : SeqV w v xs) (hp : PBox w g p) (hl : xs.length ≤ 140737488355328) :
    Calls Try.prog 42 #[v, .func (.func 37) #[] #[.pointer (some ⟨g, 0, none⟩)]] w fun e w' => (∃ i : Int, e = .returned (.int .i64 i) ∧ decide (0 ≤ i) = xs.any (fun q => q.id == p.id)) ∧ Below w.heap.size w w' := by
  have HV := hide hv
  have HP := hide hp
  have HS := hide (fun q W h => same_any q p g W h)
  obtain ⟨va, vc, rfl⟩ := seq_slice hv
  clear hv hp
  unfold peV at HS
  go_enter Try.func42, Try.ntmps42
  go_wp2_with fail
  go_loopg [8] xs.length (fun kx s8 wr => ∃ k : Nat, s8 = .int .i64 k ∧ k ≤ xs.length ∧ xs.length - k ≤ kx ∧ Hid ((xs.take k).any (fun q => q.id == p.id) = false) ∧ Hid (Below w.heap.size w wr))
  case atStart => exact ⟨0, rfl, Nat.zero_le _, Nat.le_refl _, hide (by simp), hide (Below.refl _ _)⟩
  case round =>
    obtain ⟨k, rfl, hk, hg, hh, hB⟩ := hrel
    by_cases hlt : k < xs.length
    · obtain ⟨y, hy⟩ : ∃ y, xs[k]? = some y := ⟨_, List.getElem?_eq_getElem hlt⟩
      obtain ⟨b, off, cap, he, hb, q, _⟩ := row_of ((unhide HV).next (unhide hB)) hy
      simp only [Value.slice.injEq] at he
      obtain ⟨rfl, _, rfl⟩ := he
      have d0 := q.pe0 hy
      have d1 := q.pe1 hy
      have d2 := q.pe2 hy
      have d3 := q.pe3 hy
      have hkk : (k : Int) < (xs.length : Int) := by omega
      have C := unhide HS y wr ((unhide HP).next (unhide hB))
      have HM : Hid (y ∈ xs) := hide (List.mem_of_getElem? hy)
      have HT := hide (take_more2 hy)
      clear q hy hb
      cases hxy : (y.id == p.id)
      · rw [hxy] at C
        have HX := hide hxy
        clear hxy
        go_wp2_with fail
        refine C.mono ?_
        rintro e w1 ⟨rfl, hb1⟩
        have hB1 := nnext (unhide hB) hb1
        clear C hb1
        go_wp2_with fail
        go_roundg (xs.length - (k + 1))
        case measure => omega
        case rel => exact ⟨k + 1, rfl, by omega, Nat.le_refl _, hide (by rw [unhide HT, List.any_append, unhide hh]; simpa using unhide HX), hide hB1⟩
      · rw [hxy] at C
        have HX := hide (show xs.any (fun q => q.id == p.id) = true from List.any_eq_true.2 ⟨y, unhide HM, hxy⟩)
        clear hxy
        go_wp2_with fail
        refine C.mono ?_
        rintro e w1 ⟨rfl, hb1⟩
        have hB1 := nnext (unhide hB) hb1
        clear C hb1
        go_wp2_with fail
        go_ret
        exact ⟨⟨k, rfl, by rw [unhide HX]; simp⟩, hB1⟩
    · obtain rfl : k = xs.length := by omega
      have hh2 := unhide hh
      rw [List.take_length] at hh2
      have HH := hide hh2
      have hki : ¬ ((xs.length : Int) < (xs.length : Int)) := by omega
      clear hh2
      go_wp2_with fail
      go_ret
      exact ⟨⟨-1, rfl, by rw [unhide HH]; rfl⟩, unhide hB⟩
set_option maxRecDepth 10000 in
set_option maxHeartbeats 1000000 in
theorem con_any (v : Value) (xs : List Pe) (p : Pe) (g : Nat) (w : World) (hv : SeqV w v xs) (hp : PBox w g p) (hl : xs.length ≤ 140737488355328) :
    Calls Try.prog 38 #[v, .func (.func 37) #[] #[.pointer (some ⟨g, 0, none⟩)]] w fun e w' => e = .returned (.bool (xs.any (fun q => q.id == p.id))) ∧ Below w.heap.size w w' := by
  have C := idx_any v xs p g w hv hp hl
  obtain ⟨va, vc, rfl⟩ := seq_slice hv
  generalize xs.any (fun q => q.id == p.id) = r at C ⊢
  clear hv hp
  go_enter Try.func38, Try.ntmps38
  go_wp2_with fail
  refine C.mono ?_
  rintro e w1 ⟨⟨i, rfl, hi⟩, hb1⟩
  have HB := hide hb1
  have HI := hide hi
  clear C hb1 hi
  go_wp2_with fail
  go_ret
  exact ⟨bret_bool (unhide HI), unhide HB⟩
end Go.Proofs.Ytijpnmponjjejaa

namespace Go.Proofs.Ytijpnmponjjejaa
open Go.RowKit

theorem any_kk (ps : List Pe) (k : Nat) (p : Pe) : ((ps.map kk).take k).any (fun q => q.1 == (kk p).1) = (ps.take k).any (fun q => q.id == p.id) := by
  rw [kk_take, List.any_map]; rfl
theorem err_kk (ps : List Pe) (k : Nat) (p : Pe) : errP ((ps.map kk).take k) (kk p) = if (ps.take k).any (fun q => q.id == p.id) = true then 8 else if p.id < 0 ∨ 3 ≤ p.id then 3 else if p.ep < 0 ∨ 2147483647 < p.ep then 3 else 0 := by
  unfold errP
  rw [any_kk]
  rfl
set_option maxRecDepth 10000 in
set_option maxHeartbeats 2000000 in
theorem admitted_any (v : Value) (ps : List Pe) (w : World) (E : Int) (hv : SeqV w v ps) (hA : Adm (ps.map kk) E) (hl : ps.length ≤ 140737488355328) :
    Calls Try.prog 25 #[v] w fun e w' => e = .returned (.int .i64 E) ∧ Below w.heap.size w w' := by
  have HV := hide hv
  have HA := hide hA
  obtain ⟨va, vc, rfl⟩ := seq_slice hv
  clear hv hA
  go_enter Try.func25, Try.ntmps25
  go_wp2_with fail
  go_loopg [8] ps.length (fun kx s8 wr => ∃ k : Nat, s8 = .int .i64 k ∧ k ≤ ps.length ∧ ps.length - k ≤ kx ∧ Hid (∀ i q, i < k → (ps.map kk)[i]? = some q → errP ((ps.map kk).take i) q = 0) ∧ Hid (Below w.heap.size w wr))
  case atStart => exact ⟨0, rfl, Nat.zero_le _, Nat.le_refl _, hide (fun i q h => by omega), hide (Below.refl _ _)⟩
  case round =>
    obtain ⟨k, rfl, hk, hg, HI, hB⟩ := hrel
    by_cases hlt : k < ps.length
    · obtain ⟨p, hp⟩ : ∃ p, ps[k]? = some p := ⟨_, List.getElem?_eq_getElem hlt⟩
      obtain ⟨b, off, cap, he, hb, q, _, hcap, _⟩ := row_of ((unhide HV).next (unhide hB)) hp
      simp only [Value.slice.injEq] at he
      obtain ⟨rfl, _, rfl⟩ := he
      have d0 := q.pe0 hp
      have d1 := q.pe1 hp
      have d2 := q.pe2 hp
      have d3 := q.pe3 hp
      have hkk : (k : Int) < (ps.length : Int) := by omega
      have HX := hide (kk_get hp)
      have HE := hide (err_kk ps k p)
      have HAl := hide (allocB wr (.cells #[.int .i64 p.id, .int .i64 p.ep, .slice p.a p.ts.length p.c, .int .i64 p.dn] 29))
      have HP := hide (PBox.new wr p)
      have HC := hide (fun W (hW : Below w.heap.size w W) (hP : PBox W wr.heap.size p) => con_any _ (ps.take k) p wr.heap.size W (seq_take ((unhide HV).next hW) k (by omega)) hP (by simp; omega))
      have hcap2 : k ≤ vc := by omega
      clear q hp hb
      obtain ⟨id, ep, pa, pc, ts, dn⟩ := p
      simp only at *
      go_wp2_with fail
      refine (unhide HC _ (nnext (unhide hB) (unhide HAl)) (unhide HP)).mono ?_
      rintro e w2 ⟨rfl, hb2⟩
      have P2 := (unhide HP).next hb2
      have c0 := P2.c0
      have c1 := P2.c1
      have HB2 := hide (nnext (nnext (unhide hB) (unhide HAl)) hb2)
      clear P2 hb2 HC HAl HP d0 d1 d2 d3
      cases hA : (ps.take k).any (fun q => q.id == id)
      · rw [hA] at HE
        simp only at c0 c1
        by_cases h1 : id < 0
        · have HR := hide (adm_at (unhide HA) (unhide HI) (unhide HX) (by rw [unhide HE]; simp [h1]))
          rw [unhide HE] at HR
          have HR2 : Hid (E = 3) := hide (by rw [unhide HR]; simp [h1])
          clear hA
          go_wp2_with fail
          go_ret
          rw [unhide HR2]
          exact ⟨rfl, unhide HB2⟩
        · by_cases h2 : id ≥ 3
          · have HR := hide (adm_at (unhide HA) (unhide HI) (unhide HX) (by rw [unhide HE]; simp [h2]))
            rw [unhide HE] at HR
            have HR2 : Hid (E = 3) := hide (by rw [unhide HR]; simp [h2])
            clear hA
            go_wp2_with fail
            go_ret
            rw [unhide HR2]
            exact ⟨rfl, unhide HB2⟩
          · by_cases h3 : ep < 0
            · have HR := hide (adm_at (unhide HA) (unhide HI) (unhide HX) (by rw [unhide HE]; simp [h3]))
              rw [unhide HE] at HR
              have HR2 : Hid (E = 3) := hide (by rw [unhide HR]; simp [h3])
              clear hA
              go_wp2_with fail
              go_ret
              rw [unhide HR2]
              exact ⟨rfl, unhide HB2⟩
            · by_cases h4 : ep > 2147483647
              · have h4' : 2147483647 < ep := h4
                have HR := hide (adm_at (unhide HA) (unhide HI) (unhide HX) (by rw [unhide HE]; simp [h4']))
                rw [unhide HE] at HR
                have HR2 : Hid (E = 3) := hide (by rw [unhide HR]; simp [h4'])
                clear hA
                go_wp2_with fail
                go_ret
                rw [unhide HR2]
                exact ⟨rfl, unhide HB2⟩
              · have HZ : Hid (errP ((ps.map kk).take k) (kk ⟨id, ep, pa, pc, ts, dn⟩) = 0) := hide (by rw [unhide HE]; simp; omega)
                have HI2 : Hid (∀ i q, i < k + 1 → (ps.map kk)[i]? = some q → errP ((ps.map kk).take i) q = 0) := hide (fun i q hi hq => by
                  by_cases e : i = k
                  · subst e
                    rw [unhide HX] at hq
                    cases hq
                    exact unhide HZ
                  · exact unhide HI i q (by omega) hq)
                clear hA
                go_wp2_with fail
                go_roundg (ps.length - (k + 1))
                case measure => omega
                case rel => exact ⟨k + 1, rfl, by omega, Nat.le_refl _, HI2, HB2⟩
      · rw [hA] at HE
        have HR := hide (adm_at (unhide HA) (unhide HI) (unhide HX) (by rw [unhide HE]; simp))
        rw [unhide HE] at HR
        have HR2 : Hid (E = 8) := hide (by rw [unhide HR]; simp)
        clear hA
        go_wp2_with fail
        go_ret
        rw [unhide HR2]
        exact ⟨rfl, unhide HB2⟩
    · obtain rfl : k = ps.length := by omega
      have hki : ¬ ((ps.length : Int) < (ps.length : Int)) := by omega
      have HR := hide (adm_end (unhide HA) (by rw [List.length_map]; exact unhide HI))
      go_wp2_with fail
      go_ret
      rw [unhide HR]
      exact ⟨rfl, unhide hB⟩
end Go.Proofs.Ytijpnmponjjejaa

namespace Go.Proofs.Ytijpnmponjjejaa
open Go.RowKit

set_option maxRecDepth 10000 in
set_option maxHeartbeats 2000000 in
theorem newest_any (v : Value) (ps : List Pe) (w : World) (hv : SeqV w v ps) (hL : PLogs w ps) (hl : ps.length ≤ 140737488355328) :
    Calls Try.prog 26 #[v] w fun e w' => e = .returned (.int .i64 (newN (ps.map kk))) ∧ Below w.heap.size w w' := by
  have HV := hide hv
  have HL := hide hL
  obtain ⟨va, vc, rfl⟩ := seq_slice hv
  clear hv hL
  go_enter Try.func26, Try.ntmps26
  go_wp2_with fail
  go_loopg [3, 8] ps.length (fun kx s3 s8 wr => ∃ (k : Nat) (m : Int), s3 = .int .i64 m ∧ s8 = .int .i64 k ∧ k ≤ ps.length ∧ ps.length - k ≤ kx ∧ Hid (newN ((ps.map kk).take k) = m) ∧ Hid (Below w.heap.size w wr))
  case atStart => exact ⟨0, 0, rfl, rfl, Nat.zero_le _, Nat.le_refl _, hide rfl, hide (Below.refl _ _)⟩
  case round =>
    obtain ⟨k, m, rfl, rfl, hk, hg, HM, hB⟩ := hrel
    by_cases hlt : k < ps.length
    · obtain ⟨p, hp⟩ : ∃ p, ps[k]? = some p := ⟨_, List.getElem?_eq_getElem hlt⟩
      obtain ⟨b, off, cap, he, hb, q, _, hcap, _⟩ := row_of ((unhide HV).next (unhide hB)) hp
      simp only [Value.slice.injEq] at he
      obtain ⟨rfl, _, rfl⟩ := he
      have d0 := q.pe0 hp
      have d1 := q.pe1 hp
      have d2 := q.pe2 hp
      have d3 := q.pe3 hp
      have hkk : (k : Int) < (ps.length : Int) := by omega
      have HN : Hid (newN ((ps.map kk).take (k + 1)) = max (max m p.ep) (zEpoch (lastZ p.ts))) := hide (by rw [take_more2 (kk_get hp), newN_snoc, unhide HM]; rfl)
      have HAl := hide (allocB wr (.cells #[.int .i64 p.id, .int .i64 p.ep, .slice p.a p.ts.length p.c, .int .i64 p.dn] 29))
      have HP := hide (PBox.new wr p)
      have HC := hide (fun W (hW : Below w.heap.size w W) => last_any p.log p.ts W ((unhide HL p (List.mem_of_getElem? hp)).next hW))
      clear q hp hb
      obtain ⟨id, ep, pa, pc, ts, dn⟩ := p
      simp only [Pe.log] at *
      generalize lastZ ts = z at *
      go_upto_region 5 with fail
      obtain ⟨W1, hW1⟩ : ∃ W1, W1 = wr.alloc (.cells #[.int .i64 id, .int .i64 ep, .slice pa ts.length pc, .int .i64 dn] 29) := ⟨_, rfl⟩
      rw [← hW1] at HAl HP ⊢
      have e1 := (unhide HP).c1
      have e2 := (unhide HP).c2
      simp only at e1 e2
      have HB1 := hide (nnext (unhide hB) (unhide HAl))
      have HCN := hide (fun n => unhide HC (W1.drewN n) (belowN (unhide HB1)))
      clear hW1 HC HAl HP d0 d1 d2 d3
      by_cases c1 : m < ep
      · by_cases c2 : ep < zEpoch z
        · go_quiet (first | (go_at_call 20; exact Calls.quiet_of_same (unhide HCN _)) | (go_at_call 21; exact Calls.quiet_of_same (zepoch_any _ _)))
          go_wp2_with fail
          go_roundg (ps.length - (k + 1))
          case measure => omega
          case rel => exact ⟨k + 1, zEpoch z, rfl, rfl, by omega, Nat.le_refl _, hide ((unhide HN).trans (by omega)), hide (belowN (unhide HB1))⟩
        · go_quiet (first | (go_at_call 20; exact Calls.quiet_of_same (unhide HCN _)) | (go_at_call 21; exact Calls.quiet_of_same (zepoch_any _ _)))
          go_wp2_with fail
          go_roundg (ps.length - (k + 1))
          case measure => omega
          case rel => exact ⟨k + 1, ep, rfl, rfl, by omega, Nat.le_refl _, hide ((unhide HN).trans (by omega)), hide (belowN (unhide HB1))⟩
      · by_cases c2 : m < zEpoch z
        · go_quiet (first | (go_at_call 20; exact Calls.quiet_of_same (unhide HCN _)) | (go_at_call 21; exact Calls.quiet_of_same (zepoch_any _ _)))
          go_wp2_with fail
          go_roundg (ps.length - (k + 1))
          case measure => omega
          case rel => exact ⟨k + 1, zEpoch z, rfl, rfl, by omega, Nat.le_refl _, hide ((unhide HN).trans (by omega)), hide (belowN (unhide HB1))⟩
        · go_quiet (first | (go_at_call 20; exact Calls.quiet_of_same (unhide HCN _)) | (go_at_call 21; exact Calls.quiet_of_same (zepoch_any _ _)))
          go_wp2_with fail
          go_roundg (ps.length - (k + 1))
          case measure => omega
          case rel => exact ⟨k + 1, m, rfl, rfl, by omega, Nat.le_refl _, hide ((unhide HN).trans (by omega)), hide (belowN (unhide HB1))⟩
    · obtain rfl : k = ps.length := by omega
      have hki : ¬ ((ps.length : Int) < (ps.length : Int)) := by omega
      have HR : Hid (newN (ps.map kk) = m) := hide (by
        have := unhide HM
        rwa [show (ps.map kk).take ps.length = ps.map kk by rw [List.take_of_length_le (by simp)]] at this)
      go_wp2_with fail
      go_ret
      rw [unhide HR]
      exact ⟨rfl, unhide hB⟩

theorem bet_or (p q : Pe) : decide (0 < orI (cmpI (lastZ p.ts) (lastZ q.ts)) (cmpI p.id q.id)) = bet (kk p) (kk q) := by
  unfold orI cmpI bet kk
  simp only
  by_cases h1 : lastZ p.ts < lastZ q.ts
  · have h2 : ¬ lastZ q.ts < lastZ p.ts := by omega
    have h3 : ¬ lastZ p.ts = lastZ q.ts := by omega
    simp [h1, h2, h3]
  · by_cases h2 : lastZ q.ts < lastZ p.ts
    · simp [h1, h2]
    · have h3 : lastZ p.ts = lastZ q.ts := by omega
      rw [h3]
      by_cases h4 : p.id < q.id
      · have h5 : ¬ q.id < p.id := by omega
        simp [h4, h5]
      · by_cases h5 : q.id < p.id
        · simp [h4, h5]
        · simp [h4, h5]

set_option maxRecDepth 10000 in
set_option maxHeartbeats 2000000 in
theorem leading_any (v : Value) (ps : List Pe) (w : World) (hv : SeqV w v ps) (hL : PLogs w ps) (hl : ps.length ≤ 140737488355328) :
    Calls Try.prog 27 #[v] w fun e w' => e = .returned (.int .i64 (leadAt (ps.map kk) ps.length)) ∧ Below w.heap.size w w' := by
  have HV := hide hv
  have HL := hide hL
  obtain ⟨va, vc, rfl⟩ := seq_slice hv
  clear hv hL
  go_enter Try.func27, Try.ntmps27
  go_wp2_with fail
  go_loopg [3, 8] ps.length (fun kx s3 s8 wr => ∃ (k m : Nat), s3 = .int .i64 m ∧ s8 = .int .i64 k ∧ k ≤ ps.length ∧ ps.length - k ≤ kx ∧ Hid (leadAt (ps.map kk) k = m) ∧ Hid (Below w.heap.size w wr))
  case atStart => exact ⟨0, 0, rfl, rfl, Nat.zero_le _, Nat.le_refl _, hide rfl, hide (Below.refl _ _)⟩
  case round =>
    obtain ⟨k, m, rfl, rfl, hk, hg, HM, hB⟩ := hrel
    by_cases hlt : k < ps.length
    · obtain ⟨p, hp⟩ : ∃ p, ps[k]? = some p := ⟨_, List.getElem?_eq_getElem hlt⟩
      have hm : m < ps.length := by have := leadAt_lt (ps.map kk) k; rw [unhide HM] at this; omega
      obtain ⟨r, hr⟩ : ∃ r, ps[m]? = some r := ⟨_, List.getElem?_eq_getElem hm⟩
      obtain ⟨b, off, cap, he, hb, q, _, hcap, _⟩ := row_of ((unhide HV).next (unhide hB)) hp
      simp only [Value.slice.injEq] at he
      obtain ⟨rfl, _, rfl⟩ := he
      have d0 := q.pe0 hp
      have d1 := q.pe1 hp
      have d2 := q.pe2 hp
      have d3 := q.pe3 hp
      have hkk : (k : Int) < (ps.length : Int) := by omega
      have hmm : (m : Int) < (ps.length : Int) := by omega
      have HN : Hid (leadAt (ps.map kk) (k + 1) = if bet (kk p) (kk r) = true then k else m) := hide (by rw [leadAt_more (kk_get hp) (by rw [unhide HM]; exact kk_get hr), unhide HM])
      have HAl := hide (allocB wr (.cells #[.int .i64 p.id, .int .i64 p.ep, .slice p.a p.ts.length p.c, .int .i64 p.dn] 29))
      have HP := hide (PBox.new wr p)
      have HC := hide (fun W (hW : Below w.heap.size w W) => compare_any p r W ((unhide HL p (List.mem_of_getElem? hp)).next hW) ((unhide HL r (List.mem_of_getElem? hr)).next hW))
      have HBet := hide (bet_or p r)
      have HRW : Hid (∀ W, Below wr.heap.size wr W → W.cell? ⟨b, off + m * 4, none⟩ = some (.int .i64 r.id) ∧ W.cell? ⟨b, off + m * 4 + 1, none⟩ = some (.int .i64 r.ep) ∧ W.cell? ⟨b, off + m * 4 + 2, none⟩ = some (.slice r.a r.ts.length r.c) ∧ W.cell? ⟨b, off + m * 4 + 3, none⟩ = some (.int .i64 r.dn)) := hide (fun W hW => by
        have q' := q.kept hW hb
        exact ⟨q'.pe0 hr, q'.pe1 hr, q'.pe2 hr, q'.pe3 hr⟩)
      clear q hp hb hr
      generalize bet (kk p) (kk r) = B at *
      unfold peV at HC
      obtain ⟨id, ep, pa, pc, ts, dn⟩ := p
      obtain ⟨jd, eq, qa, qc, us, dm⟩ := r
      simp only at *
      generalize orI (cmpI (lastZ ts) (lastZ us)) (cmpI id jd) = R at *
      go_upto_region 5 with fail
      obtain ⟨W1, hW1⟩ : ∃ W1, W1 = wr.alloc (.cells #[.int .i64 id, .int .i64 ep, .slice pa ts.length pc, .int .i64 dn] 29) := ⟨_, rfl⟩
      rw [← hW1] at HAl HP ⊢
      have e0 := (unhide HP).c0
      have e1 := (unhide HP).c1
      have e2 := (unhide HP).c2
      have e3 := (unhide HP).c3
      simp only at e0 e1 e2 e3
      obtain ⟨f0, f1, f2, f3⟩ := unhide HRW W1 (unhide HAl)
      have HB1 := hide (nnext (unhide hB) (unhide HAl))
      have hbw : b < W1.heap.size := World.block_lt_of_cell? _ _ f0
      have hpw := (unhide HP).lt
      clear hW1 HAl HP d0 d1 d2 d3 HRW
      have c0' := fun d os => Calls.regrown_of (w := W1) (d := d) (os := os) (unhide HC _ (nnext (unhide HB1) (below_regrown W1 d os)))
      have g0 := fun d os => cell_regrown e0 d os
      have g1 := fun d os => cell_regrown e1 d os
      have g2 := fun d os => cell_regrown e2 d os
      have g3 := fun d os => cell_regrown e3 d os
      have r0 := fun d os => cell_regrown f0 d os
      have r1 := fun d os => cell_regrown f1 d os
      have r2 := fun d os => cell_regrown f2 d os
      have r3 := fun d os => cell_regrown f3 d os
      clear e0 e1 e2 e3 f0 f1 f2 f3 HC
      refine wp_region_quiet_below (by kernel_rfl) (by kernel_rfl) ?_
      repeat (first | go_big_quiet_step (with_reducible exact c0' _ _) | quiet_step (with_reducible exact c0' _ _))
      refine wpQuiet_nil ?_
      intro _ hw'
      obtain ⟨⟨dq, osq⟩, hw''⟩ := hw'
      subst hw''
      have HB2 := hide (nnext (unhide HB1) (below_regrown W1 dq osq))
      clear c0' g0 g1 g2 g3 r0 r1 r2 r3
      generalize Go.Sort.grow (redrawn W1 dq) osq = W2 at *
      cases B
      · have hR : ¬ R > 0 := by have := unhide HBet; simp at this; omega
        have HN2 : Hid (leadAt (ps.map kk) (k + 1) = m) := hide (by rw [unhide HN]; simp)
        clear HBet HN
        go_wp2_with fail
        go_roundg (ps.length - (k + 1))
        case measure => omega
        case rel => exact ⟨k + 1, m, rfl, rfl, by omega, Nat.le_refl _, HN2, HB2⟩
      · have hR : R > 0 := by have := unhide HBet; simp at this; omega
        have HN2 : Hid (leadAt (ps.map kk) (k + 1) = k) := hide (by rw [unhide HN]; simp)
        clear HBet HN
        go_wp2_with fail
        go_roundg (ps.length - (k + 1))
        case measure => omega
        case rel => exact ⟨k + 1, k, rfl, rfl, by omega, Nat.le_refl _, HN2, HB2⟩
    · obtain rfl : k = ps.length := by omega
      have hki : ¬ ((ps.length : Int) < (ps.length : Int)) := by omega
      go_wp2_with fail
      go_ret
      rw [unhide HM]
      exact ⟨rfl, unhide hB⟩
end Go.Proofs.Ytijpnmponjjejaa

namespace Go.Proofs.Ytijpnmponjjejaa
open Go.RowKit
set_option maxRecDepth 10000 in

theorem quorum_any (w : World) : Calls Try.prog 12 #[] w fun e w' => e = .returned (.int .i64 2) ∧ w' = w := by
  go_enter Try.func12, Try.ntmps12
  go_wp2_with fail
  go_ret
  exact ⟨rfl, rfl⟩
theorem adm_newN {ks : List Key} (h : Adm ks 0) : 0 ≤ newN ks ∧ newN ks ≤ 2147483647 :=
  ⟨newN_nonneg ks, newN_le 2147483647 (by decide) fun k hk => by
    obtain ⟨i, hi⟩ := List.getElem?_of_mem hk
    have := h.ok hi
    have := zEpoch_le k.2.2
    omega⟩

set_option maxRecDepth 10000 in
set_option maxHeartbeats 2000000 in
theorem elect_any (v : Value) (ps : List Pe) (w : World) (k n E : Int) (hv : SeqV w v ps) (hL : PLogs w ps) (hA : EAns (ps.map kk) k n E) (hl : ps.length ≤ 140737488355328) :
    Calls Try.prog 9 #[v] w fun e w' => e = .returned (.tuple #[.int .i64 k, .int .i64 n, .int .i64 E]) ∧ Below w.heap.size w w' := by
  obtain ⟨A, hA, hR⟩ := hA
  have CA := admitted_any v ps w A hv hA hl
  have CN := hide (fun W (hW : Below w.heap.size w W) => newest_any v ps W (hv.next hW) (hL.next hW) hl)
  have CL := hide (fun W (hW : Below w.heap.size w W) => leading_any v ps W (hv.next hW) (hL.next hW) hl)
  have HN := hide (fun h : A = 0 => adm_newN (ks := ps.map kk) (by rw [h] at hA; exact hA))
  rw [List.length_map] at hR
  obtain ⟨va, vc, rfl⟩ := seq_slice hv
  clear hv hL hA
  generalize newN (ps.map kk) = N at *
  generalize leadAt (ps.map kk) ps.length = L at *
  rcases hR with ⟨h0, rfl, rfl, rfl⟩ | ⟨rfl, ⟨h1, rfl, rfl, rfl⟩ | ⟨h1, ⟨h2, rfl, rfl, rfl⟩ | ⟨h2, rfl, rfl, rfl⟩⟩⟩
  · go_enter Try.func9, Try.ntmps9
    go_wp2_with fail
    refine CA.mono ?_
    rintro e w1 ⟨rfl, hb1⟩
    have HB := hide hb1
    clear CA hb1
    go_wp2_with fail
    go_ret3
    exact ⟨rfl, unhide HB⟩
  all_goals
    obtain ⟨n0, n1⟩ := unhide HN rfl
    go_enter Try.func9, Try.ntmps9
    go_wp2_with fail
    refine CA.mono ?_
    rintro e w1 ⟨rfl, hb1⟩
    have HB := hide hb1
    clear CA hb1
    go_wp2_with fail
    refine (quorum_any _).mono ?_
    rintro e w2 ⟨rfl, rfl⟩
  · have h1' : (ps.length : Int) < 2 := by omega
    go_wp2_with fail
    go_ret3
    exact ⟨rfl, unhide HB⟩
  · have h1' : ¬ (ps.length : Int) < 2 := by omega
    have h2' : N + 1 > 2147483647 := by omega
    go_wp2_with fail
    refine (unhide CN _ (unhide HB)).mono ?_
    rintro e w3 ⟨rfl, hb3⟩
    have HB3 := hide (nnext (unhide HB) hb3)
    clear hb3
    go_wp2_with fail
    go_ret3
    exact ⟨rfl, unhide HB3⟩
  · have h1' : ¬ (ps.length : Int) < 2 := by omega
    have h2' : ¬ N + 1 > 2147483647 := by omega
    go_wp2_with fail
    refine (unhide CN _ (unhide HB)).mono ?_
    rintro e w3 ⟨rfl, hb3⟩
    have HB3 := hide (nnext (unhide HB) hb3)
    clear hb3
    go_wp2_with fail
    refine (unhide CL _ (unhide HB3)).mono ?_
    rintro e w4 ⟨rfl, hb4⟩
    have HB4 := hide (nnext (unhide HB3) hb4)
    clear hb4
    go_wp2_with fail
    go_ret3
    exact ⟨rfl, unhide HB4⟩

/- two peers that have nothing -/
def two01 : List Pe := [⟨0, 0, none, 0, [], 0⟩, ⟨1, 0, none, 0, [], 0⟩]
theorem ans01 : EAns (two01.map kk) 1 1 0 := by
  refine ⟨0, .inl ⟨rfl, fun i k h => ?_⟩, .inr ⟨rfl, .inr ⟨by decide, .inr ⟨by decide, by decide, by decide, rfl⟩⟩⟩⟩
  match i, h with
  | 0, h =>
    have : k = (0, 0, 0) := by simpa [two01, kk, lastZ] using h.symm
    subst this
    decide
  | 1, h =>
    have : k = (1, 0, 0) := by simpa [two01, kk, lastZ] using h.symm
    subst this
    decide
  | i + 2, h => simp [two01] at h
theorem seq01 (w : World) : SeqV (w.alloc (.cells #[.int .i64 0, .int .i64 0, .slice none 0 0, .int .i64 0, .int .i64 1, .int .i64 0, .slice none 0 0, .int .i64 0] 29)) (.slice (some ⟨w.heap.size, 0, none⟩) 2 2) two01 := by
  refine .inr ⟨w.heap.size, 0, 2, rfl, by decide, by decide, by simp, by simp [two01], fun j v hj => ?_⟩
  have h := heap_alloc_new w (.cells #[.int .i64 0, .int .i64 0, .slice none 0 0, .int .i64 0, .int .i64 1, .int .i64 0, .slice none 0 0, .int .i64 0] 29)
  unfold World.cell?
  rw [h]
  simp only [Nat.zero_add]
  have e : cellsL two01 = [.int .i64 0, .int .i64 0, .slice none 0 0, .int .i64 0, .int .i64 1, .int .i64 0, .slice none 0 0, .int .i64 0] := rfl
  rw [e] at hj
  simpa using hj
theorem logs01 (w : World) : PLogs w two01 := fun p hp => by
  simp only [two01, List.mem_cons, List.not_mem_nil, or_false] at hp
  rcases hp with rfl | rfl <;> exact LogV.nil w
theorem elect01 (w : World) : Calls Try.prog 9 #[.slice (some ⟨w.heap.size, 0, none⟩) 2 2] (w.alloc (.cells #[.int .i64 0, .int .i64 0, .slice none 0 0, .int .i64 0, .int .i64 1, .int .i64 0, .slice none 0 0, .int .i64 0] 29)) fun e w' => e = .returned (.tuple #[.int .i64 1, .int .i64 1, .int .i64 0]) ∧ Below w.heap.size w w' :=
  (elect_any _ two01 _ 1 1 0 (seq01 w) (logs01 _) ans01 (by decide)).mono fun e w' ⟨h, hb⟩ => ⟨h, nnext (allocB _ _) hb⟩
set_option maxRecDepth 10000 in
set_option maxHeartbeats 1000000 in
theorem elects_any (w : World) : Calls Try.prog 19 #[] w fun e w' => e = .returned (.bool true) ∧ Below w.heap.size w w' := by
  go_enter Try.func19, Try.ntmps19
  go_wp2_with fail
  refine (elect01 w).mono ?_
  rintro e w1 ⟨rfl, hb1⟩
  have HB := hide hb1
  clear hb1
  go_wp2_with fail
  go_ret
  exact ⟨rfl, unhide HB⟩
end Go.Proofs.Ytijpnmponjjejaa

namespace Go.Proofs.Ytijpnmponjjejaa
open Go.RowKit

theorem adm_iff (ks : List Key) : Adm ks 0 ↔ (∀ (i j : Nat) (a b : Key), i ≠ j → ks[i]? = some a → ks[j]? = some b → a.1 ≠ b.1) ∧ ∀ k ∈ ks, 0 ≤ k.1 ∧ k.1 < 3 ∧ 0 ≤ k.2.1 ∧ k.2.1 ≤ 2147483647 := by
  constructor
  · intro h
    have one : ∀ (i j : Nat) (a b : Key), i < j → ks[i]? = some a → ks[j]? = some b → a.1 ≠ b.1 := fun i j a b hij ha hb => by
      refine (h.ok hb).1 a ?_
      have : (ks.take j)[i]? = some a := by rw [List.getElem?_take_of_lt hij]; exact ha
      exact List.mem_of_getElem? this
    refine ⟨fun i j a b hij ha hb => ?_, fun k hk => ?_⟩
    · rcases Nat.lt_or_gt_of_ne hij with h1 | h1
      · exact one i j a b h1 ha hb
      · exact fun e => one j i b a h1 hb ha e.symm
    · obtain ⟨i, hi⟩ := List.getElem?_of_mem hk
      exact (h.ok hi).2
  · rintro ⟨h1, h2⟩
    refine .inl ⟨rfl, fun i k hk => ?_⟩
    have hb := h2 k (List.mem_of_getElem? hk)
    have ha : ((ks.take i).any (fun q => q.1 == k.1)) = false := by
      rw [Bool.eq_false_iff]
      intro e
      obtain ⟨q, hq, hqe⟩ := List.any_eq_true.1 e
      obtain ⟨j, hj⟩ := List.getElem?_of_mem hq
      have hji : j < i := by
        have := (List.getElem?_eq_some_iff.1 hj).1
        simp at this; omega
      rw [List.getElem?_take_of_lt hji] at hj
      exact h1 j i q k (by omega) hj hk (by simpa using hqe)
    unfold errP
    rw [ha]
    simp
    omega
theorem bet_asym {x y : Key} (h : bet x y = true) : bet y x = false := by
  unfold bet at *
  simp at *
  omega
theorem bet_irr (x : Key) : bet x x = false := by unfold bet; simp
theorem bet_le {x y z : Key} (h1 : bet x y = false) (h2 : bet y z = false) : bet x z = false := by
  unfold bet at *
  simp at *
  omega
theorem bet_both {x y : Key} (h1 : bet x y = false) (h2 : bet y x = false) : x.1 = y.1 ∧ x.2.2 = y.2.2 := by
  unfold bet at *
  simp at *
  omega
theorem adm_len {ks : List Key} (h : Adm ks 0) : ks.length ≤ 3 := by
  obtain ⟨h1, h2⟩ := (adm_iff ks).1 h
  refine Nat.le_of_not_lt fun hl => ?_
  obtain ⟨a, ha⟩ : ∃ a, ks[0]? = some a := ⟨_, List.getElem?_eq_getElem (by omega)⟩
  obtain ⟨b, hb⟩ : ∃ b, ks[1]? = some b := ⟨_, List.getElem?_eq_getElem (by omega)⟩
  obtain ⟨c, hc⟩ : ∃ c, ks[2]? = some c := ⟨_, List.getElem?_eq_getElem (by omega)⟩
  obtain ⟨d, hd⟩ : ∃ d, ks[3]? = some d := ⟨_, List.getElem?_eq_getElem (by omega)⟩
  have qa := h2 a (List.mem_of_getElem? ha)
  have qb := h2 b (List.mem_of_getElem? hb)
  have qc := h2 c (List.mem_of_getElem? hc)
  have qd := h2 d (List.mem_of_getElem? hd)
  have := h1 0 1 a b (by decide) ha hb
  have := h1 0 2 a c (by decide) ha hc
  have := h1 0 3 a d (by decide) ha hd
  have := h1 1 2 b c (by decide) hb hc
  have := h1 1 3 b d (by decide) hb hd
  have := h1 2 3 c d (by decide) hc hd
  omega
/-- nobody of the first n knows more than who leads them -/
theorem lead_best {ks : List Key} : ∀ (n : Nat), 0 < n → n ≤ ks.length → ∃ q, ks[leadAt ks n]? = some q ∧ ∀ i x, i < n → ks[i]? = some x → bet x q = false := by
  intro n
  induction n with
  | zero => intro h; omega
  | succ n ih =>
    intro _ hn
    obtain ⟨p, hp⟩ : ∃ p, ks[n]? = some p := ⟨_, List.getElem?_eq_getElem (by omega)⟩
    by_cases h0 : n = 0
    · subst h0
      have e : leadAt ks 1 = 0 := by have := leadAt_lt ks 1; omega
      rw [e]
      refine ⟨p, hp, fun i x hi hx => ?_⟩
      obtain rfl : i = 0 := by omega
      rw [hp] at hx
      cases hx
      exact bet_irr _
    · obtain ⟨q, hq, hb⟩ := ih (by omega) (by omega)
      rw [leadAt_more hp hq]
      by_cases hbt : bet p q = true
      · rw [if_pos hbt]
        refine ⟨p, hp, fun i x hi hx => ?_⟩
        by_cases e : i = n
        · subst e
          rw [hp] at hx
          cases hx
          exact bet_irr _
        · exact bet_le (hb i x (by omega) hx) (bet_asym hbt)
      · rw [if_neg hbt]
        refine ⟨q, hq, fun i x hi hx => ?_⟩
        by_cases e : i = n
        · subst e
          rw [hp] at hx
          cases hx
          simpa using hbt
        · exact hb i x (by omega) hx
/-- the answer does not hang on the order -/
theorem ans_turned {ks rs : List Key} {k n E j m F : Int} (hlen : rs.length = ks.length) (hmem : ∀ x, x ∈ rs ↔ x ∈ ks) (hinj : ∀ (i j : Nat) (a b : Key), i ≠ j → rs[i]? = some a → rs[j]? = some b → a.1 ≠ b.1)
    (h : EAns ks k n E) (hE : E = 0) (h' : EAns rs j m F) :
    F = 0 ∧ m = n ∧ ∃ (k' j' : Nat) (x y : Key), k = k' ∧ j = j' ∧ ks[k']? = some x ∧ rs[j']? = some y ∧ x.1 = y.1 ∧ (∀ q ∈ ks, q.2.2 ≤ x.2.2 ∧ q.2.1 < n ∧ zEpoch q.2.2 < n) := by
  subst hE
  obtain ⟨A, hA, h⟩ := h
  rcases h with ⟨h0, _, _, e⟩ | ⟨rfl, ⟨_, _, _, e⟩ | ⟨h1, ⟨_, _, _, e⟩ | ⟨h2, hk, hn, _⟩⟩⟩
  · exact absurd e.symm h0
  · omega
  · omega
  have gA := (adm_iff ks).1 hA
  have gR : Adm rs 0 := (adm_iff rs).2 ⟨hinj, fun q hq => gA.2 q ((hmem q).1 hq)⟩
  have hN : newN rs = newN ks := by
    have a : newN rs ≤ newN ks := newN_le _ (newN_nonneg ks) fun q hq => newN_ge ((hmem q).1 hq)
    have b : newN ks ≤ newN rs := newN_le _ (newN_nonneg rs) fun q hq => newN_ge ((hmem q).2 hq)
    omega
  obtain ⟨B, hB, h'⟩ := h'
  obtain rfl : B = 0 := by
    rcases gR with ⟨_, gR⟩ | ⟨gR, _⟩
    · exact adm_end hB fun i q _ hq => gR i q hq
    · exact absurd rfl gR
  rcases h' with ⟨h0, _⟩ | ⟨_, ⟨h0, _⟩ | ⟨_, ⟨h0, _⟩ | ⟨_, hj, hm, hF⟩⟩⟩
  · exact absurd rfl h0
  · omega
  · omega
  obtain ⟨x, hx, bx⟩ := lead_best (ks := ks) ks.length (by omega) (Nat.le_refl _)
  obtain ⟨y, hy, by'⟩ := lead_best (ks := rs) rs.length (by omega) (Nat.le_refl _)
  refine ⟨hF, by omega, leadAt ks ks.length, leadAt rs rs.length, x, y, hk, hj, hx, hy, ?_, fun q hq => ?_⟩
  · obtain ⟨i, hi⟩ := List.getElem?_of_mem ((hmem y).1 (List.mem_of_getElem? hy))
    obtain ⟨i', hi'⟩ := List.getElem?_of_mem ((hmem x).2 (List.mem_of_getElem? hx))
    have a := bx i y (List.getElem?_eq_some_iff.1 hi).1 hi
    have b := by' i' x (List.getElem?_eq_some_iff.1 hi').1 hi'
    exact (bet_both b a).1
  · obtain ⟨i, hi⟩ := List.getElem?_of_mem hq
    have a := bx i q (List.getElem?_eq_some_iff.1 hi).1 hi
    have b := newN_ge hq
    refine ⟨?_, by omega, by omega⟩
    unfold bet at a
    simp at a
    omega
theorem mod_two {i f n : Nat} (hi : i < n) (hf : f < n) : (i + f) % n = if i + f < n then i + f else i + f - n := by
  split
  · exact Nat.mod_eq_of_lt ‹_›
  · rw [Nat.mod_eq_sub_mod (by omega), Nat.mod_eq_of_lt (by omega)]
/-- a turned list -/
theorem turned {α : Type} {ks rs : List α} {f : Nat} (hf : f < ks.length) (hlen : rs.length = ks.length) (h : ∀ k, k < ks.length → rs[k]? = ks[(k + f) % ks.length]?) :
    (∀ x, x ∈ rs ↔ x ∈ ks) ∧ ∀ (P : α → α → Prop), (∀ (i j : Nat) (a b : α), i ≠ j → ks[i]? = some a → ks[j]? = some b → P a b) → ∀ (i j : Nat) (a b : α), i ≠ j → rs[i]? = some a → rs[j]? = some b → P a b := by
  refine ⟨fun x => ⟨fun hx => ?_, fun hx => ?_⟩, fun P hP i j a b hij ha hb => ?_⟩
  · obtain ⟨i, hi⟩ := List.getElem?_of_mem hx
    have hil := (List.getElem?_eq_some_iff.1 hi).1
    rw [h i (by omega)] at hi
    exact List.mem_of_getElem? hi
  · obtain ⟨i, hi⟩ := List.getElem?_of_mem hx
    have hil := (List.getElem?_eq_some_iff.1 hi).1
    by_cases hc : f ≤ i
    · have := h (i - f) (by omega)
      rw [mod_two (by omega) hf, if_pos (by omega), Nat.sub_add_cancel hc, hi] at this
      exact List.mem_of_getElem? this
    · have := h (i + ks.length - f) (by omega)
      rw [mod_two (by omega) hf, if_neg (by omega), show i + ks.length - f + f - ks.length = i by omega, hi] at this
      exact List.mem_of_getElem? this
  · have hil := (List.getElem?_eq_some_iff.1 ha).1
    have hjl := (List.getElem?_eq_some_iff.1 hb).1
    rw [h i (by omega)] at ha
    rw [h j (by omega)] at hb
    refine hP _ _ a b ?_ ha hb
    rw [mod_two (by omega) hf, mod_two (by omega) hf]
    split <;> split <;> omega
end Go.Proofs.Ytijpnmponjjejaa

namespace Go.Proofs.Ytijpnmponjjejaa
open Go.RowKit

theorem ret_pick {a b : Int} (h : a = b) : Ending.returned (.int .i64 a) = .returned (.int .i64 b) := by rw [h]

theorem tmod_cases (k n : Int) (hn : 0 < n) : k.tmod n = k % n ∨ k.tmod n = k % n - n := by
  rw [Int.tmod_eq_emod]
  split
  · left; omega
  · right; omega

set_option maxRecDepth 10000 in
set_option maxHeartbeats 400000 in
theorem pick_any (k n : Int) (w : World) (hn : 0 < n) (hn1 : n ≤ 1048576) (hk : -9223372036854775808 ≤ k) (hk1 : k ≤ 9223372036854775807) :
    Calls Try.prog 22 #[.int .i64 k, .int .i64 n] w fun e w' => e = .returned (.int .i64 (k % n)) ∧ w' = w := by
  have hm1 := Int.emod_nonneg k (show n ≠ 0 by omega)
  have hm2 := Int.emod_lt_of_pos k hn
  by_cases h0 : 0 ≤ k
  · go_enter Try.func22, Try.ntmps22
    go_wp2
    go_ret
    exact ⟨rfl, rfl⟩
  · have HT := hide (tmod_cases k n hn)
    go_enter Try.func22, Try.ntmps22
    go_wp2
    all_goals go_ret
    all_goals refine ⟨ret_pick ?_, rfl⟩
    all_goals (have hT := unhide HT; clear HT; first | omega | (unfold wrap64; omega))

end Go.Proofs.Ytijpnmponjjejaa
