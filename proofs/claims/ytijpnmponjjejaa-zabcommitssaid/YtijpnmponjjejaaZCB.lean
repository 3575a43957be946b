/-
  zab.holders: the walk.
  Who leads, as plain arithmetic over keys (an id, an epoch, a last number); no program is named here.
  zab.Quorum, zab.Elect, aviarykeep.elects: the walks.
  zab.Committed: the walk.
  aviaryref.Committed: the walk.
  aviarylaw.peers: the walk.
  The law ZabCommits: the walk.
  A peer, lists of peers and lists of logs, as arguments: opened; what their weights say of their lengths.
-/
import Derived.Test.YtijpnmponjjejaaZCA
import Derived.OwnWalk
import Derived.Lib.MinMax
import Derived.Deep.QuietTactic
import Derived.Deep.CutRange
import Derived.Deep.Cut
import Derived.Test.YtijpnmponjjejaaRows
import Derived.WalkSpells
import Derived.WalkLawsBesides
import Derived.Deep.RegionHeld3
import Derived.Deep.RegionLaw
import Derived.BigQuiet
import Derived.WalkKit
import Derived.ProofKit
import Derived.OpenShut
import Derived.SizedLaws
import Derived.Deep.Slices
import Derived.Carry
namespace Go.Proofs.Ytijpnmponjjejaa
open Go.RowKit

theorem iinfo0 : (Try.prog.info? 3).map (fun i => (i.zero, i.size, i.bytes)) = some (some (.int .i64 0), 1, 8) := by kernel_rfl
theorem iinfo : ∃ i0, Try.prog.info? 3 = some i0 ∧ i0.zero = some (.int .i64 0) ∧ i0.size = 1 ∧ i0.bytes = 8 := by
  obtain ⟨i0, h, e⟩ := Option.map_eq_some_iff.1 iinfo0
  simp only [Prod.mk.injEq] at e
  exact ⟨i0, h, e⟩
theorem cellsI_map (xs : List Int) : cellsL xs = xs.map (fun x => Value.int .i64 x) := by
  induction xs with
  | nil => rfl
  | cons x r ih => rw [cellsL_cons, ih]; rfl
theorem zeros_new {W : World} {D n : Nat} (h : W.ownsRow D 3 1 (.slice (some ⟨D, 0, none⟩) n n) n (madeCells #[Value.int .i64 0] n).toList) : OwnR W D n (List.replicate n (0 : Int)) := by
  have e : (madeCells #[Value.int .i64 0] n).toList = cellsL (List.replicate n (0 : Int)) := by
    rw [cellsI_map]
    apply List.ext_getElem
    · simp [madeCells]
    · intro i h1 h2
      simp [madeCells, Nat.mod_one]
  rw [e] at h
  have h2 : OwnS W D (.slice (some ⟨D, 0, none⟩) n n) (List.replicate n (0 : Int)) := OwnS.of_row (by rw [List.length_replicate]; exact h)
  rcases h2 with ⟨h3, _⟩ | ⟨g, cap, h3, _, h4⟩
  · simp at h3
  · simp only [Value.slice.injEq, Option.some.injEq, Addr.mk.injEq, and_true] at h3
    obtain ⟨rfl, _, rfl⟩ := h3
    exact h4
theorem OwnR.drewN {α : Type} [Lay α] {W : World} {g cap n : Nat} {xs : List α} (h : OwnR W g cap xs) : OwnR (W.drewN n) g cap xs := h
/-- the counts over the one list of logs up to a place, over the other from there on -/
def mixC (A B : List (List WTxn)) (l : List WTxn) (i : Nat) : List Int := (cnts B l).take i ++ (cnts A l).drop i
theorem mixC_zero (A B : List (List WTxn)) (l : List WTxn) : mixC A B l 0 = cnts A l := by simp [mixC]
theorem mixC_get (A B : List (List WTxn)) {l : List WTxn} {i : Nat} {t : WTxn} (h : l[i]? = some t) : (mixC A B l i)[i]? = some (cntN A i t : Int) := by
  have hi := (List.getElem?_eq_some_iff.1 h).1
  have hl : ((cnts B l).take i).length = i := by rw [List.length_take, cnts_len]; omega
  unfold mixC
  rw [List.getElem?_append_right (by omega), hl, Nat.sub_self, List.getElem?_drop]
  exact cnts_get A h
theorem mixC_parts (A B : List (List WTxn)) {l : List WTxn} {i : Nat} {t : WTxn} (h : l[i]? = some t) :
    mixC A B l i = (cnts B l).take i ++ (cntN A i t : Int) :: (cnts A l).drop (i + 1) ∧ mixC A B l (i + 1) = (cnts B l).take i ++ (cntN B i t : Int) :: (cnts A l).drop (i + 1) := by
  have hi := (List.getElem?_eq_some_iff.1 h).1
  constructor
  · unfold mixC
    have hA := cnts_get A h
    obtain ⟨hk, e⟩ := List.getElem?_eq_some_iff.1 hA
    rw [List.drop_eq_getElem_cons hk, e]
  · unfold mixC
    have hB := cnts_get B h
    obtain ⟨hk, e⟩ := List.getElem?_eq_some_iff.1 hB
    rw [List.take_succ_eq_append_getElem hk, e, List.append_assoc]
    rfl
theorem mixC_step (A : List (List WTxn)) (m : List WTxn) {l : List WTxn} {i : Nat} {t x : WTxn} (h : l[i]? = some t) (hx : m[i]? = some x) :
    (eqX x t = true → ∀ (W : World) (g cap : Nat), OwnR W g cap (mixC A (A ++ [m]) l i) → OwnR (W.setCell ⟨g, i, none⟩ (.int .i64 ((cntN A i t : Int) + 1))) g cap (mixC A (A ++ [m]) l (i + 1))) ∧
    (eqX x t = false → mixC A (A ++ [m]) l i = mixC A (A ++ [m]) l (i + 1)) := by
  have hi := (List.getElem?_eq_some_iff.1 h).1
  obtain ⟨p1, p2⟩ := mixC_parts A (A ++ [m]) h
  have hl : ((cnts (A ++ [m]) l).take i).length = i := by rw [List.length_take, cnts_len]; omega
  rw [p1, p2, cntN_snoc, atB_at hx]
  constructor
  · intro e W g cap ho
    rw [e]
    have := ho.set (c := 0) (y := (cntN A i t : Int) + 1) (v := .int .i64 ((cntN A i t : Int) + 1)) (by decide) rfl
    rw [hl] at this
    simpa [Lay.k] using this
  · intro e
    rw [e]
    simp
theorem mixC_end (A : List (List WTxn)) (m l : List WTxn) (M : Nat) (h : l.length ≤ M ∨ m.length ≤ M) (hM : M ≤ l.length) : mixC A (A ++ [m]) l M = cnts (A ++ [m]) l := by
  apply List.ext_getElem?
  intro j
  have hl : ((cnts (A ++ [m]) l).take M).length = M := by rw [List.length_take, cnts_len]; omega
  unfold mixC
  by_cases hj : j < M
  · rw [List.getElem?_append_left (by omega), List.getElem?_take_of_lt hj]
  · rw [List.getElem?_append_right (by omega), hl, List.getElem?_drop, show M + (j - M) = j by omega]
    by_cases hjl : j < l.length
    · obtain ⟨t, ht⟩ : ∃ t, l[j]? = some t := ⟨_, List.getElem?_eq_getElem hjl⟩
      rw [cnts_get A ht, cnts_get (A ++ [m]) ht, cntN_snoc, atB_no (by omega)]
      simp
    · rw [List.getElem?_eq_none (by rw [cnts_len]; omega), List.getElem?_eq_none (by rw [cnts_len]; omega)]
structure GFit (ls : List Lg) : Prop where
  len : ls.length * 24 ≤ 140737488351232
  each : ∀ p ∈ ls, p.ts.length * 72 ≤ 140737488351232

set_option maxRecDepth 10000 in
set_option maxHeartbeats 4000000 in
theorem holders_some (b0 off cap : Nat) (l0 : Lg) (r : List Lg) (w : World) (hv : SeqV w (.slice (some ⟨b0, off, none⟩) (l0 :: r).length cap) (l0 :: r)) (hL : GLogs w (l0 :: r)) (hF : GFit (l0 :: r)) :
    Calls Try.prog 34 #[.slice (some ⟨b0, off, none⟩) (l0 :: r).length cap] w fun e w' => ∃ g, e = .returned (.slice (some ⟨g, 0, none⟩) l0.ts.length l0.ts.length) ∧ OwnR w' g l0.ts.length (cnts ((l0 :: r).map (·.ts)) l0.ts) ∧ w.heap.size ≤ g ∧ Below w.heap.size w w' := by
  obtain ⟨i0, hi0, hz0, hz1, hz2⟩ := iinfo
  have HV := hide hv
  have HL := hide hL
  have HF := hide hF
  have hl0 : l0.ts.length * 72 ≤ 140737488351232 := hF.each l0 (by simp)
  have hnl : (l0 :: r).length * 24 ≤ 140737488351232 := hF.len
  have HL0 := hide (show LogV w (.slice l0.a l0.ts.length l0.c) l0.ts from hL l0 (by simp))
  have HROW : Hid (∀ W, Below w.heap.size w W → W.cell? ⟨b0, off, none⟩ = some (.slice l0.a l0.ts.length l0.c)) := hide (fun W hW => by
    obtain ⟨b', off', cap', he', hb', q', _⟩ := row_of (hv.next hW) (i := 0) (x := l0) rfl
    simp only [Value.slice.injEq, Option.some.injEq, Addr.mk.injEq, and_true, true_and] at he'
    obtain ⟨⟨rfl, rfl⟩, _⟩ := he'
    have := q'.lg0 (i := 0) (x := l0) rfl
    simpa using this)
  obtain ⟨ls, hls⟩ : ∃ ls, ls = l0 :: r := ⟨_, rfl⟩
  rw [← hls] at HV HL HF hnl ⊢
  have h0n : 0 < ls.length := by rw [hls]; simp
  obtain ⟨tss, htss⟩ : ∃ tss, tss = ls.map (·.ts) := ⟨_, rfl⟩
  rw [← htss]
  have HTS := hide htss
  have htl : tss.length = ls.length := by rw [htss]; simp
  have HTL := hide htl
  clear hv hL hF hls htss htl
  obtain ⟨la, lc, l⟩ := l0
  simp only at *
  have f0 := unhide HROW w (Below.refl _ _)
  have h0i : (0 : Int) < (ls.length : Int) := by omega
  have hne : ¬ ((ls.length : Int) = 0) := by omega
  go_enter Try.func34, Try.ntmps34
  go_wp2_with (at_make; refine wpList_make_full _ rfl _ _ 52 rfl w.heap.size 3 i0 _ 1 Try.underlying52 hi0 hz0 hz1 .i64 .i64 _ _ l.length rfl rfl rfl rfl (by rw [hz2]; omega) (by simp only [maxLen]; omega) (Nat.le_refl _) ?_)
  intro w2 hown hgrow
  obtain ⟨g, hge⟩ : ∃ g, w.heap.size = g := ⟨_, rfl⟩
  rw [hge] at hown
  have HG0 : Hid (w.heap.size ≤ g) := hide (by omega)
  have HO0 : Hid (OwnR w2 g l.length (cnts (tss.take 0) l)) := hide (by rw [List.take_zero, cnts_nil]; exact zeros_new (by simpa using hown))
  have HB0 := hide (grown_none hgrow)
  rw [hge]
  clear hown hgrow hge f0 hi0 hz0 hz1 hz2
  go_wp2_with fail
  go_loopg [17] ls.length (fun kx s17 wr => ∃ k : Nat, s17 = .int .i64 k ∧ k ≤ ls.length ∧ ls.length - k ≤ kx ∧ Hid (OwnR wr g l.length (cnts (tss.take k) l)) ∧ Hid (Below w.heap.size w wr))
  case atStart => exact ⟨0, rfl, Nat.zero_le _, Nat.le_refl _, HO0, HB0⟩
  case round =>
    obtain ⟨k, rfl, hk, hgk, HO, HB⟩ := hrel
    by_cases hlt : k < ls.length
    · obtain ⟨m, hm⟩ : ∃ m, ls[k]? = some m := ⟨_, List.getElem?_eq_getElem hlt⟩
      obtain ⟨b', off', cap', he', hb', q', _⟩ := row_of ((unhide HV).next (unhide HB)) hm
      simp only [Value.slice.injEq, Option.some.injEq, Addr.mk.injEq, and_true, true_and] at he'
      obtain ⟨⟨rfl, rfl⟩, rfl⟩ := he'
      have d0 := q'.lg0 hm
      have hkk : (k : Int) < (ls.length : Int) := by omega
      have HLm := hide (unhide HL m (List.mem_of_getElem? hm))
      have hml := (unhide HF).each m (List.mem_of_getElem? hm)
      have HTk : Hid (tss.take (k + 1) = tss.take k ++ [m.ts]) := hide (by
        have : tss[k]? = some m.ts := by rw [unhide HTS, List.getElem?_map, hm]; rfl
        rw [List.take_succ_eq_append_getElem (List.getElem?_eq_some_iff.1 this).1, (List.getElem?_eq_some_iff.1 this).2])
      have htl := unhide HTL
      have HTLe : Hid (tss.length = ls.length) := hide htl
      clear q' hm hb' htl
      go_wp2_with fail
      go_loopg [26] (min m.ts.length l.length) (fun kx s26 wr => ∃ i : Nat, s26 = .int .i64 i ∧ i ≤ (min m.ts.length l.length) ∧ (min m.ts.length l.length) - i ≤ kx ∧ Hid (OwnR wr g l.length (mixC (tss.take k) (tss.take (k + 1)) l i)) ∧ Hid (Below w.heap.size w wr))
      case atStart => exact ⟨0, rfl, Nat.zero_le _, Nat.le_refl _, hide (by rw [mixC_zero]; exact unhide HO), HB⟩
      case round =>
        obtain ⟨i, rfl, hi, hgi, HOi, HBi⟩ := hrel
        by_cases hlt2 : i < (min m.ts.length l.length)
        · obtain ⟨x, hx⟩ : ∃ x, m.ts[i]? = some x := ⟨_, List.getElem?_eq_getElem (by omega)⟩
          obtain ⟨t, ht⟩ : ∃ t, l[i]? = some t := ⟨_, List.getElem?_eq_getElem (by omega)⟩
          obtain ⟨b1, o1, c1, he1, hb1, q1, _⟩ := log_row ((unhide HLm).next (unhide HBi)) hx
          simp only [lgV, Value.slice.injEq] at he1
          obtain ⟨hma, _, hmc⟩ := he1
          obtain ⟨b2, o2, c2, he2, hb2, q2, _⟩ := log_row ((unhide HL0).next (unhide HBi)) ht
          simp only [Value.slice.injEq] at he2
          obtain ⟨rfl, _, rfl⟩ := he2
          have x0 := q1.z hx
          have x1 := q1.o hx
          have x2 := q1.s hx
          have x3 := q1.p hx
          have x4 := q1.d hx
          have x5 := q1.v hx
          have x6 := q1.w hx
          have t0 := q2.z ht
          have t1 := q2.o ht
          have t2 := q2.s ht
          have t3 := q2.p ht
          have t4 := q2.d ht
          have t5 := q2.v ht
          have t6 := q2.w ht
          have f0 := unhide HROW wr (unhide HBi)
          have qe := run_eqX x t
          have hii : (i : Int) < (m.ts.length : Int) := by omega
          have hil : (i : Int) < (l.length : Int) := by omega
          have hiM : (i : Int) < min (m.ts.length : Int) (l.length : Int) := by omega
          have him : i < m.ts.length := by omega
          have hin : i < l.length := by omega
          have HSt := hide (mixC_step (tss.take k) m.ts ht hx)
          have HG := hide (mixC_get (tss.take k) (tss.take (k + 1)) ht)
          have hcle := Nat.le_trans (cntN_le (tss.take k) i t) (show (tss.take k).length ≤ tss.length by simp; omega)
          rw [← unhide HTk] at HSt
          have hg2 : wr.cell? ⟨g, i, none⟩ = some (.int .i64 (cntN (tss.take k) i t)) := by simpa using (unhide HOi).row.i0 (unhide HG)
          have hgf := (unhide HOi).frozen i
          clear q1 q2 hx ht hb1 hb2 HG
          rw [hma, hmc] at d0
          simp only [txnV] at qe
          cases hxt : eqX x t
          · rw [hxt] at qe
            have HO2 : Hid (OwnR wr g l.length (mixC (tss.take k) (tss.take (k + 1)) l (i + 1))) := hide (by
              have := unhide HSt
              rw [hxt] at this
              rw [← this.2 rfl]; exact unhide HOi)
            clear hxt HSt
            go_wp2_with fail
            go_quiet (fail)
            go_wp2_with fail
            go_roundg ((min m.ts.length l.length) - (i + 1))
            case measure => omega
            case rel => exact ⟨i + 1, rfl, by omega, Nat.le_refl _, hide (OwnR.drewN (unhide HO2)), hide (belowN (unhide HBi))⟩
          · rw [hxt] at qe
            have HO2 : Hid (∀ n, OwnR ((wr.drewN n).setCell ⟨g, i, none⟩ (.int .i64 ((cntN (tss.take k) i t : Int) + 1))) g l.length (mixC (tss.take k) (tss.take (k + 1)) l (i + 1))) := hide (fun n => by
              have := unhide HSt
              rw [hxt] at this
              exact this.1 rfl (wr.drewN n) g l.length (OwnR.drewN (unhide HOi)))
            have hCw : (cntN (tss.take k) i t : Int) + 1 ≤ 9223372036854775807 := by have := unhide HTLe; omega
            clear hxt HSt
            go_wp2_with fail
            go_quiet (fail)
            go_wp2_with fail
            go_roundg ((min m.ts.length l.length) - (i + 1))
            case measure => omega
            case rel => exact ⟨i + 1, rfl, by omega, Nat.le_refl _, hide (unhide HO2 _), hide ((belowN (unhide HBi)).setCell (unhide HG0) _)⟩
        · obtain rfl : i = (min m.ts.length l.length) := by omega
          have hiM : ¬ ((((min m.ts.length l.length) : Nat) : Int) < min (m.ts.length : Int) (l.length : Int)) := by omega
          have HO2 : Hid (OwnR wr g l.length (cnts (tss.take (k + 1)) l)) := hide (by
            have := unhide HOi
            rw [unhide HTk] at this ⊢
            rwa [mixC_end _ _ _ _ (by omega) (by omega)] at this)
          go_wp2_with fail
          go_roundg (ls.length - (k + 1))
          case measure => omega
          case rel => exact ⟨k + 1, rfl, by omega, Nat.le_refl _, HO2, HBi⟩
    · obtain rfl : k = ls.length := by omega
      have hki : ¬ ((ls.length : Int) < (ls.length : Int)) := by omega
      have HO3 : Hid (OwnR wr g l.length (cnts tss l)) := hide (by
        have := unhide HO
        rwa [← unhide HTL, List.take_length] at this)
      go_wp2_with fail
      go_ret
      exact ⟨g, rfl, unhide HO3, unhide HG0, unhide HB⟩
end Go.Proofs.Ytijpnmponjjejaa

namespace Go.Proofs.Ytijpnmponjjejaa
open Go.RowKit

abbrev Key := Int × Int × Int
def errP (pre : List Key) (k : Key) : Int :=
  if pre.any (fun q => q.1 == k.1) = true then 8 else if k.1 < 0 ∨ 3 ≤ k.1 then 3 else if k.2.1 < 0 ∨ 2147483647 < k.2.1 then 3 else 0
/-- what is wrong with the first that something is wrong with -/
def Adm (ks : List Key) (E : Int) : Prop :=
  (E = 0 ∧ ∀ i k, ks[i]? = some k → errP (ks.take i) k = 0) ∨
  (E ≠ 0 ∧ ∃ n k, ks[n]? = some k ∧ errP (ks.take n) k = E ∧ ∀ i q, i < n → ks[i]? = some q → errP (ks.take i) q = 0)
/-- of an admitted list: bounds -/
theorem Adm.ok {ks : List Key} (h : Adm ks 0) {i : Nat} {k : Key} (hk : ks[i]? = some k) : (∀ q ∈ ks.take i, q.1 ≠ k.1) ∧ 0 ≤ k.1 ∧ k.1 < 3 ∧ 0 ≤ k.2.1 ∧ k.2.1 ≤ 2147483647 := by
  rcases h with ⟨_, h⟩ | ⟨h, _⟩
  · have := h i k hk
    unfold errP at this
    by_cases h1 : (ks.take i).any (fun q => q.1 == k.1) = true
    · simp [h1] at this
    · by_cases h2 : k.1 < 0 ∨ 3 ≤ k.1
      · simp [h1, h2] at this
      · by_cases h3 : k.2.1 < 0 ∨ 2147483647 < k.2.1
        · simp [h1, h2, h3] at this
        · refine ⟨fun q hq e => h1 ?_, by omega, by omega, by omega, by omega⟩
          exact List.any_eq_true.2 ⟨q, hq, by simp [e]⟩
  · exact absurd rfl h
end Go.Proofs.Ytijpnmponjjejaa

namespace Go.Proofs.Ytijpnmponjjejaa
open Go.RowKit
set_option maxRecDepth 10000 in

theorem quorum_any (w : World) : Calls Try.prog 12 #[] w fun e w' => e = .returned (.int .i64 2) ∧ w' = w := by
  go_enter Try.func12, Try.ntmps12
  go_wp2_with fail
  go_ret
  exact ⟨rfl, rfl⟩
/- two peers that have nothing -/
end Go.Proofs.Ytijpnmponjjejaa

namespace Go.Proofs.Ytijpnmponjjejaa
open Go.RowKit
set_option maxRecDepth 10000 in

theorem lacks_any (x : Int) (w : World) : Calls Try.prog 36 #[.int .i64 x] w fun e w' => e = .returned (.bool (decide (x < 2))) ∧ w' = w := by
  go_enter Try.func36, Try.ntmps36
  go_wp2_with fail
  refine (quorum_any _).mono ?_
  rintro e w1 ⟨rfl, rfl⟩
  go_wp2_with fail
  go_ret
  exact ⟨rfl, rfl⟩
set_option maxRecDepth 10000 in
set_option maxHeartbeats 1000000 in
theorem idxI_any (v : Value) (xs : List Int) (n : Nat) (w : World) (hv : SeqV w v xs) (hn : n ≤ xs.length) (h1 : ∀ i x, i < n → xs[i]? = some x → 2 ≤ x) (h2 : ∀ x, xs[n]? = some x → x < 2) (hl : xs.length ≤ 140737488355328) :
    Calls Try.prog 35 #[v, .func (.func 36) #[] #[]] w fun e w' => e = .returned (.int .i64 (if n < xs.length then (n : Int) else -1)) ∧ Below w.heap.size w w' := by
  have HV := hide hv
  have H1 := hide h1
  have H2 := hide h2
  obtain ⟨va, vc, rfl⟩ := seq_slice hv
  clear hv h1 h2
  obtain ⟨R, hR⟩ : ∃ R : Int, (if n < xs.length then (n : Int) else -1) = R := ⟨_, rfl⟩
  have HR := hide hR
  rw [hR]
  clear hR
  go_enter Try.func35, Try.ntmps35
  go_wp2_with fail
  go_loopg [8] xs.length (fun kx s8 wr => ∃ k : Nat, s8 = .int .i64 k ∧ k ≤ n ∧ xs.length - k ≤ kx ∧ Hid (Below w.heap.size w wr))
  case atStart => exact ⟨0, rfl, Nat.zero_le _, Nat.le_refl _, hide (Below.refl _ _)⟩
  case round =>
    obtain ⟨k, rfl, hk, hg, hB⟩ := hrel
    by_cases hlt : k < xs.length
    · obtain ⟨y, hy⟩ : ∃ y, xs[k]? = some y := ⟨_, List.getElem?_eq_getElem hlt⟩
      obtain ⟨b, off, cap, he, hb, q, _⟩ := row_of ((unhide HV).next (unhide hB)) hy
      simp only [Value.slice.injEq] at he
      obtain ⟨rfl, _, rfl⟩ := he
      have d0 := q.i0 hy
      have hkk : (k : Int) < (xs.length : Int) := by omega
      by_cases hkn : k < n
      · have h2y : ¬ y < 2 := by have := unhide H1 k y hkn hy; omega
        clear q hy hb
        go_wp2_with fail
        refine (lacks_any _ _).mono ?_
        rintro e w1 ⟨rfl, rfl⟩
        go_wp2_with fail
        go_roundg (xs.length - (k + 1))
        case measure => omega
        case rel => exact ⟨k + 1, rfl, by omega, Nat.le_refl _, hB⟩
      · obtain rfl : k = n := by omega
        have h2y : y < 2 := unhide H2 y hy
        have hRk : R = k := by rw [← unhide HR, if_pos hlt]
        have HRk := hide hRk
        clear q hy hb hRk
        go_wp2_with fail
        refine (lacks_any _ _).mono ?_
        rintro e w1 ⟨rfl, rfl⟩
        go_wp2_with fail
        go_ret
        rw [unhide HRk]
        exact ⟨rfl, unhide hB⟩
    · have hki : ¬ ((k : Int) < (xs.length : Int)) := by omega
      have hRk : R = -1 := by rw [← unhide HR, if_neg (by omega)]
      have HRk := hide hRk
      clear hRk
      go_wp2_with fail
      go_ret
      rw [unhide HRk]
      exact ⟨rfl, unhide hB⟩
set_option maxRecDepth 10000 in
set_option maxHeartbeats 1000000 in
theorem holders_none (a : Option Addr) (c : Nat) (w : World) : Calls Try.prog 34 #[.slice a 0 c] w fun e w' => e = .returned (.slice none 0 0) ∧ w' = w := by
  go_enter Try.func34, Try.ntmps34
  go_wp2_with fail
  go_ret
  exact ⟨rfl, rfl⟩
set_option maxRecDepth 10000 in
set_option maxHeartbeats 1000000 in
theorem committed_none (a : Option Addr) (c : Nat) (w : World) : Calls Try.prog 15 #[.slice a 0 c] w fun e w' => e = .returned (.int .i64 0) ∧ Below w.heap.size w w' := by
  have C := idxI_any (.slice none 0 0) [] 0 w (SeqV.nil w) (Nat.le_refl _) (fun i x h => by omega) (fun x h => by simp at h) (by decide)
  go_enter Try.func15, Try.ntmps15
  go_wp2_with fail
  refine (holders_none _ _ _).mono ?_
  rintro e w1 ⟨rfl, rfl⟩
  go_wp2_with fail
  refine C.mono ?_
  rintro e w2 ⟨rfl, hb2⟩
  have HB := hide hb2
  clear hb2
  go_wp2_with fail
  go_ret
  exact ⟨rfl, unhide HB⟩
theorem rown_seq {W : World} {g cap : Nat} {xs : List Int} (h : OwnR W g cap xs) : SeqV W (.slice (some ⟨g, 0, none⟩) xs.length cap) xs := by
  have k : OwnS W 0 (.slice (some ⟨g, 0, none⟩) xs.length cap) xs := Or.inr ⟨g, cap, rfl, Nat.zero_le _, h⟩
  exact k.seq
theorem com_idx {tss : List (List WTxn)} {l : List WTxn} {n : Nat} (hC : Com tss l n) (hl : l.length * 72 ≤ 140737488351232) (W : World) (g : Nat) (h : OwnR W g l.length (cnts tss l)) :
    Calls Try.prog 35 #[.slice (some ⟨g, 0, none⟩) l.length l.length, .func (.func 36) #[] #[]] W fun e w' => e = .returned (.int .i64 (if n < l.length then (n : Int) else -1)) ∧ Below W.heap.size W w' := by
  have k := rown_seq h
  have := idxI_any _ (cnts tss l) n W k (by rw [cnts_len]; exact hC.le)
    (fun i x hi hx => by
      obtain ⟨t, ht⟩ : ∃ t, l[i]? = some t := ⟨_, List.getElem?_eq_getElem (by have := hC.le; omega)⟩
      rw [cnts_get _ ht] at hx
      cases hx
      have := hC.two i t hi ht
      omega)
    (fun x hx => by
      by_cases hn : n < l.length
      · obtain ⟨t, ht⟩ : ∃ t, l[n]? = some t := ⟨_, List.getElem?_eq_getElem hn⟩
        rw [cnts_get _ ht] at hx
        cases hx
        have := hC.stop t ht
        omega
      · rw [List.getElem?_eq_none (by rw [cnts_len]; omega)] at hx
        cases hx) (by rw [cnts_len]; omega)
  rw [cnts_len] at this
  exact this
set_option maxRecDepth 10000 in
set_option maxHeartbeats 1000000 in
theorem committed_some (v : Value) (l0 : Lg) (r : List Lg) (n : Nat) (w : World) (hv : SeqV w v (l0 :: r)) (hL : GLogs w (l0 :: r)) (hF : GFit (l0 :: r)) (hC : Com ((l0 :: r).map (·.ts)) l0.ts n) :
    Calls Try.prog 15 #[v] w fun e w' => e = .returned (.int .i64 n) ∧ Below w.heap.size w w' := by
  obtain ⟨b, off, cap, rfl, _⟩ := seq_row hv (by simp)
  have C1 := holders_some b off cap l0 r w hv hL hF
  have hl : l0.ts.length * 72 ≤ 140737488351232 := hF.each l0 (by simp)
  have HI := hide (com_idx hC hl)
  have hle := hC.le
  clear hv hL hF hC
  generalize (l0 :: r).length = L at *
  generalize cnts ((l0 :: r).map (·.ts)) l0.ts = X at *
  go_enter Try.func15, Try.ntmps15
  go_wp2_with fail
  refine C1.mono ?_
  rintro e w1 ⟨g, rfl, ho, _, hb1⟩
  have C2 := unhide HI w1 g ho
  have HB1 := hide hb1
  clear ho hb1 C1 HI
  go_wp2_with fail
  refine C2.mono ?_
  rintro e w2 ⟨rfl, hb2⟩
  have HB2 := hide (nnext (unhide HB1) hb2)
  clear hb2 C2
  by_cases hn : n < l0.ts.length
  · simp only [hn, if_true]
    go_wp2_with fail
    go_ret
    exact ⟨rfl, unhide HB2⟩
  · obtain rfl : n = l0.ts.length := by omega
    simp only [hn, if_false]
    go_wp2_with fail
    go_ret
    exact ⟨rfl, unhide HB2⟩
end Go.Proofs.Ytijpnmponjjejaa

namespace Go.Proofs.Ytijpnmponjjejaa
open Go.RowKit
set_option maxRecDepth 10000 in

set_option maxHeartbeats 1000000 in
theorem rcommitted_none (a : Option Addr) (c : Nat) (w : World) : Calls Try.prog 16 #[.slice a 0 c] w fun e w' => e = .returned (.int .i64 0) ∧ w' = w := by
  go_enter Try.func16, Try.ntmps16
  go_wp2_with fail
  go_ret
  exact ⟨rfl, rfl⟩

set_option maxRecDepth 10000 in
set_option maxHeartbeats 4000000 in
theorem rcommitted_some (v : Value) (l0 : Lg) (r : List Lg) (n : Nat) (w : World) (hv : SeqV w v (l0 :: r)) (hL : GLogs w (l0 :: r)) (hF : GFit (l0 :: r)) (hC : Com ((l0 :: r).map (·.ts)) l0.ts n) :
    Calls Try.prog 16 #[v] w fun e w' => e = .returned (.int .i64 n) ∧ Below w.heap.size w w' := by
  have HV := hide hv
  have HL := hide hL
  have HF := hide hF
  have HC := hide hC
  have hle := hC.le
  have hl0 : l0.ts.length * 72 ≤ 140737488351232 := hF.each l0 (by simp)
  have hnl : (l0 :: r).length * 24 ≤ 140737488351232 := hF.len
  have HL0 := hide (show LogV w (.slice l0.a l0.ts.length l0.c) l0.ts from hL l0 (by simp))
  obtain ⟨b0, off, cap, rfl, _⟩ := seq_row hv (by simp)
  have HROW : Hid (∀ W, Below w.heap.size w W → W.cell? ⟨b0, off, none⟩ = some (.slice l0.a l0.ts.length l0.c)) := hide (fun W hW => by
    obtain ⟨b', off', cap', he', hb', q', _⟩ := row_of (hv.next hW) (i := 0) (x := l0) rfl
    simp only [Value.slice.injEq, Option.some.injEq, Addr.mk.injEq, and_true, true_and] at he'
    obtain ⟨⟨rfl, rfl⟩, _⟩ := he'
    have := q'.lg0 (i := 0) (x := l0) rfl
    simpa using this)
  obtain ⟨ls, hls⟩ : ∃ ls, ls = l0 :: r := ⟨_, rfl⟩
  rw [← hls] at HV HL HF HC hnl ⊢
  have h0n : 0 < ls.length := by rw [hls]; simp
  obtain ⟨tss, htss⟩ : ∃ tss, tss = ls.map (·.ts) := ⟨_, rfl⟩
  rw [← htss] at HC
  have HTS := hide htss
  have htl : tss.length = ls.length := by rw [htss]; simp
  have HTL := hide htl
  clear hv hL hF hls htss htl hC
  obtain ⟨la, lc, l⟩ := l0
  simp only at *
  have f0 := unhide HROW w (Below.refl _ _)
  have h0i : (0 : Int) < (ls.length : Int) := by omega
  have h0e : ((ls.length : Int) == 0) = false := by rw [beq_eq_false_iff_ne]; omega
  go_enter Try.func16, Try.ntmps16
  go_wp2_with fail
  clear f0
  go_loopg [14] l.length (fun kx s14 wr => ∃ a : Nat, s14 = .int .i64 a ∧ a ≤ n ∧ l.length - a ≤ kx ∧ Hid (Below w.heap.size w wr))
  case atStart => exact ⟨0, rfl, Nat.zero_le _, Nat.le_refl _, hide (Below.refl _ _)⟩
  case round =>
    obtain ⟨a, rfl, ha, hga, HB⟩ := hrel
    by_cases hlt : a < l.length
    · obtain ⟨t, ht⟩ : ∃ t, l[a]? = some t := ⟨_, List.getElem?_eq_getElem hlt⟩
      have hai : (a : Int) < (l.length : Int) := by omega
      have HT := hide ht
      clear ht
      go_wp2_with fail
      go_loopg [4, 19] ls.length (fun kx s4 s19 wr => ∃ (k c : Nat), s4 = .int .i64 c ∧ s19 = .int .i64 k ∧ k ≤ ls.length ∧ ls.length - k ≤ kx ∧ Hid (cntN (tss.take k) a t = c) ∧ Hid (Below w.heap.size w wr))
      case atStart => exact ⟨0, 0, rfl, rfl, Nat.zero_le _, Nat.le_refl _, hide (by simp [cntN]), HB⟩
      case round =>
        obtain ⟨k, c, rfl, rfl, hk, hgk, HCn, HBk⟩ := hrel
        by_cases hlt2 : k < ls.length
        · obtain ⟨m, hm⟩ : ∃ m, ls[k]? = some m := ⟨_, List.getElem?_eq_getElem hlt2⟩
          obtain ⟨b', off', cap', he', hb', q', _⟩ := row_of ((unhide HV).next (unhide HBk)) hm
          simp only [Value.slice.injEq, Option.some.injEq, Addr.mk.injEq, and_true, true_and] at he'
          obtain ⟨⟨rfl, rfl⟩, rfl⟩ := he'
          have d0 := q'.lg0 hm
          have hkk : (k : Int) < (ls.length : Int) := by omega
          have HLm := hide (unhide HL m (List.mem_of_getElem? hm))
          have hml := (unhide HF).each m (List.mem_of_getElem? hm)
          have HTk : Hid (tss.take (k + 1) = tss.take k ++ [m.ts]) := hide (by
            have : tss[k]? = some m.ts := by rw [unhide HTS, List.getElem?_map, hm]; rfl
            rw [List.take_succ_eq_append_getElem (List.getElem?_eq_some_iff.1 this).1, (List.getElem?_eq_some_iff.1 this).2])
          have HN : Hid (cntN (tss.take (k + 1)) a t = c + if atB m.ts a t = true then 1 else 0) := hide (by rw [unhide HTk, cntN_snoc, unhide HCn])
          have hcle : c ≤ ls.length := by
            have h1 := cntN_le (tss.take k) a t
            rw [unhide HCn] at h1
            have h2 : (tss.take k).length ≤ tss.length := by simp; omega
            have := unhide HTL
            omega
          have f0 := unhide HROW wr (unhide HBk)
          clear q' hm hb'
          by_cases him : a < m.ts.length
          · obtain ⟨x, hx⟩ : ∃ x, m.ts[a]? = some x := ⟨_, List.getElem?_eq_getElem him⟩
            obtain ⟨b1, o1, c1, he1, hb1, q1, _⟩ := log_row ((unhide HLm).next (unhide HBk)) hx
            simp only [lgV, Value.slice.injEq] at he1
            obtain ⟨hma, _, hmc⟩ := he1
            obtain ⟨b2, o2, c2, he2, hb2, q2, _⟩ := log_row ((unhide HL0).next (unhide HBk)) (unhide HT)
            simp only [Value.slice.injEq] at he2
            obtain ⟨rfl, _, rfl⟩ := he2
            have x0 := q1.z hx
            have x1 := q1.o hx
            have x2 := q1.s hx
            have x3 := q1.p hx
            have x4 := q1.d hx
            have x5 := q1.v hx
            have x6 := q1.w hx
            have t0 := q2.z (unhide HT)
            have t1 := q2.o (unhide HT)
            have t2 := q2.s (unhide HT)
            have t3 := q2.p (unhide HT)
            have t4 := q2.d (unhide HT)
            have t5 := q2.v (unhide HT)
            have t6 := q2.w (unhide HT)
            have qe := run_eqX x t
            have hami : (a : Int) < (m.ts.length : Int) := by omega
            have HA := hide (atB_at (t := t) hx)
            rw [hma, hmc] at d0
            clear q1 q2 hx hb1 hb2
            simp only [txnV] at qe
            cases hxt : eqX x t
            · rw [hxt] at qe
              have HN2 : Hid (cntN (tss.take (k + 1)) a t = c) := hide (by rw [unhide HN, unhide HA, hxt]; simp)
              clear hxt
              go_wp2_with fail
              go_quiet (fail)
              go_wp2_with fail
              go_roundg (ls.length - (k + 1))
              case measure => omega
              case rel => exact ⟨k + 1, c, rfl, rfl, by omega, Nat.le_refl _, HN2, hide (belowN (unhide HBk))⟩
            · rw [hxt] at qe
              have HN2 : Hid (cntN (tss.take (k + 1)) a t = c + 1) := hide (by rw [unhide HN, unhide HA, hxt]; simp)
              clear hxt
              go_wp2_with fail
              go_quiet (fail)
              go_wp2_with fail
              go_roundg (ls.length - (k + 1))
              case measure => omega
              case rel => exact ⟨k + 1, c + 1, by simp, rfl, by omega, Nat.le_refl _, HN2, hide (belowN (unhide HBk))⟩
          · have HN2 : Hid (cntN (tss.take (k + 1)) a t = c) := hide (by rw [unhide HN, atB_no (by omega)]; simp)
            have him1 : decide ((a : Int) < (m.ts.length : Int)) = false := by simp; omega
            have him2 : decide (a < m.ts.length) = false := by simp; omega
            have him3 : m.ts.length ≤ a := by omega
            clear HLm HTk HN hlt
            go_wp2_with fail
            go_quiet (fail)
            go_wp2_with fail
            go_roundg (ls.length - (k + 1))
            case measure => omega
            case rel => exact ⟨k + 1, c, rfl, rfl, by omega, Nat.le_refl _, HN2, hide (belowN (unhide HBk))⟩
        · obtain rfl : k = ls.length := by omega
          have hki : ¬ ((ls.length : Int) < (ls.length : Int)) := by omega
          have HCc : Hid (cntN tss a t = c) := hide (by
            have := unhide HCn
            rwa [← unhide HTL, List.take_length] at this)
          by_cases h2 : c < 2
          · have h2i : (c : Int) < 2 := by omega
            have han : a = n := by
              by_cases h : a < n
              · have := (unhide HC).two a t h (unhide HT)
                rw [unhide HCc] at this
                omega
              · omega
            have HAN := hide han
            clear han
            go_wp2_with fail
            go_ret
            rw [← unhide HAN]
            exact ⟨rfl, unhide HBk⟩
          · have h2i : ¬ (c : Int) < 2 := by omega
            have han : a < n := by
              by_cases h : a < n
              · exact h
              · obtain rfl : a = n := by omega
                have := (unhide HC).stop t (unhide HT)
                rw [unhide HCc] at this
                omega
            go_wp2_with fail
            go_roundg (l.length - (a + 1))
            case measure => omega
            case rel => exact ⟨a + 1, rfl, by omega, Nat.le_refl _, HBk⟩
    · obtain rfl : n = l.length := by omega
      obtain rfl : a = l.length := by omega
      have hki : ¬ ((l.length : Int) < (l.length : Int)) := by omega
      have f0 := unhide HROW wr (unhide HB)
      go_wp2_with fail
      go_ret
      exact ⟨rfl, unhide HB⟩
end Go.Proofs.Ytijpnmponjjejaa

namespace Go.Proofs.Ytijpnmponjjejaa
open Go.RowKit
theorem OwnS.above {α : Type} [Lay α] {W : World} {B : Nat} {v : Value} {xs : List α} (h : OwnS W B v xs) (k : Nat) (hk : v.ownBlock = some k) : B ≤ k := by
  rcases h with ⟨rfl, rfl⟩ | ⟨g, cap, rfl, hB, _⟩
  · simp [Value.ownBlock] at hk
  · simp only [Value.ownBlock, Option.some.injEq] at hk
    rw [← hk]; exact hB
theorem PBox.other {W V : World} {g B : Nat} {p : Pe} {v : Value} {α : Type} [Lay α] {xs : List α} (h : PBox W g p) (a : Nat) (u : Value) (hne : Lay.ty α ≠ 29) (k : OwnS W B v xs) (hV : V = W.setCell ⟨g, a, none⟩ u) : OwnS V B v xs := by
  subst hV
  refine k.other (fun e => ?_) u
  rcases k with ⟨rfl, rfl⟩ | ⟨g', cap, rfl, _, rest, h1, _⟩
  · simp [Value.ownBlock] at e
  · simp only [Value.ownBlock, Option.some.injEq] at e
    subst e
    unfold PBox at h
    rw [h] at h1
    simp at h1
    exact hne h1.2.symm
end Go.Proofs.Ytijpnmponjjejaa

namespace Go.Proofs.Ytijpnmponjjejaa
open Go.RowKit

def ComL (tss : List (List WTxn)) (n : Nat) : Prop := match tss with | [] => n = 0 | l :: r => Com (l :: r) l n
theorem comL_ex (tss : List (List WTxn)) : ∃ n, ComL tss n := by
  match tss with
  | [] => exact ⟨0, rfl⟩
  | l :: r => exact com_ex (l :: r) l
theorem committed_any (v : Value) (ls : List Lg) (n : Nat) (w : World) (hv : SeqV w v ls) (hL : GLogs w ls) (hF : GFit ls) (hC : ComL (ls.map (·.ts)) n) :
    Calls Try.prog 15 #[v] w fun e w' => e = .returned (.int .i64 n) ∧ Below w.heap.size w w' := by
  match ls, hv, hL, hF, hC with
  | [], hv, _, _, hC =>
    obtain ⟨a, c, rfl⟩ := seq_slice hv
    obtain rfl : n = 0 := hC
    exact committed_none a c w
  | l0 :: r, hv, hL, hF, hC => exact committed_some v l0 r n w hv hL hF hC
theorem rcommitted_any (v : Value) (ls : List Lg) (n : Nat) (w : World) (hv : SeqV w v ls) (hL : GLogs w ls) (hF : GFit ls) (hC : ComL (ls.map (·.ts)) n) :
    Calls Try.prog 16 #[v] w fun e w' => e = .returned (.int .i64 n) ∧ Below w.heap.size w w' := by
  match ls, hv, hL, hF, hC with
  | [], hv, _, _, hC =>
    obtain ⟨a, c, rfl⟩ := seq_slice hv
    obtain rfl : n = 0 := hC
    exact (rcommitted_none a c w).mono fun e w' ⟨h, h2⟩ => ⟨h, by rw [h2]; exact Below.refl _ _⟩
  | l0 :: r, hv, hL, hF, hC => exact rcommitted_some v l0 r n w hv hL hF hC
theorem lone (W : World) (l : Lg) : OneR (W.alloc (.cells #[.slice l.a l.ts.length l.c] 27)) W.heap.size l := heap_alloc_new W _
theorem take_ts {ls : List Lg} {k : Nat} {p : Lg} (h : ls[k]? = some p) : (ls.take (k + 1)).map (·.ts) = (ls.take k).map (·.ts) ++ [p.ts] := by
  obtain ⟨hk, rfl⟩ := List.getElem?_eq_some_iff.1 h
  rw [List.take_succ_eq_append_getElem hk, List.map_append]; rfl
theorem gfit_of {ls qs : List Lg} (h : qs.map (·.ts) = ls.map (·.ts)) (hF : GFit ls) : GFit qs := by
  refine ⟨by have := congrArg List.length h; simp at this; rw [this]; exact hF.len, fun p hp => ?_⟩
  have : p.ts ∈ ls.map (·.ts) := by rw [← h]; exact List.mem_map.2 ⟨p, hp, rfl⟩
  obtain ⟨q, hq, e⟩ := List.mem_map.1 this
  rw [← e]; exact hF.each q hq
def tone : WTxn := ⟨1, 1, 1, [], [], 0, 0⟩
set_option maxRecDepth 10000 in
set_option maxHeartbeats 1000000 in
theorem zopened_any (w : World) : Calls Try.prog 17 #[] w fun e w' => ∃ g, e = .returned (.slice (some ⟨g, 0, none⟩) 1 1) ∧ LogV w' (.slice (some ⟨g, 0, none⟩) 1 1) [tone] ∧ Below w.heap.size w w' := by
  have HB := hide (allocB w (.cells #[.int .i64 1, .int .i64 1, .int .i64 1, .string ⟨#[]⟩, .string ⟨#[]⟩, .int .i64 0, .int .i64 0] 47))
  have HT : Hid (LogV (w.alloc (.cells #[.int .i64 1, .int .i64 1, .int .i64 1, .string ⟨#[]⟩, .string ⟨#[]⟩, .int .i64 0, .int .i64 0] 47)) (.slice (some ⟨w.heap.size, 0, none⟩) 1 1) [tone]) := hide (by
    have h := TAt.new w tone
    refine .inr ⟨w.heap.size, 0, 1, rfl, by simp, by decide, h.lt, by simp, fun j v hj => ?_⟩
    unfold TAt at h
    unfold World.cell?
    rw [show (w.alloc (.cells #[.int .i64 1, .int .i64 1, .int .i64 1, .string ⟨#[]⟩, .string ⟨#[]⟩, .int .i64 0, .int .i64 0] 47)).heap[w.heap.size]? = _ from h]
    simp only [Nat.zero_add]
    have e : cellsT [tone] = tcells tone := by simp [cellsT]
    rw [e] at hj
    simpa [tcells] using hj)
  go_enter Try.func17, Try.ntmps17
  go_wp2_with fail
  go_ret
  exact ⟨_, rfl, unhide HT, unhide HB⟩
theorem com_two : ComL [[tone], [tone]] 1 := ⟨by decide, fun i t hi ht => by
    obtain rfl : i = 0 := by omega
    have : t = tone := by simpa using ht.symm
    subst this
    decide, fun t ht => by simp at ht⟩
theorem two_logs (w : World) (g1 g2 : Nat) (h1 : LogV w (.slice (some ⟨g1, 0, none⟩) 1 1) [tone]) (h2 : LogV w (.slice (some ⟨g2, 0, none⟩) 1 1) [tone]) :
    Calls Try.prog 15 #[.slice (some ⟨w.heap.size, 0, none⟩) 2 2] (w.alloc (.cells #[.slice (some ⟨g1, 0, none⟩) 1 1, .slice (some ⟨g2, 0, none⟩) 1 1] 27)) fun e w' => e = .returned (.int .i64 1) ∧ Below w.heap.size w w' := by
  have h := heap_alloc_new w (.cells #[.slice (some ⟨g1, 0, none⟩) 1 1, .slice (some ⟨g2, 0, none⟩) 1 1] 27)
  refine (committed_any _ [⟨some ⟨g1, 0, none⟩, 1, [tone]⟩, ⟨some ⟨g2, 0, none⟩, 1, [tone]⟩] 1 _ ?_ ?_ ⟨by simp, fun p hp => ?_⟩ com_two).mono fun e w' ⟨he, hb⟩ => ⟨he, nnext (allocB _ _) hb⟩
  · refine .inr ⟨w.heap.size, 0, 2, rfl, by simp, by decide, by simp, by simp, fun j v hj => ?_⟩
    unfold World.cell?
    rw [h]
    simp only [Nat.zero_add]
    have e : cellsL [(⟨some ⟨g1, 0, none⟩, 1, [tone]⟩ : Lg), ⟨some ⟨g2, 0, none⟩, 1, [tone]⟩] = [.slice (some ⟨g1, 0, none⟩) 1 1, .slice (some ⟨g2, 0, none⟩) 1 1] := rfl
    rw [e] at hj
    simpa using hj
  · intro p hp
    simp only [List.mem_cons, List.not_mem_nil, or_false] at hp
    rcases hp with rfl | rfl
    · exact h1.alloc _
    · exact h2.alloc _
  · simp only [List.mem_cons, List.not_mem_nil, or_false] at hp
    rcases hp with rfl | rfl <;> simp

set_option maxRecDepth 10000 in
set_option maxHeartbeats 4000000 in
theorem zabCommits_walk (v : Value) (ls : List Lg) (w : World) (hv : SeqV w v ls) (hL : GLogs w ls) (hF : GFit ls) :
    Calls Try.prog 5 #[v] w fun e w' => e = .returned (.bool true) ∧ Below w.heap.size w w' := by
  obtain ⟨i0, hi0, hz0, hz1, hz2⟩ := ginfo
  obtain ⟨n, hC⟩ := comL_ex (ls.map (·.ts))
  have HV := hide hv
  have HL := hide hL
  have HF := hide hF
  have HC := hide hC
  have hn : ls.length * 24 ≤ 140737488351232 := hF.len
  obtain ⟨a, c, rfl⟩ := seq_slice hv
  clear hv hL hF hC
  go_enter Try.func5, Try.ntmps5
  go_wp2_with fail
  go_loopg [3, 4] ls.length (fun kx s3 s4 wr => ∃ (k : Nat) (a' : Option Addr) (c' : Nat) (qs : List Lg), s3 = .slice a' k c' ∧ s4 = .int .i64 k ∧ k ≤ ls.length ∧ ls.length - k ≤ kx ∧ Hid (qs.map (·.ts) = (ls.take k).map (·.ts)) ∧ Hid (OwnS wr w.heap.size (.slice a' k c') qs ∧ GOwn wr w.heap.size qs ∧ Below w.heap.size w wr))
  case atStart => exact ⟨0, none, 0, [], rfl, rfl, Nat.zero_le _, by omega, hide rfl, hide ⟨.inl ⟨rfl, rfl⟩, fun p hp => by simp at hp, Below.refl _ _⟩⟩
  case round =>
    obtain ⟨k, a', c', qs, rfl, rfl, hk, hkx, HM, HI⟩ := hrel
    by_cases hlt : k < ls.length
    · obtain ⟨p, hp⟩ : ∃ p, ls[k]? = some p := ⟨_, List.getElem?_eq_getElem hlt⟩
      have hq : qs.length = k := by have := congrArg List.length (unhide HM); simp at this; omega
      subst hq
      obtain ⟨b, off, cap, he, hb, hr, _, _, _⟩ := row_of ((unhide HV).next (unhide HI).2.2) hp
      simp only [Value.slice.injEq, true_and] at he
      obtain ⟨rfl, rfl⟩ := he
      have e0 := hr.lg0 hp
      have hlti : (qs.length : Int) < (ls.length : Int) := by omega
      have hmem := List.mem_of_getElem? hp
      have HLg := hide (seq_log.2 ((unhide HL) p hmem))
      have Hfit := hide ((unhide HF).each p hmem)
      have HT := hide (take_ts hp)
      have hk63 : qs.length < 9223372036854775807 := by omega
      clear hr hp hb hmem
      obtain ⟨la, lc, ts⟩ := p
      simp only [lgV] at *
      go_wp2_with (at_builtin; refine zwpList_copyT rfl _ _ rfl rfl _ rfl ts ?q1 ?q2 ?_)
      case q1 => exact (unhide HLg).next (unhide HI).2.2
      case q2 => have := unhide Hfit; omega
      intro a1 c1 w2 ho1 hg1
      have hb1 := grown_none hg1
      have HI2 := hide (And.intro ((unhide HI).1.next hb1) (And.intro ((unhide HI).2.1.next hb1) (nnext (unhide HI).2.2 hb1)))
      have HO1 := hide (ho1.lower (C := w.heap.size) (unhide HI).2.2.size)
      clear ho1 hg1 hb1 HI e0
      have HN := hide (lone w2 ⟨a1, c1, ts⟩)
      have HAL := hide (allocB w2 (.cells #[.slice a1 ts.length c1] 27))
      have h4 : Hid (qs.length + 1 ≤ maxLen) := by unfold Hid; simp only [maxLen]; omega
      have h5 : Hid ((qs.length + 1) * 24 ≤ 140737488355328) := by unfold Hid; omega
      go_wp2_with (at_builtin; refine wpList_app1 rfl _ _ 35 rfl i0 _ 24 Try.underlying35 hi0 hz0 hz1 hz2 rfl (by decide) _ qs rfl w.heap.size ?r1 w2.heap.size rfl ⟨a1, c1, ts⟩ (unhide HN) (unhide h5) (unhide h4) ?r4 ?_)
      case r1 => exact (unhide HI2).1.next (unhide HAL)
      case r4 => have := (unhide HI2).2.2.size; omega
      intro a5 c5 w5 hown hgrow
      have HZ : Hid (OwnS w5 w.heap.size (.slice a5 (qs.length + 1) c5) (qs ++ [⟨a1, c1, ts⟩]) ∧ GOwn w5 w.heap.size (qs ++ [⟨a1, c1, ts⟩]) ∧ Below w.heap.size w w5) := by
        have k1 := (unhide HI2).1.next (unhide HAL)
        have k2 := nnext (unhide HI2).2.2 (unhide HAL)
        refine hide ⟨hown, fun q hq => ?_, k2.grown hgrow k2.size (fun g hg => k1.above g hg)⟩
        rcases List.mem_append.1 hq with hq | hq
        · exact GOwn.grown (GOwn.next (unhide HI2).2.1 (unhide HAL)) k1 hgrow q hq
        · obtain rfl := List.mem_singleton.1 hq
          exact ((unhide HO1).next (unhide HAL)).grown hgrow (((unhide HO1).next (unhide HAL)).apart k1 (by decide))
      have HMM : Hid ((qs ++ [(⟨a1, c1, ts⟩ : Lg)]).map (·.ts) = (ls.take (qs.length + 1)).map (·.ts)) := hide (by rw [unhide HT, List.map_append, unhide HM]; rfl)
      clear hown hgrow HI2 HO1 HN HAL h4 h5 HT HM
      go_wp2_with fail
      go_roundg (ls.length - (qs.length + 1))
      case measure => omega
      case rel => exact ⟨qs.length + 1, a5, c5, _, rfl, by simp, by omega, Nat.le_refl _, HMM, HZ⟩
    · obtain rfl : k = ls.length := by omega
      have hki : ¬ ((ls.length : Int) < (ls.length : Int)) := by omega
      have hM := unhide HM
      rw [List.take_length] at hM
      have HM2 := hide hM
      have hqn : qs.length = ls.length := by have := congrArg List.length hM; simpa using this
      have HQN := hide hqn
      have HI3 : Hid (SeqV wr (.slice a' ls.length c') qs ∧ GLogs wr qs ∧ Below w.heap.size w wr) := hide ⟨(unhide HI).1.seq, (unhide HI).2.1.logs, (unhide HI).2.2⟩
      have C1 := committed_any _ qs n wr (unhide HI3).1 (unhide HI3).2.1 (gfit_of hM (unhide HF)) (by rw [hM]; exact unhide HC)
      have HB0 := hide (unhide HI3).2.2
      clear hM hqn HI HI3 HM2 HQN HM
      go_wp2_with fail
      refine C1.mono ?_
      rintro e w1 ⟨rfl, hb1⟩
      have HB1 := hide (nnext (unhide HB0) hb1)
      clear hb1 C1
      have C2 := rcommitted_any _ ls n w1 ((unhide HV).next (unhide HB1)) ((unhide HL).next (unhide HB1)) (unhide HF) (unhide HC)
      go_wp2_with fail
      refine C2.mono ?_
      rintro e w2 ⟨rfl, hb2⟩
      have HB2 := hide (nnext (unhide HB1) hb2)
      clear hb2 C2
      go_wp2_with fail
      refine (zopened_any _).mono ?_
      rintro e w3 ⟨g1, rfl, l1, hb3⟩
      have HB3 := hide (nnext (unhide HB2) hb3)
      have HL1 := hide l1
      clear hb3 l1
      go_wp2_with fail
      refine (zopened_any _).mono ?_
      rintro e w4 ⟨g2, rfl, l2, hb4⟩
      have HB4 := hide (nnext (unhide HB3) hb4)
      have C5 := two_logs w4 g1 g2 ((unhide HL1).next hb4) l2
      clear hb4 l2 HL1
      go_wp2_with fail
      refine C5.mono ?_
      rintro e w5 ⟨rfl, hb5⟩
      have HB5 := hide (nnext (unhide HB4) hb5)
      clear hb5 C5
      go_wp2_with fail
      go_ret
      exact ⟨rfl, unhide HB5⟩
end Go.Proofs.Ytijpnmponjjejaa

namespace Go.Proofs.Ytijpnmponjjejaa
open Go.ChangeShapes Go.WideShapes Go.ChangeAt Go.RowKit Go.ChangeMaps

theorem zcellsStr : Try.prog.cellsOf 9 = 1 := by kernel_rfl
theorem zcellsInt : Try.prog.cellsOf 3 = 1 := by kernel_rfl
theorem zcellsTxn : Try.prog.cellsOf 47 = 7 := by kernel_rfl
theorem zcellsLog : Try.prog.cellsOf 27 = 1 := by kernel_rfl
theorem zbytesTxn : Try.prog.bytesOf 47 = 72 := by kernel_rfl
theorem zbytesLog : Try.prog.bytesOf 27 = 24 := by kernel_rfl
theorem zlaidOut : laidOutB Try.prog = true := by kernel_rfl
theorem zlist_of (s : ByteArray) : ∃ l : List UInt8, s = ⟨l.toArray⟩ := ⟨s.data.toList, rfl⟩

section
variable {H : Type} {enc : TypeId × Value → H} {W : World} {base : Nat} {spare : Nat → Bool} {held : Bool}
set_option maxRecDepth 10000 in
theorem zopen_txn {n : Nat} {cs : List Value} {x : DataW H × List MemPlace} (hl : cs.length = 7) (h : DataW.trod enc Try.prog W base spare held n 47 cs = some x) : ∃ t : WTxn, cs = tcells t ∧ t.z ≤ 9223372036854775807 := by
  match cs, hl with
  | [c0, c1, c2, c3, c4, c5, c6], _ =>
    obtain ⟨xs, n, _, hx, _, hlen, hfs⟩ := DataW.trod_struct Try.underlying47 h
    match xs, hlen with
    | [y0, y1, y2, y3, y4, y5, y6], _ =>
      obtain ⟨z, e0, rfl, w0⟩ := DataW.trod_int Try.underlying3 (show DataW.trod enc Try.prog W base spare held n 3 [c0] = some y0 by simpa [zcellsInt] using hfs 0 _ rfl)
      obtain ⟨o, e1, rfl, _⟩ := DataW.trod_int Try.underlying3 (show DataW.trod enc Try.prog W base spare held n 3 [c1] = some y1 by simpa [zcellsInt] using hfs 1 _ rfl)
      obtain ⟨s, e2, rfl, _⟩ := DataW.trod_int Try.underlying3 (show DataW.trod enc Try.prog W base spare held n 3 [c2] = some y2 by simpa [zcellsInt] using hfs 2 _ rfl)
      obtain ⟨p', e3, rfl, _⟩ := DataW.trod_string Try.underlying9 (show DataW.trod enc Try.prog W base spare held n 9 [c3] = some y3 by simpa [zcellsStr] using hfs 3 _ rfl)
      obtain ⟨d', e4, rfl, _⟩ := DataW.trod_string Try.underlying9 (show DataW.trod enc Try.prog W base spare held n 9 [c4] = some y4 by simpa [zcellsStr] using hfs 4 _ rfl)
      obtain ⟨v', e5, rfl, _⟩ := DataW.trod_int Try.underlying3 (show DataW.trod enc Try.prog W base spare held n 3 [c5] = some y5 by simpa [zcellsInt] using hfs 5 _ rfl)
      obtain ⟨u', e6, rfl, _⟩ := DataW.trod_int Try.underlying3 (show DataW.trod enc Try.prog W base spare held n 3 [c6] = some y6 by simpa [zcellsInt] using hfs 6 _ rfl)
      simp only [List.cons.injEq, and_true] at e0 e1 e2 e3 e4 e5 e6
      subst e0 e1 e2 e3 e4 e5 e6
      obtain ⟨pl, rfl⟩ := zlist_of p'
      obtain ⟨dl, rfl⟩ := zlist_of d'
      exact ⟨⟨z, o, s, pl, dl, v', u'⟩, rfl, (bounds_i64 w0).2⟩
theorem zweightsAll_mem {e : TypeId} : ∀ (l : List (DataW H)) (d : DataW H) (x : Nat), d ∈ l → x ∈ DataW.weights Try.prog e d → x ∈ DataW.weightsAll Try.prog e l
  | d' :: r, d, x, h, hx => by
    rw [DataW.weightsAll]
    rcases List.mem_cons.1 h with rfl | h
    · exact List.mem_append.2 (.inl hx)
    · exact List.mem_append.2 (.inr (zweightsAll_mem r d x h hx))
set_option maxRecDepth 10000 in
/-- a slice of elements that are laid in a row, and what is known of each -/
theorem open_seqP {α : Type} [Lay α] (al : α) {T E : TypeId} (hU : Try.prog.underlying T = some (.slice E)) (hk : Try.prog.cellsOf E = Lay.k α) (hk0 : 0 < Lay.k α) {bytes : Nat} (hby : Try.prog.bytesOf E = bytes) (P : α → Prop) (Q : Nat → α → Prop)
    (ho : ∀ {n : Nat} {cs : List Value} {x : DataW H × List MemPlace}, cs.length = Lay.k α → DataW.trod enc Try.prog W base spare held n E cs = some x → ∃ f : α, cs = Lay.cs f ∧ P f ∧ ∀ M, (∀ y ∈ DataW.weights Try.prog E x.1, y ≤ M) → Q M f)
    {fuel : Nat} {v : Value} {y : DataW H × List MemPlace} (h : DataW.trod enc Try.prog W base spare held fuel T [v] = some y) :
    ∃ xs : List α, SeqV W v xs ∧ (∀ x ∈ xs, P x) ∧ ∀ M, (∀ x ∈ DataW.weights Try.prog T y.1, x ≤ M) → xs.length * bytes ≤ M ∧ ∀ x ∈ xs, Q M x := by
  rcases Go.Deep.open_slice hU h with ⟨h1, hx⟩ | ⟨a, len, cap, m, k, D, Pl, h1, hb, hl, hm, hmm, hx, hel⟩
  · simp only [List.cons.injEq, and_true] at h1
    rw [h1]
    exact ⟨[], SeqV.nil W, by simp, fun M _ => ⟨by simp, by simp⟩⟩
  · simp only [List.cons.injEq, and_true] at h1
    rw [h1]
    subst hx
    have hlm : len ≤ m := by rw [hmm]; split <;> omega
    have each : ∀ i, i < len → ∃ f : α, (∀ c, c < Lay.k α → W.cell? (a.add (i * Lay.k α + c)) = (Lay.cs f)[c]?) ∧ P f ∧ ∀ M, (∀ y ∈ DataW.weights Try.prog E (D i), y ≤ M) → Q M f := by
      intro i hi
      obtain ⟨cs', g1, g2⟩ := hel i (by omega)
      rw [hk] at g1
      obtain ⟨_, hlen, hcell⟩ := World.cells?_some g1
      obtain ⟨f, rfl, hp, hq⟩ := ho hlen g2
      refine ⟨f, fun c hc => ?_, hp, hq⟩
      have := hcell c hc
      rwa [Go.Deep.add_add] at this
    have : Inhabited α := ⟨al⟩
    obtain ⟨F, hF⟩ := Go.Deep.choose_lt each
    refine ⟨(List.range len).map F, ?_, ?_, ?_⟩
    · by_cases h0 : len = 0
      · subst h0
        exact .inl ⟨some a, cap, rfl, rfl, hm⟩
      · have c0 := (hF 0 (by omega)).1 0 hk0
        obtain ⟨y, hy⟩ : ∃ y, (Lay.cs (F 0))[0]? = some y := ⟨_, List.getElem?_eq_getElem (by rw [Lay.len]; exact hk0)⟩
        rw [hy] at c0
        obtain ⟨b, off, sp⟩ := a
        have hsp : sp = none := by
          cases sp with
          | none => rfl
          | some s => simp [World.cell?, Addr.add] at c0; split at c0 <;> simp at c0
        subst hsp
        have hblt : b < W.heap.size := World.block_lt_of_cell? W _ (show W.cell? ((⟨b, off, none⟩ : Addr).add (0 * Lay.k α + 0)) = some _ from c0) |> fun h => by simpa [Addr.add] using h
        refine .inr ⟨b, off, cap, by simp, by simpa using hl, hm, hblt, by simp; omega, fun j u hj => ?_⟩
        have hjl : j < len * Lay.k α := by
          have := (List.getElem?_eq_some_iff.1 hj).1
          rw [cellsL_length, List.length_map, List.length_range] at this
          exact this
        have hi : j / Lay.k α < len := Nat.div_lt_of_lt_mul (by rw [Nat.mul_comm]; exact hjl)
        have hm' : j % Lay.k α < Lay.k α := Nat.mod_lt _ hk0
        have hdm : j / Lay.k α * Lay.k α + j % Lay.k α = j := by rw [Nat.mul_comm]; exact Nat.div_add_mod j _
        have hg := cellsL_get ((List.range len).map F) (j / Lay.k α) (F (j / Lay.k α)) (by rw [List.getElem?_map, List.getElem?_range hi]; rfl) (j % Lay.k α) hm'
        rw [hdm, hj] at hg
        have := (hF (j / Lay.k α) hi).1 (j % Lay.k α) hm'
        rw [hdm, Addr.add_lit, ← hg] at this
        exact this
    · intro x hx
      obtain ⟨i, hi, rfl⟩ := List.mem_map.1 hx
      exact (hF i (by simpa using hi)).2.1
    · intro M hM
      have hw' : DataW.weights Try.prog T (.slice ((List.range len).map D) ((List.range (m - len)).map fun j => D (len + j)) : DataW H) =
          (len + (m - len)) * bytes :: (DataW.weightsAll Try.prog E ((List.range len).map D) ++ DataW.weightsAll Try.prog E ((List.range (m - len)).map fun j => D (len + j))) := by
        simp [DataW.weights, hU, hby]
      rw [hw'] at hM
      refine ⟨?_, fun f hf => ?_⟩
      · have := hM _ (List.mem_cons_self ..)
        simp only [List.length_map, List.length_range]
        exact Nat.le_trans (Nat.mul_le_mul_right _ (by omega)) this
      · obtain ⟨i, hi, rfl⟩ := List.mem_map.1 hf
        have hi' : i < len := by simpa using hi
        exact (hF i hi').2.2 M fun x hx => hM x (List.mem_cons_of_mem _ (List.mem_append.2 (.inl (zweightsAll_mem _ (D i) x (List.mem_map.2 ⟨i, hi, rfl⟩) hx))))

/-- a log's value holds these; what is known of them -/
structure ZLog (W : World) (v : Value) (ts : List WTxn) : Prop where
  log : LogV W v ts
  z : ∀ t ∈ ts, t.z ≤ 9223372036854775807
theorem zopen_log {fuel : Nat} {v : Value} {y : DataW H × List MemPlace} (h : DataW.trod enc Try.prog W base spare held fuel 27 [v] = some y) :
    ∃ (a : Option Addr) (c : Nat) (ts : List WTxn), v = .slice a ts.length c ∧ ZLog W v ts ∧ ∀ M, (∀ x ∈ DataW.weights Try.prog 27 y.1, x ≤ M) → ts.length * 72 ≤ M := by
  obtain ⟨ts, h1, h2, h3⟩ := open_seqP (⟨0, 0, 0, [], [], 0, 0⟩ : WTxn) Try.underlying27 zcellsTxn (by decide) zbytesTxn (fun t => t.z ≤ 9223372036854775807) (fun _ _ => True) (fun hl h => by obtain ⟨t, e, hz⟩ := zopen_txn hl h; exact ⟨t, e, hz, fun _ _ => trivial⟩) h
  obtain ⟨a, c, e⟩ := log_slice (seq_log.1 h1)
  exact ⟨a, c, ts, e, ⟨seq_log.1 h1, h2⟩, fun M hM => (h3 M hM).1⟩
theorem zopen_lg {n : Nat} {cs : List Value} {x : DataW H × List MemPlace} (hl : cs.length = 1) (h : DataW.trod enc Try.prog W base spare held n 27 cs = some x) :
    ∃ l : Lg, cs = [lgV l] ∧ ZLog W (lgV l) l.ts ∧ ∀ M, (∀ y ∈ DataW.weights Try.prog 27 x.1, y ≤ M) → l.ts.length * 72 ≤ M := by
  match cs, hl with
  | [c0], _ =>
    obtain ⟨a, c, ts, rfl, hL, hM⟩ := zopen_log h
    exact ⟨⟨a, c, ts⟩, rfl, hL, hM⟩
theorem open_logs {r : Reach} {b0 : Nat} {v : Value} {d : DataW H} {p : List MemPlace} (hv : Value.okWide Try.prog W r b0 35 v) (h : DataW.Trod enc Try.prog W base spare held 35 v d p) :
    ∃ ls : List Lg, SeqV W v ls ∧ (∀ x ∈ ls, ZLog W (lgV x) x.ts) ∧ ∀ M, (∀ y ∈ DataW.weights Try.prog 35 d, y ≤ M) → ls.length * 24 ≤ M ∧ ∀ x ∈ ls, x.ts.length * 72 ≤ M := by
  obtain ⟨fuel, hf⟩ := h
  obtain ⟨sa, sl, sc, rfl⟩ := okWide_slice Try.underlying35 hv
  exact open_seqP (⟨none, 0, []⟩ : Lg) Try.underlying35 zcellsLog (by decide) zbytesLog (fun x => ZLog W (lgV x) x.ts) (fun M x => x.ts.length * 72 ≤ M) zopen_lg (show DataW.trod enc Try.prog W base spare held fuel 35 [.slice sa sl sc] = some (d, p) by simpa [Value.cells] using hf)
theorem zsized {ts : List TypeId} {ds : List (DataW H)} (h : (DataW.weightsEach Try.prog ts ds).all (· ≤ reachBytes) = true) {j : Nat} {T : TypeId} {d : DataW H} (ht : ts[j]? = some T) (hd : ds[j]? = some d) : ∀ x ∈ DataW.weights Try.prog T d, x ≤ 140737488351232 := by
  intro x hx
  have e : reachBytes = 140737488351232 := by decide
  have h1 := List.all_eq_true.1 h _ (DataW.weights_mem_each ht hd x hx)
  rw [e] at h1
  simpa using h1
end
end Go.Proofs.Ytijpnmponjjejaa
