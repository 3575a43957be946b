/-
  zab.holders: the walk.
  What wal.Last and wal.follows answer: the walks.
  cmp.Compare, cmp.Or at two numbers, zab.compare: the walks.
  Who leads, as plain arithmetic over keys (an id, an epoch, a last number); no program is named here.
  What zxid.Good answers, for every number: the walk.
  What zxid's functions on numbers answer, for every number: the walks.
  zab.admitted, newest, leading: the walks.
  zab.admitted: the walk.
  zab.newest, zab.leading: the walks.
  zab.Quorum, zab.Elect, aviarykeep.elects: the walks.
-/
import Derived.Test.YtijpnmponjjejaaZMA
import Derived.OwnWalk
import Derived.Lib.MinMax
import Derived.Deep.QuietTactic
import Derived.Deep.CutRange
import Derived.Deep.Cut
import Derived.Test.YtijpnmponjjejaaRows
import Derived.WalkSpells
import Derived.WalkLawsBesides
import Derived.Deep.RegionHeld3
import Derived.Deep.RegionLaw
import Derived.BigQuiet
import Derived.WalkKit
namespace Go.Proofs.Ytijpnmponjjejaa
open Go.RowKit

theorem iinfo0 : (Try.prog.info? 3).map (fun i => (i.zero, i.size, i.bytes)) = some (some (.int .i64 0), 1, 8) := by kernel_rfl
theorem iinfo : ∃ i0, Try.prog.info? 3 = some i0 ∧ i0.zero = some (.int .i64 0) ∧ i0.size = 1 ∧ i0.bytes = 8 := by
  obtain ⟨i0, h, e⟩ := Option.map_eq_some_iff.1 iinfo0
  simp only [Prod.mk.injEq] at e
  exact ⟨i0, h, e⟩
theorem cellsI_map (xs : List Int) : cellsL xs = xs.map (fun x => Value.int .i64 x) := by
  induction xs with
  | nil => rfl
  | cons x r ih => rw [cellsL_cons, ih]; rfl
theorem zeros_new {W : World} {D n : Nat} (h : W.ownsRow D 3 1 (.slice (some ⟨D, 0, none⟩) n n) n (madeCells #[Value.int .i64 0] n).toList) : OwnR W D n (List.replicate n (0 : Int)) := by
  have e : (madeCells #[Value.int .i64 0] n).toList = cellsL (List.replicate n (0 : Int)) := by
    rw [cellsI_map]
    apply List.ext_getElem
    · simp [madeCells]
    · intro i h1 h2
      simp [madeCells, Nat.mod_one]
  rw [e] at h
  have h2 : OwnS W D (.slice (some ⟨D, 0, none⟩) n n) (List.replicate n (0 : Int)) := OwnS.of_row (by rw [List.length_replicate]; exact h)
  rcases h2 with ⟨h3, _⟩ | ⟨g, cap, h3, _, h4⟩
  · simp at h3
  · simp only [Value.slice.injEq, Option.some.injEq, Addr.mk.injEq, and_true] at h3
    obtain ⟨rfl, _, rfl⟩ := h3
    exact h4
theorem OwnR.drewN {α : Type} [Lay α] {W : World} {g cap n : Nat} {xs : List α} (h : OwnR W g cap xs) : OwnR (W.drewN n) g cap xs := h
/-- the counts over the one list of logs up to a place, over the other from there on -/
def mixC (A B : List (List WTxn)) (l : List WTxn) (i : Nat) : List Int := (cnts B l).take i ++ (cnts A l).drop i
theorem mixC_zero (A B : List (List WTxn)) (l : List WTxn) : mixC A B l 0 = cnts A l := by simp [mixC]
theorem mixC_get (A B : List (List WTxn)) {l : List WTxn} {i : Nat} {t : WTxn} (h : l[i]? = some t) : (mixC A B l i)[i]? = some (cntN A i t : Int) := by
  have hi := (List.getElem?_eq_some_iff.1 h).1
  have hl : ((cnts B l).take i).length = i := by rw [List.length_take, cnts_len]; omega
  unfold mixC
  rw [List.getElem?_append_right (by omega), hl, Nat.sub_self, List.getElem?_drop]
  exact cnts_get A h
theorem mixC_parts (A B : List (List WTxn)) {l : List WTxn} {i : Nat} {t : WTxn} (h : l[i]? = some t) :
    mixC A B l i = (cnts B l).take i ++ (cntN A i t : Int) :: (cnts A l).drop (i + 1) ∧ mixC A B l (i + 1) = (cnts B l).take i ++ (cntN B i t : Int) :: (cnts A l).drop (i + 1) := by
  have hi := (List.getElem?_eq_some_iff.1 h).1
  constructor
  · unfold mixC
    have hA := cnts_get A h
    obtain ⟨hk, e⟩ := List.getElem?_eq_some_iff.1 hA
    rw [List.drop_eq_getElem_cons hk, e]
  · unfold mixC
    have hB := cnts_get B h
    obtain ⟨hk, e⟩ := List.getElem?_eq_some_iff.1 hB
    rw [List.take_succ_eq_append_getElem hk, e, List.append_assoc]
    rfl
theorem mixC_step (A : List (List WTxn)) (m : List WTxn) {l : List WTxn} {i : Nat} {t x : WTxn} (h : l[i]? = some t) (hx : m[i]? = some x) :
    (eqX x t = true → ∀ (W : World) (g cap : Nat), OwnR W g cap (mixC A (A ++ [m]) l i) → OwnR (W.setCell ⟨g, i, none⟩ (.int .i64 ((cntN A i t : Int) + 1))) g cap (mixC A (A ++ [m]) l (i + 1))) ∧
    (eqX x t = false → mixC A (A ++ [m]) l i = mixC A (A ++ [m]) l (i + 1)) := by
  have hi := (List.getElem?_eq_some_iff.1 h).1
  obtain ⟨p1, p2⟩ := mixC_parts A (A ++ [m]) h
  have hl : ((cnts (A ++ [m]) l).take i).length = i := by rw [List.length_take, cnts_len]; omega
  rw [p1, p2, cntN_snoc, atB_at hx]
  constructor
  · intro e W g cap ho
    rw [e]
    have := ho.set (c := 0) (y := (cntN A i t : Int) + 1) (v := .int .i64 ((cntN A i t : Int) + 1)) (by decide) rfl
    rw [hl] at this
    simpa [Lay.k] using this
  · intro e
    rw [e]
    simp
theorem mixC_end (A : List (List WTxn)) (m l : List WTxn) (M : Nat) (h : l.length ≤ M ∨ m.length ≤ M) (hM : M ≤ l.length) : mixC A (A ++ [m]) l M = cnts (A ++ [m]) l := by
  apply List.ext_getElem?
  intro j
  have hl : ((cnts (A ++ [m]) l).take M).length = M := by rw [List.length_take, cnts_len]; omega
  unfold mixC
  by_cases hj : j < M
  · rw [List.getElem?_append_left (by omega), List.getElem?_take_of_lt hj]
  · rw [List.getElem?_append_right (by omega), hl, List.getElem?_drop, show M + (j - M) = j by omega]
    by_cases hjl : j < l.length
    · obtain ⟨t, ht⟩ : ∃ t, l[j]? = some t := ⟨_, List.getElem?_eq_getElem hjl⟩
      rw [cnts_get A ht, cnts_get (A ++ [m]) ht, cntN_snoc, atB_no (by omega)]
      simp
    · rw [List.getElem?_eq_none (by rw [cnts_len]; omega), List.getElem?_eq_none (by rw [cnts_len]; omega)]
structure GFit (ls : List Lg) : Prop where
  len : ls.length * 24 ≤ 140737488355328
  each : ∀ p ∈ ls, p.ts.length * 72 ≤ 140737488351232

set_option maxRecDepth 10000 in
set_option maxHeartbeats 4000000 in
theorem holders_some (b0 off cap : Nat) (l0 : Lg) (r : List Lg) (w : World) (hv : SeqV w (.slice (some ⟨b0, off, none⟩) (l0 :: r).length cap) (l0 :: r)) (hL : GLogs w (l0 :: r)) (hF : GFit (l0 :: r)) :
    Calls Try.prog 34 #[.slice (some ⟨b0, off, none⟩) (l0 :: r).length cap] w fun e w' => ∃ g, e = .returned (.slice (some ⟨g, 0, none⟩) l0.ts.length l0.ts.length) ∧ OwnR w' g l0.ts.length (cnts ((l0 :: r).map (·.ts)) l0.ts) ∧ w.heap.size ≤ g ∧ Below w.heap.size w w' := by
  obtain ⟨i0, hi0, hz0, hz1, hz2⟩ := iinfo
  have HV := hide hv
  have HL := hide hL
  have HF := hide hF
  have hl0 : l0.ts.length * 72 ≤ 140737488351232 := hF.each l0 (by simp)
  have hnl : (l0 :: r).length * 24 ≤ 140737488355328 := hF.len
  have HL0 := hide (show LogV w (.slice l0.a l0.ts.length l0.c) l0.ts from hL l0 (by simp))
  have HROW : Hid (∀ W, Below w.heap.size w W → W.cell? ⟨b0, off, none⟩ = some (.slice l0.a l0.ts.length l0.c)) := hide (fun W hW => by
    obtain ⟨b', off', cap', he', hb', q', _⟩ := row_of (hv.next hW) (i := 0) (x := l0) rfl
    simp only [Value.slice.injEq, Option.some.injEq, Addr.mk.injEq, and_true, true_and] at he'
    obtain ⟨⟨rfl, rfl⟩, _⟩ := he'
    have := q'.lg0 (i := 0) (x := l0) rfl
    simpa using this)
  obtain ⟨ls, hls⟩ : ∃ ls, ls = l0 :: r := ⟨_, rfl⟩
  rw [← hls] at HV HL HF hnl ⊢
  have h0n : 0 < ls.length := by rw [hls]; simp
  obtain ⟨tss, htss⟩ : ∃ tss, tss = ls.map (·.ts) := ⟨_, rfl⟩
  rw [← htss]
  have HTS := hide htss
  have htl : tss.length = ls.length := by rw [htss]; simp
  have HTL := hide htl
  clear hv hL hF hls htss htl
  obtain ⟨la, lc, l⟩ := l0
  simp only at *
  have f0 := unhide HROW w (Below.refl _ _)
  have h0i : (0 : Int) < (ls.length : Int) := by omega
  have hne : ¬ ((ls.length : Int) = 0) := by omega
  go_enter Try.func34, Try.ntmps34
  go_wp2_with (at_make; refine wpList_make_full _ rfl _ _ 52 rfl w.heap.size 3 i0 _ 1 Try.underlying52 hi0 hz0 hz1 .i64 .i64 _ _ l.length rfl rfl rfl rfl (by rw [hz2]; omega) (by simp only [maxLen]; omega) (Nat.le_refl _) ?_)
  intro w2 hown hgrow
  obtain ⟨g, hge⟩ : ∃ g, w.heap.size = g := ⟨_, rfl⟩
  rw [hge] at hown
  have HG0 : Hid (w.heap.size ≤ g) := hide (by omega)
  have HO0 : Hid (OwnR w2 g l.length (cnts (tss.take 0) l)) := hide (by rw [List.take_zero, cnts_nil]; exact zeros_new (by simpa using hown))
  have HB0 := hide (grown_none hgrow)
  rw [hge]
  clear hown hgrow hge f0 hi0 hz0 hz1 hz2
  go_wp2_with fail
  go_loopg [17] ls.length (fun kx s17 wr => ∃ k : Nat, s17 = .int .i64 k ∧ k ≤ ls.length ∧ ls.length - k ≤ kx ∧ Hid (OwnR wr g l.length (cnts (tss.take k) l)) ∧ Hid (Below w.heap.size w wr))
  case atStart => exact ⟨0, rfl, Nat.zero_le _, Nat.le_refl _, HO0, HB0⟩
  case round =>
    obtain ⟨k, rfl, hk, hgk, HO, HB⟩ := hrel
    by_cases hlt : k < ls.length
    · obtain ⟨m, hm⟩ : ∃ m, ls[k]? = some m := ⟨_, List.getElem?_eq_getElem hlt⟩
      obtain ⟨b', off', cap', he', hb', q', _⟩ := row_of ((unhide HV).next (unhide HB)) hm
      simp only [Value.slice.injEq, Option.some.injEq, Addr.mk.injEq, and_true, true_and] at he'
      obtain ⟨⟨rfl, rfl⟩, rfl⟩ := he'
      have d0 := q'.lg0 hm
      have hkk : (k : Int) < (ls.length : Int) := by omega
      have HLm := hide (unhide HL m (List.mem_of_getElem? hm))
      have hml := (unhide HF).each m (List.mem_of_getElem? hm)
      have HTk : Hid (tss.take (k + 1) = tss.take k ++ [m.ts]) := hide (by
        have : tss[k]? = some m.ts := by rw [unhide HTS, List.getElem?_map, hm]; rfl
        rw [List.take_succ_eq_append_getElem (List.getElem?_eq_some_iff.1 this).1, (List.getElem?_eq_some_iff.1 this).2])
      have htl := unhide HTL
      have HTLe : Hid (tss.length = ls.length) := hide htl
      clear q' hm hb' htl
      go_wp2_with fail
      go_loopg [26] (min m.ts.length l.length) (fun kx s26 wr => ∃ i : Nat, s26 = .int .i64 i ∧ i ≤ (min m.ts.length l.length) ∧ (min m.ts.length l.length) - i ≤ kx ∧ Hid (OwnR wr g l.length (mixC (tss.take k) (tss.take (k + 1)) l i)) ∧ Hid (Below w.heap.size w wr))
      case atStart => exact ⟨0, rfl, Nat.zero_le _, Nat.le_refl _, hide (by rw [mixC_zero]; exact unhide HO), HB⟩
      case round =>
        obtain ⟨i, rfl, hi, hgi, HOi, HBi⟩ := hrel
        by_cases hlt2 : i < (min m.ts.length l.length)
        · obtain ⟨x, hx⟩ : ∃ x, m.ts[i]? = some x := ⟨_, List.getElem?_eq_getElem (by omega)⟩
          obtain ⟨t, ht⟩ : ∃ t, l[i]? = some t := ⟨_, List.getElem?_eq_getElem (by omega)⟩
          obtain ⟨b1, o1, c1, he1, hb1, q1, _⟩ := log_row ((unhide HLm).next (unhide HBi)) hx
          simp only [lgV, Value.slice.injEq] at he1
          obtain ⟨hma, _, hmc⟩ := he1
          obtain ⟨b2, o2, c2, he2, hb2, q2, _⟩ := log_row ((unhide HL0).next (unhide HBi)) ht
          simp only [Value.slice.injEq] at he2
          obtain ⟨rfl, _, rfl⟩ := he2
          have x0 := q1.z hx
          have x1 := q1.o hx
          have x2 := q1.s hx
          have x3 := q1.p hx
          have x4 := q1.d hx
          have x5 := q1.v hx
          have x6 := q1.w hx
          have t0 := q2.z ht
          have t1 := q2.o ht
          have t2 := q2.s ht
          have t3 := q2.p ht
          have t4 := q2.d ht
          have t5 := q2.v ht
          have t6 := q2.w ht
          have f0 := unhide HROW wr (unhide HBi)
          have qe := run_eqX x t
          have hii : (i : Int) < (m.ts.length : Int) := by omega
          have hil : (i : Int) < (l.length : Int) := by omega
          have hiM : (i : Int) < min (m.ts.length : Int) (l.length : Int) := by omega
          have him : i < m.ts.length := by omega
          have hin : i < l.length := by omega
          have HSt := hide (mixC_step (tss.take k) m.ts ht hx)
          have HG := hide (mixC_get (tss.take k) (tss.take (k + 1)) ht)
          have hcle := Nat.le_trans (cntN_le (tss.take k) i t) (show (tss.take k).length ≤ tss.length by simp; omega)
          rw [← unhide HTk] at HSt
          have hg2 : wr.cell? ⟨g, i, none⟩ = some (.int .i64 (cntN (tss.take k) i t)) := by simpa using (unhide HOi).row.i0 (unhide HG)
          have hgf := (unhide HOi).frozen i
          clear q1 q2 hx ht hb1 hb2 HG
          rw [hma, hmc] at d0
          simp only [txnV] at qe
          cases hxt : eqX x t
          · rw [hxt] at qe
            have HO2 : Hid (OwnR wr g l.length (mixC (tss.take k) (tss.take (k + 1)) l (i + 1))) := hide (by
              have := unhide HSt
              rw [hxt] at this
              rw [← this.2 rfl]; exact unhide HOi)
            clear hxt HSt
            go_wp2_with fail
            go_quiet (fail)
            go_wp2_with fail
            go_roundg ((min m.ts.length l.length) - (i + 1))
            case measure => omega
            case rel => exact ⟨i + 1, rfl, by omega, Nat.le_refl _, hide (OwnR.drewN (unhide HO2)), hide (belowN (unhide HBi))⟩
          · rw [hxt] at qe
            have HO2 : Hid (∀ n, OwnR ((wr.drewN n).setCell ⟨g, i, none⟩ (.int .i64 ((cntN (tss.take k) i t : Int) + 1))) g l.length (mixC (tss.take k) (tss.take (k + 1)) l (i + 1))) := hide (fun n => by
              have := unhide HSt
              rw [hxt] at this
              exact this.1 rfl (wr.drewN n) g l.length (OwnR.drewN (unhide HOi)))
            have hCw : (cntN (tss.take k) i t : Int) + 1 ≤ 9223372036854775807 := by have := unhide HTLe; omega
            clear hxt HSt
            go_wp2_with fail
            go_quiet (fail)
            go_wp2_with fail
            go_roundg ((min m.ts.length l.length) - (i + 1))
            case measure => omega
            case rel => exact ⟨i + 1, rfl, by omega, Nat.le_refl _, hide (unhide HO2 _), hide ((belowN (unhide HBi)).setCell (unhide HG0) _)⟩
        · obtain rfl : i = (min m.ts.length l.length) := by omega
          have hiM : ¬ ((((min m.ts.length l.length) : Nat) : Int) < min (m.ts.length : Int) (l.length : Int)) := by omega
          have HO2 : Hid (OwnR wr g l.length (cnts (tss.take (k + 1)) l)) := hide (by
            have := unhide HOi
            rw [unhide HTk] at this ⊢
            rwa [mixC_end _ _ _ _ (by omega) (by omega)] at this)
          go_wp2_with fail
          go_roundg (ls.length - (k + 1))
          case measure => omega
          case rel => exact ⟨k + 1, rfl, by omega, Nat.le_refl _, HO2, HBi⟩
    · obtain rfl : k = ls.length := by omega
      have hki : ¬ ((ls.length : Int) < (ls.length : Int)) := by omega
      have HO3 : Hid (OwnR wr g l.length (cnts tss l)) := hide (by
        have := unhide HO
        rwa [← unhide HTL, List.take_length] at this)
      go_wp2_with fail
      go_ret
      exact ⟨g, rfl, unhide HO3, unhide HG0, unhide HB⟩
end Go.Proofs.Ytijpnmponjjejaa

namespace Go.Proofs.Ytijpnmponjjejaa
open Go.RowKit
set_option maxRecDepth 10000 in
set_option maxHeartbeats 400000 in
theorem last_any (v : Value) (ts : List WTxn) (w : World) (hv : LogV w v ts) :
    Calls Try.prog 20 #[v] w fun e w' => e = .returned (.int .i64 (lastZ ts)) ∧ w' = w := by
  by_cases h0 : ts.length = 0
  · obtain ⟨a, c, rfl⟩ := log_slice hv
    obtain rfl := List.length_eq_zero_iff.1 h0
    clear hv h0
    rw [lastZ_nil]
    go_enter Try.func20, Try.ntmps20
    go_wp2_with fail
    go_ret
    exact ⟨rfl, rfl⟩
  · obtain ⟨m, x, rfl⟩ := snoc_of h0
    have hi : (m ++ [x])[m.length]? = some x := by simp
    obtain ⟨b, off, cap, rfl, hb, hr, hlt, hc, hm⟩ := log_row hv hi
    have e := hr.z hi
    have hl : (m ++ [x]).length = m.length + 1 := by simp
    rw [lastZ_snoc, hl]
    simp only [maxLen] at hm
    rw [hl] at hc
    have hM : m.length < 9223372036854775807 := by omega
    clear hv h0 hr hi hl hlt hc hm
    generalize m.length = k at *
    go_enter Try.func20, Try.ntmps20
    go_wp2_with fail
    go_ret
    exact ⟨rfl, rfl⟩

end Go.Proofs.Ytijpnmponjjejaa

namespace Go.Proofs.Ytijpnmponjjejaa
open Go.RowKit

def cmpI (x y : Int) : Int := if x < y then -1 else if y < x then 1 else 0
set_option maxRecDepth 10000 in
theorem nan_any (x : Int) (w : World) : Calls Try.prog 45 #[.int .i64 x] w fun e w' => e = .returned (.bool false) ∧ w' = w := by
  go_enter Try.func45, Try.ntmps45
  go_wp2_with fail
  go_ret
  exact ⟨rfl, rfl⟩
set_option maxRecDepth 10000 in
set_option maxHeartbeats 1000000 in
theorem cmp_any (x y : Int) (w : World) : Calls Try.prog 44 #[.int .i64 x, .int .i64 y] w fun e w' => e = .returned (.int .i64 (cmpI x y)) ∧ w' = w := by
  by_cases h : x < y
  · have e : cmpI x y = -1 := by simp [cmpI, h]
    rw [e]
    clear e
    go_enter Try.func44, Try.ntmps44
    go_wp2_with fail
    refine (nan_any _ _).mono ?_
    rintro e w1 ⟨rfl, rfl⟩
    go_wp2_with fail
    refine (nan_any _ _).mono ?_
    rintro e w1 ⟨rfl, rfl⟩
    go_wp2_with fail
    go_ret
    exact ⟨rfl, rfl⟩
  · by_cases h2 : y < x
    · have e : cmpI x y = 1 := by simp [cmpI, h, h2]
      rw [e]
      clear e
      go_enter Try.func44, Try.ntmps44
      go_wp2_with fail
      refine (nan_any _ _).mono ?_
      rintro e w1 ⟨rfl, rfl⟩
      go_wp2_with fail
      refine (nan_any _ _).mono ?_
      rintro e w1 ⟨rfl, rfl⟩
      go_wp2_with fail
      go_ret
      exact ⟨rfl, rfl⟩
    · have e : cmpI x y = 0 := by simp [cmpI, h, h2]
      rw [e]
      clear e
      go_enter Try.func44, Try.ntmps44
      go_wp2_with fail
      refine (nan_any _ _).mono ?_
      rintro e w1 ⟨rfl, rfl⟩
      go_wp2_with fail
      refine (nan_any _ _).mono ?_
      rintro e w1 ⟨rfl, rfl⟩
      go_wp2_with fail
      go_ret
      exact ⟨rfl, rfl⟩
def orI (x y : Int) : Int := if x = 0 then y else x
set_option maxRecDepth 10000 in
set_option maxHeartbeats 1000000 in
theorem or_any (g : Nat) (x y : Int) (w : World) (h0 : w.cell? ⟨g, 0, none⟩ = some (.int .i64 x)) (h1 : w.cell? ⟨g, 1, none⟩ = some (.int .i64 y)) :
    Calls Try.prog 43 #[.slice (some ⟨g, 0, none⟩) 2 2] w fun e w' => e = .returned (.int .i64 (orI x y)) ∧ w' = w := by
  go_enter Try.func43, Try.ntmps43
  go_wp2_with fail
  go_loopg [8] 2 (fun kx s8 wr => ∃ k : Nat, s8 = .int .i64 k ∧ k ≤ 2 ∧ 2 - k ≤ kx ∧ wr = w ∧ (k = 0 ∨ k = 1 ∧ x = 0 ∨ k = 2 ∧ x = 0 ∧ y = 0))
  case atStart => exact ⟨0, rfl, by omega, by omega, rfl, .inl rfl⟩
  case round =>
    obtain ⟨k, rfl, hk, hkx, rfl, h⟩ := hrel
    rcases h with rfl | ⟨rfl, hx⟩ | ⟨rfl, hx, hy⟩
    · by_cases hx : x = 0
      · go_wp2_with fail
        go_roundg 1
        case measure => omega
        case rel => exact ⟨1, rfl, by omega, by omega, rfl, .inr (.inl ⟨rfl, hx⟩)⟩
      · have e : orI x y = x := by simp [orI, hx]
        have HE := hide e
        clear e
        go_wp2_with fail
        go_ret
        rw [unhide HE]
        exact ⟨rfl, rfl⟩
    · by_cases hy : y = 0
      · go_wp2_with fail
        go_roundg 0
        case measure => omega
        case rel => exact ⟨2, rfl, by omega, by omega, rfl, .inr (.inr ⟨rfl, hx, hy⟩)⟩
      · have e : orI x y = y := by simp [orI, hx]
        have HE := hide e
        clear e
        go_wp2_with fail
        go_ret
        rw [unhide HE]
        exact ⟨rfl, rfl⟩
    · have e : orI x y = 0 := by simp [orI, hx, hy]
      have HE := hide e
      clear e
      go_wp2_with fail
      go_ret
      rw [unhide HE]
      exact ⟨rfl, rfl⟩

set_option maxRecDepth 10000 in
set_option maxHeartbeats 4000000 in
theorem compare_any (p q : Pe) (w : World) (hp : LogV w p.log p.ts) (hq : LogV w q.log q.ts) :
    Calls Try.prog 39 #[peV p, peV q] w fun e w' => e = .returned (.int .i64 (orI (cmpI (lastZ p.ts) (lastZ q.ts)) (cmpI p.id q.id))) ∧ Below w.heap.size w w' := by
  obtain ⟨W0, hW0⟩ : ∃ W0, W0 = (w.alloc (.cells #[.int .i64 p.id, .int .i64 p.ep, .slice p.a p.ts.length p.c, .int .i64 p.dn] 29)).alloc (.cells #[.int .i64 q.id, .int .i64 q.ep, .slice q.a q.ts.length q.c, .int .i64 q.dn] 29) := ⟨_, rfl⟩
  have B0 : Below w.heap.size w W0 := by rw [hW0]; exact nnext (allocB _ _) (allocB _ _)
  have P0 : PBox W0 w.heap.size p := by rw [hW0]; exact (PBox.new w p).next (allocB _ _)
  have Q0 : PBox W0 (w.heap.size + 1) q := by
    rw [hW0]
    have := PBox.new (w.alloc (.cells #[.int .i64 p.id, .int .i64 p.ep, .slice p.a p.ts.length p.c, .int .i64 p.dn] 29)) q
    simpa using this
  have CP := hide (fun W (h : W = W0.drew) => last_any p.log p.ts W (by rw [h]; exact (hp.next B0).drew))
  have CQ := hide (fun W (h : W = W0.drew) => last_any q.log q.ts W (by rw [h]; exact (hq.next B0).drew))
  have p0 := P0.c0
  have p2 := P0.c2
  have q0 := Q0.c0
  have q2 := Q0.c2
  have HB := hide B0
  have hlt := Q0.lt
  clear B0 P0 Q0 hp hq
  obtain ⟨i, ep, a, c, ts, dn⟩ := p
  obtain ⟨j, eq, b, d, us, dm⟩ := q
  simp only [Pe.log] at *
  unfold peV
  simp only
  generalize lastZ ts = z at *
  generalize lastZ us = y at *
  go_enter Try.func39, Try.ntmps39
  go_upto_region 1 with fail
  rw [← hW0]
  clear hW0
  have KO : Hid (∀ x y : Int, (W0.alloc (.cells #[.int .i64 x, .int .i64 y] 3)).drew.cell? ⟨W0.heap.size, 0, none⟩ = some (.int .i64 x) ∧ (W0.alloc (.cells #[.int .i64 x, .int .i64 y] 3)).drew.cell? ⟨W0.heap.size, 1, none⟩ = some (.int .i64 y)) := hide (fun x y => by
    have h := heap_alloc_new W0 (.cells #[.int .i64 x, .int .i64 y] 3)
    show (W0.alloc (.cells #[.int .i64 x, .int .i64 y] 3)).cell? ⟨W0.heap.size, 0, none⟩ = some (.int .i64 x) ∧ (W0.alloc (.cells #[.int .i64 x, .int .i64 y] 3)).cell? ⟨W0.heap.size, 1, none⟩ = some (.int .i64 y)
    unfold World.cell?
    rw [h]
    exact ⟨rfl, rfl⟩)
  have HBO : Hid (∀ o : Obj, Below w.heap.size w (W0.alloc o).drew) := hide (fun o => (nnext (unhide HB) (allocB _ _)).drew)
  have K : Hid (∀ W, W = W0.drew → W.cell? ⟨w.heap.size, 0, none⟩ = some (.int .i64 i) ∧ W.cell? ⟨w.heap.size, 2, none⟩ = some (.slice a ts.length c) ∧ W.cell? ⟨w.heap.size + 1, 0, none⟩ = some (.int .i64 j) ∧ W.cell? ⟨w.heap.size + 1, 2, none⟩ = some (.slice b us.length d)) := hide (fun W h => by rw [h]; exact ⟨p0, p2, q0, q2⟩)
  have KA : Hid (∀ o : Obj, (W0.alloc o).drew.cell? ⟨w.heap.size, 0, none⟩ = some (.int .i64 i) ∧ (W0.alloc o).drew.cell? ⟨w.heap.size, 2, none⟩ = some (.slice a ts.length c) ∧ (W0.alloc o).drew.cell? ⟨w.heap.size + 1, 0, none⟩ = some (.int .i64 j) ∧ (W0.alloc o).drew.cell? ⟨w.heap.size + 1, 2, none⟩ = some (.slice b us.length d)) := hide (fun o => by
    have h : Below W0.heap.size W0 (W0.alloc o).drew := (allocB W0 o).drew
    exact ⟨(h.cell (p := ⟨w.heap.size, 0, none⟩) (by simp only; omega)).trans p0, (h.cell (p := ⟨w.heap.size, 2, none⟩) (by simp only; omega)).trans p2, (h.cell (p := ⟨w.heap.size + 1, 0, none⟩) (by simp only; omega)).trans q0, (h.cell (p := ⟨w.heap.size + 1, 2, none⟩) (by simp only; omega)).trans q2⟩)
  have KZ := hide (And.intro p0 (And.intro p2 (And.intro q0 q2)))
  go_region_held3 (fun w' => w'.cell? ⟨w.heap.size, 0, none⟩ = some (.int .i64 i) ∧ w'.cell? ⟨w.heap.size, 2, none⟩ = some (.slice a ts.length c) ∧ w'.cell? ⟨w.heap.size + 1, 0, none⟩ = some (.int .i64 j) ∧ w'.cell? ⟨w.heap.size + 1, 2, none⟩ = some (.slice b us.length d)) (first | with_reducible exact unhide KZ | with_reducible exact unhide K _ rfl | with_reducible exact unhide KA _) (first
    | (go_at_call 20; first | (with_reducible refine (unhide CP _ rfl).mono ?_; rintro e w1 ⟨rfl, rfl⟩) | (with_reducible refine (unhide CQ _ rfl).mono ?_; rintro e w1 ⟨rfl, rfl⟩))
    | (go_at_call 44; refine (cmp_any _ _ _).mono ?_; rintro e w1 ⟨rfl, rfl⟩)
    | (go_at_call 43; refine (or_any _ _ _ _ (unhide KO _ _).1 (unhide KO _ _).2).mono ?_; rintro e w1 ⟨rfl, rfl⟩))
  all_goals go_wp2_with fail
  all_goals go_ret
  all_goals exact ⟨rfl, unhide HBO _⟩
end Go.Proofs.Ytijpnmponjjejaa

namespace Go.Proofs.Ytijpnmponjjejaa
open Go.RowKit

abbrev Key := Int × Int × Int
def errP (pre : List Key) (k : Key) : Int :=
  if pre.any (fun q => q.1 == k.1) = true then 8 else if k.1 < 0 ∨ 3 ≤ k.1 then 3 else if k.2.1 < 0 ∨ 2147483647 < k.2.1 then 3 else 0
/-- what is wrong with the first that something is wrong with -/
def Adm (ks : List Key) (E : Int) : Prop :=
  (E = 0 ∧ ∀ i k, ks[i]? = some k → errP (ks.take i) k = 0) ∨
  (E ≠ 0 ∧ ∃ n k, ks[n]? = some k ∧ errP (ks.take n) k = E ∧ ∀ i q, i < n → ks[i]? = some q → errP (ks.take i) q = 0)
theorem adm_at {ks : List Key} {E : Int} (h : Adm ks E) {n : Nat} (hn : ∀ i q, i < n → ks[i]? = some q → errP (ks.take i) q = 0) {x : Key} (hx : ks[n]? = some x) (he : errP (ks.take n) x ≠ 0) : E = errP (ks.take n) x := by
  rcases h with ⟨_, h⟩ | ⟨h0, m, k, hk, e, h⟩
  · exact absurd (h n x hx) he
  · rcases Nat.lt_trichotomy m n with hl | hl | hl
    · exact absurd ((hn m k hl hk).symm.trans e).symm h0
    · subst hl
      rw [hk] at hx
      cases hx
      exact e.symm
    · exact absurd (h n x hl hx) he
theorem adm_end {ks : List Key} {E : Int} (h : Adm ks E) (hn : ∀ i q, i < ks.length → ks[i]? = some q → errP (ks.take i) q = 0) : E = 0 := by
  rcases h with ⟨h, _⟩ | ⟨h0, m, k, hk, e, _⟩
  · exact h
  · exact absurd ((hn m k (List.getElem?_eq_some_iff.1 hk).1 hk).symm.trans e).symm h0
def newN (ks : List Key) : Int := ks.foldl (fun a k => max (max a k.2.1) (zEpoch k.2.2)) 0
theorem newN_snoc (ks : List Key) (k : Key) : newN (ks ++ [k]) = max (max (newN ks) k.2.1) (zEpoch k.2.2) := by simp [newN]
theorem take_more2 {α : Type} {l : List α} {k : Nat} {x : α} (h : l[k]? = some x) : l.take (k + 1) = l.take k ++ [x] := by
  obtain ⟨hk, rfl⟩ := List.getElem?_eq_some_iff.1 h
  exact List.take_succ_eq_append_getElem hk
/-- does the first know more than the second? -/
def bet (p q : Key) : Bool := decide (q.2.2 < p.2.2) || (decide (p.2.2 = q.2.2) && decide (q.1 < p.1))
def leadAt (ks : List Key) : Nat → Nat
  | 0 => 0
  | n + 1 => if bet (ks.getD n (0, 0, 0)) (ks.getD (leadAt ks n) (0, 0, 0)) = true then n else leadAt ks n
theorem leadAt_lt (ks : List Key) : ∀ n, leadAt ks n < max n 1
  | 0 => by simp [leadAt]
  | n + 1 => by
    have := leadAt_lt ks n
    unfold leadAt
    split <;> omega
theorem leadAt_more {ks : List Key} {n : Nat} {p q : Key} (hp : ks[n]? = some p) (hq : ks[leadAt ks n]? = some q) : leadAt ks (n + 1) = if bet p q = true then n else leadAt ks n := by
  rw [leadAt, List.getD_eq_getElem?_getD, List.getD_eq_getElem?_getD, hp, hq]
  rfl
/-- the answer of an election -/
def EAns (ks : List Key) (k n E : Int) : Prop :=
  ∃ A, Adm ks A ∧ ((A ≠ 0 ∧ k = 0 ∧ n = 0 ∧ E = A) ∨ (A = 0 ∧ ((ks.length < 2 ∧ k = 0 ∧ n = 0 ∧ E = 14) ∨ (2 ≤ ks.length ∧ ((2147483647 < newN ks + 1 ∧ k = 0 ∧ n = 0 ∧ E = 6) ∨ (newN ks + 1 ≤ 2147483647 ∧ k = leadAt ks ks.length ∧ n = newN ks + 1 ∧ E = 0))))))
/-- of an admitted list: bounds -/
theorem Adm.ok {ks : List Key} (h : Adm ks 0) {i : Nat} {k : Key} (hk : ks[i]? = some k) : (∀ q ∈ ks.take i, q.1 ≠ k.1) ∧ 0 ≤ k.1 ∧ k.1 < 3 ∧ 0 ≤ k.2.1 ∧ k.2.1 ≤ 2147483647 := by
  rcases h with ⟨_, h⟩ | ⟨h, _⟩
  · have := h i k hk
    unfold errP at this
    by_cases h1 : (ks.take i).any (fun q => q.1 == k.1) = true
    · simp [h1] at this
    · by_cases h2 : k.1 < 0 ∨ 3 ≤ k.1
      · simp [h1, h2] at this
      · by_cases h3 : k.2.1 < 0 ∨ 2147483647 < k.2.1
        · simp [h1, h2, h3] at this
        · refine ⟨fun q hq e => h1 ?_, by omega, by omega, by omega, by omega⟩
          exact List.any_eq_true.2 ⟨q, hq, by simp [e]⟩
  · exact absurd rfl h
theorem newN_le {ks : List Key} (M : Int) (h0 : 0 ≤ M) : (∀ k ∈ ks, k.2.1 ≤ M ∧ zEpoch k.2.2 ≤ M) → newN ks ≤ M := by
  have main : ∀ (l : List Key) (a : Int), a ≤ M → (∀ k ∈ l, k.2.1 ≤ M ∧ zEpoch k.2.2 ≤ M) → l.foldl (fun a k => max (max a k.2.1) (zEpoch k.2.2)) a ≤ M := by
    intro l
    induction l with
    | nil => intro a ha _; exact ha
    | cons x r ih =>
      intro a ha h
      have := h x (by simp)
      exact ih (max (max a x.2.1) (zEpoch x.2.2)) (by omega) fun k hk => h k (by simp [hk])
  exact main ks 0 h0
theorem zEpoch_le (z : Int) : 0 ≤ zEpoch z ∧ zEpoch z ≤ 2147483647 := by
  cases hg : zGood z with
  | false => rw [zEpoch_no hg]; decide
  | true =>
    have := zGood_iff.1 hg
    rw [zEpoch_yes hg]
    omega
theorem newN_nonneg (ks : List Key) : 0 ≤ newN ks := by
  have up : ∀ (l : List Key) (a : Int), a ≤ l.foldl (fun a k => max (max a k.2.1) (zEpoch k.2.2)) a := by
    intro l
    induction l with
    | nil => intro a; exact Int.le_refl _
    | cons x r ih => intro a; exact Int.le_trans (show a ≤ max (max a x.2.1) (zEpoch x.2.2) by omega) (ih _)
  exact up ks 0
end Go.Proofs.Ytijpnmponjjejaa

namespace Go.Proofs.Ytijpnmponjjejaa
open Go.RowKit

theorem zret_bool {a b : Bool} (h : a = b) : Ending.returned (.bool a) = .returned (.bool b) := by rw [h]

set_option maxRecDepth 10000 in
set_option maxHeartbeats 400000 in
theorem zgood_any (z : Int) (w : World) :
    Calls Try.prog 23 #[.int .i64 z] w fun e w' => e = .returned (.bool (zGood z)) ∧ w' = w := by
  go_enter Try.func23, Try.ntmps23
  go_wp2
  go_ret
  exact ⟨zret_bool (by rw [Bool.eq_iff_iff, zGood_iff, beq_iff_eq]; omega), rfl⟩

end Go.Proofs.Ytijpnmponjjejaa

namespace Go.Proofs.Ytijpnmponjjejaa
open Go.RowKit
set_option maxRecDepth 10000 in
set_option maxHeartbeats 400000 in
theorem zepoch_any (z : Int) (w : World) :
    Calls Try.prog 21 #[.int .i64 z] w fun e w' => e = .returned (.int .i64 (zEpoch z)) ∧ w' = w := by
  cases hg : zGood z
  · have H := hide (zEpoch_no hg)
    have Hg := hide hg
    clear hg
    go_enter Try.func21, Try.ntmps21
    go_wp2_with fail
    refine (zgood_any z _).mono ?_
    rintro e w1 ⟨rfl, rfl⟩
    rw [unhide Hg]
    go_wp2_with fail
    go_ret
    exact ⟨ret_int (unhide H).symm, rfl⟩
  · have H := hide (zEpoch_yes hg)
    have Hg := hide hg
    clear hg
    go_enter Try.func21, Try.ntmps21
    go_wp2_with fail
    refine (zgood_any z _).mono ?_
    rintro e w1 ⟨rfl, rfl⟩
    rw [unhide Hg]
    go_wp2_with fail
    go_ret
    exact ⟨ret_int (unhide H).symm, rfl⟩

end Go.Proofs.Ytijpnmponjjejaa

namespace Go.Proofs.Ytijpnmponjjejaa
open Go.RowKit

def kk (p : Pe) : Key := (p.id, p.ep, lastZ p.ts)
theorem kk_get {ps : List Pe} {i : Nat} {p : Pe} (h : ps[i]? = some p) : (ps.map kk)[i]? = some (kk p) := by rw [List.getElem?_map, h]; rfl
theorem kk_take (ps : List Pe) (i : Nat) : (ps.map kk).take i = (ps.take i).map kk := by rw [List.map_take]
theorem bret_bool {i : Int} {b : Bool} (h : decide (0 ≤ i) = b) : Ending.returned (.bool (decide (0 ≤ i))) = .returned (.bool b) := by rw [h]
/-- the row of a beginning -/
theorem seq_take {α : Type} [Lay α] {w : World} {b off n cap : Nat} {xs : List α} (h : SeqV w (.slice (some ⟨b, off, none⟩) n cap) xs) (k : Nat) (hk : k ≤ xs.length) : SeqV w (.slice (some ⟨b, off, none⟩) k cap) (xs.take k) := by
  have hl : (xs.take k).length = k := by simp; omega
  rcases h with ⟨a, c, e, rfl, hm⟩ | ⟨b', off', cap', e, h1, h2, h3, h0, h4⟩
  · simp only [Value.slice.injEq] at e
    obtain ⟨_, _, rfl⟩ := e
    simp only [List.length_nil, Nat.le_zero] at hk
    subst hk
    exact .inl ⟨_, _, rfl, rfl, hm⟩
  · simp only [Value.slice.injEq, Option.some.injEq, Addr.mk.injEq, and_true] at e
    obtain ⟨⟨rfl, rfl⟩, _, rfl⟩ := e
    by_cases hz : k = 0
    · subst hz
      exact .inl ⟨_, _, rfl, by simp, h2⟩
    · refine .inr ⟨b, off, cap, by rw [hl], by omega, h2, h3, fun e => by rw [e] at hl; simp at hl; omega, fun j u hj => h4 j u ?_⟩
      have e : cellsL xs = cellsL (xs.take k) ++ cellsL (xs.drop k) := by rw [← cellsL_append, List.take_append_drop]
      rw [e, List.getElem?_append_left (List.getElem?_eq_some_iff.1 hj).1]
      exact hj

set_option maxRecDepth 10000 in
set_option maxHeartbeats 1000000 in
theorem same_any (q p : Pe) (g : Nat) (w : World) (hp : PBox w g p) :
    Calls Try.prog 37 #[peV q, .pointer (some ⟨g, 0, none⟩)] w fun e w' => e = .returned (.bool (q.id == p.id)) ∧ Below w.heap.size w w' := by
  have B0 := allocB w (.cells #[.int .i64 q.id, .int .i64 q.ep, .slice q.a q.ts.length q.c, .int .i64 q.dn] 29)
  have e0 := (hp.next B0).c0
  have f0 := (PBox.new w q).c0
  have HB := hide B0
  obtain ⟨i, ep, a, c, ts, dn⟩ := q
  obtain ⟨j, eq, b, d, us, dm⟩ := p
  simp only at *
  clear hp B0
  unfold peV
  simp only
  go_enter Try.func37, Try.ntmps37
  go_wp2_with fail
  go_ret
  refine ⟨?_, unhide HB⟩
  by_cases h : i = j <;> simp [h]

set_option maxRecDepth 10000 in
set_option maxHeartbeats 1000000 in
theorem idx_any (v : Value) (xs : List Pe) (p : Pe) (g : Nat) (w : World) (hv : SeqV w v xs) (hp : PBox w g p) (hl : xs.length ≤ 140737488355328) :
    Calls Try.prog 42 #[v, .func (.func 37) #[] #[.pointer (some ⟨g, 0, none⟩)]] w fun e w' => (∃ i : Int, e = .returned (.int .i64 i) ∧ decide (0 ≤ i) = xs.any (fun q => q.id == p.id)) ∧ Below w.heap.size w w' := by
  have HV := hide hv
  have HP := hide hp
  have HS := hide (fun q W h => same_any q p g W h)
  obtain ⟨va, vc, rfl⟩ := seq_slice hv
  clear hv hp
  unfold peV at HS
  go_enter Try.func42, Try.ntmps42
  go_wp2_with fail
  go_loopg [8] xs.length (fun kx s8 wr => ∃ k : Nat, s8 = .int .i64 k ∧ k ≤ xs.length ∧ xs.length - k ≤ kx ∧ Hid ((xs.take k).any (fun q => q.id == p.id) = false) ∧ Hid (Below w.heap.size w wr))
  case atStart => exact ⟨0, rfl, Nat.zero_le _, Nat.le_refl _, hide (by simp), hide (Below.refl _ _)⟩
  case round =>
    obtain ⟨k, rfl, hk, hg, hh, hB⟩ := hrel
    by_cases hlt : k < xs.length
    · obtain ⟨y, hy⟩ : ∃ y, xs[k]? = some y := ⟨_, List.getElem?_eq_getElem hlt⟩
      obtain ⟨b, off, cap, he, hb, q, _⟩ := row_of ((unhide HV).next (unhide hB)) hy
      simp only [Value.slice.injEq] at he
      obtain ⟨rfl, _, rfl⟩ := he
      have d0 := q.pe0 hy
      have d1 := q.pe1 hy
      have d2 := q.pe2 hy
      have d3 := q.pe3 hy
      have hkk : (k : Int) < (xs.length : Int) := by omega
      have C := unhide HS y wr ((unhide HP).next (unhide hB))
      have HM : Hid (y ∈ xs) := hide (List.mem_of_getElem? hy)
      have HT := hide (take_more2 hy)
      clear q hy hb
      cases hxy : (y.id == p.id)
      · rw [hxy] at C
        have HX := hide hxy
        clear hxy
        go_wp2_with fail
        refine C.mono ?_
        rintro e w1 ⟨rfl, hb1⟩
        have hB1 := nnext (unhide hB) hb1
        clear C hb1
        go_wp2_with fail
        go_roundg (xs.length - (k + 1))
        case measure => omega
        case rel => exact ⟨k + 1, rfl, by omega, Nat.le_refl _, hide (by rw [unhide HT, List.any_append, unhide hh]; simpa using unhide HX), hide hB1⟩
      · rw [hxy] at C
        have HX := hide (show xs.any (fun q => q.id == p.id) = true from List.any_eq_true.2 ⟨y, unhide HM, hxy⟩)
        clear hxy
        go_wp2_with fail
        refine C.mono ?_
        rintro e w1 ⟨rfl, hb1⟩
        have hB1 := nnext (unhide hB) hb1
        clear C hb1
        go_wp2_with fail
        go_ret
        exact ⟨⟨k, rfl, by rw [unhide HX]; simp⟩, hB1⟩
    · obtain rfl : k = xs.length := by omega
      have hh2 := unhide hh
      rw [List.take_length] at hh2
      have HH := hide hh2
      have hki : ¬ ((xs.length : Int) < (xs.length : Int)) := by omega
      clear hh2
      go_wp2_with fail
      go_ret
      exact ⟨⟨-1, rfl, by rw [unhide HH]; rfl⟩, unhide hB⟩
set_option maxRecDepth 10000 in
set_option maxHeartbeats 1000000 in
theorem con_any (v : Value) (xs : List Pe) (p : Pe) (g : Nat) (w : World) (hv : SeqV w v xs) (hp : PBox w g p) (hl : xs.length ≤ 140737488355328) :
    Calls Try.prog 38 #[v, .func (.func 37) #[] #[.pointer (some ⟨g, 0, none⟩)]] w fun e w' => e = .returned (.bool (xs.any (fun q => q.id == p.id))) ∧ Below w.heap.size w w' := by
  have C := idx_any v xs p g w hv hp hl
  obtain ⟨va, vc, rfl⟩ := seq_slice hv
  generalize xs.any (fun q => q.id == p.id) = r at C ⊢
  clear hv hp
  go_enter Try.func38, Try.ntmps38
  go_wp2_with fail
  refine C.mono ?_
  rintro e w1 ⟨⟨i, rfl, hi⟩, hb1⟩
  have HB := hide hb1
  have HI := hide hi
  clear C hb1 hi
  go_wp2_with fail
  go_ret
  exact ⟨bret_bool (unhide HI), unhide HB⟩
end Go.Proofs.Ytijpnmponjjejaa

namespace Go.Proofs.Ytijpnmponjjejaa
open Go.RowKit

theorem any_kk (ps : List Pe) (k : Nat) (p : Pe) : ((ps.map kk).take k).any (fun q => q.1 == (kk p).1) = (ps.take k).any (fun q => q.id == p.id) := by
  rw [kk_take, List.any_map]; rfl
theorem err_kk (ps : List Pe) (k : Nat) (p : Pe) : errP ((ps.map kk).take k) (kk p) = if (ps.take k).any (fun q => q.id == p.id) = true then 8 else if p.id < 0 ∨ 3 ≤ p.id then 3 else if p.ep < 0 ∨ 2147483647 < p.ep then 3 else 0 := by
  unfold errP
  rw [any_kk]
  rfl
set_option maxRecDepth 10000 in
set_option maxHeartbeats 2000000 in
theorem admitted_any (v : Value) (ps : List Pe) (w : World) (E : Int) (hv : SeqV w v ps) (hA : Adm (ps.map kk) E) (hl : ps.length ≤ 140737488355328) :
    Calls Try.prog 25 #[v] w fun e w' => e = .returned (.int .i64 E) ∧ Below w.heap.size w w' := by
  have HV := hide hv
  have HA := hide hA
  obtain ⟨va, vc, rfl⟩ := seq_slice hv
  clear hv hA
  go_enter Try.func25, Try.ntmps25
  go_wp2_with fail
  go_loopg [8] ps.length (fun kx s8 wr => ∃ k : Nat, s8 = .int .i64 k ∧ k ≤ ps.length ∧ ps.length - k ≤ kx ∧ Hid (∀ i q, i < k → (ps.map kk)[i]? = some q → errP ((ps.map kk).take i) q = 0) ∧ Hid (Below w.heap.size w wr))
  case atStart => exact ⟨0, rfl, Nat.zero_le _, Nat.le_refl _, hide (fun i q h => by omega), hide (Below.refl _ _)⟩
  case round =>
    obtain ⟨k, rfl, hk, hg, HI, hB⟩ := hrel
    by_cases hlt : k < ps.length
    · obtain ⟨p, hp⟩ : ∃ p, ps[k]? = some p := ⟨_, List.getElem?_eq_getElem hlt⟩
      obtain ⟨b, off, cap, he, hb, q, _, hcap, _⟩ := row_of ((unhide HV).next (unhide hB)) hp
      simp only [Value.slice.injEq] at he
      obtain ⟨rfl, _, rfl⟩ := he
      have d0 := q.pe0 hp
      have d1 := q.pe1 hp
      have d2 := q.pe2 hp
      have d3 := q.pe3 hp
      have hkk : (k : Int) < (ps.length : Int) := by omega
      have HX := hide (kk_get hp)
      have HE := hide (err_kk ps k p)
      have HAl := hide (allocB wr (.cells #[.int .i64 p.id, .int .i64 p.ep, .slice p.a p.ts.length p.c, .int .i64 p.dn] 29))
      have HP := hide (PBox.new wr p)
      have HC := hide (fun W (hW : Below w.heap.size w W) (hP : PBox W wr.heap.size p) => con_any _ (ps.take k) p wr.heap.size W (seq_take ((unhide HV).next hW) k (by omega)) hP (by simp; omega))
      have hcap2 : k ≤ vc := by omega
      clear q hp hb
      obtain ⟨id, ep, pa, pc, ts, dn⟩ := p
      simp only at *
      go_wp2_with fail
      refine (unhide HC _ (nnext (unhide hB) (unhide HAl)) (unhide HP)).mono ?_
      rintro e w2 ⟨rfl, hb2⟩
      have P2 := (unhide HP).next hb2
      have c0 := P2.c0
      have c1 := P2.c1
      have HB2 := hide (nnext (nnext (unhide hB) (unhide HAl)) hb2)
      clear P2 hb2 HC HAl HP d0 d1 d2 d3
      cases hA : (ps.take k).any (fun q => q.id == id)
      · rw [hA] at HE
        simp only at c0 c1
        by_cases h1 : id < 0
        · have HR := hide (adm_at (unhide HA) (unhide HI) (unhide HX) (by rw [unhide HE]; simp [h1]))
          rw [unhide HE] at HR
          have HR2 : Hid (E = 3) := hide (by rw [unhide HR]; simp [h1])
          clear hA
          go_wp2_with fail
          go_ret
          rw [unhide HR2]
          exact ⟨rfl, unhide HB2⟩
        · by_cases h2 : id ≥ 3
          · have HR := hide (adm_at (unhide HA) (unhide HI) (unhide HX) (by rw [unhide HE]; simp [h2]))
            rw [unhide HE] at HR
            have HR2 : Hid (E = 3) := hide (by rw [unhide HR]; simp [h2])
            clear hA
            go_wp2_with fail
            go_ret
            rw [unhide HR2]
            exact ⟨rfl, unhide HB2⟩
          · by_cases h3 : ep < 0
            · have HR := hide (adm_at (unhide HA) (unhide HI) (unhide HX) (by rw [unhide HE]; simp [h3]))
              rw [unhide HE] at HR
              have HR2 : Hid (E = 3) := hide (by rw [unhide HR]; simp [h3])
              clear hA
              go_wp2_with fail
              go_ret
              rw [unhide HR2]
              exact ⟨rfl, unhide HB2⟩
            · by_cases h4 : ep > 2147483647
              · have h4' : 2147483647 < ep := h4
                have HR := hide (adm_at (unhide HA) (unhide HI) (unhide HX) (by rw [unhide HE]; simp [h4']))
                rw [unhide HE] at HR
                have HR2 : Hid (E = 3) := hide (by rw [unhide HR]; simp [h4'])
                clear hA
                go_wp2_with fail
                go_ret
                rw [unhide HR2]
                exact ⟨rfl, unhide HB2⟩
              · have HZ : Hid (errP ((ps.map kk).take k) (kk ⟨id, ep, pa, pc, ts, dn⟩) = 0) := hide (by rw [unhide HE]; simp; omega)
                have HI2 : Hid (∀ i q, i < k + 1 → (ps.map kk)[i]? = some q → errP ((ps.map kk).take i) q = 0) := hide (fun i q hi hq => by
                  by_cases e : i = k
                  · subst e
                    rw [unhide HX] at hq
                    cases hq
                    exact unhide HZ
                  · exact unhide HI i q (by omega) hq)
                clear hA
                go_wp2_with fail
                go_roundg (ps.length - (k + 1))
                case measure => omega
                case rel => exact ⟨k + 1, rfl, by omega, Nat.le_refl _, HI2, HB2⟩
      · rw [hA] at HE
        have HR := hide (adm_at (unhide HA) (unhide HI) (unhide HX) (by rw [unhide HE]; simp))
        rw [unhide HE] at HR
        have HR2 : Hid (E = 8) := hide (by rw [unhide HR]; simp)
        clear hA
        go_wp2_with fail
        go_ret
        rw [unhide HR2]
        exact ⟨rfl, unhide HB2⟩
    · obtain rfl : k = ps.length := by omega
      have hki : ¬ ((ps.length : Int) < (ps.length : Int)) := by omega
      have HR := hide (adm_end (unhide HA) (by rw [List.length_map]; exact unhide HI))
      go_wp2_with fail
      go_ret
      rw [unhide HR]
      exact ⟨rfl, unhide hB⟩
end Go.Proofs.Ytijpnmponjjejaa

namespace Go.Proofs.Ytijpnmponjjejaa
open Go.RowKit

set_option maxRecDepth 10000 in
set_option maxHeartbeats 2000000 in
theorem newest_any (v : Value) (ps : List Pe) (w : World) (hv : SeqV w v ps) (hL : PLogs w ps) (hl : ps.length ≤ 140737488355328) :
    Calls Try.prog 26 #[v] w fun e w' => e = .returned (.int .i64 (newN (ps.map kk))) ∧ Below w.heap.size w w' := by
  have HV := hide hv
  have HL := hide hL
  obtain ⟨va, vc, rfl⟩ := seq_slice hv
  clear hv hL
  go_enter Try.func26, Try.ntmps26
  go_wp2_with fail
  go_loopg [3, 8] ps.length (fun kx s3 s8 wr => ∃ (k : Nat) (m : Int), s3 = .int .i64 m ∧ s8 = .int .i64 k ∧ k ≤ ps.length ∧ ps.length - k ≤ kx ∧ Hid (newN ((ps.map kk).take k) = m) ∧ Hid (Below w.heap.size w wr))
  case atStart => exact ⟨0, 0, rfl, rfl, Nat.zero_le _, Nat.le_refl _, hide rfl, hide (Below.refl _ _)⟩
  case round =>
    obtain ⟨k, m, rfl, rfl, hk, hg, HM, hB⟩ := hrel
    by_cases hlt : k < ps.length
    · obtain ⟨p, hp⟩ : ∃ p, ps[k]? = some p := ⟨_, List.getElem?_eq_getElem hlt⟩
      obtain ⟨b, off, cap, he, hb, q, _, hcap, _⟩ := row_of ((unhide HV).next (unhide hB)) hp
      simp only [Value.slice.injEq] at he
      obtain ⟨rfl, _, rfl⟩ := he
      have d0 := q.pe0 hp
      have d1 := q.pe1 hp
      have d2 := q.pe2 hp
      have d3 := q.pe3 hp
      have hkk : (k : Int) < (ps.length : Int) := by omega
      have HN : Hid (newN ((ps.map kk).take (k + 1)) = max (max m p.ep) (zEpoch (lastZ p.ts))) := hide (by rw [take_more2 (kk_get hp), newN_snoc, unhide HM]; rfl)
      have HAl := hide (allocB wr (.cells #[.int .i64 p.id, .int .i64 p.ep, .slice p.a p.ts.length p.c, .int .i64 p.dn] 29))
      have HP := hide (PBox.new wr p)
      have HC := hide (fun W (hW : Below w.heap.size w W) => last_any p.log p.ts W ((unhide HL p (List.mem_of_getElem? hp)).next hW))
      clear q hp hb
      obtain ⟨id, ep, pa, pc, ts, dn⟩ := p
      simp only [Pe.log] at *
      generalize lastZ ts = z at *
      go_upto_region 5 with fail
      obtain ⟨W1, hW1⟩ : ∃ W1, W1 = wr.alloc (.cells #[.int .i64 id, .int .i64 ep, .slice pa ts.length pc, .int .i64 dn] 29) := ⟨_, rfl⟩
      rw [← hW1] at HAl HP ⊢
      have e1 := (unhide HP).c1
      have e2 := (unhide HP).c2
      simp only at e1 e2
      have HB1 := hide (nnext (unhide hB) (unhide HAl))
      have HCN := hide (fun n => unhide HC (W1.drewN n) (belowN (unhide HB1)))
      clear hW1 HC HAl HP d0 d1 d2 d3
      by_cases c1 : m < ep
      · by_cases c2 : ep < zEpoch z
        · go_quiet (first | (go_at_call 20; exact Calls.quiet_of_same (unhide HCN _)) | (go_at_call 21; exact Calls.quiet_of_same (zepoch_any _ _)))
          go_wp2_with fail
          go_roundg (ps.length - (k + 1))
          case measure => omega
          case rel => exact ⟨k + 1, zEpoch z, rfl, rfl, by omega, Nat.le_refl _, hide ((unhide HN).trans (by omega)), hide (belowN (unhide HB1))⟩
        · go_quiet (first | (go_at_call 20; exact Calls.quiet_of_same (unhide HCN _)) | (go_at_call 21; exact Calls.quiet_of_same (zepoch_any _ _)))
          go_wp2_with fail
          go_roundg (ps.length - (k + 1))
          case measure => omega
          case rel => exact ⟨k + 1, ep, rfl, rfl, by omega, Nat.le_refl _, hide ((unhide HN).trans (by omega)), hide (belowN (unhide HB1))⟩
      · by_cases c2 : m < zEpoch z
        · go_quiet (first | (go_at_call 20; exact Calls.quiet_of_same (unhide HCN _)) | (go_at_call 21; exact Calls.quiet_of_same (zepoch_any _ _)))
          go_wp2_with fail
          go_roundg (ps.length - (k + 1))
          case measure => omega
          case rel => exact ⟨k + 1, zEpoch z, rfl, rfl, by omega, Nat.le_refl _, hide ((unhide HN).trans (by omega)), hide (belowN (unhide HB1))⟩
        · go_quiet (first | (go_at_call 20; exact Calls.quiet_of_same (unhide HCN _)) | (go_at_call 21; exact Calls.quiet_of_same (zepoch_any _ _)))
          go_wp2_with fail
          go_roundg (ps.length - (k + 1))
          case measure => omega
          case rel => exact ⟨k + 1, m, rfl, rfl, by omega, Nat.le_refl _, hide ((unhide HN).trans (by omega)), hide (belowN (unhide HB1))⟩
    · obtain rfl : k = ps.length := by omega
      have hki : ¬ ((ps.length : Int) < (ps.length : Int)) := by omega
      have HR : Hid (newN (ps.map kk) = m) := hide (by
        have := unhide HM
        rwa [show (ps.map kk).take ps.length = ps.map kk by rw [List.take_of_length_le (by simp)]] at this)
      go_wp2_with fail
      go_ret
      rw [unhide HR]
      exact ⟨rfl, unhide hB⟩

theorem bet_or (p q : Pe) : decide (0 < orI (cmpI (lastZ p.ts) (lastZ q.ts)) (cmpI p.id q.id)) = bet (kk p) (kk q) := by
  unfold orI cmpI bet kk
  simp only
  by_cases h1 : lastZ p.ts < lastZ q.ts
  · have h2 : ¬ lastZ q.ts < lastZ p.ts := by omega
    have h3 : ¬ lastZ p.ts = lastZ q.ts := by omega
    simp [h1, h2, h3]
  · by_cases h2 : lastZ q.ts < lastZ p.ts
    · simp [h1, h2]
    · have h3 : lastZ p.ts = lastZ q.ts := by omega
      rw [h3]
      by_cases h4 : p.id < q.id
      · have h5 : ¬ q.id < p.id := by omega
        simp [h4, h5]
      · by_cases h5 : q.id < p.id
        · simp [h4, h5]
        · simp [h4, h5]

set_option maxRecDepth 10000 in
set_option maxHeartbeats 2000000 in
theorem leading_any (v : Value) (ps : List Pe) (w : World) (hv : SeqV w v ps) (hL : PLogs w ps) (hl : ps.length ≤ 140737488355328) :
    Calls Try.prog 27 #[v] w fun e w' => e = .returned (.int .i64 (leadAt (ps.map kk) ps.length)) ∧ Below w.heap.size w w' := by
  have HV := hide hv
  have HL := hide hL
  obtain ⟨va, vc, rfl⟩ := seq_slice hv
  clear hv hL
  go_enter Try.func27, Try.ntmps27
  go_wp2_with fail
  go_loopg [3, 8] ps.length (fun kx s3 s8 wr => ∃ (k m : Nat), s3 = .int .i64 m ∧ s8 = .int .i64 k ∧ k ≤ ps.length ∧ ps.length - k ≤ kx ∧ Hid (leadAt (ps.map kk) k = m) ∧ Hid (Below w.heap.size w wr))
  case atStart => exact ⟨0, 0, rfl, rfl, Nat.zero_le _, Nat.le_refl _, hide rfl, hide (Below.refl _ _)⟩
  case round =>
    obtain ⟨k, m, rfl, rfl, hk, hg, HM, hB⟩ := hrel
    by_cases hlt : k < ps.length
    · obtain ⟨p, hp⟩ : ∃ p, ps[k]? = some p := ⟨_, List.getElem?_eq_getElem hlt⟩
      have hm : m < ps.length := by have := leadAt_lt (ps.map kk) k; rw [unhide HM] at this; omega
      obtain ⟨r, hr⟩ : ∃ r, ps[m]? = some r := ⟨_, List.getElem?_eq_getElem hm⟩
      obtain ⟨b, off, cap, he, hb, q, _, hcap, _⟩ := row_of ((unhide HV).next (unhide hB)) hp
      simp only [Value.slice.injEq] at he
      obtain ⟨rfl, _, rfl⟩ := he
      have d0 := q.pe0 hp
      have d1 := q.pe1 hp
      have d2 := q.pe2 hp
      have d3 := q.pe3 hp
      have hkk : (k : Int) < (ps.length : Int) := by omega
      have hmm : (m : Int) < (ps.length : Int) := by omega
      have HN : Hid (leadAt (ps.map kk) (k + 1) = if bet (kk p) (kk r) = true then k else m) := hide (by rw [leadAt_more (kk_get hp) (by rw [unhide HM]; exact kk_get hr), unhide HM])
      have HAl := hide (allocB wr (.cells #[.int .i64 p.id, .int .i64 p.ep, .slice p.a p.ts.length p.c, .int .i64 p.dn] 29))
      have HP := hide (PBox.new wr p)
      have HC := hide (fun W (hW : Below w.heap.size w W) => compare_any p r W ((unhide HL p (List.mem_of_getElem? hp)).next hW) ((unhide HL r (List.mem_of_getElem? hr)).next hW))
      have HBet := hide (bet_or p r)
      have HRW : Hid (∀ W, Below wr.heap.size wr W → W.cell? ⟨b, off + m * 4, none⟩ = some (.int .i64 r.id) ∧ W.cell? ⟨b, off + m * 4 + 1, none⟩ = some (.int .i64 r.ep) ∧ W.cell? ⟨b, off + m * 4 + 2, none⟩ = some (.slice r.a r.ts.length r.c) ∧ W.cell? ⟨b, off + m * 4 + 3, none⟩ = some (.int .i64 r.dn)) := hide (fun W hW => by
        have q' := q.kept hW hb
        exact ⟨q'.pe0 hr, q'.pe1 hr, q'.pe2 hr, q'.pe3 hr⟩)
      clear q hp hb hr
      generalize bet (kk p) (kk r) = B at *
      unfold peV at HC
      obtain ⟨id, ep, pa, pc, ts, dn⟩ := p
      obtain ⟨jd, eq, qa, qc, us, dm⟩ := r
      simp only at *
      generalize orI (cmpI (lastZ ts) (lastZ us)) (cmpI id jd) = R at *
      go_upto_region 5 with fail
      obtain ⟨W1, hW1⟩ : ∃ W1, W1 = wr.alloc (.cells #[.int .i64 id, .int .i64 ep, .slice pa ts.length pc, .int .i64 dn] 29) := ⟨_, rfl⟩
      rw [← hW1] at HAl HP ⊢
      have e0 := (unhide HP).c0
      have e1 := (unhide HP).c1
      have e2 := (unhide HP).c2
      have e3 := (unhide HP).c3
      simp only at e0 e1 e2 e3
      obtain ⟨f0, f1, f2, f3⟩ := unhide HRW W1 (unhide HAl)
      have HB1 := hide (nnext (unhide hB) (unhide HAl))
      have hbw : b < W1.heap.size := World.block_lt_of_cell? _ _ f0
      have hpw := (unhide HP).lt
      clear hW1 HAl HP d0 d1 d2 d3 HRW
      have c0' := fun d os => Calls.regrown_of (w := W1) (d := d) (os := os) (unhide HC _ (nnext (unhide HB1) (below_regrown W1 d os)))
      have g0 := fun d os => cell_regrown e0 d os
      have g1 := fun d os => cell_regrown e1 d os
      have g2 := fun d os => cell_regrown e2 d os
      have g3 := fun d os => cell_regrown e3 d os
      have r0 := fun d os => cell_regrown f0 d os
      have r1 := fun d os => cell_regrown f1 d os
      have r2 := fun d os => cell_regrown f2 d os
      have r3 := fun d os => cell_regrown f3 d os
      clear e0 e1 e2 e3 f0 f1 f2 f3 HC
      refine wp_region_quiet_below (by kernel_rfl) (by kernel_rfl) ?_
      repeat (first | go_big_quiet_step (with_reducible exact c0' _ _) | quiet_step (with_reducible exact c0' _ _))
      refine wpQuiet_nil ?_
      intro _ hw'
      obtain ⟨⟨dq, osq⟩, hw''⟩ := hw'
      subst hw''
      have HB2 := hide (nnext (unhide HB1) (below_regrown W1 dq osq))
      clear c0' g0 g1 g2 g3 r0 r1 r2 r3
      generalize Go.Sort.grow (redrawn W1 dq) osq = W2 at *
      cases B
      · have hR : ¬ R > 0 := by have := unhide HBet; simp at this; omega
        have HN2 : Hid (leadAt (ps.map kk) (k + 1) = m) := hide (by rw [unhide HN]; simp)
        clear HBet HN
        go_wp2_with fail
        go_roundg (ps.length - (k + 1))
        case measure => omega
        case rel => exact ⟨k + 1, m, rfl, rfl, by omega, Nat.le_refl _, HN2, HB2⟩
      · have hR : R > 0 := by have := unhide HBet; simp at this; omega
        have HN2 : Hid (leadAt (ps.map kk) (k + 1) = k) := hide (by rw [unhide HN]; simp)
        clear HBet HN
        go_wp2_with fail
        go_roundg (ps.length - (k + 1))
        case measure => omega
        case rel => exact ⟨k + 1, k, rfl, rfl, by omega, Nat.le_refl _, HN2, HB2⟩
    · obtain rfl : k = ps.length := by omega
      have hki : ¬ ((ps.length : Int) < (ps.length : Int)) := by omega
      go_wp2_with fail
      go_ret
      rw [unhide HM]
      exact ⟨rfl, unhide hB⟩
end Go.Proofs.Ytijpnmponjjejaa

namespace Go.Proofs.Ytijpnmponjjejaa
open Go.RowKit
set_option maxRecDepth 10000 in

theorem quorum_any (w : World) : Calls Try.prog 12 #[] w fun e w' => e = .returned (.int .i64 2) ∧ w' = w := by
  go_enter Try.func12, Try.ntmps12
  go_wp2_with fail
  go_ret
  exact ⟨rfl, rfl⟩
theorem adm_newN {ks : List Key} (h : Adm ks 0) : 0 ≤ newN ks ∧ newN ks ≤ 2147483647 :=
  ⟨newN_nonneg ks, newN_le 2147483647 (by decide) fun k hk => by
    obtain ⟨i, hi⟩ := List.getElem?_of_mem hk
    have := h.ok hi
    have := zEpoch_le k.2.2
    omega⟩

set_option maxRecDepth 10000 in
set_option maxHeartbeats 2000000 in
theorem elect_any (v : Value) (ps : List Pe) (w : World) (k n E : Int) (hv : SeqV w v ps) (hL : PLogs w ps) (hA : EAns (ps.map kk) k n E) (hl : ps.length ≤ 140737488355328) :
    Calls Try.prog 9 #[v] w fun e w' => e = .returned (.tuple #[.int .i64 k, .int .i64 n, .int .i64 E]) ∧ Below w.heap.size w w' := by
  obtain ⟨A, hA, hR⟩ := hA
  have CA := admitted_any v ps w A hv hA hl
  have CN := hide (fun W (hW : Below w.heap.size w W) => newest_any v ps W (hv.next hW) (hL.next hW) hl)
  have CL := hide (fun W (hW : Below w.heap.size w W) => leading_any v ps W (hv.next hW) (hL.next hW) hl)
  have HN := hide (fun h : A = 0 => adm_newN (ks := ps.map kk) (by rw [h] at hA; exact hA))
  rw [List.length_map] at hR
  obtain ⟨va, vc, rfl⟩ := seq_slice hv
  clear hv hL hA
  generalize newN (ps.map kk) = N at *
  generalize leadAt (ps.map kk) ps.length = L at *
  rcases hR with ⟨h0, rfl, rfl, rfl⟩ | ⟨rfl, ⟨h1, rfl, rfl, rfl⟩ | ⟨h1, ⟨h2, rfl, rfl, rfl⟩ | ⟨h2, rfl, rfl, rfl⟩⟩⟩
  · go_enter Try.func9, Try.ntmps9
    go_wp2_with fail
    refine CA.mono ?_
    rintro e w1 ⟨rfl, hb1⟩
    have HB := hide hb1
    clear CA hb1
    go_wp2_with fail
    go_ret3
    exact ⟨rfl, unhide HB⟩
  all_goals
    obtain ⟨n0, n1⟩ := unhide HN rfl
    go_enter Try.func9, Try.ntmps9
    go_wp2_with fail
    refine CA.mono ?_
    rintro e w1 ⟨rfl, hb1⟩
    have HB := hide hb1
    clear CA hb1
    go_wp2_with fail
    refine (quorum_any _).mono ?_
    rintro e w2 ⟨rfl, rfl⟩
  · have h1' : (ps.length : Int) < 2 := by omega
    go_wp2_with fail
    go_ret3
    exact ⟨rfl, unhide HB⟩
  · have h1' : ¬ (ps.length : Int) < 2 := by omega
    have h2' : N + 1 > 2147483647 := by omega
    go_wp2_with fail
    refine (unhide CN _ (unhide HB)).mono ?_
    rintro e w3 ⟨rfl, hb3⟩
    have HB3 := hide (nnext (unhide HB) hb3)
    clear hb3
    go_wp2_with fail
    go_ret3
    exact ⟨rfl, unhide HB3⟩
  · have h1' : ¬ (ps.length : Int) < 2 := by omega
    have h2' : ¬ N + 1 > 2147483647 := by omega
    go_wp2_with fail
    refine (unhide CN _ (unhide HB)).mono ?_
    rintro e w3 ⟨rfl, hb3⟩
    have HB3 := hide (nnext (unhide HB) hb3)
    clear hb3
    go_wp2_with fail
    refine (unhide CL _ (unhide HB3)).mono ?_
    rintro e w4 ⟨rfl, hb4⟩
    have HB4 := hide (nnext (unhide HB3) hb4)
    clear hb4
    go_wp2_with fail
    go_ret3
    exact ⟨rfl, unhide HB4⟩

/- two peers that have nothing -/
def two01 : List Pe := [⟨0, 0, none, 0, [], 0⟩, ⟨1, 0, none, 0, [], 0⟩]
theorem ans01 : EAns (two01.map kk) 1 1 0 := by
  refine ⟨0, .inl ⟨rfl, fun i k h => ?_⟩, .inr ⟨rfl, .inr ⟨by decide, .inr ⟨by decide, by decide, by decide, rfl⟩⟩⟩⟩
  match i, h with
  | 0, h =>
    have : k = (0, 0, 0) := by simpa [two01, kk, lastZ] using h.symm
    subst this
    decide
  | 1, h =>
    have : k = (1, 0, 0) := by simpa [two01, kk, lastZ] using h.symm
    subst this
    decide
  | i + 2, h => simp [two01] at h
theorem seq01 (w : World) : SeqV (w.alloc (.cells #[.int .i64 0, .int .i64 0, .slice none 0 0, .int .i64 0, .int .i64 1, .int .i64 0, .slice none 0 0, .int .i64 0] 29)) (.slice (some ⟨w.heap.size, 0, none⟩) 2 2) two01 := by
  refine .inr ⟨w.heap.size, 0, 2, rfl, by decide, by decide, by simp, by simp [two01], fun j v hj => ?_⟩
  have h := heap_alloc_new w (.cells #[.int .i64 0, .int .i64 0, .slice none 0 0, .int .i64 0, .int .i64 1, .int .i64 0, .slice none 0 0, .int .i64 0] 29)
  unfold World.cell?
  rw [h]
  simp only [Nat.zero_add]
  have e : cellsL two01 = [.int .i64 0, .int .i64 0, .slice none 0 0, .int .i64 0, .int .i64 1, .int .i64 0, .slice none 0 0, .int .i64 0] := rfl
  rw [e] at hj
  simpa using hj
theorem logs01 (w : World) : PLogs w two01 := fun p hp => by
  simp only [two01, List.mem_cons, List.not_mem_nil, or_false] at hp
  rcases hp with rfl | rfl <;> exact LogV.nil w
theorem elect01 (w : World) : Calls Try.prog 9 #[.slice (some ⟨w.heap.size, 0, none⟩) 2 2] (w.alloc (.cells #[.int .i64 0, .int .i64 0, .slice none 0 0, .int .i64 0, .int .i64 1, .int .i64 0, .slice none 0 0, .int .i64 0] 29)) fun e w' => e = .returned (.tuple #[.int .i64 1, .int .i64 1, .int .i64 0]) ∧ Below w.heap.size w w' :=
  (elect_any _ two01 _ 1 1 0 (seq01 w) (logs01 _) ans01 (by decide)).mono fun e w' ⟨h, hb⟩ => ⟨h, nnext (allocB _ _) hb⟩
set_option maxRecDepth 10000 in
set_option maxHeartbeats 1000000 in
theorem elects_any (w : World) : Calls Try.prog 19 #[] w fun e w' => e = .returned (.bool true) ∧ Below w.heap.size w w' := by
  go_enter Try.func19, Try.ntmps19
  go_wp2_with fail
  refine (elect01 w).mono ?_
  rintro e w1 ⟨rfl, hb1⟩
  have HB := hide hb1
  clear hb1
  go_wp2_with fail
  go_ret
  exact ⟨rfl, unhide HB⟩
end Go.Proofs.Ytijpnmponjjejaa
