/-
  aviarykeep.filled: the walk.
  Ten decimal digits: their length, their bytes, and that their order is the order of the numbers; no program is named here.
  What path.Serial answers, for every name and number: the walk.
  What path.Serial answers, for every name and every number, in one contract.
  Requests that are made ready, as plain data: what Prepare answers. No program is named here.
-/
import Derived.Test.YtoacignhobchbaaGreatDoorSUAQ
import Derived.Deep.Cut
import Derived.Deep.CutRange
import Derived.Test.YtoacignhobchbaaGreatDoorSUA
import Derived.Lib.ItoaMem
import Derived.Lib.Repeat
import Derived.Test.YtoacignhobchbaaGreatDoorSUC
import Derived.Test.YtoacignhobchbaaGreatDoorShelf
import Derived.WalkSmall
import Derived.Test.YtoacignhobchbaaGreatDoorSUY
import Derived.Test.YtoacignhobchbaaGreatDoorSUF
namespace Go.Proofs.YtoacignhobchbaaGreatDoor
open Go.RowKit

/-- a server that took this log safely -/
noncomputable def svF (m : List WTxn) : Sv := ⟨true, [logF m], 0, epochD [], m, 0, trNew, []⟩
theorem svF_fits {m : List WTxn} (h : Tkn m) : Fits (svF m) := by
  have h1 := recs_small h.log (by have := h.few; omega)
  have g0 : GoodD [logF m] := good_one (by simp; omega)
  refine ⟨by simp [svF], good_slim g0, by simp only [svF]; have := h.few; omega, fun x hx => ?_, by simp [svF, trNew], fun x hx => ?_, by simp [svF, trNew], by simp [svF], by simp [svF]⟩
  · have hg := h.log.good x hx
    have h2 := gdE_zero hg
    have h3 := fmB_le h2.2.2.2
    omega
  · simp only [svF, trNew, List.mem_singleton] at hx
    subst hx
    decide
theorem svF_took {m : List WTxn} (h : Tkn m) {i : Nat} {t : WTxn} (ht : m[i]? = some t) : Took (svF (m.take i)) t true 0 (svF (m.take (i + 1))) ∧ Tkn (m.take i) := by
  have hi := (List.getElem?_eq_some_iff.1 ht).1
  have e : m = m.take i ++ t :: m.drop (i + 1) := by
    obtain ⟨hk, rfl⟩ := List.getElem?_eq_some_iff.1 ht
    simp
  rw [take_more1 ht]
  generalize m.take i = a at *
  generalize m.drop (i + 1) = b at *
  subst e
  obtain ⟨h1, h2, h3⟩ := h.at
  exact ⟨.inr (.inr ⟨h2, rfl, [logF (a ++ [t])], rfl, appF_logF h1 (by omega)⟩), h.front⟩

theorem zero_other {W : World} {k q : Nat} (h : Box10 W k false (.slice none 0 0) 0 0 (.slice none 0 0) 0 0 (.slice none 0 0) (.slice none 0 0) (.slice none 0 0)) (hne : k ≠ q) (x0 x1 x2 x3 x4 x5 x6 x7 x8 x9 : Value) :
    Box10 (put10 W q x0 x1 x2 x3 x4 x5 x6 x7 x8 x9) k false (.slice none 0 0) 0 0 (.slice none 0 0) 0 0 (.slice none 0 0) (.slice none 0 0) (.slice none 0 0) := by
  unfold put10
  exact (Box10.other (Box10.other (Box10.other (Box10.other (Box10.other (Box10.other (Box10.other (Box10.other (Box10.other (Box10.other h hne) hne) hne) hne) hne) hne) hne) hne) hne) hne)

set_option maxRecDepth 10000 in
set_option maxHeartbeats 4000000 in
theorem filled_any (v : Value) (m : List WTxn) (w : World) (hv : LogV w v m) (hT : Tkn m) :
    Calls Tryz.prog 5 #[v] w fun e w' => ∃ v', e = .returned (.tuple #[v', .bool true]) ∧ SvV w' v' (svF m) ∧ Below w.heap.size w w' := by
  have HV := hide hv
  have HT := hide hT
  have hlen : m.length ≤ 40 := hT.few
  have CB := hide (fun W => boot_none 0 (by omega) (by omega) W)
  obtain ⟨a, c, rfl⟩ := log_slice hv
  clear hv hT
  go_enter Tryz.func5, Tryz.ntmps5
  go_wp2_with fail
  have Z0 := hide (newZ w)
  have B0 := hide (allocB w (.cells #[.bool false, .slice none 0 0, .int .i64 0, .int .i64 0, .slice none 0 0, .int .i64 0, .int .i64 0, .slice none 0 0, .slice none 0 0, .slice none 0 0] 36))
  obtain ⟨k0, hk0⟩ : ∃ k0, w.heap.size = k0 := ⟨_, rfl⟩
  have HK0 : Hid (w.heap.size ≤ k0) := hide (by omega)
  rw [hk0] at Z0
  rw [hk0]
  generalize w.alloc (.cells #[.bool false, .slice none 0 0, .int .i64 0, .int .i64 0, .slice none 0 0, .int .i64 0, .int .i64 0, .slice none 0 0, .slice none 0 0, .slice none 0 0] 36) = W0 at *
  refine (unhide CB _).mono ?_
  rintro e w1 ⟨v1, rfl, hv1, hb1⟩
  obtain ⟨s0, hs0⟩ : ∃ s0, s0 = svUp 0 := ⟨_, rfl⟩
  rw [← hs0] at hv1
  obtain ⟨ad, nd, cd, al, cl, an, cn, ai, ci, aw, cw, rfl, _, _, _, _, _⟩ := hv1.five
  have HI0 := hide (inbox_new (nnext (unhide B0) hb1) hv1)
  have Z1 := hide (((unhide Z0).next hb1).next (allocB w1 (.cells #[.bool s0.up, .slice ad nd cd, .int .i64 s0.id, .int .i64 s0.ep, .slice al s0.ts.length cl, .int .i64 s0.dn, .int .i64 s0.tr.z, .slice an s0.tr.ns.length cn, .slice ai s0.tr.ss.length ci, .slice aw s0.ws.length cw] 36)))
  obtain ⟨q, hq⟩ : ∃ q, w1.heap.size = q := ⟨_, rfl⟩
  have HKQ : Hid (k0 ≠ q) := hide (by have := ((unhide Z0).next hb1).lt; omega)
  have HQ : Hid (w.heap.size ≤ q) := hide (by have := (nnext (unhide B0) hb1).size; omega)
  rw [hq] at HI0
  have HS0 : Hid (s0 = svF (m.take 0)) := hide (by rw [hs0, List.take_zero]; rfl)
  clear hv1 hb1 Z0 B0 CB hs0 hk0
  go_upto_region 2 with fail
  generalize w1.alloc (.cells #[.bool s0.up, .slice ad nd cd, .int .i64 s0.id, .int .i64 s0.ep, .slice al s0.ts.length cl, .int .i64 s0.dn, .int .i64 s0.tr.z, .slice an s0.tr.ns.length cn, .slice ai s0.tr.ss.length ci, .slice aw s0.ws.length cw] 36) = W1 at *
  rw [unhide HS0] at HI0
  clear hq
  go_wp2_with fail
  go_loopg [5, 6] m.length (fun kx s5 s6 wr => ∃ i : Nat, s5 = .int .i64 0 ∧ s6 = .int .i64 i ∧ i ≤ m.length ∧ m.length - i ≤ kx ∧ Hid (InBox w wr q (svF (m.take i))) ∧ Hid (Box10 wr k0 false (.slice none 0 0) 0 0 (.slice none 0 0) 0 0 (.slice none 0 0) (.slice none 0 0) (.slice none 0 0)))
  case atStart => exact ⟨0, rfl, rfl, Nat.zero_le _, Nat.le_refl _, HI0, Z1⟩
  case round =>
    obtain ⟨i, rfl, rfl, hi, hgi, HI, HZ⟩ := hrel
    by_cases hlt : i < m.length
    · obtain ⟨t, ht⟩ : ∃ t, m[i]? = some t := ⟨_, List.getElem?_eq_getElem hlt⟩
      obtain ⟨hTk, hTi⟩ := svF_took (unhide HT) ht
      have hgd := (unhide HT).log.good t (List.mem_of_getElem? ht)
      have HCT := hide (fun v W (h : SvV W v (svF (m.take i))) => stakeF_any _ _ v t true 0 W h (svF_fits hTi) hTk (by have := fmB_le (gdE_zero hgd).2.2.2; omega) (by have := (gdE_zero hgd).2.2.1; omega) (by simp [svF]; omega))
      obtain ⟨bad, bnd, bcd, bal, bnl, bcl, ban, bnn, bcn, bai, bni, bci, baw, bnw, bcw, hbx, hsv, hbw⟩ := unhide HI
      obtain ⟨b, off, cap, he, hb, r, _⟩ := log_row ((unhide HV).next hbw) ht
      simp only [Value.slice.injEq, true_and] at he
      obtain ⟨rfl, rfl⟩ := he
      have e0 := r.z ht
      have e1 := r.o ht
      have e2 := r.s ht
      have e3 := r.p ht
      have e4 := r.d ht
      have e5 := r.v ht
      have e6 := r.w ht
      have hii : (i : Int) < (m.length : Int) := by omega
      obtain ⟨s', hs'⟩ : ∃ s', s' = svF (m.take (i + 1)) := ⟨_, rfl⟩
      have hss : Hid (s'.tr.ss = []) := hide (by rw [hs']; rfl)
      rw [← hs'] at HCT
      obtain ⟨s, hs⟩ : ∃ s, s = svF (m.take i) := ⟨_, rfl⟩
      rw [← hs] at HCT hbx hsv
      have HS' := hide hs'
      obtain ⟨x0, x1, x2, x3, x4, x5, x6, x7, x8, x9⟩ := hbx.cells
      have HBX := hide hbx
      have HSV := hide hsv
      have HBW := hide hbw
      have hqlt := hbx.lt
      clear r ht hb hTk hTi hgd hs hs' hbx hsv hbw HI
      obtain ⟨tz, tw, tx, tp, td, ty, tu⟩ := t
      unfold txnV at HCT
      simp only at e0 e1 e2 e3 e4 e5 e6
      go_upto_region 5 with fail
      go_region_with (first
        | (go_at_call 16; refine (unhide HCT _ _ ((unhide HSV).next (Below.refl _ _).drew)).mono ?_; rintro e w2 ⟨cad, cnd, ccd, cal, cnl, ccl, can, cnn, ccn, cai, cni, cci, caw, cnw, ccw, rfl, S2, hb2⟩; have B2 := hide (nbelow_drew hb2); have X2 := hide ((unhide HBX).next (unhide B2)); obtain ⟨y0, y1, y2, y3, y4, y5, y6, y7, y8, y9⟩ := (unhide X2).cells; have yf0 := (unhide X2).froz 0; have yf1 := (unhide X2).froz 1; have yf2 := (unhide X2).froz 2; have yf3 := (unhide X2).froz 3; have yf4 := (unhide X2).froz 4; have yf5 := (unhide X2).froz 5; have yf6 := (unhide X2).froz 6; have yf7 := (unhide X2).froz 7; have yf8 := (unhide X2).froz 8; have yf9 := (unhide X2).froz 9; have HBw2 := hide (nnext (unhide HBW) (unhide B2)); have Z2 := hide ((unhide HZ).next (unhide B2)); have HR2 := hide (inbox_over0 (unhide HBw2) (unhide HQ) (unhide hss) (unhide S2).1 (unhide X2)); have HZ3 := hide (zero_other (unhide Z2) (unhide HKQ) (.bool s'.up) (.slice cad cnd ccd) (.int .i64 s'.id) (.int .i64 s'.ep) (.slice cal cnl ccl) (.int .i64 s'.dn) (.int .i64 s'.tr.z) (.slice can cnn ccn) (.slice cai cni cci) (.slice caw cnw ccw)); unfold put10 at HR2 HZ3; clear hb2))
      all_goals go_wp2_with fail
      all_goals
        go_roundg (m.length - (i + 1))
        case measure => omega
        case rel =>
          refine ⟨i + 1, rfl, by simp, by omega, Nat.le_refl _, ?_, ?_⟩
          · rw [← unhide HS']
            with_reducible exact HR2
          · with_reducible exact HZ3
    · obtain rfl : i = m.length := by omega
      have hki : ¬ ((m.length : Int) < (m.length : Int)) := by omega
      rw [List.take_length] at HI
      obtain ⟨bad, bnd, bcd, bal, bnl, bcl, ban, bnn, bcn, bai, bni, bci, baw, bnw, bcw, hbx, hsv, hbw⟩ := unhide HI
      obtain ⟨s, hs⟩ : ∃ s, s = svF m := ⟨_, rfl⟩
      rw [← hs] at hbx hsv
      have HS := hide hs
      have hss : s.tr.ss = [] := by rw [hs]; rfl
      have HR := hide (inbox_over0 hbw (unhide HK0) hss hsv (unhide HZ))
      have HRS := hide (put10_sv0 (up := s.up) (id := s.id) (ep := s.ep) (dn := s.dn) (z := s.tr.z) (ad := bad) (nd := bnd) (cd := bcd) (al := bal) (nl := bnl) (cl := bcl) (an := ban) (nn := bnn) (cn := bcn) (ai := bai) (ni := bni) (ci := bci) (aw := baw) (nw := bnw) (cw := bcw) (unhide HZ).dumb hss hsv)
      obtain ⟨x0, x1, x2, x3, x4, x5, x6, x7, x8, x9⟩ := hbx.cells
      obtain ⟨r0, r1, r2, r3, r4, r5, r6, r7, r8, r9⟩ := (unhide HZ).cells
      have rf0 := (unhide HZ).froz 0
      have rf1 := (unhide HZ).froz 1
      have rf2 := (unhide HZ).froz 2
      have rf3 := (unhide HZ).froz 3
      have rf4 := (unhide HZ).froz 4
      have rf5 := (unhide HZ).froz 5
      have rf6 := (unhide HZ).froz 6
      have rf7 := (unhide HZ).froz 7
      have rf8 := (unhide HZ).froz 8
      have rf9 := (unhide HZ).froz 9
      clear hs hbx hsv hbw hss HI
      go_wp2_with fail
      refine bodyPost_ret (v := .tuple #[.agg #[.bool s.up, .slice bad bnd bcd, .int .i64 s.id, .int .i64 s.ep, .slice bal bnl bcl, .int .i64 s.dn, .int .i64 s.tr.z, .slice ban bnn bcn, .slice bai bni bci, .slice baw bnw bcw], .bool true]) (by simp [results, Tryz.results5, go_sem, r0, r1, r2, r3, r4, r5, r6, r7, r8, r9]) rfl ?_
      obtain ⟨_, _, _, _, _, _, _, _, _, _, _, _, _, _, _, _, hsv2, hbw2⟩ := unhide HR
      exact ⟨_, rfl, by rw [← unhide HS]; exact unhide HRS, hbw2⟩
end Go.Proofs.YtoacignhobchbaaGreatDoor

namespace Go.Proofs.YtoacignhobchbaaGreatDoor
open Go.RowKit

/-- n in ten decimal digits, noughts ahead -/
def ten (n : Nat) : List UInt8 := (List.range 10).map fun t => Lib.dg n (9 - t)
theorem nDigits_le_ten (n : Nat) (h : n ≤ 2147483647) : Lib.nDigits n ≤ 10 := by
  have aux : ∀ k u, u < 10 ^ (k + 1) → Lib.nDigits u ≤ k + 1 := by
    intro k
    induction k with
    | zero => intro u hu; rw [Lib.nDigits_small (by simpa using hu)]; omega
    | succ k ih =>
      intro u hu
      by_cases h : u < 10
      · rw [Lib.nDigits_small h]; omega
      · rw [Lib.nDigits_big h]
        have := ih (u / 10) (by rw [Nat.pow_succ] at hu; omega)
        omega
  exact aux 9 n (by omega)

theorem dg_zero (u p : Nat) (h : u < 10 ^ p) : Lib.dg u p = 48 := by
  unfold Lib.dg
  rw [Nat.div_eq_of_lt h]
  rfl

theorem ten_eq (n : Nat) (h : n ≤ 2147483647) : Lib.repeatL [48] (10 - (Lib.decDigits n).length) ++ Lib.decDigits n = ten n := by
  have hd := nDigits_le_ten n h
  have hp := Lib.nDigits_pos n
  have hr : ∀ c, Lib.repeatL [48] c = List.replicate c 48 := fun c => by
    have := Lib.repeatL_replicate 48 1 c
    simpa using this
  rw [Lib.decDigits_length, hr, Lib.decDigits_eq]
  apply List.ext_getElem
  · simp [ten]; omega
  · intro i h1 h2
    have hi : i < 10 := by simpa [ten] using h2
    by_cases hc : i < 10 - Lib.nDigits n
    · rw [List.getElem_append_left (by simpa using hc)]
      simp only [List.getElem_replicate, ten, List.getElem_map, List.getElem_range]
      exact (dg_zero n (9 - i) (Nat.lt_of_lt_of_le (Lib.lt_pow_nDigits n) (Nat.pow_le_pow_right (by decide) (by omega)))).symm
    · rw [List.getElem_append_right (by simp; omega)]
      simp only [List.length_replicate, ten, List.getElem_map, List.getElem_range]
      congr 1
      omega

end Go.Proofs.YtoacignhobchbaaGreatDoor

namespace Go.Proofs.YtoacignhobchbaaGreatDoor
open Go.RowKit

theorem below_grow (w : World) (k : Nat) (os : Array Obj) : Below w.heap.size w (Sort.grow (w.drewN k) os) :=
  ⟨rfl, rfl, rfl, by simp [Sort.grow, World.drewN], fun i hi => by simp [Sort.grow, World.drewN, Array.getElem?_append_left hi]⟩

theorem ret_str2 {a b : ByteArray} {i j : Int} (h : a = b) (h' : i = j) : Ending.returned (.tuple #[.string a, .int .i64 i]) = .returned (.tuple #[.string b, .int .i64 j]) := by rw [h, h']
theorem ba_eq {a : ByteArray} {l : List UInt8} (h : a.data.toList = l) : a = ⟨l.toArray⟩ := by
  rw [← h]

/-- what comes of a text that should be a step: itself and no error, or nothing and ErrForm -/
def stepS (l : List UInt8) : ByteArray := if namedB l then ⟨l.toArray⟩ else ⟨#[]⟩
def stepE (l : List UInt8) : Int := if namedB l then 0 else 2
theorem stepS_yes {l : List UInt8} (h : namedB l = true) : stepS l = ⟨l.toArray⟩ := by rw [stepS, if_pos h]
theorem stepE_yes {l : List UInt8} (h : namedB l = true) : stepE l = 0 := by rw [stepE, if_pos h]
theorem stepS_no {l : List UInt8} (h : namedB l = false) : stepS l = ⟨#[]⟩ := by rw [stepS, if_neg (by simp [h])]
theorem stepE_no {l : List UInt8} (h : namedB l = false) : stepE l = 2 := by rw [stepE, if_neg (by simp [h])]

theorem cat_data (name : ByteArray) (R D : List UInt8) : (name ++ ⟨R.toArray⟩ ++ ⟨D.toArray⟩ : ByteArray).data.toList = name.data.toList ++ (R ++ D) := by
  simp [ByteArray.data_append]
theorem cat_size (name : ByteArray) (R D : List UInt8) : (name ++ ⟨R.toArray⟩ ++ ⟨D.toArray⟩ : ByteArray).size = name.size + R.length + D.length := by
  rw [ByteArray.size_append, ByteArray.size_append]; rfl

set_option maxRecDepth 10000 in
set_option maxHeartbeats 400000 in
theorem serial_out (name : ByteArray) (n : Int) (w : World) (hn : n < 0 ∨ 2147483647 < n) :
    Calls Tryz.prog 119 #[.string name, .int .i64 n] w fun e w' => e = .returned (.tuple #[.string ⟨#[]⟩, .int .i64 3]) ∧ w' = w := by
  rcases hn with h | h
  · go_enter Tryz.func119, Tryz.ntmps119
    go_wp2_with fail
    go_ret2
    exact ⟨rfl, rfl⟩
  · have h' : ¬ n < 0 := by omega
    go_enter Tryz.func119, Tryz.ntmps119
    go_wp2_with fail
    go_ret2
    exact ⟨rfl, rfl⟩

set_option maxRecDepth 10000 in
set_option maxHeartbeats 400000 in
theorem serial_in (name : ByteArray) (n : Nat) (w : World) (hn : n ≤ 2147483647) (hs : name.size ≤ 140737488355328)
    (htab : Lib.TabIs Tryz.prog w "internal/strconv.uint64pow10" .u64 Lib.pow10Tab) :
    Calls Tryz.prog 119 #[.string name, .int .i64 n] w fun e w' =>
      e = .returned (.tuple #[.string (stepS (name.data.toList ++ ten n)), .int .i64 (stepE (name.data.toList ++ ten n))]) ∧ Below w.heap.size w w' := by
  have hd := nDigits_le_ten n hn
  have hp := Lib.nDigits_pos n
  have Hten := hide (ten_eq n hn)
  have Hit := hide (Lib.itoa_nonneg n)
  have Hlen := hide (Lib.decDigits_length n)
  go_enter Tryz.func119, Tryz.ntmps119
  go_wp2_with fail
  refine (Tryz.strconv_Itoa _ (by omega) (by omega) _ htab).mono ?_
  rintro e w1 ⟨rfl, k, os, hw1⟩
  have hb1 : Below w.heap.size w w1 := by rw [hw1]; exact below_grow w k os
  clear hw1
  rw [unhide Hit]
  generalize hD : Lib.decDigits n = D
  have hDl : D.length = Lib.nDigits n := by rw [← hD]; exact unhide Hlen
  have HD := hide hD
  clear hD
  have hD1 : 1 ≤ D.length := by omega
  have hD10 : D.length ≤ 10 := by omega
  clear hDl hd hp
  go_wp2_with fail
  rw [show (10 - (D.length : Int)) = ((10 - D.length : Nat) : Int) from by omega]
  refine (Tryz.strings_Repeat _ _ _ (by omega) (by show 1 * _ ≤ _; omega)).mono ?_
  rintro e w2 ⟨rfl, hb2⟩
  generalize hR : Lib.repeatL (ByteArray.mk #[48]).data.toList (10 - D.length) = R
  have hR' : Lib.repeatL [48] (10 - D.length) = R := hR
  have hRl : R.length ≤ 10 := by rw [← hR', Lib.repeatL_length]; simp
  have HR : Hid (R ++ D = ten n) := by
    have h1 := unhide Hten
    have h2 := unhide HD
    rw [h2, hR'] at h1
    exact h1
  clear hR hR' Hten HD Hit Hlen
  go_wp2_with fail
  generalize hX : (name ++ ⟨R.toArray⟩ ++ ⟨D.toArray⟩ : ByteArray) = X
  have HX : Hid (X.data.toList = name.data.toList ++ ten n) := by
    rw [← unhide HR, ← hX]; exact cat_data name R D
  have hXs : X.size ≤ maxLen := by
    unfold maxLen
    rw [← hX, cat_size]; omega
  clear hX HR
  refine (named_any X _ hXs).mono ?_
  rintro e w3 ⟨rfl, rfl⟩
  cases hnm : namedB X.data.toList
  · go_wp2_with fail
    go_ret2
    rw [unhide HX] at hnm
    exact ⟨ret_str2 (stepS_no hnm).symm (stepE_no hnm).symm, hb1.trans (hb2.mono hb1.size)⟩
  · go_wp2_with fail
    go_ret2
    rw [unhide HX] at hnm
    exact ⟨ret_str2 ((ba_eq (unhide HX)).trans (stepS_yes hnm).symm) (stepE_yes hnm).symm, hb1.trans (hb2.mono hb1.size)⟩

end Go.Proofs.YtoacignhobchbaaGreatDoor

namespace Go.Proofs.YtoacignhobchbaaGreatDoor
open Go.RowKit

/-- what Serial answers: the step, or nothing; and the error's number -/
def serS (l : List UInt8) (n : Int) : ByteArray := if 0 ≤ n ∧ n ≤ 2147483647 then stepS (l ++ ten n.toNat) else ⟨#[]⟩
def serE (l : List UInt8) (n : Int) : Int := if 0 ≤ n ∧ n ≤ 2147483647 then stepE (l ++ ten n.toNat) else 3

theorem serial_any (name : ByteArray) (n : Int) (w : World) (hs : name.size ≤ 140737488355328) (htab : Lib.TabIs Tryz.prog w "internal/strconv.uint64pow10" .u64 Lib.pow10Tab) :
    Calls Tryz.prog 119 #[.string name, .int .i64 n] w fun e w' =>
      e = .returned (.tuple #[.string (serS name.data.toList n), .int .i64 (serE name.data.toList n)]) ∧ Below w.heap.size w w' := by
  by_cases h : 0 ≤ n ∧ n ≤ 2147483647
  · obtain ⟨k, rfl⟩ := Int.eq_ofNat_of_zero_le h.1
    refine (serial_in name k w (by omega) hs htab).mono ?_
    rintro e w' ⟨rfl, hb⟩
    exact ⟨ret_str2 (by rw [serS, if_pos h, Int.toNat_natCast]) (by rw [serE, if_pos h, Int.toNat_natCast]), hb⟩
  · refine (serial_out name n w (by omega)).mono ?_
    rintro e w' ⟨rfl, rfl⟩
    exact ⟨ret_str2 (by rw [serS, if_neg h]) (by rw [serE, if_neg h]), Below.refl _ _⟩

theorem serE_ne {l : List UInt8} {n : Int} (h : serE l n ≠ 0) : serS l n = ⟨#[]⟩ := by
  unfold serE at h
  unfold serS
  by_cases h1 : 0 ≤ n ∧ n ≤ 2147483647
  · rw [if_pos h1] at h ⊢
    cases h2 : namedB (l ++ ten n.toNat)
    · exact stepS_no h2
    · exact absurd (stepE_yes h2) h
  · rw [if_neg h1]
theorem serE_eq {l : List UInt8} {n : Int} (h : serE l n = 0) : 0 ≤ n ∧ n ≤ 2147483647 ∧ namedB (l ++ ten n.toNat) = true ∧ serS l n = ⟨(l ++ ten n.toNat).toArray⟩ := by
  unfold serE at h
  unfold serS
  by_cases h1 : 0 ≤ n ∧ n ≤ 2147483647
  · rw [if_pos h1] at h ⊢
    cases h2 : namedB (l ++ ten n.toNat)
    · rw [stepE_no h2] at h; exact absurd h (by decide)
    · exact ⟨h1.1, h1.2, rfl, stepS_yes h2⟩
  · rw [if_neg h1] at h; exact absurd h (by decide)
theorem gPow : Tryz.prog.globalNamed "internal/strconv.uint64pow10" = some 3 := by kernel_rfl
theorem tab_lt {w : World} (htab : Lib.TabIs Tryz.prog w "internal/strconv.uint64pow10" .u64 Lib.pow10Tab) : 3 < w.heap.size := by
  have hc := htab.cell gPow 0 (by decide)
  unfold World.cell? at hc
  cases ho : w.heap[3]? with
  | none => simp [ho] at hc
  | some o => exact (Array.getElem?_eq_some_iff.1 ho).1
theorem tab_kept {w w' : World} (htab : Lib.TabIs Tryz.prog w "internal/strconv.uint64pow10" .u64 Lib.pow10Tab) (hb : Below w.heap.size w w') : Lib.TabIs Tryz.prog w' "internal/strconv.uint64pow10" .u64 Lib.pow10Tab :=
  var?_below hb gPow (tab_lt htab) htab

end Go.Proofs.YtoacignhobchbaaGreatDoor

namespace Go.Proofs.YtoacignhobchbaaGreatDoor
open Go.RowKit

structure Rq where
  o : Int
  s : Int
  p : List UInt8
  d : List UInt8
  v : Int
  f : Int
def rqV (r : Rq) : Value := .agg #[.int .i64 r.o, .int .i64 r.s, .string ⟨r.p.toArray⟩, .string ⟨r.d.toArray⟩, .int .i64 r.v, .int .i64 r.f]

/-- a step with its number behind it, or nothing -/
def serL (l : List UInt8) (n : Int) : List UInt8 := if serE l n = 0 then l ++ ten n.toNat else []
theorem serS_list (l : List UInt8) (n : Int) : serS l n = ⟨(serL l n).toArray⟩ := by
  by_cases h : serE l n = 0
  · rw [(serE_eq h).2.2.2, serL, if_pos h]
  · rw [serE_ne h, serL, if_neg h]
theorem serL_len (l : List UInt8) (n : Int) : (serL l n).length ≤ 40 := by
  by_cases h : serE l n = 0
  · obtain ⟨_, _, hn, _⟩ := serE_eq h
    rw [serL, if_pos h]
    simp only [namedB, Bool.and_eq_true, decide_eq_true_eq] at hn
    exact hn.1.2
  · rw [serL, if_neg h]; simp

/- OpDelete, OpSet -/
def fchE (t : Tr) (r : Rq) : Int := if goodB r.p = true then (if r.s ∈ t.ss then (match lookN t.ns r.p with
  | none => 7
  | some n => if r.v = -1 ∨ r.v = n.v then 0 else 9) else 12) else 2
def verN (t : Tr) (r : Rq) : Int := match lookN t.ns r.p with
  | none => 0
  | some n => n.v
def fchX (t : Tr) (z : Int) (r : Rq) : WTxn := ⟨z, r.o, r.s, r.p, if r.o = 5 then r.d else [], if r.o = 5 then verN t r + 1 else 0, 0⟩
theorem fch_form {t : Tr} {r : Rq} (h : goodB r.p = false) : fchE t r = 2 := by rw [fchE, if_neg (by simp [h])]
theorem fch_shut {t : Tr} {r : Rq} (h : goodB r.p = true) (hs : r.s ∉ t.ss) : fchE t r = 12 := by rw [fchE, if_pos h, if_neg hs]
theorem fch_none {t : Tr} {r : Rq} (h : goodB r.p = true) (hs : r.s ∈ t.ss) (hn : lookN t.ns r.p = none) : fchE t r = 7 := by rw [fchE, if_pos h, if_pos hs, hn]
theorem fch_some {t : Tr} {r : Rq} {n : Nd} (h : goodB r.p = true) (hs : r.s ∈ t.ss) (hn : lookN t.ns r.p = some n) : fchE t r = if r.v = -1 ∨ r.v = n.v then 0 else 9 := by rw [fchE, if_pos h, if_pos hs, hn]
theorem ver_some {t : Tr} {r : Rq} {n : Nd} (hn : lookN t.ns r.p = some n) : verN t r = n.v := by rw [verN, hn]
/- OpCreate -/
def cvN (t : Tr) (r : Rq) : Int := match lookN t.ns (dirOf r.p) with
  | none => 0
  | some u => u.k
def numE (t : Tr) (r : Rq) : Int := match lookN t.ns (dirOf r.p) with
  | none => 7
  | some u => if serE (stepOf r.p) u.k = 0 then joinE (dirOf r.p) (serL (stepOf r.p) u.k) else serE (stepOf r.p) u.k
def numP (t : Tr) (r : Rq) : List UInt8 := joinS (dirOf r.p) (serL (stepOf r.p) (cvN t r))
def fcrE (t : Tr) (r : Rq) : Int := if 0 ≤ r.f ∧ r.f ≤ 3 then (if goodB r.p = true ∧ r.p ≠ [47] then (if r.s ∈ t.ss then (if 2 ≤ r.f then numE t r else 0) else 12) else 2) else 3
def fcrX (t : Tr) (z : Int) (r : Rq) : WTxn := ⟨z, r.o, r.s, if 2 ≤ r.f then numP t r else r.p, r.d, 0, if r.f % 2 = 1 then r.s else 0⟩
theorem num_none {t : Tr} {r : Rq} (h : lookN t.ns (dirOf r.p) = none) : numE t r = 7 := by rw [numE, h]
theorem num_ser {t : Tr} {r : Rq} {u : Nd} (h : lookN t.ns (dirOf r.p) = some u) (h0 : serE (stepOf r.p) u.k ≠ 0) : numE t r = serE (stepOf r.p) u.k := by rw [numE, h]; simp only; rw [if_neg h0]
theorem num_join {t : Tr} {r : Rq} {u : Nd} (h : lookN t.ns (dirOf r.p) = some u) (h0 : serE (stepOf r.p) u.k = 0) : numE t r = joinE (dirOf r.p) (serL (stepOf r.p) u.k) := by rw [numE, h]; simp only; rw [if_pos h0]
theorem cv_some {t : Tr} {r : Rq} {u : Nd} (h : lookN t.ns (dirOf r.p) = some u) : cvN t r = u.k := by rw [cvN, h]
theorem fcr_range {t : Tr} {r : Rq} (h : ¬ (0 ≤ r.f ∧ r.f ≤ 3)) : fcrE t r = 3 := by rw [fcrE, if_neg h]
theorem fcr_form {t : Tr} {r : Rq} (h : 0 ≤ r.f ∧ r.f ≤ 3) (hp : ¬ (goodB r.p = true ∧ r.p ≠ [47])) : fcrE t r = 2 := by rw [fcrE, if_pos h, if_neg hp]
theorem fcr_shut {t : Tr} {r : Rq} (h : 0 ≤ r.f ∧ r.f ≤ 3) (hp : goodB r.p = true ∧ r.p ≠ [47]) (hs : r.s ∉ t.ss) : fcrE t r = 12 := by rw [fcrE, if_pos h, if_pos hp, if_neg hs]
theorem fcr_plain {t : Tr} {r : Rq} (h : 0 ≤ r.f ∧ r.f ≤ 3) (hp : goodB r.p = true ∧ r.p ≠ [47]) (hs : r.s ∈ t.ss) (hf : r.f < 2) : fcrE t r = 0 := by rw [fcrE, if_pos h, if_pos hp, if_pos hs, if_neg (by omega)]
theorem fcr_num {t : Tr} {r : Rq} (h : 0 ≤ r.f ∧ r.f ≤ 3) (hp : goodB r.p = true ∧ r.p ≠ [47]) (hs : r.s ∈ t.ss) (hf : 2 ≤ r.f) : fcrE t r = numE t r := by rw [fcrE, if_pos h, if_pos hp, if_pos hs, if_pos hf]
/- all kinds -/
def filE (t : Tr) (r : Rq) : Int := if r.o = 1 ∨ r.o = 2 then 0 else if r.o = 3 then fcrE t r else if r.o = 4 ∨ r.o = 5 then fchE t r else 4
def filX (t : Tr) (z : Int) (r : Rq) : WTxn := if r.o = 3 then fcrX t z r else if r.o = 4 ∨ r.o = 5 then fchX t z r else ⟨z, r.o, r.s, [], [], 0, 0⟩
theorem fil_end {t : Tr} {z : Int} {r : Rq} (h : r.o = 1 ∨ r.o = 2) : filE t r = 0 ∧ filX t z r = ⟨z, r.o, r.s, [], [], 0, 0⟩ := by
  refine ⟨by rw [filE, if_pos h], ?_⟩
  rw [filX, if_neg (by omega), if_neg (by omega)]
theorem fil_cre {t : Tr} {z : Int} {r : Rq} (h : r.o = 3) : filE t r = fcrE t r ∧ filX t z r = fcrX t z r := by
  refine ⟨by rw [filE, if_neg (by omega), if_pos h], by rw [filX, if_pos h]⟩
theorem fil_chg {t : Tr} {z : Int} {r : Rq} (h : r.o = 4 ∨ r.o = 5) : filE t r = fchE t r ∧ filX t z r = fchX t z r := by
  refine ⟨by rw [filE, if_neg (by omega), if_neg (by omega), if_pos h], by rw [filX, if_neg (by omega), if_pos h]⟩
theorem fil_kind {t : Tr} {r : Rq} (h : r.o < 1 ∨ 5 < r.o) : filE t r = 4 := by
  rw [filE, if_neg (by omega), if_neg (by omega), if_neg (by omega)]

noncomputable def headB (t : Tr) (z : Int) (r : Rq) : Bool := goodT t && zGood z && decide (1 ≤ r.s) && decide (r.s ≤ 2147483647)
noncomputable def prpE (t : Tr) (z : Int) (r : Rq) : Int := if headB t z r = true then (if filE t r = 0 then appE t (filX t z r) else filE t r) else 3
noncomputable def prpX (t : Tr) (z : Int) (r : Rq) : WTxn := if prpE t z r = 0 then filX t z r else t0
theorem headB_true {t : Tr} {z : Int} {r : Rq} : headB t z r = true ↔ GoodT t ∧ zGood z = true ∧ 1 ≤ r.s ∧ r.s ≤ 2147483647 := by
  simp only [headB, Bool.and_eq_true, decide_eq_true_eq, goodT_true, and_assoc]
theorem prp_head {t : Tr} {z : Int} {r : Rq} (h : headB t z r = false) : prpE t z r = 3 := by rw [prpE, if_neg (by simp [h])]
theorem prp_fill {t : Tr} {z : Int} {r : Rq} (h : headB t z r = true) (hf : filE t r ≠ 0) : prpE t z r = filE t r := by rw [prpE, if_pos h, if_neg hf]
theorem prp_app {t : Tr} {z : Int} {r : Rq} (h : headB t z r = true) (hf : filE t r = 0) : prpE t z r = appE t (filX t z r) := by rw [prpE, if_pos h, if_pos hf]
theorem prpX_no {t : Tr} {z : Int} {r : Rq} (h : prpE t z r ≠ 0) : prpX t z r = t0 := by rw [prpX, if_neg h]
theorem prpX_ok {t : Tr} {z : Int} {r : Rq} (h : prpE t z r = 0) : prpX t z r = filX t z r := by rw [prpX, if_pos h]
theorem prp_zero {t : Tr} {z : Int} {r : Rq} (h : prpE t z r = 0) : headB t z r = true ∧ filE t r = 0 ∧ appE t (filX t z r) = 0 := by
  cases hh : headB t z r with
  | false => rw [prp_head hh] at h; exact absurd h (by decide)
  | true =>
    by_cases hf : filE t r = 0
    · exact ⟨rfl, hf, by rw [← prp_app hh hf]; exact h⟩
    · rw [prp_fill hh hf] at h; exact absurd h hf
theorem filX_heads (t : Tr) (z : Int) (r : Rq) : (filX t z r).z = z ∧ (filX t z r).o = r.o ∧ (filX t z r).s = r.s ∧ ((filX t z r).w = 0 ∨ (filX t z r).w = r.s) := by
  unfold filX
  split
  · refine ⟨rfl, rfl, rfl, ?_⟩
    simp only [fcrX]
    split
    · exact .inr rfl
    · exact .inl rfl
  · split
    · exact ⟨rfl, rfl, rfl, .inl rfl⟩
    · exact ⟨rfl, rfl, rfl, .inl rfl⟩
theorem filX_d (t : Tr) (z : Int) (r : Rq) : (filX t z r).d.length ≤ r.d.length := by
  unfold filX
  split
  · exact Nat.le_refl _
  · split
    · simp only [fchX]
      split
      · exact Nat.le_refl _
      · simp
    · simp
/-- PrepFits -/
structure FitP (t : Tr) (z : Int) (r : Rq) (x : WTxn) : Prop where
  app : appE t x = 0
  az : (appT t x).z = z
  z : x.z = z
  o : x.o = r.o
  s : x.s = r.s
  gd : gdE x = 0
  w : x.w = 0 ∨ x.w = r.s
theorem fits_plain {t : Tr} {z : Int} {r : Rq} (h : prpE t z r = 0) : FitP t z r (prpX t z r) := by
  obtain ⟨_, _, ha⟩ := prp_zero h
  rw [prpX_ok h]
  obtain ⟨e1, e2, e3, e4⟩ := filX_heads t z r
  exact ⟨ha, (app_good ha).2.1.trans e1, e1, e2, e3, (adm_zero (app_zero ha).1).2.1, e4⟩
end Go.Proofs.YtoacignhobchbaaGreatDoor
