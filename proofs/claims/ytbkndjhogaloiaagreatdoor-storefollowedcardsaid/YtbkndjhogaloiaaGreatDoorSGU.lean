/-
  aviarykeep.boots and aviarykeep.taken: the walks; a transaction more on a log, safe or not, in a row of its own.
  aviarykeep.filled: the walk.
  What zxid.Text answers, for every number: the walk.
  What store.Remember and aviaryref.Remember answer: the walks.
  store.Follow: the walks.
  aviaryref.CopyServer: the walk.
  What aviaryref.Last and aviaryref.Scan answer: the walks.
-/
import Derived.Test.YtbkndjhogaloiaaGreatDoorSGN
import Derived.Test.YtbkndjhogaloiaaGreatDoorSGQ
import Derived.Test.YtbkndjhogaloiaaGreatDoorSGR
import Derived.Test.YtbkndjhogaloiaaGreatDoorSGT
import Derived.Deep.Cut
import Derived.Deep.CutRange
import Derived.Test.YtbkndjhogaloiaaGreatDoorSGJ
import Derived.Test.YtbkndjhogaloiaaGreatDoorSGE
import Derived.Test.YtbkndjhogaloiaaGreatDoorShelf
import Derived.Lib.ItoaMem
import Derived.WalkSmall
import Derived.Test.YtbkndjhogaloiaaGreatDoorSGK
import Derived.Test.YtbkndjhogaloiaaGreatDoorSGC
import Derived.Test.YtbkndjhogaloiaaGreatDoorSGO
import Derived.Test.YtbkndjhogaloiaaGreatDoorSGL
import Derived.Lib.ConvBytes
import Derived.Lib.Strings
import Derived.Laws.StructEq
import Derived.Deep.LoopGhost
namespace Go.Proofs.YtbkndjhogaloiaaGreatDoor
open Go.RowKit

set_option maxRecDepth 10000 in
set_option maxHeartbeats 1000000 in
theorem kboots_any (w : World) : Calls Tryz.prog 6 #[] w fun e w' => e = .returned (.bool true) ∧ Below w.heap.size w w' := by
  have C := fun W => boot_none 1 (by omega) (by omega) W
  go_enter Tryz.func6, Tryz.ntmps6
  go_wp2_with fail
  refine (C _).mono ?_
  rintro e w1 ⟨v1, rfl, hv1, hb1⟩
  obtain ⟨ad, nd, cd, al, cl, an, cn, ai, ci, aw, cw, rfl, _, _, _, _, _⟩ := hv1.five
  simp only [show (svUp 1).up = true from rfl, show (svUp 1).id = 1 from rfl]
  generalize (svUp 1).ep = ep
  generalize (svUp 1).ts.length = nl
  generalize (svUp 1).dn = dn
  generalize (svUp 1).tr.z = tz
  generalize (svUp 1).tr.ns.length = nn
  generalize (svUp 1).tr.ss.length = ni
  generalize (svUp 1).ws.length = nw
  have hB := hide (nnext hb1 (allocB _ (.cells #[.bool true, .slice ad nd cd, .int .i64 1, .int .i64 ep, .slice al nl cl, .int .i64 dn, .int .i64 tz, .slice an nn cn, .slice ai ni ci, .slice aw nw cw] 35)))
  clear hv1 C hb1
  go_wp2_with fail
  go_ret
  exact ⟨rfl, unhide hB⟩

theorem appF_logF {m : List WTxn} {t : WTxn} (h : Logs (m ++ [t])) (hl : m.length ≤ 99) : GivesF 41 (fun x => #[x, txnV t, .bool true]) [logF m] [logF (m ++ [t])] 0 := by
  have hg := (Logs.at (a := m) (b := []) h).1
  have h1 := recs_small h.left (by omega)
  have h2 := recL_le hg
  have g0 : GoodD [logF m] := good_one (by simp; omega)
  have g1 : GoodD [⟨logN, recsL m, recL t⟩] := good_one (by omega)
  refine wappF_safe [logF m] [⟨logN, recsL m, recL t⟩] [logF (m ++ [t])] t 0 hg (gives_own fun v W hv => ?_) (givesF_own fun v W hv => ?_)
  · have := write_there v [logF m] [] [] (logF m) logN (recL t) W hv (good_slim g0) g0 (there_one _ _) (by simp only [logF, List.length_nil]; omega)
    simpa [logF] using this
  · have := sync_there v [⟨logN, recsL m, recL t⟩] [] [] ⟨logN, recsL m, recL t⟩ logN W hv (good_slim g1) g1 (there_one _ _)
    simpa [logF, recsL_snoc] using this
/-- a log that a server without any can take -/
structure Tkn (m : List WTxn) : Prop where
  log : Logs m
  few : m.length ≤ 40
  pos : ∀ x ∈ m, 0 < x.z
theorem Tkn.at {a b : List WTxn} {t : WTxn} (h : Tkn (a ++ t :: b)) : Logs (a ++ [t]) ∧ ¬ t.z ≤ lastZ a ∧ a.length ≤ 40 := by
  have h1 : Logs (a ++ [t]) := by
    have := h.log
    rw [show a ++ t :: b = (a ++ [t]) ++ b by simp] at this
    exact this.left
  refine ⟨h1, ?_, by have := h.few; simp at this; omega⟩
  have hp := h.pos t (by simp)
  have hf := (Logs.at (a := a) (b := []) h1).2
  by_cases h0 : a.length = 0
  · obtain rfl := List.length_eq_zero_iff.1 h0
    rw [lastZ_nil]; omega
  · rw [follB_some h0] at hf
    simpa using hf
theorem Tkn.front {a b : List WTxn} (h : Tkn (a ++ b)) : Tkn a := ⟨h.log.left, by have := h.few; simp at this; omega, fun x hx => h.pos x (by simp [hx])⟩
theorem tkn_of {m : List WTxn} (h : Logs m) (hl : m.length ≤ 40) (h0 : ∀ t r, m = t :: r → t.z ≠ 0) : Tkn m := by
  refine ⟨h, hl, fun x hx => ?_⟩
  match m, h, h0, hx with
  | t :: r, h, h0, hx =>
    have ht := (gd_bounds (h.good t (by simp))).1.1
    have hn := h0 t r rfl
    rcases List.mem_cons.1 hx with rfl | hx
    · omega
    · have := (List.pairwise_cons.1 h.rise).1 x hx
      omega
theorem tkn_tail {t : WTxn} {r : List WTxn} (h : Logs (t :: r)) (hl : (t :: r).length ≤ 40) (hz : t.z = 0) : Tkn r := by
  refine ⟨⟨fun x hx => h.good x (by simp [hx]), (List.pairwise_cons.1 h.rise).2⟩, by simp at hl; omega, fun x hx => ?_⟩
  have := (List.pairwise_cons.1 h.rise).1 x hx
  omega
theorem logV_tail {w : World} {a : Option Addr} {c : Nat} {t : WTxn} {r : List WTxn} (h : LogV w (.slice a (t :: r).length c) (t :: r)) :
    (c = 1 → LogV w (.slice a r.length 0) r) ∧ (c ≠ 1 → LogV w (.slice (Option.map (fun x => x.add 7) a) r.length (c - 1)) r) := by
  rcases h with ⟨a', cap, e, h0, hc⟩ | ⟨b, off, cap, e, h1, h2, h3, h0, h4⟩
  · simp at h0
  · simp only [Value.slice.injEq] at e
    obtain ⟨rfl, _, rfl⟩ := e
    simp only [List.length_cons] at h1
    by_cases hd : r = []
    · subst hd
      exact ⟨fun _ => .inl ⟨_, _, rfl, rfl, by simp⟩, fun _ => .inl ⟨_, _, rfl, rfl, by omega⟩⟩
    · have hlt : 0 < r.length := List.length_pos_iff.2 hd
      refine ⟨fun e => by omega, fun _ => .inr ⟨b, off + 7, c - 1, by rw [Option.map_some, Addr.add_lit], by omega, by omega, h3, hd, fun j v hj => ?_⟩⟩
      have := h4 (7 + j) v (by
        show (cellsT (t :: r))[7 + j]? = some v
        rw [cellsT, List.getElem?_append_right (by simp [tcells])]
        simpa [tcells] using hj)
      rwa [← Nat.add_assoc] at this

/-- a log that can be taken is handed back -/
def GivesT1 (w : World) (e : Ending) (w' : World) : Prop := ∃ a c m, e = .returned (.slice a m.length c) ∧ Hid (LogV w' (.slice a m.length c) m ∧ Tkn m) ∧ Below w.heap.size w w'
set_option maxRecDepth 10000 in
set_option maxHeartbeats 1000000 in
theorem taken_any (v : Value) (ts : List WTxn) (w : World) (hv : LogV w v ts) (hd : ∀ t ∈ ts, t.d.length ≤ 140737488355328) :
    Calls Tryz.prog 4 #[v] w (GivesT1 w) := by
  have C := logOf_any v ts w hv hd
  obtain ⟨a, c, rfl⟩ := log_slice hv
  clear hv hd
  go_enter Tryz.func4, Tryz.ntmps4
  go_wp2_with fail
  refine C.mono ?_
  rintro e w1 ⟨v1, rfl, m, ho, hl⟩
  obtain ⟨a1, c1, rfl⟩ := ownl_slice ho.own
  have HV := hide ho.own.log
  have HB := hide ho.below
  have HL := hide ho.log
  have hcm : c1 ≤ maxLen := by
    rcases ho.own.log with ⟨_, _, e, _, h⟩ | ⟨_, _, _, e, _, h, _⟩
    · simp only [Value.slice.injEq] at e; omega
    · simp only [Value.slice.injEq] at e; omega
  have hcl : m.length ≤ c1 := by
    rcases ho.own.log with ⟨_, _, e, h0, _⟩ | ⟨_, _, _, e, h, _⟩
    · rw [h0]; simp
    · simp only [Value.slice.injEq] at e; omega
  clear ho C
  match m with
  | [] =>
    go_wp2_with fail
    go_ret
    exact ⟨a1, c1, [], rfl, hide ⟨unhide HV, tkn_of (unhide HL) hl (fun t r h => by cases h)⟩, unhide HB⟩
  | t :: r =>
    obtain ⟨b, off, cap, he, hb, q, _⟩ := log_row (unhide HV) (i := 0) (t := t) rfl
    simp only [Value.slice.injEq, true_and] at he
    obtain ⟨rfl, rfl⟩ := he
    have d0 := q.z (i := 0) (t := t) rfl
    simp only [Nat.zero_mul, Nat.add_zero] at d0
    have HT := hide (logV_tail (unhide HV))
    clear q hb
    have hlen : (t :: r).length = r.length + 1 := rfl
    by_cases hz : t.z = 0
    · have HK := hide (tkn_tail (unhide HL) hl hz)
      by_cases hc : c1 = 1
      · subst hc
        have HT2 := hide ((unhide HT).1 rfl)
        rw [hlen]
        simp only [maxLen] at hcm
        clear HV HT
        go_wp2_with fail
        all_goals go_ret
        all_goals exact ⟨_, _, r, rfl, hide ⟨unhide HT2, unhide HK⟩, unhide HB⟩
      · have HT2 := hide ((unhide HT).2 hc)
        rw [hlen]
        simp only [maxLen] at hcm
        have hcl2 : r.length + 1 ≤ c1 := hcl
        clear HV HT
        go_wp2_with fail
        all_goals go_ret
        all_goals exact ⟨_, _, r, rfl, hide ⟨unhide HT2, unhide HK⟩, unhide HB⟩
    · have HK := hide (tkn_of (unhide HL) hl (fun t' r' h => by cases h; exact hz))
      rw [hlen]
      simp only [maxLen] at hcm
      have HV2 : Hid (LogV w1 (.slice (some ⟨b, off, none⟩) (r.length + 1) c1) (t :: r)) := HV
      clear HV HT
      go_wp2_with fail
      go_ret
      exact ⟨_, _, t :: r, rfl, hide ⟨unhide HV2, unhide HK⟩, unhide HB⟩
end Go.Proofs.YtbkndjhogaloiaaGreatDoor

namespace Go.Proofs.YtbkndjhogaloiaaGreatDoor
open Go.RowKit

/-- a server that took this log safely -/
noncomputable def svF (m : List WTxn) : Sv := ⟨true, [logF m], 0, epochD [], m, 0, trNew, []⟩
theorem svF_fits {m : List WTxn} (h : Tkn m) : Fits (svF m) := by
  have h1 := recs_small h.log (by have := h.few; omega)
  have g0 : GoodD [logF m] := good_one (by simp; omega)
  refine ⟨by simp [svF], good_slim g0, by simp only [svF]; have := h.few; omega, fun x hx => ?_, by simp [svF, trNew], fun x hx => ?_, by simp [svF, trNew], by simp [svF], by simp [svF]⟩
  · have hg := h.log.good x hx
    have h2 := gdE_zero hg
    have h3 := fmB_le h2.2.2.2
    omega
  · simp only [svF, trNew, List.mem_singleton] at hx
    subst hx
    decide
theorem svF_took {m : List WTxn} (h : Tkn m) {i : Nat} {t : WTxn} (ht : m[i]? = some t) : Took (svF (m.take i)) t true 0 (svF (m.take (i + 1))) ∧ Tkn (m.take i) := by
  have hi := (List.getElem?_eq_some_iff.1 ht).1
  have e : m = m.take i ++ t :: m.drop (i + 1) := by
    obtain ⟨hk, rfl⟩ := List.getElem?_eq_some_iff.1 ht
    simp
  rw [take_more1 ht]
  generalize m.take i = a at *
  generalize m.drop (i + 1) = b at *
  subst e
  obtain ⟨h1, h2, h3⟩ := h.at
  exact ⟨.inr (.inr ⟨h2, rfl, [logF (a ++ [t])], rfl, appF_logF h1 (by omega)⟩), h.front⟩

theorem zero_other {W : World} {k q : Nat} (h : Box10 W k false (.slice none 0 0) 0 0 (.slice none 0 0) 0 0 (.slice none 0 0) (.slice none 0 0) (.slice none 0 0)) (hne : k ≠ q) (x0 x1 x2 x3 x4 x5 x6 x7 x8 x9 : Value) :
    Box10 (put10 W q x0 x1 x2 x3 x4 x5 x6 x7 x8 x9) k false (.slice none 0 0) 0 0 (.slice none 0 0) 0 0 (.slice none 0 0) (.slice none 0 0) (.slice none 0 0) := by
  unfold put10
  exact (Box10.other (Box10.other (Box10.other (Box10.other (Box10.other (Box10.other (Box10.other (Box10.other (Box10.other (Box10.other h hne) hne) hne) hne) hne) hne) hne) hne) hne) hne)

set_option maxRecDepth 10000 in
set_option maxHeartbeats 4000000 in
theorem filled_any (v : Value) (m : List WTxn) (w : World) (hv : LogV w v m) (hT : Tkn m) :
    Calls Tryz.prog 5 #[v] w fun e w' => ∃ v', e = .returned (.tuple #[v', .bool true]) ∧ SvV w' v' (svF m) ∧ Below w.heap.size w w' := by
  have HV := hide hv
  have HT := hide hT
  have hlen : m.length ≤ 40 := hT.few
  have CB := hide (fun W => boot_none 0 (by omega) (by omega) W)
  obtain ⟨a, c, rfl⟩ := log_slice hv
  clear hv hT
  go_enter Tryz.func5, Tryz.ntmps5
  go_wp2_with fail
  have Z0 := hide (newZ w)
  have B0 := hide (allocB w (.cells #[.bool false, .slice none 0 0, .int .i64 0, .int .i64 0, .slice none 0 0, .int .i64 0, .int .i64 0, .slice none 0 0, .slice none 0 0, .slice none 0 0] 35))
  obtain ⟨k0, hk0⟩ : ∃ k0, w.heap.size = k0 := ⟨_, rfl⟩
  have HK0 : Hid (w.heap.size ≤ k0) := hide (by omega)
  rw [hk0] at Z0
  rw [hk0]
  generalize w.alloc (.cells #[.bool false, .slice none 0 0, .int .i64 0, .int .i64 0, .slice none 0 0, .int .i64 0, .int .i64 0, .slice none 0 0, .slice none 0 0, .slice none 0 0] 35) = W0 at *
  refine (unhide CB _).mono ?_
  rintro e w1 ⟨v1, rfl, hv1, hb1⟩
  obtain ⟨s0, hs0⟩ : ∃ s0, s0 = svUp 0 := ⟨_, rfl⟩
  rw [← hs0] at hv1
  obtain ⟨ad, nd, cd, al, cl, an, cn, ai, ci, aw, cw, rfl, _, _, _, _, _⟩ := hv1.five
  have HI0 := hide (inbox_new (nnext (unhide B0) hb1) hv1)
  have Z1 := hide (((unhide Z0).next hb1).next (allocB w1 (.cells #[.bool s0.up, .slice ad nd cd, .int .i64 s0.id, .int .i64 s0.ep, .slice al s0.ts.length cl, .int .i64 s0.dn, .int .i64 s0.tr.z, .slice an s0.tr.ns.length cn, .slice ai s0.tr.ss.length ci, .slice aw s0.ws.length cw] 35)))
  obtain ⟨q, hq⟩ : ∃ q, w1.heap.size = q := ⟨_, rfl⟩
  have HKQ : Hid (k0 ≠ q) := hide (by have := ((unhide Z0).next hb1).lt; omega)
  have HQ : Hid (w.heap.size ≤ q) := hide (by have := (nnext (unhide B0) hb1).size; omega)
  rw [hq] at HI0
  have HS0 : Hid (s0 = svF (m.take 0)) := hide (by rw [hs0, List.take_zero]; rfl)
  clear hv1 hb1 Z0 B0 CB hs0 hk0
  go_upto_region 2 with fail
  generalize w1.alloc (.cells #[.bool s0.up, .slice ad nd cd, .int .i64 s0.id, .int .i64 s0.ep, .slice al s0.ts.length cl, .int .i64 s0.dn, .int .i64 s0.tr.z, .slice an s0.tr.ns.length cn, .slice ai s0.tr.ss.length ci, .slice aw s0.ws.length cw] 35) = W1 at *
  rw [unhide HS0] at HI0
  clear hq
  go_wp2_with fail
  go_loopg [5, 6] m.length (fun kx s5 s6 wr => ∃ i : Nat, s5 = .int .i64 0 ∧ s6 = .int .i64 i ∧ i ≤ m.length ∧ m.length - i ≤ kx ∧ Hid (InBox w wr q (svF (m.take i))) ∧ Hid (Box10 wr k0 false (.slice none 0 0) 0 0 (.slice none 0 0) 0 0 (.slice none 0 0) (.slice none 0 0) (.slice none 0 0)))
  case atStart => exact ⟨0, rfl, rfl, Nat.zero_le _, Nat.le_refl _, HI0, Z1⟩
  case round =>
    obtain ⟨i, rfl, rfl, hi, hgi, HI, HZ⟩ := hrel
    by_cases hlt : i < m.length
    · obtain ⟨t, ht⟩ : ∃ t, m[i]? = some t := ⟨_, List.getElem?_eq_getElem hlt⟩
      obtain ⟨hTk, hTi⟩ := svF_took (unhide HT) ht
      have hgd := (unhide HT).log.good t (List.mem_of_getElem? ht)
      have HCT := hide (fun v W (h : SvV W v (svF (m.take i))) => stakeF_any _ _ v t true 0 W h (svF_fits hTi) hTk (by have := fmB_le (gdE_zero hgd).2.2.2; omega) (by have := (gdE_zero hgd).2.2.1; omega) (by simp [svF]; omega))
      obtain ⟨bad, bnd, bcd, bal, bnl, bcl, ban, bnn, bcn, bai, bni, bci, baw, bnw, bcw, hbx, hsv, hbw⟩ := unhide HI
      obtain ⟨b, off, cap, he, hb, r, _⟩ := log_row ((unhide HV).next hbw) ht
      simp only [Value.slice.injEq, true_and] at he
      obtain ⟨rfl, rfl⟩ := he
      have e0 := r.z ht
      have e1 := r.o ht
      have e2 := r.s ht
      have e3 := r.p ht
      have e4 := r.d ht
      have e5 := r.v ht
      have e6 := r.w ht
      have hii : (i : Int) < (m.length : Int) := by omega
      obtain ⟨s', hs'⟩ : ∃ s', s' = svF (m.take (i + 1)) := ⟨_, rfl⟩
      have hss : Hid (s'.tr.ss = []) := hide (by rw [hs']; rfl)
      rw [← hs'] at HCT
      obtain ⟨s, hs⟩ : ∃ s, s = svF (m.take i) := ⟨_, rfl⟩
      rw [← hs] at HCT hbx hsv
      have HS' := hide hs'
      obtain ⟨x0, x1, x2, x3, x4, x5, x6, x7, x8, x9⟩ := hbx.cells
      have HBX := hide hbx
      have HSV := hide hsv
      have HBW := hide hbw
      have hqlt := hbx.lt
      clear r ht hb hTk hTi hgd hs hs' hbx hsv hbw HI
      obtain ⟨tz, tw, tx, tp, td, ty, tu⟩ := t
      unfold txnV at HCT
      simp only at e0 e1 e2 e3 e4 e5 e6
      go_upto_region 5 with fail
      go_region_with (first
        | (go_at_call 13; refine (unhide HCT _ _ ((unhide HSV).next (Below.refl _ _).drew)).mono ?_; rintro e w2 ⟨cad, cnd, ccd, cal, cnl, ccl, can, cnn, ccn, cai, cni, cci, caw, cnw, ccw, rfl, S2, hb2⟩; have B2 := hide (nbelow_drew hb2); have X2 := hide ((unhide HBX).next (unhide B2)); obtain ⟨y0, y1, y2, y3, y4, y5, y6, y7, y8, y9⟩ := (unhide X2).cells; have yf0 := (unhide X2).froz 0; have yf1 := (unhide X2).froz 1; have yf2 := (unhide X2).froz 2; have yf3 := (unhide X2).froz 3; have yf4 := (unhide X2).froz 4; have yf5 := (unhide X2).froz 5; have yf6 := (unhide X2).froz 6; have yf7 := (unhide X2).froz 7; have yf8 := (unhide X2).froz 8; have yf9 := (unhide X2).froz 9; have HBw2 := hide (nnext (unhide HBW) (unhide B2)); have Z2 := hide ((unhide HZ).next (unhide B2)); have HR2 := hide (inbox_over0 (unhide HBw2) (unhide HQ) (unhide hss) (unhide S2).1 (unhide X2)); have HZ3 := hide (zero_other (unhide Z2) (unhide HKQ) (.bool s'.up) (.slice cad cnd ccd) (.int .i64 s'.id) (.int .i64 s'.ep) (.slice cal cnl ccl) (.int .i64 s'.dn) (.int .i64 s'.tr.z) (.slice can cnn ccn) (.slice cai cni cci) (.slice caw cnw ccw)); unfold put10 at HR2 HZ3; clear hb2))
      all_goals go_wp2_with fail
      all_goals
        go_roundg (m.length - (i + 1))
        case measure => omega
        case rel =>
          refine ⟨i + 1, rfl, by simp, by omega, Nat.le_refl _, ?_, ?_⟩
          · rw [← unhide HS']
            with_reducible exact HR2
          · with_reducible exact HZ3
    · obtain rfl : i = m.length := by omega
      have hki : ¬ ((m.length : Int) < (m.length : Int)) := by omega
      rw [List.take_length] at HI
      obtain ⟨bad, bnd, bcd, bal, bnl, bcl, ban, bnn, bcn, bai, bni, bci, baw, bnw, bcw, hbx, hsv, hbw⟩ := unhide HI
      obtain ⟨s, hs⟩ : ∃ s, s = svF m := ⟨_, rfl⟩
      rw [← hs] at hbx hsv
      have HS := hide hs
      have hss : s.tr.ss = [] := by rw [hs]; rfl
      have HR := hide (inbox_over0 hbw (unhide HK0) hss hsv (unhide HZ))
      have HRS := hide (put10_sv0 (up := s.up) (id := s.id) (ep := s.ep) (dn := s.dn) (z := s.tr.z) (ad := bad) (nd := bnd) (cd := bcd) (al := bal) (nl := bnl) (cl := bcl) (an := ban) (nn := bnn) (cn := bcn) (ai := bai) (ni := bni) (ci := bci) (aw := baw) (nw := bnw) (cw := bcw) (unhide HZ).dumb hss hsv)
      obtain ⟨x0, x1, x2, x3, x4, x5, x6, x7, x8, x9⟩ := hbx.cells
      obtain ⟨r0, r1, r2, r3, r4, r5, r6, r7, r8, r9⟩ := (unhide HZ).cells
      have rf0 := (unhide HZ).froz 0
      have rf1 := (unhide HZ).froz 1
      have rf2 := (unhide HZ).froz 2
      have rf3 := (unhide HZ).froz 3
      have rf4 := (unhide HZ).froz 4
      have rf5 := (unhide HZ).froz 5
      have rf6 := (unhide HZ).froz 6
      have rf7 := (unhide HZ).froz 7
      have rf8 := (unhide HZ).froz 8
      have rf9 := (unhide HZ).froz 9
      clear hs hbx hsv hbw hss HI
      go_wp2_with fail
      refine bodyPost_ret (v := .tuple #[.agg #[.bool s.up, .slice bad bnd bcd, .int .i64 s.id, .int .i64 s.ep, .slice bal bnl bcl, .int .i64 s.dn, .int .i64 s.tr.z, .slice ban bnn bcn, .slice bai bni bci, .slice baw bnw bcw], .bool true]) (by simp [results, Tryz.results5, go_sem, r0, r1, r2, r3, r4, r5, r6, r7, r8, r9]) rfl ?_
      obtain ⟨_, _, _, _, _, _, _, _, _, _, _, _, _, _, _, _, hsv2, hbw2⟩ := unhide HR
      exact ⟨_, rfl, by rw [← unhide HS]; exact unhide HRS, hbw2⟩
end Go.Proofs.YtbkndjhogaloiaaGreatDoor

namespace Go.Proofs.YtbkndjhogaloiaaGreatDoor
open Go.RowKit

theorem zbelow_grow (w : World) (k : Nat) (os : Array Obj) : Below w.heap.size w (Sort.grow (w.drewN k) os) :=
  ⟨rfl, rfl, rfl, by simp [Sort.grow, World.drewN], fun i hi => by simp [Sort.grow, World.drewN, Array.getElem?_append_left hi]⟩
theorem zret_str2 {a b : ByteArray} {i j : Int} (h : a = b) (h' : i = j) : Ending.returned (.tuple #[.string a, .int .i64 i]) = .returned (.tuple #[.string b, .int .i64 j]) := by rw [h, h']
theorem zbelow_next {w w1 w2 : World} (h : Below w.heap.size w w1) (h' : Below w1.heap.size w1 w2) : Below w.heap.size w w2 := h.trans (h'.mono h.size)
theorem zcat_dot (d m : List UInt8) : (ByteArray.mk d.toArray) ++ (ByteArray.mk #[46]) ++ (ByteArray.mk m.toArray) = ⟨(d ++ 46 :: m).toArray⟩ := by
  apply ByteArray.ext
  simp [ByteArray.data_append]
theorem zgPow : Tryz.prog.globalNamed "internal/strconv.uint64pow10" = some 1 := by kernel_rfl
theorem ztab_lt {w : World} (htab : Lib.TabIs Tryz.prog w "internal/strconv.uint64pow10" .u64 Lib.pow10Tab) : 1 < w.heap.size := by
  have hc := htab.cell zgPow 0 (by decide)
  unfold World.cell? at hc
  cases ho : w.heap[1]? with
  | none => simp [ho] at hc
  | some o => exact (Array.getElem?_eq_some_iff.1 ho).1
theorem ztab_kept {w w' : World} (htab : Lib.TabIs Tryz.prog w "internal/strconv.uint64pow10" .u64 Lib.pow10Tab) (hb : Below w.heap.size w w') : Lib.TabIs Tryz.prog w' "internal/strconv.uint64pow10" .u64 Lib.pow10Tab :=
  var?_below hb zgPow (ztab_lt htab) htab

set_option maxRecDepth 10000 in
set_option maxHeartbeats 400000 in
theorem ztext_any (z : Int) (w : World) (htab : Lib.TabIs Tryz.prog w "internal/strconv.uint64pow10" .u64 Lib.pow10Tab) :
    Calls Tryz.prog 27 #[.int .i64 z] w fun e w' => e = .returned (.tuple #[.string ⟨(zText z).toArray⟩, .int .i64 (zTextE z)]) ∧ Below w.heap.size w w' := by
  cases hg : zGood z
  · have H := hide (zText_no hg)
    have Hg := hide hg
    clear hg htab
    go_enter Tryz.func27, Tryz.ntmps27
    go_wp2_with fail
    refine (zgood_any z _).mono ?_
    rintro e w1 ⟨rfl, rfl⟩
    rw [unhide Hg]
    go_wp2_with fail
    go_ret2
    exact ⟨zret_str2 (by rw [(unhide H).1]) (unhide H).2.symm, Below.refl _ _⟩
  have hz := zGood_iff.1 hg
  have H := hide (zText_yes hg)
  have Hg := hide hg
  have q0 : (z / 2147483648) = ((z / 2147483648).toNat : Int) := by omega
  have r0 : (z % 2147483648) = ((z % 2147483648).toNat : Int) := by omega
  obtain ⟨q, hq⟩ : ∃ q, (z / 2147483648).toNat = q := ⟨_, rfl⟩
  obtain ⟨r, hr⟩ : ∃ r, (z % 2147483648).toNat = r := ⟨_, rfl⟩
  have q1 : q < 2147483648 := by omega
  have r1 : r < 2147483648 := by omega
  rw [hq] at q0
  rw [hr] at r0
  rw [hq, hr] at H
  have Ez : Hid (zEpoch z = (q : Int)) := hide (by rw [zEpoch_yes hg]; exact q0)
  have Cz : Hid (zCount z = (r : Int)) := hide (by rw [zCount_yes hg]; exact r0)
  have Htab := hide htab
  have Hiq := hide (Lib.itoa_nonneg q)
  have Hir := hide (Lib.itoa_nonneg r)
  have lq := dec_len 9 q (by omega)
  have lr := dec_len 9 r (by omega)
  clear hg hz q0 r0 hq hr htab
  go_enter Tryz.func27, Tryz.ntmps27
  go_wp2_with fail
  refine (zgood_any z _).mono ?_
  rintro e w1 ⟨rfl, rfl⟩
  rw [unhide Hg]
  go_wp2_with fail
  refine (zepoch_any z _).mono ?_
  rintro e w2 ⟨rfl, rfl⟩
  rw [unhide Ez]
  go_wp2_with fail
  refine (Tryz.strconv_Itoa _ (by omega) (by omega) _ (unhide Htab)).mono ?_
  rintro e w3 ⟨rfl, k, os, hw3⟩
  have hb3 : Below w2.heap.size w2 w3 := by rw [hw3]; exact zbelow_grow w2 k os
  clear hw3
  rw [unhide Hiq]
  obtain ⟨D, hD⟩ : ∃ D, Lib.decDigits q = D := ⟨_, rfl⟩
  rw [hD] at lq H ⊢
  clear hD
  go_wp2_with fail
  refine (zcount_any z _).mono ?_
  rintro e w4 ⟨rfl, rfl⟩
  rw [unhide Cz]
  go_wp2_with fail
  refine (Tryz.strconv_Itoa _ (by omega) (by omega) _ (ztab_kept (unhide Htab) hb3)).mono ?_
  rintro e w5 ⟨rfl, k, os, hw5⟩
  have hb5 : Below w2.heap.size w2 w5 := zbelow_next hb3 (by rw [hw5]; exact zbelow_grow w4 k os)
  clear hw5
  rw [unhide Hir]
  obtain ⟨R, hR⟩ : ∃ R, Lib.decDigits r = R := ⟨_, rfl⟩
  rw [hR] at lr H ⊢
  clear hR Hiq Hir Ez Cz Hg hb3
  have zD : (ByteArray.mk D.toArray).size = D.length := Lib.size_eq ⟨D.toArray⟩
  have zR : (ByteArray.mk R.toArray).size = R.length := Lib.size_eq ⟨R.toArray⟩
  go_wp2_with fail
  go_ret2
  exact ⟨zret_str2 (by rw [(unhide H).1]; exact zcat_dot D R) (unhide H).2.symm, hb5⟩

end Go.Proofs.YtbkndjhogaloiaaGreatDoor

namespace Go.Proofs.YtbkndjhogaloiaaGreatDoor
open Go.RowKit

/-- the table that numbers are written by lies as Go's library lays it -/
def TabP (W : World) : Prop := Lib.TabIs Tryz.prog W "internal/strconv.uint64pow10" .u64 Lib.pow10Tab
theorem TabP.next {w w' : World} (h : TabP w) (hb : Below w.heap.size w w') : TabP w' := ztab_kept h hb
/-- a call on a disk says E, and hands back a disk, where that table lies -/
def GivesE (f : FuncId) (args : Value → Array Value) (fs d : List DF) (E : Int) : Prop := ∀ v W, TabP W → DiskV W v fs → Calls Tryz.prog f (args (.agg #[v])) W fun e w' => ∃ a n c, e = .returned (.tuple #[.agg #[.slice a n c], .int .i64 E]) ∧ Hid (DiskV w' (.slice a n c) d) ∧ Below W.heap.size W w'
set_option maxRecDepth 10000 in
set_option maxHeartbeats 2000000 in
theorem srem_no (fs : List DF) (ep : Int) (hM : zMakeE ep 0 ≠ 0) : GivesE 16 (fun x => #[x, .int .i64 ep]) fs [] (zMakeE ep 0) := by
  intro v w _ hv
  have CM := fun W => zmake_any ep 0 W
  have hne : (zMakeE ep 0 != 0) = true := by simpa using hM
  generalize zMakeE ep 0 = E at *
  generalize zMake ep 0 = z at *
  obtain ⟨a, n, c, rfl⟩ := disk_slice hv
  clear hv hM
  go_enter Tryz.func16, Tryz.ntmps16
  go_wp2_with fail
  have X := RBox.start w (.slice a n c)
  generalize (w.alloc (.cells #[.slice a n c] 26)).alloc (.cells #[.slice none 0 0] 26) = W0 at *
  have cr := X.r.c
  have fr := X.r.f
  have HB := hide (X.below.setCell (p := ⟨w.heap.size + 1, 0, none⟩) (by show w.heap.size ≤ w.heap.size + 1; omega) (.slice none 0 0))
  clear X
  refine (CM _).mono ?_
  rintro e w1 ⟨rfl, rfl⟩
  clear CM
  go_wp2_with fail
  exact bodyPost_ret (v := .tuple #[.agg #[.slice none 0 0], .int .i64 E]) (by simp [results, Tryz.results16, go_sem, cr]) rfl ⟨_, _, _, rfl, hide (DiskV.nil _), unhide HB⟩

set_option maxRecDepth 10000 in
set_option maxHeartbeats 2000000 in
theorem srem_not_ok (fs d1 d2 d3 : List DF) (ep E1 E3 : Int) (hM : zMakeE ep 0 = 0) (h1 : E1 ≠ 0) (R1 : GivesD 28 (fun x => #[x, .string ⟨epochN.toArray⟩]) fs d1 E1) (W1 : GivesD 29 (fun x => #[x, .string ⟨epochN.toArray⟩, .string ⟨(zText (zMake ep 0)).toArray⟩]) fs d2 0) (S1 : GivesD 30 (fun x => #[x, .string ⟨epochN.toArray⟩]) d2 d3 E3) : GivesE 16 (fun x => #[x, .int .i64 ep]) fs d3 E3 := by
  intro v w ht hv
  have CM := fun W => zmake_any ep 0 W
  rw [hM] at CM
  have CT := fun W (h : Below w.heap.size w W) => ztext_any (zMake ep 0) W (ht.next h)
  have h1' : (E1 == 0) = false := by simpa using h1
  simp only [show epochN.toArray = #[101, 112, 111, 99, 104] from rfl] at R1 W1 S1
  generalize zTextE (zMake ep 0) = te at *
  generalize zText (zMake ep 0) = T at *
  generalize zMake ep 0 = z at *
  have HV := hide hv
  have HR := hide R1
  have HW := hide W1
  have HS := hide S1
  obtain ⟨a, n, c, rfl⟩ := disk_slice hv
  clear hv hM R1 W1 S1 h1 ht
  go_enter Tryz.func16, Tryz.ntmps16
  go_wp2_with fail
  have X := RBox.start w (.slice a n c)
  generalize (w.alloc (.cells #[.slice a n c] 26)).alloc (.cells #[.slice none 0 0] 26) = W0 at *
  have HX := hide X
  clear X
  refine (CM _).mono ?_
  rintro e w1 ⟨rfl, rfl⟩
  clear CM
  go_wp2_with fail
  refine (CT _ (unhide HX).below).mono ?_
  rintro e w2 ⟨rfl, hb2⟩
  have X2 := (unhide HX).next hb2
  have cd := X2.d.c
  have HX2 := hide X2
  clear hb2 X2 HX CT
  go_wp2_with fail
  refine (unhide HR _ _ ((unhide HV).next (unhide HX2).below)).mono ?_
  rintro e w3 ⟨a3, n3, c3, rfl, HD3, hb3⟩
  have X3 := (unhide HX2).next hb3
  have cd3 := X3.d.c
  have fd3 := X3.d.f
  have hk3 := X3.d.lt
  have X4 := X3.next (allocB _ (.cells #[.slice a3 n3 c3] 26))
  have D4 := (unhide HV).next X4.below
  have cd4 := X4.d.c
  have HX4 := hide X4
  have HD4 := hide D4
  clear hb3 X3 X4 D4 HD3 HX2 HR cd cd3 fd3 hk3 HV
  go_wp2_with fail
  generalize w3.alloc (.cells #[.slice a3 n3 c3] 26) = W4 at *
  refine (unhide HW _ _ (unhide HD4)).mono ?_
  rintro e w5 ⟨a5, n5, c5, rfl, HD5, hb5⟩
  have X5 := (unhide HX4).next hb5
  have X6 := X5.next (allocB _ (.cells #[.slice a5 n5 c5] 26))
  have D6 := (unhide HD5).alloc (.cells #[.slice a5 n5 c5] 26)
  have HX6 := hide X6
  have HD6 := hide D6
  clear hb5 X5 X6 D6 HD5 HX4 HD4 HW cd4
  go_wp2_with fail
  refine (unhide HS _ _ (unhide HD6)).mono ?_
  rintro e w7 ⟨a7, n7, c7, rfl, HD7, hb7⟩
  have X7 := (unhide HX6).next hb7
  have cr7 := X7.r.c
  have fr7 := X7.r.f
  have HF := hide (And.intro (X7.below.setCell (p := ⟨w.heap.size + 1, 0, none⟩) (by show w.heap.size ≤ w.heap.size + 1; omega) (.slice a7 n7 c7)) (disk_box (unhide HD7) X7.r (.slice a7 n7 c7)))
  clear hb7 X7 HX6 HD6 HD7 HS
  go_wp2_with fail
  exact bodyPost_ret (v := .tuple #[.agg #[.slice a7 n7 c7], .int .i64 E3]) (by simp [results, Tryz.results16, go_sem, cr7]) rfl ⟨_, _, _, rfl, hide (unhide HF).2, (unhide HF).1⟩

end Go.Proofs.YtbkndjhogaloiaaGreatDoor

namespace Go.Proofs.YtbkndjhogaloiaaGreatDoor
open Go.RowKit

theorem CB.dput {w W : World} {up : Bool} {id ep dn z : Int} {vd vl vn vs vw : Value} (h : CB w W up vd id ep vl dn z vn vs vw) (q : Nat) (u : Value) (hq : w.heap.size + 2 ≤ q) : CB w (W.setCell ⟨q, 0, none⟩ u) up vd id ep vl dn z vn vs vw :=
  ⟨h.below.setCell (by simp only; omega) u, h.s.other (by omega), h.r.other (by omega)⟩
/-- the number up to which Follow keeps a log: that of the k-th of l -/
def FolZ (l : List WTxn) (k : Nat) (z : Int) : Prop := (k = 0 ∧ z = -1) ∨ ∃ x, 0 < k ∧ l[k - 1]? = some x ∧ z = x.z

set_option maxRecDepth 10000 in
set_option maxHeartbeats 4000000 in
theorem sfol_rem (s : Sv) (v : Value) (vl : Value) (l : List WTxn) (epo : Int) (w : World) (hv : SvV w v s) (hvl : LogV w vl l) (hf : Fits s) (hll : l.length ≤ 1000000000) (ht : TabP w) (hk : ¬ (comN s.ts l : Int) < s.dn) (z E : Int) (d2 d3 : List DF) (hz : FolZ l (comN s.ts l) z) (hE : E ≠ 0) (G : GivesD 15 (fun g => #[g, .int .i64 z]) s.fs d2 0) (R : GivesE 16 (fun g => #[g, .int .i64 epo]) d2 d3 E) :
    Calls Tryz.prog 7 #[v, vl, .int .i64 epo] w (GivesZ w E) := by
  obtain ⟨ad, nd, cd, al, cl, an, cn, ai, ci, aw, cw, rfl, d1, l1, n1, s1, k1⟩ := hv.five
  have CC := hide (fun W (hW : Below w.heap.size w W) => common_any _ vl s.ts l W (l1.next hW) (hvl.next hW) (by have := hf.l; omega) (by omega))
  have HG := hide (fun W (hW : Below w.heap.size w W) => G _ W (d1.next hW))
  have HLR := hide (fun (j : Nat) (x : WTxn) (hx : l[j]? = some x) W (hW : Below w.heap.size w W) => log_row (hvl.next hW) hx)
  obtain ⟨lb, lc, rfl⟩ := log_slice hvl
  have hne : (E != 0) = true := by simpa using hE
  have HR := hide R
  have HTab := hide (fun W (hW : Below w.heap.size w W) => ht.next hW)
  clear hv d1 l1 n1 s1 k1 hvl hf G hE R ht
  obtain ⟨up, fs, id, ep, ts, dn, ⟨tz, tns, tss⟩, ws⟩ := s
  simp only at *
  go_enter Tryz.func7, Tryz.ntmps7
  go_wp2_with fail
  have X0 := hide (CB.start w up id ep dn tz (.slice ad nd cd) (.slice al ts.length cl) (.slice an tns.length cn) (.slice ai tss.length ci) (.slice aw ws.length cw))
  generalize (w.alloc (.cells #[.bool up, .slice ad nd cd, .int .i64 id, .int .i64 ep, .slice al ts.length cl, .int .i64 dn, .int .i64 tz, .slice an tns.length cn, .slice ai tss.length ci, .slice aw ws.length cw] 35)).alloc (.cells #[.bool false, .slice none 0 0, .int .i64 0, .int .i64 0, .slice none 0 0, .int .i64 0, .int .i64 0, .slice none 0 0, .slice none 0 0, .slice none 0 0] 35) = W0 at *
  refine (unhide CC _ (unhide X0).below).mono ?_
  rintro e w1 ⟨rfl, hb1⟩
  have X1 := hide ((unhide X0).next hb1)
  have x5 := (unhide X1).s.cells.2.2.2.2.2.1
  clear hb1 X0 CC
  have x1 := (unhide X1).s.cells.2.1
  have hkl := (comN_le ts l).2
  generalize comN ts l = k at *
  have hnk : ¬ ((k : Int) < dn) := by omega
  go_upto_if 27 with fail
  go_cut [9] from 15 (fun t9 wx => t9 = .int .i64 z ∧ wx = w1)
  case first =>
    rcases hz with ⟨rfl, rfl⟩ | ⟨x, hk0, hx, rfl⟩
    · go_wp2_with fail
      go_meet
      exact ⟨rfl, rfl⟩
    · obtain ⟨m, rfl⟩ : ∃ m, k = m + 1 := ⟨k - 1, by omega⟩
      simp only [Nat.add_sub_cancel] at hx
      obtain ⟨b, o, c, he, hb, q, hm1, _⟩ := unhide HLR m x hx w1 (unhide X1).below
      simp only [Value.slice.injEq] at he
      obtain ⟨rfl, _, rfl⟩ := he
      have e0 := q.z hx
      generalize x.z = z at *
      have i1 : (m : Int) < (l.length : Int) := by omega
      have i2 : (0 : Int) < ((m + 1 : Nat) : Int) := by omega
      have i3 : IntKind.i64.wrap (((m + 1 : Nat) : Int) - 1) = (m : Int) := by rw [IntKind.wrap_i64]; omega
      have i4 : (((m + 1 : Nat) : Int) - 1) = (m : Int) := by omega
      clear q hx
      go_wp2_with fail
      go_meet
      exact ⟨rfl, rfl⟩
  case rest =>
    obtain ⟨rfl, rfl⟩ := hcut
    clear HLR
    go_wp2_with fail
    refine (unhide HG _ (unhide X1).below).mono ?_
    rintro e w2 ⟨a2, n2, c2, rfl, D2, hb2⟩
    have hal := allocB w2 (.cells #[.slice a2 n2 c2] 26)
    have X2 := hide (((unhide X1).next hb2).next hal)
    have A2 := hide (BoxAt.new w2 (.slice a2 n2 c2))
    have F2 := hide ((unhide D2).next hal)
    have Q2 := hide (show w.heap.size + 2 ≤ w2.heap.size from ((unhide X1).next hb2).lt)
    clear hb2 hal X1 D2 HG x1 x5
    have ca := (unhide A2).c
    have fa := (unhide A2).f
    go_wp2_with fail
    generalize w2.heap.size = q2 at *
    generalize w2.alloc (.cells #[.slice a2 n2 c2] 26) = W2 at *
    refine (unhide HR _ _ (unhide HTab _ (unhide X2).below) (unhide F2)).mono ?_
    rintro e w3 ⟨a3, n3, c3, rfl, D3, hb3⟩
    have X3 := (unhide X2).next hb3
    have A3 := (unhide A2).next hb3
    have ca3 := A3.c
    have fa3 := A3.f
    have Y3 := X3.dput q2 (.slice a3 n3 c3) (by have := unhide Q2; omega)
    have E3 := disk_box (unhide D3) A3 (.slice a3 n3 c3)
    have B3 := A3.set (.slice a3 n3 c3)
    have HX3 := hide Y3
    have HD3 := hide E3
    have HA3 := hide B3
    clear hb3 X2 A2 F2 D3 X3 A3 Y3 E3 B3 HR ca fa
    go_upto_region 12 with fail
    generalize w3.setCell ⟨q2, 0, none⟩ (.slice a3 n3 c3) = W3 at *
    clear ca3 fa3
    obtain ⟨r0, r1, r2, r3, r4, r5, r6, r7, r8, r9⟩ := (unhide HX3).r.cells
    have rf0 := (unhide HX3).r.froz 0
    have rf1 := (unhide HX3).r.froz 1
    have rf2 := (unhide HX3).r.froz 2
    have rf3 := (unhide HX3).r.froz 3
    have rf4 := (unhide HX3).r.froz 4
    have rf5 := (unhide HX3).r.froz 5
    have rf6 := (unhide HX3).r.froz 6
    have rf7 := (unhide HX3).r.froz 7
    have rf8 := (unhide HX3).r.froz 8
    have rf9 := (unhide HX3).r.froz 9
    go_wp2_with fail
    exact bodyPost_ret (v := .tuple #[.agg #[.bool false, .slice none 0 0, .int .i64 0, .int .i64 0, .slice none 0 0, .int .i64 0, .int .i64 0, .slice none 0 0, .slice none 0 0, .slice none 0 0], .int .i64 E]) (by simp [results, Tryz.results7, go_sem, r0, r1, r2, r3, r4, r5, r6, r7, r8, r9]) rfl (givesZ_of rfl (unhide HX3).zero)

end Go.Proofs.YtbkndjhogaloiaaGreatDoor

namespace Go.Proofs.YtbkndjhogaloiaaGreatDoor
open Go.RowKit

/- append(nil, l...) at transactions and watches -/
theorem run_copyT (W : World) (ty : TypeId) (v : Value) (xs : List WTxn) (hv : SeqV W v xs) (hl : xs.length * 72 ≤ 140737488355328) :
    ∃ v' w', (Builtin.append_ #[22, 22] ty #[.slice none 0 0, v]).run Tryz.prog W = .ok v' w' ∧ OwnS w' W.heap.size v' xs ∧ W.grownBy w' none := by
  obtain ⟨i0, hi0, hz0, hz1, hz2⟩ := info_txn
  have main : ∀ (a : Addr) (cap : Nat), v = .slice (some a) xs.length cap → (∀ j u, (cellsL xs)[j]? = some u → W.cell? (a.add j) = some u) →
      ∃ v' w', (Builtin.append_ #[22, 22] ty #[.slice none 0 0, v]).run Tryz.prog W = .ok v' w' ∧ OwnS w' W.heap.size v' xs ∧ W.grownBy w' none := by
    intro a cap e hc
    subst e
    obtain ⟨v', w', h1, h2, h3, _⟩ := run_append_own (P := Tryz.prog) W W.heap.size 22 ty 47 i0 _ 7 72 Tryz.underlying22 hi0 hz0 hz1 hz2 rfl (by decide) (.slice none 0 0) 0 [] (World.ownsRow_nil _ _ _ _) a xs.length cap (cellsL xs) (cellsL_length xs) hc (cellsL_one xs)
      (by simp only [maxLen]; omega) (by omega) (Nat.le_refl _)
    refine ⟨v', w', h1, OwnS.of_row (by first | exact h2 | (simp only [List.nil_append, Nat.zero_add] at h2; exact h2) | simpa using h2), h3⟩
  rcases hv with ⟨a, cap, rfl, rfl, _⟩ | ⟨b, off, cap, rfl, _, _, _, _, hr⟩
  · cases a with
    | none =>
      refine ⟨.slice none 0 0, W, ?_, .inl ⟨rfl, rfl⟩, ⟨rfl, rfl, rfl, Nat.le_refl _, fun _ _ _ => rfl⟩⟩
      simp [Builtin.append_, run_underlying Tryz.underlying22, sizeOf, typeInfo, hi0, Builtin.lenOf, Builtin.firstCells]
    | some a => exact main a cap rfl (fun j u h => by simp [cellsL] at h)
  · exact main ⟨b, off, none⟩ cap rfl (fun j u h => by rw [Addr.add_lit]; exact hr j u h)
theorem step_copyT {w : World} {ops : Array Oper} {o : Oper} {a : Act} {K : Act → World → Prop} {Q : Exit → Act → World → Prop} {E : Prop} (hgd : Region.wanted o (yielded ops a.tmps) = true) (s x : Operand)
    (ho : o.op = .call { callee := .builtin .append, args := #[s, x], argTypes := #[22, 22] })
    (hs : a.eval s = .slice none 0 0) (v : Value) (hx : a.eval x = v) (xs : List WTxn) (hv : SeqV w v xs) (hl : xs.length * 72 ≤ 140737488355328)
    (h : ∀ a' c' w', OwnS w' w.heap.size (.slice a' xs.length c') xs → w.grownBy w' none → K (a.put o.dst (.slice a' xs.length c')) w') :
    if Region.wanted o (yielded ops a.tmps) = true then Oper.wp Tryz.prog o a w K Q else E := by
  rw [if_pos hgd]
  obtain ⟨v', w', hr, h2, h3⟩ := run_copyT w o.type v xs hv hl
  obtain ⟨a', c', rfl, _⟩ := h2.slice
  unfold Oper.wp execOp
  simp only [ho, resolve, invoke, builtin, Sem.run_bind, Sem.run_pure, Result.andThen_ok, List.map_toArray, List.map_cons, List.map_nil, hs, hx, hr]
  exact h a' c' w' h2 h3
end Go.Proofs.YtbkndjhogaloiaaGreatDoor

namespace Go.Proofs.YtbkndjhogaloiaaGreatDoor
open Go.RowKit
/-- what stands at each round of aviaryref.Scan -/
structure RSc (w W : World) (g : Nat) (v : Value) (ts : List WTxn) : Prop where
  below : Below w.heap.size w W
  own : OwnL W (g + 1) v ts
  at_ : ∃ t, TxnAt W g t
  le : w.heap.size ≤ g
theorem RSc.next {w W V : World} {g : Nat} {v : Value} {ts : List WTxn} (h : RSc w W g v ts) (hb : Below W.heap.size W V) : RSc w V g v ts := by
  obtain ⟨t, ht⟩ := h.at_
  exact ⟨below_next2 h.below hb, h.own.next hb, ⟨t, ht.kept hb (by unfold TxnAt at ht; exact (Array.getElem?_eq_some_iff.1 ht).1)⟩, h.le⟩
theorem OwnL.other {W V : World} {B g : Nat} {v : Value} {ts : List WTxn} (h : OwnL W B v ts) (ho : Only g W V) (hg : g < B) : OwnL V B v ts := by
  obtain ⟨hl, h | ⟨q, cap, cur, e, hB, hq, hr⟩⟩ := h
  · exact ⟨hl, .inl h⟩
  · exact ⟨hl, .inr ⟨q, cap, cur, e, hB, (ho.block _ (by omega)).trans hq, hr⟩⟩
theorem RSc.put {w W : World} {g : Nat} {v : Value} {ts : List WTxn} (h : RSc w W g v ts) (t : WTxn) : RSc w (putTxn W g t) g v ts ∧ TxnAt (putTxn W g t) g t := by
  obtain ⟨t', ht⟩ := h.at_
  exact ⟨⟨(only_put W g t).below h.below h.le, h.own.other (only_put W g t) (Nat.lt_succ_self g), ⟨t, ht.store t⟩, h.le⟩, ht.store t⟩
end Go.Proofs.YtbkndjhogaloiaaGreatDoor
