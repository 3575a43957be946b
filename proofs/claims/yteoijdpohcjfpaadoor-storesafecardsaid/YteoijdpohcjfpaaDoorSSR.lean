/-
  aviarykeep.boots and aviarykeep.taken: the walks; a transaction more on a log, safe or not, in a row of its own.
  aviarykeep.filled: the walk.
  What aviarykeep.pick answers: the walk.
  aviarykeep.StoreSafe returns true: the walk.
  A transaction as an argument: opened into its seven fields, and read again.
  A disk as an argument: opened into its files; what its weights say of their lengths.
  A log as an argument: opened into its transactions; what its weights say of their lengths.
-/
import Derived.Test.YteoijdpohcjfpaaDoorSSK
import Derived.Test.YteoijdpohcjfpaaDoorSSN
import Derived.Test.YteoijdpohcjfpaaDoorSSO
import Derived.Test.YteoijdpohcjfpaaDoorSSQ
import Derived.Deep.Cut
import Derived.Deep.CutRange
import Derived.Test.YteoijdpohcjfpaaDoorRows
import Derived.Test.YteoijdpohcjfpaaDoorSSA
import Derived.WalkKit
import Derived.WalkSpells
import Derived.WalkLawsBesides
import Derived.Test.YteoijdpohcjfpaaDoorSSH
import Derived.ProofKit
import Derived.OpenShut
import Derived.SizedLaws
import Derived.Test.YteoijdpohcjfpaaDoorSSG
import Derived.Deep.Slices
import Derived.Carry
import Derived.Test.YteoijdpohcjfpaaDoorSSC
namespace Go.Proofs.YteoijdpohcjfpaaDoor
open Go.RowKit

set_option maxRecDepth 10000 in
set_option maxHeartbeats 1000000 in
theorem kboots_any (w : World) : Calls Tryd.prog 7 #[] w fun e w' => e = .returned (.bool true) ∧ Below w.heap.size w w' := by
  have C := fun W => boot_none 1 (by omega) (by omega) W
  go_enter Tryd.func7, Tryd.ntmps7
  go_wp2_with fail
  refine (C _).mono ?_
  rintro e w1 ⟨v1, rfl, hv1, hb1⟩
  obtain ⟨ad, nd, cd, al, cl, an, cn, ai, ci, aw, cw, rfl, _, _, _, _, _⟩ := hv1.five
  simp only [show (svUp 1).up = true from rfl, show (svUp 1).id = 1 from rfl]
  generalize (svUp 1).ep = ep
  generalize (svUp 1).ts.length = nl
  generalize (svUp 1).dn = dn
  generalize (svUp 1).tr.z = tz
  generalize (svUp 1).tr.ns.length = nn
  generalize (svUp 1).tr.ss.length = ni
  generalize (svUp 1).ws.length = nw
  have hB := hide (nnext hb1 (allocB _ (.cells #[.bool true, .slice ad nd cd, .int .i64 1, .int .i64 ep, .slice al nl cl, .int .i64 dn, .int .i64 tz, .slice an nn cn, .slice ai ni ci, .slice aw nw cw] 35)))
  clear hv1 C hb1
  go_wp2_with fail
  go_ret
  exact ⟨rfl, unhide hB⟩

theorem appF_logF {m : List WTxn} {t : WTxn} (h : Logs (m ++ [t])) (hl : m.length ≤ 99) : GivesF 35 (fun x => #[x, txnV t, .bool true]) [logF m] [logF (m ++ [t])] 0 := by
  have hg := (Logs.at (a := m) (b := []) h).1
  have h1 := recs_small h.left (by omega)
  have h2 := recL_le hg
  have g0 : GoodD [logF m] := good_one (by simp; omega)
  have g1 : GoodD [⟨logN, recsL m, recL t⟩] := good_one (by omega)
  refine wappF_safe [logF m] [⟨logN, recsL m, recL t⟩] [logF (m ++ [t])] t 0 hg (gives_own fun v W hv => ?_) (givesF_own fun v W hv => ?_)
  · have := write_there v [logF m] [] [] (logF m) logN (recL t) W hv (good_slim g0) g0 (there_one _ _) (by simp only [logF, List.length_nil]; omega)
    simpa [logF] using this
  · have := sync_there v [⟨logN, recsL m, recL t⟩] [] [] ⟨logN, recsL m, recL t⟩ logN W hv (good_slim g1) g1 (there_one _ _)
    simpa [logF, recsL_snoc] using this
/-- a log that a server without any can take -/
structure Tkn (m : List WTxn) : Prop where
  log : Logs m
  few : m.length ≤ 40
  pos : ∀ x ∈ m, 0 < x.z
theorem Tkn.at {a b : List WTxn} {t : WTxn} (h : Tkn (a ++ t :: b)) : Logs (a ++ [t]) ∧ ¬ t.z ≤ lastZ a ∧ a.length ≤ 40 := by
  have h1 : Logs (a ++ [t]) := by
    have := h.log
    rw [show a ++ t :: b = (a ++ [t]) ++ b by simp] at this
    exact this.left
  refine ⟨h1, ?_, by have := h.few; simp at this; omega⟩
  have hp := h.pos t (by simp)
  have hf := (Logs.at (a := a) (b := []) h1).2
  by_cases h0 : a.length = 0
  · obtain rfl := List.length_eq_zero_iff.1 h0
    rw [lastZ_nil]; omega
  · rw [follB_some h0] at hf
    simpa using hf
theorem Tkn.front {a b : List WTxn} (h : Tkn (a ++ b)) : Tkn a := ⟨h.log.left, by have := h.few; simp at this; omega, fun x hx => h.pos x (by simp [hx])⟩
theorem tkn_of {m : List WTxn} (h : Logs m) (hl : m.length ≤ 40) (h0 : ∀ t r, m = t :: r → t.z ≠ 0) : Tkn m := by
  refine ⟨h, hl, fun x hx => ?_⟩
  match m, h, h0, hx with
  | t :: r, h, h0, hx =>
    have ht := (gd_bounds (h.good t (by simp))).1.1
    have hn := h0 t r rfl
    rcases List.mem_cons.1 hx with rfl | hx
    · omega
    · have := (List.pairwise_cons.1 h.rise).1 x hx
      omega
theorem tkn_tail {t : WTxn} {r : List WTxn} (h : Logs (t :: r)) (hl : (t :: r).length ≤ 40) (hz : t.z = 0) : Tkn r := by
  refine ⟨⟨fun x hx => h.good x (by simp [hx]), (List.pairwise_cons.1 h.rise).2⟩, by simp at hl; omega, fun x hx => ?_⟩
  have := (List.pairwise_cons.1 h.rise).1 x hx
  omega
theorem logV_tail {w : World} {a : Option Addr} {c : Nat} {t : WTxn} {r : List WTxn} (h : LogV w (.slice a (t :: r).length c) (t :: r)) :
    (c = 1 → LogV w (.slice a r.length 0) r) ∧ (c ≠ 1 → LogV w (.slice (Option.map (fun x => x.add 7) a) r.length (c - 1)) r) := by
  rcases h with ⟨a', cap, e, h0, hc⟩ | ⟨b, off, cap, e, h1, h2, h3, h0, h4⟩
  · simp at h0
  · simp only [Value.slice.injEq] at e
    obtain ⟨rfl, _, rfl⟩ := e
    simp only [List.length_cons] at h1
    by_cases hd : r = []
    · subst hd
      exact ⟨fun _ => .inl ⟨_, _, rfl, rfl, by simp⟩, fun _ => .inl ⟨_, _, rfl, rfl, by omega⟩⟩
    · have hlt : 0 < r.length := List.length_pos_iff.2 hd
      refine ⟨fun e => by omega, fun _ => .inr ⟨b, off + 7, c - 1, by rw [Option.map_some, Addr.add_lit], by omega, by omega, h3, hd, fun j v hj => ?_⟩⟩
      have := h4 (7 + j) v (by
        show (cellsT (t :: r))[7 + j]? = some v
        rw [cellsT, List.getElem?_append_right (by simp [tcells])]
        simpa [tcells] using hj)
      rwa [← Nat.add_assoc] at this

/-- a log that can be taken is handed back -/
def GivesT1 (w : World) (e : Ending) (w' : World) : Prop := ∃ a c m, e = .returned (.slice a m.length c) ∧ Hid (LogV w' (.slice a m.length c) m ∧ Tkn m) ∧ Below w.heap.size w w'
set_option maxRecDepth 10000 in
set_option maxHeartbeats 1000000 in
theorem taken_any (v : Value) (ts : List WTxn) (w : World) (hv : LogV w v ts) (hd : ∀ t ∈ ts, t.d.length ≤ 140737488355328) :
    Calls Tryd.prog 5 #[v] w (GivesT1 w) := by
  have C := logOf_any v ts w hv hd
  obtain ⟨a, c, rfl⟩ := log_slice hv
  clear hv hd
  go_enter Tryd.func5, Tryd.ntmps5
  go_wp2_with fail
  refine C.mono ?_
  rintro e w1 ⟨v1, rfl, m, ho, hl⟩
  obtain ⟨a1, c1, rfl⟩ := ownl_slice ho.own
  have HV := hide ho.own.log
  have HB := hide ho.below
  have HL := hide ho.log
  have hcm : c1 ≤ maxLen := by
    rcases ho.own.log with ⟨_, _, e, _, h⟩ | ⟨_, _, _, e, _, h, _⟩
    · simp only [Value.slice.injEq] at e; omega
    · simp only [Value.slice.injEq] at e; omega
  have hcl : m.length ≤ c1 := by
    rcases ho.own.log with ⟨_, _, e, h0, _⟩ | ⟨_, _, _, e, h, _⟩
    · rw [h0]; simp
    · simp only [Value.slice.injEq] at e; omega
  clear ho C
  match m with
  | [] =>
    go_wp2_with fail
    go_ret
    exact ⟨a1, c1, [], rfl, hide ⟨unhide HV, tkn_of (unhide HL) hl (fun t r h => by cases h)⟩, unhide HB⟩
  | t :: r =>
    obtain ⟨b, off, cap, he, hb, q, _⟩ := log_row (unhide HV) (i := 0) (t := t) rfl
    simp only [Value.slice.injEq, true_and] at he
    obtain ⟨rfl, rfl⟩ := he
    have d0 := q.z (i := 0) (t := t) rfl
    simp only [Nat.zero_mul, Nat.add_zero] at d0
    have HT := hide (logV_tail (unhide HV))
    clear q hb
    have hlen : (t :: r).length = r.length + 1 := rfl
    by_cases hz : t.z = 0
    · have HK := hide (tkn_tail (unhide HL) hl hz)
      by_cases hc : c1 = 1
      · subst hc
        have HT2 := hide ((unhide HT).1 rfl)
        rw [hlen]
        simp only [maxLen] at hcm
        clear HV HT
        go_wp2_with fail
        all_goals go_ret
        all_goals exact ⟨_, _, r, rfl, hide ⟨unhide HT2, unhide HK⟩, unhide HB⟩
      · have HT2 := hide ((unhide HT).2 hc)
        rw [hlen]
        simp only [maxLen] at hcm
        have hcl2 : r.length + 1 ≤ c1 := hcl
        clear HV HT
        go_wp2_with fail
        all_goals go_ret
        all_goals exact ⟨_, _, r, rfl, hide ⟨unhide HT2, unhide HK⟩, unhide HB⟩
    · have HK := hide (tkn_of (unhide HL) hl (fun t' r' h => by cases h; exact hz))
      rw [hlen]
      simp only [maxLen] at hcm
      have HV2 : Hid (LogV w1 (.slice (some ⟨b, off, none⟩) (r.length + 1) c1) (t :: r)) := HV
      clear HV HT
      go_wp2_with fail
      go_ret
      exact ⟨_, _, t :: r, rfl, hide ⟨unhide HV2, unhide HK⟩, unhide HB⟩
end Go.Proofs.YteoijdpohcjfpaaDoor

namespace Go.Proofs.YteoijdpohcjfpaaDoor
open Go.RowKit

/-- a server that took this log safely -/
noncomputable def svF (m : List WTxn) : Sv := ⟨true, [logF m], 0, epochD [], m, 0, trNew, []⟩
theorem svF_fits {m : List WTxn} (h : Tkn m) : Fits (svF m) := by
  have h1 := recs_small h.log (by have := h.few; omega)
  have g0 : GoodD [logF m] := good_one (by simp; omega)
  refine ⟨by simp [svF], good_slim g0, by simp only [svF]; have := h.few; omega, fun x hx => ?_, by simp [svF, trNew], fun x hx => ?_, by simp [svF, trNew], by simp [svF], by simp [svF]⟩
  · have hg := h.log.good x hx
    have h2 := gdE_zero hg
    have h3 := fmB_le h2.2.2.2
    omega
  · simp only [svF, trNew, List.mem_singleton] at hx
    subst hx
    decide
theorem svF_took {m : List WTxn} (h : Tkn m) {i : Nat} {t : WTxn} (ht : m[i]? = some t) : Took (svF (m.take i)) t true 0 (svF (m.take (i + 1))) ∧ Tkn (m.take i) := by
  have hi := (List.getElem?_eq_some_iff.1 ht).1
  have e : m = m.take i ++ t :: m.drop (i + 1) := by
    obtain ⟨hk, rfl⟩ := List.getElem?_eq_some_iff.1 ht
    simp
  rw [take_more1 ht]
  generalize m.take i = a at *
  generalize m.drop (i + 1) = b at *
  subst e
  obtain ⟨h1, h2, h3⟩ := h.at
  exact ⟨.inr (.inr ⟨h2, rfl, [logF (a ++ [t])], rfl, appF_logF h1 (by omega)⟩), h.front⟩

theorem zero_other {W : World} {k q : Nat} (h : Box10 W k false (.slice none 0 0) 0 0 (.slice none 0 0) 0 0 (.slice none 0 0) (.slice none 0 0) (.slice none 0 0)) (hne : k ≠ q) (x0 x1 x2 x3 x4 x5 x6 x7 x8 x9 : Value) :
    Box10 (put10 W q x0 x1 x2 x3 x4 x5 x6 x7 x8 x9) k false (.slice none 0 0) 0 0 (.slice none 0 0) 0 0 (.slice none 0 0) (.slice none 0 0) (.slice none 0 0) := by
  unfold put10
  exact (Box10.other (Box10.other (Box10.other (Box10.other (Box10.other (Box10.other (Box10.other (Box10.other (Box10.other (Box10.other h hne) hne) hne) hne) hne) hne) hne) hne) hne) hne)

set_option maxRecDepth 10000 in
set_option maxHeartbeats 4000000 in
theorem filled_any (v : Value) (m : List WTxn) (w : World) (hv : LogV w v m) (hT : Tkn m) :
    Calls Tryd.prog 6 #[v] w fun e w' => ∃ v', e = .returned (.tuple #[v', .bool true]) ∧ SvV w' v' (svF m) ∧ Below w.heap.size w w' := by
  have HV := hide hv
  have HT := hide hT
  have hlen : m.length ≤ 40 := hT.few
  have CB := hide (fun W => boot_none 0 (by omega) (by omega) W)
  obtain ⟨a, c, rfl⟩ := log_slice hv
  clear hv hT
  go_enter Tryd.func6, Tryd.ntmps6
  go_wp2_with fail
  have Z0 := hide (newZ w)
  have B0 := hide (allocB w (.cells #[.bool false, .slice none 0 0, .int .i64 0, .int .i64 0, .slice none 0 0, .int .i64 0, .int .i64 0, .slice none 0 0, .slice none 0 0, .slice none 0 0] 35))
  obtain ⟨k0, hk0⟩ : ∃ k0, w.heap.size = k0 := ⟨_, rfl⟩
  have HK0 : Hid (w.heap.size ≤ k0) := hide (by omega)
  rw [hk0] at Z0
  rw [hk0]
  generalize w.alloc (.cells #[.bool false, .slice none 0 0, .int .i64 0, .int .i64 0, .slice none 0 0, .int .i64 0, .int .i64 0, .slice none 0 0, .slice none 0 0, .slice none 0 0] 35) = W0 at *
  refine (unhide CB _).mono ?_
  rintro e w1 ⟨v1, rfl, hv1, hb1⟩
  obtain ⟨s0, hs0⟩ : ∃ s0, s0 = svUp 0 := ⟨_, rfl⟩
  rw [← hs0] at hv1
  obtain ⟨ad, nd, cd, al, cl, an, cn, ai, ci, aw, cw, rfl, _, _, _, _, _⟩ := hv1.five
  have HI0 := hide (inbox_new (nnext (unhide B0) hb1) hv1)
  have Z1 := hide (((unhide Z0).next hb1).next (allocB w1 (.cells #[.bool s0.up, .slice ad nd cd, .int .i64 s0.id, .int .i64 s0.ep, .slice al s0.ts.length cl, .int .i64 s0.dn, .int .i64 s0.tr.z, .slice an s0.tr.ns.length cn, .slice ai s0.tr.ss.length ci, .slice aw s0.ws.length cw] 35)))
  obtain ⟨q, hq⟩ : ∃ q, w1.heap.size = q := ⟨_, rfl⟩
  have HKQ : Hid (k0 ≠ q) := hide (by have := ((unhide Z0).next hb1).lt; omega)
  have HQ : Hid (w.heap.size ≤ q) := hide (by have := (nnext (unhide B0) hb1).size; omega)
  rw [hq] at HI0
  have HS0 : Hid (s0 = svF (m.take 0)) := hide (by rw [hs0, List.take_zero]; rfl)
  clear hv1 hb1 Z0 B0 CB hs0 hk0
  go_upto_region 2 with fail
  generalize w1.alloc (.cells #[.bool s0.up, .slice ad nd cd, .int .i64 s0.id, .int .i64 s0.ep, .slice al s0.ts.length cl, .int .i64 s0.dn, .int .i64 s0.tr.z, .slice an s0.tr.ns.length cn, .slice ai s0.tr.ss.length ci, .slice aw s0.ws.length cw] 35) = W1 at *
  rw [unhide HS0] at HI0
  clear hq
  go_wp2_with fail
  go_loopg [5, 6] m.length (fun kx s5 s6 wr => ∃ i : Nat, s5 = .int .i64 0 ∧ s6 = .int .i64 i ∧ i ≤ m.length ∧ m.length - i ≤ kx ∧ Hid (InBox w wr q (svF (m.take i))) ∧ Hid (Box10 wr k0 false (.slice none 0 0) 0 0 (.slice none 0 0) 0 0 (.slice none 0 0) (.slice none 0 0) (.slice none 0 0)))
  case atStart => exact ⟨0, rfl, rfl, Nat.zero_le _, Nat.le_refl _, HI0, Z1⟩
  case round =>
    obtain ⟨i, rfl, rfl, hi, hgi, HI, HZ⟩ := hrel
    by_cases hlt : i < m.length
    · obtain ⟨t, ht⟩ : ∃ t, m[i]? = some t := ⟨_, List.getElem?_eq_getElem hlt⟩
      obtain ⟨hTk, hTi⟩ := svF_took (unhide HT) ht
      have hgd := (unhide HT).log.good t (List.mem_of_getElem? ht)
      have HCT := hide (fun v W (h : SvV W v (svF (m.take i))) => stakeF_any _ _ v t true 0 W h (svF_fits hTi) hTk (by have := fmB_le (gdE_zero hgd).2.2.2; omega) (by have := (gdE_zero hgd).2.2.1; omega) (by simp [svF]; omega))
      obtain ⟨bad, bnd, bcd, bal, bnl, bcl, ban, bnn, bcn, bai, bni, bci, baw, bnw, bcw, hbx, hsv, hbw⟩ := unhide HI
      obtain ⟨b, off, cap, he, hb, r, _⟩ := log_row ((unhide HV).next hbw) ht
      simp only [Value.slice.injEq, true_and] at he
      obtain ⟨rfl, rfl⟩ := he
      have e0 := r.z ht
      have e1 := r.o ht
      have e2 := r.s ht
      have e3 := r.p ht
      have e4 := r.d ht
      have e5 := r.v ht
      have e6 := r.w ht
      have hii : (i : Int) < (m.length : Int) := by omega
      obtain ⟨s', hs'⟩ : ∃ s', s' = svF (m.take (i + 1)) := ⟨_, rfl⟩
      have hss : Hid (s'.tr.ss = []) := hide (by rw [hs']; rfl)
      rw [← hs'] at HCT
      obtain ⟨s, hs⟩ : ∃ s, s = svF (m.take i) := ⟨_, rfl⟩
      rw [← hs] at HCT hbx hsv
      have HS' := hide hs'
      obtain ⟨x0, x1, x2, x3, x4, x5, x6, x7, x8, x9⟩ := hbx.cells
      have HBX := hide hbx
      have HSV := hide hsv
      have HBW := hide hbw
      have hqlt := hbx.lt
      clear r ht hb hTk hTi hgd hs hs' hbx hsv hbw HI
      obtain ⟨tz, tw, tx, tp, td, ty, tu⟩ := t
      unfold txnV at HCT
      simp only at e0 e1 e2 e3 e4 e5 e6
      go_upto_region 5 with fail
      go_region_with (first
        | (go_at_call 12; refine (unhide HCT _ _ ((unhide HSV).next (Below.refl _ _).drew)).mono ?_; rintro e w2 ⟨cad, cnd, ccd, cal, cnl, ccl, can, cnn, ccn, cai, cni, cci, caw, cnw, ccw, rfl, S2, hb2⟩; have B2 := hide (nbelow_drew hb2); have X2 := hide ((unhide HBX).next (unhide B2)); obtain ⟨y0, y1, y2, y3, y4, y5, y6, y7, y8, y9⟩ := (unhide X2).cells; have yf0 := (unhide X2).froz 0; have yf1 := (unhide X2).froz 1; have yf2 := (unhide X2).froz 2; have yf3 := (unhide X2).froz 3; have yf4 := (unhide X2).froz 4; have yf5 := (unhide X2).froz 5; have yf6 := (unhide X2).froz 6; have yf7 := (unhide X2).froz 7; have yf8 := (unhide X2).froz 8; have yf9 := (unhide X2).froz 9; have HBw2 := hide (nnext (unhide HBW) (unhide B2)); have Z2 := hide ((unhide HZ).next (unhide B2)); have HR2 := hide (inbox_over0 (unhide HBw2) (unhide HQ) (unhide hss) (unhide S2).1 (unhide X2)); have HZ3 := hide (zero_other (unhide Z2) (unhide HKQ) (.bool s'.up) (.slice cad cnd ccd) (.int .i64 s'.id) (.int .i64 s'.ep) (.slice cal cnl ccl) (.int .i64 s'.dn) (.int .i64 s'.tr.z) (.slice can cnn ccn) (.slice cai cni cci) (.slice caw cnw ccw)); unfold put10 at HR2 HZ3; clear hb2))
      all_goals go_wp2_with fail
      all_goals
        go_roundg (m.length - (i + 1))
        case measure => omega
        case rel =>
          refine ⟨i + 1, rfl, by simp, by omega, Nat.le_refl _, ?_, ?_⟩
          · rw [← unhide HS']
            with_reducible exact HR2
          · with_reducible exact HZ3
    · obtain rfl : i = m.length := by omega
      have hki : ¬ ((m.length : Int) < (m.length : Int)) := by omega
      rw [List.take_length] at HI
      obtain ⟨bad, bnd, bcd, bal, bnl, bcl, ban, bnn, bcn, bai, bni, bci, baw, bnw, bcw, hbx, hsv, hbw⟩ := unhide HI
      obtain ⟨s, hs⟩ : ∃ s, s = svF m := ⟨_, rfl⟩
      rw [← hs] at hbx hsv
      have HS := hide hs
      have hss : s.tr.ss = [] := by rw [hs]; rfl
      have HR := hide (inbox_over0 hbw (unhide HK0) hss hsv (unhide HZ))
      have HRS := hide (put10_sv0 (up := s.up) (id := s.id) (ep := s.ep) (dn := s.dn) (z := s.tr.z) (ad := bad) (nd := bnd) (cd := bcd) (al := bal) (nl := bnl) (cl := bcl) (an := ban) (nn := bnn) (cn := bcn) (ai := bai) (ni := bni) (ci := bci) (aw := baw) (nw := bnw) (cw := bcw) (unhide HZ).dumb hss hsv)
      obtain ⟨x0, x1, x2, x3, x4, x5, x6, x7, x8, x9⟩ := hbx.cells
      obtain ⟨r0, r1, r2, r3, r4, r5, r6, r7, r8, r9⟩ := (unhide HZ).cells
      have rf0 := (unhide HZ).froz 0
      have rf1 := (unhide HZ).froz 1
      have rf2 := (unhide HZ).froz 2
      have rf3 := (unhide HZ).froz 3
      have rf4 := (unhide HZ).froz 4
      have rf5 := (unhide HZ).froz 5
      have rf6 := (unhide HZ).froz 6
      have rf7 := (unhide HZ).froz 7
      have rf8 := (unhide HZ).froz 8
      have rf9 := (unhide HZ).froz 9
      clear hs hbx hsv hbw hss HI
      go_wp2_with fail
      refine bodyPost_ret (v := .tuple #[.agg #[.bool s.up, .slice bad bnd bcd, .int .i64 s.id, .int .i64 s.ep, .slice bal bnl bcl, .int .i64 s.dn, .int .i64 s.tr.z, .slice ban bnn bcn, .slice bai bni bci, .slice baw bnw bcw], .bool true]) (by simp [results, Tryd.results6, go_sem, r0, r1, r2, r3, r4, r5, r6, r7, r8, r9]) rfl ?_
      obtain ⟨_, _, _, _, _, _, _, _, _, _, _, _, _, _, _, _, hsv2, hbw2⟩ := unhide HR
      exact ⟨_, rfl, by rw [← unhide HS]; exact unhide HRS, hbw2⟩
end Go.Proofs.YteoijdpohcjfpaaDoor

namespace Go.Proofs.YteoijdpohcjfpaaDoor
open Go.RowKit

theorem ret_pick {a b : Int} (h : a = b) : Ending.returned (.int .i64 a) = .returned (.int .i64 b) := by rw [h]

theorem tmod_cases (k n : Int) (hn : 0 < n) : k.tmod n = k % n ∨ k.tmod n = k % n - n := by
  rw [Int.tmod_eq_emod]
  split
  · left; omega
  · right; omega

set_option maxRecDepth 10000 in
set_option maxHeartbeats 400000 in
theorem pick_any (k n : Int) (w : World) (hn : 0 < n) (hn1 : n ≤ 1048576) (hk : -9223372036854775808 ≤ k) (hk1 : k ≤ 9223372036854775807) :
    Calls Tryd.prog 9 #[.int .i64 k, .int .i64 n] w fun e w' => e = .returned (.int .i64 (k % n)) ∧ w' = w := by
  have hm1 := Int.emod_nonneg k (show n ≠ 0 by omega)
  have hm2 := Int.emod_lt_of_pos k hn
  by_cases h0 : 0 ≤ k
  · go_enter Tryd.func9, Tryd.ntmps9
    go_wp2
    go_ret
    exact ⟨rfl, rfl⟩
  · have HT := hide (tmod_cases k n hn)
    go_enter Tryd.func9, Tryd.ntmps9
    go_wp2
    all_goals go_ret
    all_goals refine ⟨ret_pick ?_, rfl⟩
    all_goals (have hT := unhide HT; clear HT; first | omega | (unfold wrap64; omega))

end Go.Proofs.YteoijdpohcjfpaaDoor

namespace Go.Proofs.YteoijdpohcjfpaaDoor
open Go.RowKit

theorem crash_log {s t : List UInt8} (h : s.length + t.length ≤ 1048576) (keep : Nat) : GivesD 15 (fun x => #[x, .int .i64 keep]) [⟨logN, s, t⟩] ([⟨logN, s, t⟩].map (crashF keep)) 0 :=
  gives_own fun v W hv => crash_yes v [⟨logN, s, t⟩] keep W hv (good_slim (good_one h)) (good_one h)
theorem crash_logF (m : List WTxn) (keep : Nat) : [logF m].map (crashF keep) = [logF m] := by simp [crashF, logF]
theorem rec_logF {m : List WTxn} (h : Logs m) (hl : (recsL m).length ≤ 1048576) : GivesW 17 (fun x => #[x]) [logF m] m [logF m] 0 :=
  recover_yes (A := []) (B := []) (rec_one (s := recsL m) (t := []) (r := []) (by simpa using hl) (by have := scan_recs h; simpa using this))
/-- a server that crashed -/
def svD (s : Sv) (d : List DF) : Sv := ⟨false, d, s.id, 0, [], 0, trNew, []⟩
/-- a server that came up with this log -/
noncomputable def svB (fs d : List DF) (id : Int) (m : List WTxn) : Sv := ⟨true, d, id, epochD fs, m, 0, trNew, []⟩

set_option maxRecDepth 10000 in
set_option maxHeartbeats 4000000 in
theorem storeSafe_walk (v : Value) (ts : List WTxn) (keep : Int) (w : World) (hv : LogV w v ts) (hd : ∀ t ∈ ts, t.d.length ≤ 140737488355328) (hk0 : -9223372036854775808 ≤ keep) (hk1 : keep ≤ 9223372036854775807) :
    Calls Tryd.prog 3 #[v, .int .i64 keep] w fun e w' => e = .returned (.bool true) ∧ Below w.heap.size w w' := by
  have C1 := taken_any v ts w hv hd
  have CP := pick_any keep 100
  obtain ⟨kp, hkp⟩ : ∃ kp : Nat, keep % 100 = kp := ⟨(keep % 100).toNat, by rw [Int.toNat_of_nonneg (Int.emod_nonneg _ (by omega))]⟩
  rw [hkp] at CP
  obtain ⟨va, vc, rfl⟩ := log_slice hv
  clear hv hd hkp
  go_enter Tryd.func3, Tryd.ntmps3
  go_wp2_with fail
  refine C1.mono ?_
  rintro e w1 ⟨a1, c1, m, rfl, HM, hb1⟩
  have HB1 := hide hb1
  have C2 := filled_any _ m w1 (unhide HM).1 (unhide HM).2
  have hms := recs_small (unhide HM).2.log (by have := (unhide HM).2.few; omega)
  have hmf := (unhide HM).2.few
  have CCR := hide (fun v W (h : SvV W v (svF m)) => scrash_ok (svF m) v [logF m] kp W h (by have := crash_log (s := recsL m) (t := []) (by simp; omega) kp; rwa [show [(⟨logN, recsL m, []⟩ : DF)] = [logF m] from rfl, crash_logF] at this))
  have CBT := hide (fun v W (h : DiskV W v [logF m]) => sboot_ok v [logF m] [logF m] m 2 W h (good_slim (good_one (by simp; omega))) (by omega) (by omega) (rec_logF (unhide HM).2.log (by omega)))
  have CSL := hide (fun v1 v2 W (h : LogV W v1 m) (h' : LogV W v2 m) => ksl_any v1 v2 m W (by omega) h h')
  have HLM := hide (unhide HM).1
  clear C1 hb1 HM hms
  go_wp2_with fail
  refine C2.mono ?_
  rintro e w2 ⟨v2, rfl, hv2, hb2⟩
  obtain ⟨s, hs⟩ : ∃ s, s = svF m := ⟨_, rfl⟩
  obtain ⟨s1, hs1⟩ : ∃ s1, s1 = svD (svF m) [logF m] := ⟨_, rfl⟩
  rw [← hs] at hv2
  have HTS : Hid (s.ts = m) := hide (by rw [hs]; rfl)
  rw [show (⟨false, [logF m], (svF m).id, 0, [], 0, trNew, []⟩ : Sv) = s1 from hs1.symm, ← hs] at CCR
  have HD1 : Hid (s1.fs = [logF m] ∧ s1.up = false ∧ s1.tr.ss = []) := hide (by rw [hs1]; exact ⟨rfl, rfl, rfl⟩)
  obtain ⟨s2, hs2⟩ : ∃ s2, s2 = svB [logF m] [logF m] 2 m := ⟨_, rfl⟩
  rw [show (⟨true, [logF m], 2, epochD [logF m], m, 0, trNew, []⟩ : Sv) = s2 from hs2.symm] at CBT
  have HD2 : Hid (s2.ts = m ∧ s2.up = true ∧ s2.dn = 0 ∧ s2.tr.ns.length = 1) := hide (by rw [hs2]; exact ⟨rfl, rfl, rfl, rfl⟩)
  obtain ⟨ad, nd, cd, al, cl, an, cn, ai, ci, aw, cw, rfl, _, lv, _, _, _⟩ := hv2.five
  have hal := allocB w2 (.cells #[.bool s.up, .slice ad nd cd, .int .i64 s.id, .int .i64 s.ep, .slice al s.ts.length cl, .int .i64 s.dn, .int .i64 s.tr.z, .slice an s.tr.ns.length cn, .slice ai s.tr.ss.length ci, .slice aw s.ws.length cw] 35)
  have HB2 := hide (nnext (nnext (unhide HB1) hb2) hal)
  have HLM2 := hide (((unhide HLM).next hb2).next hal)
  have HX2 := hide (Box10.new w2 s.up s.id s.ep s.dn s.tr.z (.slice ad nd cd) (.slice al s.ts.length cl) (.slice an s.tr.ns.length cn) (.slice ai s.tr.ss.length ci) (.slice aw s.ws.length cw))
  have HSV2 := hide (hv2.next hal)
  have HLS2 := hide (lv.next hal)
  clear hv2 hb2 hal lv HB1 HLM C2 hs hs1 hs2
  go_upto_region 3 with fail
  generalize w2.heap.size = q at *
  generalize w2.alloc (.cells #[.bool s.up, .slice ad nd cd, .int .i64 s.id, .int .i64 s.ep, .slice al s.ts.length cl, .int .i64 s.dn, .int .i64 s.tr.z, .slice an s.tr.ns.length cn, .slice ai s.tr.ss.length ci, .slice aw s.ws.length cw] 35) = W2 at *
  go_wp2_with fail
  refine (kboots_any _).mono ?_
  rintro e w3 ⟨rfl, hb3⟩
  have HB3 := hide (nnext (unhide HB2) hb3)
  have HX3 := hide ((unhide HX2).next hb3)
  have HSV3 := hide ((unhide HSV2).next hb3)
  have HLM3 := hide ((unhide HLM2).next hb3)
  have HLS3 := hide ((unhide HLS2).next hb3)
  clear hb3 HB2 HX2 HSV2 HLM2 HLS2
  go_upto_region 5 with fail
  obtain ⟨x0, x1, x2, x3, x4, x5, x6, x7, x8, x9⟩ := (unhide HX3).cells
  have hql := (unhide HX3).lt
  have HSA := hide (fun V (h : Below w3.heap.size w3 V) => (unhide HSV3).next h)
  go_cut [8, 9] from 25 (fun t8 t9 wx => ∃ k, t8 = .pointer (some ⟨k, 0, none⟩) ∧ t9 = .int .i64 0 ∧ Hid (InBox w3 wx k s1))
  case first =>
    go_region_with (first
      | (go_at_call 9; refine (CP _ (by omega) (by omega) hk0 hk1).mono ?_; rintro e w4 ⟨rfl, rfl⟩)
      | (go_at_call 8; refine (unhide CCR _ _ (unhide HSA _ (by first | with_reducible exact (Below.refl _ _).drew | with_reducible exact (allocB _ _).drew))).mono ?_; rintro e w4 ⟨v4, rfl, s4v, hb4⟩; have B4 : Hid (Below w3.heap.size w3 w4) := hide (by first | with_reducible exact nbelow_drew hb4 | with_reducible exact nnext (allocB _ _) (nbelow_drew hb4)); obtain ⟨cad, cnd, ccd, cal, ccl, can, ccn, cai, cci, caw, ccw, rfl, hh1, hh2, hh3, hh4, hh5⟩ := s4v.five; have S4 := hide s4v; clear hh1 hh2 hh3 hh4 hh5 s4v; (try (have Z4 : Hid (Box10 w4 w3.heap.size false (.slice none 0 0) 0 0 (.slice none 0 0) 0 0 (.slice none 0 0) (.slice none 0 0) (.slice none 0 0)) := hide ((newZ w3).next (nbelow_drew hb4)); obtain ⟨zc0, zc1, zc2, zc3, zc4, zc5, zc6, zc7, zc8, zc9, zf0, zf1, zf2, zf3, zf4, zf5, zf6, zf7, zf8, zf9, zk⟩ := zcells10 (unhide Z4))); clear hb4))
    all_goals go_wp2_with fail
    all_goals go_meet
    all_goals first
      | with_reducible exact ⟨_, rfl, rfl, hide (inbox_new (unhide B4) (unhide S4))⟩
      | exact ⟨_, rfl, rfl, hide (inbox_over0 (unhide B4) (Nat.le_refl _) (unhide HD1).2.2 (unhide S4) (unhide Z4))⟩
  case rest =>
    obtain ⟨k, rfl, rfl, HA⟩ := hcut
    obtain ⟨dad, dnd, dcd, dal, dnl, dcl, dan, dnn, dcn, dai, dni, dci, daw, dnw, dcw, BA, SA, hbA⟩ := unhide HA
    have hdk : DiskV wc (.slice dad dnd dcd) [logF m] := by
      obtain ⟨vd, vl, vn, vs, vw, e, h1, _⟩ := SA
      simp only [Value.agg.injEq, Array.mk.injEq, List.cons.injEq] at e
      obtain ⟨_, rfl, _⟩ := e
      rw [← (unhide HD1).1]; exact h1
    have C5 := unhide CBT _ wc hdk
    have HB5 := hide (nnext (unhide HB3) hbA)
    have HX5 := hide ((unhide HX3).next hbA)
    have HLM5 := hide ((unhide HLM3).next hbA)
    have HLS5 := hide ((unhide HLS3).next hbA)
    have HA5 := hide BA
    obtain ⟨y0, y1, y2, y3, y4, y5, y6, y7, y8, y9⟩ := BA.cells
    clear HA BA SA hbA hdk HB3 HX3 HLM3 HLS3 HSV3 HSA x0 x1 x2 x3 x4 x5 x6 x7 x8 x9 hql CCR CBT
    go_wp2_with fail
    refine C5.mono ?_
    rintro e w6 ⟨v6, rfl, hv6, hb6⟩
    obtain ⟨ead, eend, ecd, eal, ecl, ean, ecn, eai, eci, eaw, ecw, rfl, _, lv6, _, _, _⟩ := hv6.five
    have hal := allocB w6 (.cells #[.bool s2.up, .slice ead eend ecd, .int .i64 s2.id, .int .i64 s2.ep, .slice eal s2.ts.length ecl, .int .i64 s2.dn, .int .i64 s2.tr.z, .slice ean s2.tr.ns.length ecn, .slice eai s2.tr.ss.length eci, .slice eaw s2.ws.length ecw] 35)
    have HB6 := hide (nnext (nnext (unhide HB5) hb6) hal)
    have HX6 := hide (((unhide HX5).next hb6).next hal)
    have HA6 := hide (((unhide HA5).next hb6).next hal)
    have HLM6 := hide (((unhide HLM5).next hb6).next hal)
    have HLS6 := hide (((unhide HLS5).next hb6).next hal)
    have HL6 := hide (lv6.next hal)
    have HE6 := hide (Box10.new w6 s2.up s2.id s2.ep s2.dn s2.tr.z (.slice ead eend ecd) (.slice eal s2.ts.length ecl) (.slice ean s2.tr.ns.length ecn) (.slice eai s2.tr.ss.length eci) (.slice eaw s2.ws.length ecw))
    clear hv6 hb6 hal lv6 HB5 HX5 HLM5 HLS5 HA5 C5 y0 y1 y2 y3 y4 y5 y6 y7 y8 y9
    go_upto_region 7 with fail
    generalize w6.heap.size = r at *
    generalize w6.alloc (.cells #[.bool s2.up, .slice ead eend ecd, .int .i64 s2.id, .int .i64 s2.ep, .slice eal s2.ts.length ecl, .int .i64 s2.dn, .int .i64 s2.tr.z, .slice ean s2.tr.ns.length ecn, .slice eai s2.tr.ss.length eci, .slice eaw s2.ws.length ecw] 35) = W6 at *
    rw [unhide HTS] at HX6 HLS6
    rw [(unhide HD1).2.1] at HA6
    rw [(unhide HD2).1, (unhide HD2).2.1, (unhide HD2).2.2.1, (unhide HD2).2.2.2] at HE6
    rw [(unhide HD2).1] at HL6
    have a0 := (unhide HA6).cells.1
    obtain ⟨x0, x1, x2, x3, x4, x5, x6, x7, x8, x9⟩ := (unhide HX6).cells
    obtain ⟨y0, y1, y2, y3, y4, y5, y6, y7, y8, y9⟩ := (unhide HE6).cells
    go_wp2_with fail
    refine (unhide CSL _ _ _ (unhide HLS6) (unhide HLM6)).mono ?_
    rintro e w7 ⟨rfl, hb7⟩
    have HB7 := hide (nnext (unhide HB6) hb7)
    have HE7 := hide ((unhide HE6).next hb7)
    have HL7 := hide ((unhide HL6).next hb7)
    have HLM7 := hide ((unhide HLM6).next hb7)
    clear hb7 HB6 HX6 HA6 HLM6 HLS6 HL6 HE6 a0 x0 x1 x2 x3 x4 x5 x6 x7 x8 x9 y0 y1 y2 y3 y4 y5 y6 y7 y8 y9
    obtain ⟨y0, y1, y2, y3, y4, y5, y6, y7, y8, y9⟩ := (unhide HE7).cells
    go_wp2_with fail
    refine (unhide CSL _ _ _ (unhide HL7) (unhide HLM7)).mono ?_
    rintro e w8 ⟨rfl, hb8⟩
    have HB8 := hide (nnext (unhide HB7) hb8)
    have HE8 := hide ((unhide HE7).next hb8)
    clear hb8 HB7 HE7 HL7 HLM7 CSL y0 y1 y2 y3 y4 y5 y6 y7 y8 y9
    obtain ⟨y0, y1, y2, y3, y4, y5, y6, y7, y8, y9⟩ := (unhide HE8).cells
    go_wp2_with fail
    go_ret
    exact ⟨rfl, unhide HB8⟩
end Go.Proofs.YteoijdpohcjfpaaDoor

namespace Go.Proofs.YteoijdpohcjfpaaDoor
open Go.ChangeShapes Go.WideShapes Go.ChangeAt Go.RowKit Go.ChangeMaps

def txnD {H : Type} (t : WTxn) : DataW H := .agg [.lit (.int .i64 t.z), .lit (.int .i64 t.o), .lit (.int .i64 t.s), .lit (.string t.p), .lit (.string t.d), .lit (.int .i64 t.v), .lit (.int .i64 t.w)]
structure TxnOk (t : WTxn) : Prop where
  z : (Lit.int .i64 t.z).wf = true
  o : (Lit.int .i64 t.o).wf = true
  s : (Lit.int .i64 t.s).wf = true
  p : (ByteArray.mk t.p.toArray).size ≤ maxLen
  d : (ByteArray.mk t.d.toArray).size ≤ maxLen
  v : (Lit.int .i64 t.v).wf = true
  w : (Lit.int .i64 t.w).wf = true

theorem cellsInt : Tryd.prog.cellsOf 3 = 1 := by kernel_rfl
theorem cellsStr : Tryd.prog.cellsOf 9 = 1 := by kernel_rfl
theorem cellsTxn : Tryd.prog.cellsOf 47 = 7 := by kernel_rfl
theorem ba_of (s : ByteArray) : ∃ l : List UInt8, s = ⟨l.toArray⟩ := ⟨s.data.toList, rfl⟩

end Go.Proofs.YteoijdpohcjfpaaDoor

namespace Go.Proofs.YteoijdpohcjfpaaDoor
open Go.ChangeShapes Go.WideShapes Go.ChangeAt Go.RowKit Go.ChangeMaps
theorem laidOut : laidOutB Tryd.prog = true := by kernel_rfl
section
variable {H : Type} {enc : TypeId × Value → H} {W : World} {base : Nat} {spare : Nat → Bool} {held : Bool}
theorem weightsAll_mem {e : TypeId} : ∀ (l : List (DataW H)) (d : DataW H) (x : Nat), d ∈ l → x ∈ DataW.weights Tryd.prog e d → x ∈ DataW.weightsAll Tryd.prog e l
  | d' :: r, d, x, h, hx => by
    rw [DataW.weightsAll]
    rcases List.mem_cons.1 h with rfl | h
    · exact List.mem_append.2 (.inl hx)
    · exact List.mem_append.2 (.inr (weightsAll_mem r d x h hx))
instance : Inhabited (DataW H) := ⟨.nil⟩

end
end Go.Proofs.YteoijdpohcjfpaaDoor

namespace Go.Proofs.YteoijdpohcjfpaaDoor
open Go.ChangeShapes Go.WideShapes Go.ChangeAt Go.RowKit Go.ChangeMaps
theorem bytesTxn : Tryd.prog.bytesOf 47 = 72 := by kernel_rfl

section
variable {H : Type} {enc : TypeId × Value → H} {W : World} {base : Nat} {spare : Nat → Bool} {held : Bool}
set_option maxRecDepth 10000 in
theorem open_one {n : Nat} {cs : List Value} {x : DataW H × List MemPlace} (hl : cs.length = 7) (h : DataW.trod enc Tryd.prog W base spare held n 47 cs = some x) : ∃ t : WTxn, cs = tcells t ∧ x.1 = txnD t ∧ TxnOk t := by
  match cs, hl with
  | [c0, c1, c2, c3, c4, c5, c6], _ =>
    obtain ⟨xs, n, _, hx, _, hlen, hfs⟩ := DataW.trod_struct Tryd.underlying47 h
    match xs, hlen with
    | [y0, y1, y2, y3, y4, y5, y6], _ =>
      obtain ⟨z, e0, rfl, w0⟩ := DataW.trod_int Tryd.underlying3 (show DataW.trod enc Tryd.prog W base spare held n 3 [c0] = some y0 by simpa [cellsInt] using hfs 0 _ rfl)
      obtain ⟨o, e1, rfl, w1⟩ := DataW.trod_int Tryd.underlying3 (show DataW.trod enc Tryd.prog W base spare held n 3 [c1] = some y1 by simpa [cellsInt] using hfs 1 _ rfl)
      obtain ⟨s, e2, rfl, w2⟩ := DataW.trod_int Tryd.underlying3 (show DataW.trod enc Tryd.prog W base spare held n 3 [c2] = some y2 by simpa [cellsInt] using hfs 2 _ rfl)
      obtain ⟨p', e3, rfl, w3⟩ := DataW.trod_string Tryd.underlying9 (show DataW.trod enc Tryd.prog W base spare held n 9 [c3] = some y3 by simpa [cellsStr] using hfs 3 _ rfl)
      obtain ⟨d', e4, rfl, w4⟩ := DataW.trod_string Tryd.underlying9 (show DataW.trod enc Tryd.prog W base spare held n 9 [c4] = some y4 by simpa [cellsStr] using hfs 4 _ rfl)
      obtain ⟨v', e5, rfl, w5⟩ := DataW.trod_int Tryd.underlying3 (show DataW.trod enc Tryd.prog W base spare held n 3 [c5] = some y5 by simpa [cellsInt] using hfs 5 _ rfl)
      obtain ⟨u', e6, rfl, w6⟩ := DataW.trod_int Tryd.underlying3 (show DataW.trod enc Tryd.prog W base spare held n 3 [c6] = some y6 by simpa [cellsInt] using hfs 6 _ rfl)
      simp only [List.cons.injEq, and_true] at e0 e1 e2 e3 e4 e5 e6
      subst e0 e1 e2 e3 e4 e5 e6
      obtain ⟨pl, rfl⟩ := ba_of p'
      obtain ⟨dl, rfl⟩ := ba_of d'
      subst hx
      exact ⟨⟨z, o, s, pl, dl, v', u'⟩, rfl, rfl, ⟨w0, w1, w2, w3, w4, w5, w6⟩⟩
theorem weights_txn (t : WTxn) : DataW.weights Tryd.prog 47 (txnD t : DataW H) = [t.p.length, t.d.length] := by
  simp [DataW.weights, txnD, Tryd.underlying47, DataW.weightsEach]

set_option maxRecDepth 10000 in
theorem open_log {r : Reach} {b0 : Nat} {v : Value} {d : DataW H} {p : List MemPlace}
    (hv : Value.okWide Tryd.prog W r b0 22 v) (h : DataW.Trod enc Tryd.prog W base spare held 22 v d p) :
    ∃ ts, LogV W v ts ∧ (∀ t ∈ ts, TxnOk t) ∧ ∀ M, (∀ x ∈ DataW.weights Tryd.prog 22 d, x ≤ M) → (∀ t ∈ ts, t.p.length ≤ M ∧ t.d.length ≤ M) ∧ ts.length * 72 ≤ M := by
  obtain ⟨fuel, hf⟩ := h
  obtain ⟨sa, sl, sc, rfl⟩ := okWide_slice Tryd.underlying22 hv
  have hf' : DataW.trod enc Tryd.prog W base spare held fuel 22 [.slice sa sl sc] = some (d, p) := by simpa [Value.cells] using hf
  clear hf
  rcases Go.Deep.open_slice Tryd.underlying22 hf' with ⟨h1, hx⟩ | ⟨a, len, cap, m, k, D, Pl, h1, hb, hl, hm, hmm, hx, hel⟩
  · simp only [List.cons.injEq, and_true] at h1
    rw [h1]
    exact ⟨[], LogV.nil W, by simp, fun M _ => ⟨by simp, by simp⟩⟩
  · simp only [List.cons.injEq, and_true] at h1
    rw [h1]
    simp only [Prod.mk.injEq] at hx
    obtain ⟨rfl, _⟩ := hx
    have hlm : len ≤ m := by rw [hmm]; split <;> omega
    have each : ∀ i, i < len → ∃ t : WTxn, (∀ c, c < 7 → W.cell? (a.add (i * 7 + c)) = (tcells t)[c]?) ∧ D i = txnD t ∧ TxnOk t := by
      intro i hi
      obtain ⟨cs', g1, g2⟩ := hel i (by omega)
      rw [cellsTxn] at g1
      obtain ⟨_, hlen, hcell⟩ := World.cells?_some g1
      obtain ⟨t, rfl, hd, hok⟩ := open_one hlen g2
      refine ⟨t, fun c hc => ?_, hd, hok⟩
      have := hcell c hc
      rwa [Go.Deep.add_add] at this
    have : Inhabited WTxn := ⟨t0⟩
    obtain ⟨F, hF⟩ := Go.Deep.choose_lt each
    refine ⟨(List.range len).map F, ?_, ?_, ?_⟩
    · by_cases h0 : len = 0
      · subst h0
        exact .inl ⟨some a, cap, rfl, rfl, hm⟩
      · have c0 := (hF 0 (by omega)).1 0 (by decide)
        obtain ⟨b, off, sp⟩ := a
        have hsp : sp = none := by
          cases sp with
          | none => rfl
          | some s => simp [World.cell?, Addr.add, tcells] at c0; split at c0 <;> simp at c0
        subst hsp
        have hblt : b < W.heap.size := World.block_lt_of_cell? W _ (show W.cell? ((⟨b, off, none⟩ : Addr).add (0 * 7 + 0)) = some _ from c0) |> fun h => by simpa [Addr.add] using h
        refine .inr ⟨b, off, cap, by simp, by simpa using hl, hm, hblt, by simp; omega, fun j u hj => ?_⟩
        have hjl : j < len * 7 := by
          have := (List.getElem?_eq_some_iff.1 hj).1
          rw [cellsT_length] at this
          simpa using this
        have hi : j / 7 < len := by omega
        have hg := cellsT_get ((List.range len).map F) (j / 7) (F (j / 7)) (by simp [hi]) (j % 7) (by omega)
        rw [show j / 7 * 7 + j % 7 = j by omega, hj] at hg
        have := (hF (j / 7) hi).1 (j % 7) (by omega)
        rw [show j / 7 * 7 + j % 7 = j by omega, Addr.add_lit, ← hg] at this
        exact this
    · intro t ht
      obtain ⟨i, hi, rfl⟩ := List.mem_map.1 ht
      exact (hF i (by simpa using hi)).2.2
    · intro M hM
      have hw : DataW.weights Tryd.prog 22 (.slice ((List.range len).map D) ((List.range (m - len)).map fun j => D (len + j)) : DataW H) =
          (len + (m - len)) * 72 :: (DataW.weightsAll Tryd.prog 47 ((List.range len).map D) ++ DataW.weightsAll Tryd.prog 47 ((List.range (m - len)).map fun j => D (len + j))) := by
        simp [DataW.weights, Tryd.underlying22, bytesTxn]
      rw [hw] at hM
      refine ⟨fun t ht => ?_, ?_⟩
      · obtain ⟨i, hi, rfl⟩ := List.mem_map.1 ht
        have hi' : i < len := by simpa using hi
        have key : ∀ x ∈ DataW.weights Tryd.prog 47 (D i), x ≤ M := fun x hx => hM x (List.mem_cons_of_mem _ (List.mem_append.2 (.inl (weightsAll_mem _ (D i) x (List.mem_map.2 ⟨i, hi, rfl⟩) hx))))
        rw [(hF i hi').2.1, weights_txn] at key
        exact ⟨key _ (by simp), key _ (by simp)⟩
      · have := hM _ (List.mem_cons_self ..)
        simp only [List.length_map, List.length_range]
        omega
theorem sized_log {ts : List TypeId} {ds : List (DataW H)} (h : (DataW.weightsEach Tryd.prog ts ds).all (· ≤ reachBytes) = true) {j : Nat} {d : DataW H} (ht : ts[j]? = some 22) (hd : ds[j]? = some d) : ∀ x ∈ DataW.weights Tryd.prog 22 d, x ≤ 140737488351232 := by
  intro x hx
  have e : reachBytes = 140737488351232 := by decide
  have h1 := List.all_eq_true.1 h _ (DataW.weights_mem_each ht hd x hx)
  rw [e] at h1
  simpa using h1
end
end Go.Proofs.YteoijdpohcjfpaaDoor
