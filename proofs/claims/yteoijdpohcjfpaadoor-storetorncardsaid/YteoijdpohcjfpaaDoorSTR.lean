/-
  aviarykeep.boots and aviarykeep.taken: the walks; a transaction more on a log, safe or not, in a row of its own.
  aviarykeep.filled: the walk.
  What aviarykeep.pick answers: the walk.
  aviarykeep.StoreSafe returns true: the walk.
  A copy of a log by append to nil: what it comes to, and as a step of a walk.
  Two steps of a region that draws its order: a copy of a log by append to nil; one transaction appended to a row of the call's own.
  aviarykeep.StoreTorn returns true: the walk.
  A transaction as an argument: opened into its seven fields, and read again.
  A disk as an argument: opened into its files; what its weights say of their lengths.
-/
import Derived.Test.YteoijdpohcjfpaaDoorSTK
import Derived.Test.YteoijdpohcjfpaaDoorSTN
import Derived.Test.YteoijdpohcjfpaaDoorSTO
import Derived.Test.YteoijdpohcjfpaaDoorSTQ
import Derived.Deep.Cut
import Derived.Deep.CutRange
import Derived.Test.YteoijdpohcjfpaaDoorRows
import Derived.Test.YteoijdpohcjfpaaDoorSTA
import Derived.WalkKit
import Derived.WalkSpells
import Derived.WalkLawsBesides
import Derived.Test.YteoijdpohcjfpaaDoorSTH
import Derived.Laws.AppendOwnNone
import Derived.Deep.RegionLaw
import Derived.Lib.QuietBelow
import Derived.ProofKit
import Derived.OpenShut
import Derived.SizedLaws
import Derived.Test.YteoijdpohcjfpaaDoorSTG
import Derived.Deep.Slices
import Derived.Carry
namespace Go.Proofs.YteoijdpohcjfpaaDoor
open Go.RowKit

set_option maxRecDepth 10000 in
set_option maxHeartbeats 1000000 in
theorem kboots_any (w : World) : Calls Tryd.prog 7 #[] w fun e w' => e = .returned (.bool true) ∧ Below w.heap.size w w' := by
  have C := fun W => boot_none 1 (by omega) (by omega) W
  go_enter Tryd.func7, Tryd.ntmps7
  go_wp2_with fail
  refine (C _).mono ?_
  rintro e w1 ⟨v1, rfl, hv1, hb1⟩
  obtain ⟨ad, nd, cd, al, cl, an, cn, ai, ci, aw, cw, rfl, _, _, _, _, _⟩ := hv1.five
  simp only [show (svUp 1).up = true from rfl, show (svUp 1).id = 1 from rfl]
  generalize (svUp 1).ep = ep
  generalize (svUp 1).ts.length = nl
  generalize (svUp 1).dn = dn
  generalize (svUp 1).tr.z = tz
  generalize (svUp 1).tr.ns.length = nn
  generalize (svUp 1).tr.ss.length = ni
  generalize (svUp 1).ws.length = nw
  have hB := hide (nnext hb1 (allocB _ (.cells #[.bool true, .slice ad nd cd, .int .i64 1, .int .i64 ep, .slice al nl cl, .int .i64 dn, .int .i64 tz, .slice an nn cn, .slice ai ni ci, .slice aw nw cw] 35)))
  clear hv1 C hb1
  go_wp2_with fail
  go_ret
  exact ⟨rfl, unhide hB⟩

theorem appF_logF {m : List WTxn} {t : WTxn} (h : Logs (m ++ [t])) (hl : m.length ≤ 99) : GivesF 35 (fun x => #[x, txnV t, .bool true]) [logF m] [logF (m ++ [t])] 0 := by
  have hg := (Logs.at (a := m) (b := []) h).1
  have h1 := recs_small h.left (by omega)
  have h2 := recL_le hg
  have g0 : GoodD [logF m] := good_one (by simp; omega)
  have g1 : GoodD [⟨logN, recsL m, recL t⟩] := good_one (by omega)
  refine wappF_safe [logF m] [⟨logN, recsL m, recL t⟩] [logF (m ++ [t])] t 0 hg (gives_own fun v W hv => ?_) (givesF_own fun v W hv => ?_)
  · have := write_there v [logF m] [] [] (logF m) logN (recL t) W hv (good_slim g0) g0 (there_one _ _) (by simp only [logF, List.length_nil]; omega)
    simpa [logF] using this
  · have := sync_there v [⟨logN, recsL m, recL t⟩] [] [] ⟨logN, recsL m, recL t⟩ logN W hv (good_slim g1) g1 (there_one _ _)
    simpa [logF, recsL_snoc] using this
theorem appF_soft {m : List WTxn} {t : WTxn} (h : Logs (m ++ [t])) (hl : m.length ≤ 99) : GivesF 35 (fun x => #[x, txnV t, .bool false]) [logF m] [⟨logN, recsL m, recL t⟩] 0 := by
  have hg := (Logs.at (a := m) (b := []) h).1
  have h1 := recs_small h.left (by omega)
  have h2 := recL_le hg
  have g0 : GoodD [logF m] := good_one (by simp; omega)
  refine wappF_soft [logF m] [⟨logN, recsL m, recL t⟩] t hg (givesF_own fun v W hv => ?_)
  have := write_there v [logF m] [] [] (logF m) logN (recL t) W hv (good_slim g0) g0 (there_one _ _) (by simp only [logF, List.length_nil]; omega)
  simpa [logF] using this

/-- a log that a server without any can take -/
structure Tkn (m : List WTxn) : Prop where
  log : Logs m
  few : m.length ≤ 40
  pos : ∀ x ∈ m, 0 < x.z
theorem Tkn.at {a b : List WTxn} {t : WTxn} (h : Tkn (a ++ t :: b)) : Logs (a ++ [t]) ∧ ¬ t.z ≤ lastZ a ∧ a.length ≤ 40 := by
  have h1 : Logs (a ++ [t]) := by
    have := h.log
    rw [show a ++ t :: b = (a ++ [t]) ++ b by simp] at this
    exact this.left
  refine ⟨h1, ?_, by have := h.few; simp at this; omega⟩
  have hp := h.pos t (by simp)
  have hf := (Logs.at (a := a) (b := []) h1).2
  by_cases h0 : a.length = 0
  · obtain rfl := List.length_eq_zero_iff.1 h0
    rw [lastZ_nil]; omega
  · rw [follB_some h0] at hf
    simpa using hf
theorem Tkn.front {a b : List WTxn} (h : Tkn (a ++ b)) : Tkn a := ⟨h.log.left, by have := h.few; simp at this; omega, fun x hx => h.pos x (by simp [hx])⟩
theorem tkn_of {m : List WTxn} (h : Logs m) (hl : m.length ≤ 40) (h0 : ∀ t r, m = t :: r → t.z ≠ 0) : Tkn m := by
  refine ⟨h, hl, fun x hx => ?_⟩
  match m, h, h0, hx with
  | t :: r, h, h0, hx =>
    have ht := (gd_bounds (h.good t (by simp))).1.1
    have hn := h0 t r rfl
    rcases List.mem_cons.1 hx with rfl | hx
    · omega
    · have := (List.pairwise_cons.1 h.rise).1 x hx
      omega
theorem tkn_tail {t : WTxn} {r : List WTxn} (h : Logs (t :: r)) (hl : (t :: r).length ≤ 40) (hz : t.z = 0) : Tkn r := by
  refine ⟨⟨fun x hx => h.good x (by simp [hx]), (List.pairwise_cons.1 h.rise).2⟩, by simp at hl; omega, fun x hx => ?_⟩
  have := (List.pairwise_cons.1 h.rise).1 x hx
  omega
theorem logV_tail {w : World} {a : Option Addr} {c : Nat} {t : WTxn} {r : List WTxn} (h : LogV w (.slice a (t :: r).length c) (t :: r)) :
    (c = 1 → LogV w (.slice a r.length 0) r) ∧ (c ≠ 1 → LogV w (.slice (Option.map (fun x => x.add 7) a) r.length (c - 1)) r) := by
  rcases h with ⟨a', cap, e, h0, hc⟩ | ⟨b, off, cap, e, h1, h2, h3, h0, h4⟩
  · simp at h0
  · simp only [Value.slice.injEq] at e
    obtain ⟨rfl, _, rfl⟩ := e
    simp only [List.length_cons] at h1
    by_cases hd : r = []
    · subst hd
      exact ⟨fun _ => .inl ⟨_, _, rfl, rfl, by simp⟩, fun _ => .inl ⟨_, _, rfl, rfl, by omega⟩⟩
    · have hlt : 0 < r.length := List.length_pos_iff.2 hd
      refine ⟨fun e => by omega, fun _ => .inr ⟨b, off + 7, c - 1, by rw [Option.map_some, Addr.add_lit], by omega, by omega, h3, hd, fun j v hj => ?_⟩⟩
      have := h4 (7 + j) v (by
        show (cellsT (t :: r))[7 + j]? = some v
        rw [cellsT, List.getElem?_append_right (by simp [tcells])]
        simpa [tcells] using hj)
      rwa [← Nat.add_assoc] at this

/-- a log that can be taken is handed back -/
def GivesT1 (w : World) (e : Ending) (w' : World) : Prop := ∃ a c m, e = .returned (.slice a m.length c) ∧ Hid (LogV w' (.slice a m.length c) m ∧ Tkn m) ∧ Below w.heap.size w w'
set_option maxRecDepth 10000 in
set_option maxHeartbeats 1000000 in
theorem taken_any (v : Value) (ts : List WTxn) (w : World) (hv : LogV w v ts) (hd : ∀ t ∈ ts, t.d.length ≤ 140737488355328) :
    Calls Tryd.prog 5 #[v] w (GivesT1 w) := by
  have C := logOf_any v ts w hv hd
  obtain ⟨a, c, rfl⟩ := log_slice hv
  clear hv hd
  go_enter Tryd.func5, Tryd.ntmps5
  go_wp2_with fail
  refine C.mono ?_
  rintro e w1 ⟨v1, rfl, m, ho, hl⟩
  obtain ⟨a1, c1, rfl⟩ := ownl_slice ho.own
  have HV := hide ho.own.log
  have HB := hide ho.below
  have HL := hide ho.log
  have hcm : c1 ≤ maxLen := by
    rcases ho.own.log with ⟨_, _, e, _, h⟩ | ⟨_, _, _, e, _, h, _⟩
    · simp only [Value.slice.injEq] at e; omega
    · simp only [Value.slice.injEq] at e; omega
  have hcl : m.length ≤ c1 := by
    rcases ho.own.log with ⟨_, _, e, h0, _⟩ | ⟨_, _, _, e, h, _⟩
    · rw [h0]; simp
    · simp only [Value.slice.injEq] at e; omega
  clear ho C
  match m with
  | [] =>
    go_wp2_with fail
    go_ret
    exact ⟨a1, c1, [], rfl, hide ⟨unhide HV, tkn_of (unhide HL) hl (fun t r h => by cases h)⟩, unhide HB⟩
  | t :: r =>
    obtain ⟨b, off, cap, he, hb, q, _⟩ := log_row (unhide HV) (i := 0) (t := t) rfl
    simp only [Value.slice.injEq, true_and] at he
    obtain ⟨rfl, rfl⟩ := he
    have d0 := q.z (i := 0) (t := t) rfl
    simp only [Nat.zero_mul, Nat.add_zero] at d0
    have HT := hide (logV_tail (unhide HV))
    clear q hb
    have hlen : (t :: r).length = r.length + 1 := rfl
    by_cases hz : t.z = 0
    · have HK := hide (tkn_tail (unhide HL) hl hz)
      by_cases hc : c1 = 1
      · subst hc
        have HT2 := hide ((unhide HT).1 rfl)
        rw [hlen]
        simp only [maxLen] at hcm
        clear HV HT
        go_wp2_with fail
        all_goals go_ret
        all_goals exact ⟨_, _, r, rfl, hide ⟨unhide HT2, unhide HK⟩, unhide HB⟩
      · have HT2 := hide ((unhide HT).2 hc)
        rw [hlen]
        simp only [maxLen] at hcm
        have hcl2 : r.length + 1 ≤ c1 := hcl
        clear HV HT
        go_wp2_with fail
        all_goals go_ret
        all_goals exact ⟨_, _, r, rfl, hide ⟨unhide HT2, unhide HK⟩, unhide HB⟩
    · have HK := hide (tkn_of (unhide HL) hl (fun t' r' h => by cases h; exact hz))
      rw [hlen]
      simp only [maxLen] at hcm
      have HV2 : Hid (LogV w1 (.slice (some ⟨b, off, none⟩) (r.length + 1) c1) (t :: r)) := HV
      clear HV HT
      go_wp2_with fail
      go_ret
      exact ⟨_, _, t :: r, rfl, hide ⟨unhide HV2, unhide HK⟩, unhide HB⟩
end Go.Proofs.YteoijdpohcjfpaaDoor

namespace Go.Proofs.YteoijdpohcjfpaaDoor
open Go.RowKit

/-- a server that took this log safely -/
noncomputable def svF (m : List WTxn) : Sv := ⟨true, [logF m], 0, epochD [], m, 0, trNew, []⟩
theorem svF_fits {m : List WTxn} (h : Tkn m) : Fits (svF m) := by
  have h1 := recs_small h.log (by have := h.few; omega)
  have g0 : GoodD [logF m] := good_one (by simp; omega)
  refine ⟨by simp [svF], good_slim g0, by simp only [svF]; have := h.few; omega, fun x hx => ?_, by simp [svF, trNew], fun x hx => ?_, by simp [svF, trNew], by simp [svF], by simp [svF]⟩
  · have hg := h.log.good x hx
    have h2 := gdE_zero hg
    have h3 := fmB_le h2.2.2.2
    omega
  · simp only [svF, trNew, List.mem_singleton] at hx
    subst hx
    decide
theorem svF_took {m : List WTxn} (h : Tkn m) {i : Nat} {t : WTxn} (ht : m[i]? = some t) : Took (svF (m.take i)) t true 0 (svF (m.take (i + 1))) ∧ Tkn (m.take i) := by
  have hi := (List.getElem?_eq_some_iff.1 ht).1
  have e : m = m.take i ++ t :: m.drop (i + 1) := by
    obtain ⟨hk, rfl⟩ := List.getElem?_eq_some_iff.1 ht
    simp
  rw [take_more1 ht]
  generalize m.take i = a at *
  generalize m.drop (i + 1) = b at *
  subst e
  obtain ⟨h1, h2, h3⟩ := h.at
  exact ⟨.inr (.inr ⟨h2, rfl, [logF (a ++ [t])], rfl, appF_logF h1 (by omega)⟩), h.front⟩

theorem zero_other {W : World} {k q : Nat} (h : Box10 W k false (.slice none 0 0) 0 0 (.slice none 0 0) 0 0 (.slice none 0 0) (.slice none 0 0) (.slice none 0 0)) (hne : k ≠ q) (x0 x1 x2 x3 x4 x5 x6 x7 x8 x9 : Value) :
    Box10 (put10 W q x0 x1 x2 x3 x4 x5 x6 x7 x8 x9) k false (.slice none 0 0) 0 0 (.slice none 0 0) 0 0 (.slice none 0 0) (.slice none 0 0) (.slice none 0 0) := by
  unfold put10
  exact (Box10.other (Box10.other (Box10.other (Box10.other (Box10.other (Box10.other (Box10.other (Box10.other (Box10.other (Box10.other h hne) hne) hne) hne) hne) hne) hne) hne) hne) hne)

set_option maxRecDepth 10000 in
set_option maxHeartbeats 4000000 in
theorem filled_any (v : Value) (m : List WTxn) (w : World) (hv : LogV w v m) (hT : Tkn m) :
    Calls Tryd.prog 6 #[v] w fun e w' => ∃ v', e = .returned (.tuple #[v', .bool true]) ∧ SvV w' v' (svF m) ∧ Below w.heap.size w w' := by
  have HV := hide hv
  have HT := hide hT
  have hlen : m.length ≤ 40 := hT.few
  have CB := hide (fun W => boot_none 0 (by omega) (by omega) W)
  obtain ⟨a, c, rfl⟩ := log_slice hv
  clear hv hT
  go_enter Tryd.func6, Tryd.ntmps6
  go_wp2_with fail
  have Z0 := hide (newZ w)
  have B0 := hide (allocB w (.cells #[.bool false, .slice none 0 0, .int .i64 0, .int .i64 0, .slice none 0 0, .int .i64 0, .int .i64 0, .slice none 0 0, .slice none 0 0, .slice none 0 0] 35))
  obtain ⟨k0, hk0⟩ : ∃ k0, w.heap.size = k0 := ⟨_, rfl⟩
  have HK0 : Hid (w.heap.size ≤ k0) := hide (by omega)
  rw [hk0] at Z0
  rw [hk0]
  generalize w.alloc (.cells #[.bool false, .slice none 0 0, .int .i64 0, .int .i64 0, .slice none 0 0, .int .i64 0, .int .i64 0, .slice none 0 0, .slice none 0 0, .slice none 0 0] 35) = W0 at *
  refine (unhide CB _).mono ?_
  rintro e w1 ⟨v1, rfl, hv1, hb1⟩
  obtain ⟨s0, hs0⟩ : ∃ s0, s0 = svUp 0 := ⟨_, rfl⟩
  rw [← hs0] at hv1
  obtain ⟨ad, nd, cd, al, cl, an, cn, ai, ci, aw, cw, rfl, _, _, _, _, _⟩ := hv1.five
  have HI0 := hide (inbox_new (nnext (unhide B0) hb1) hv1)
  have Z1 := hide (((unhide Z0).next hb1).next (allocB w1 (.cells #[.bool s0.up, .slice ad nd cd, .int .i64 s0.id, .int .i64 s0.ep, .slice al s0.ts.length cl, .int .i64 s0.dn, .int .i64 s0.tr.z, .slice an s0.tr.ns.length cn, .slice ai s0.tr.ss.length ci, .slice aw s0.ws.length cw] 35)))
  obtain ⟨q, hq⟩ : ∃ q, w1.heap.size = q := ⟨_, rfl⟩
  have HKQ : Hid (k0 ≠ q) := hide (by have := ((unhide Z0).next hb1).lt; omega)
  have HQ : Hid (w.heap.size ≤ q) := hide (by have := (nnext (unhide B0) hb1).size; omega)
  rw [hq] at HI0
  have HS0 : Hid (s0 = svF (m.take 0)) := hide (by rw [hs0, List.take_zero]; rfl)
  clear hv1 hb1 Z0 B0 CB hs0 hk0
  go_upto_region 2 with fail
  generalize w1.alloc (.cells #[.bool s0.up, .slice ad nd cd, .int .i64 s0.id, .int .i64 s0.ep, .slice al s0.ts.length cl, .int .i64 s0.dn, .int .i64 s0.tr.z, .slice an s0.tr.ns.length cn, .slice ai s0.tr.ss.length ci, .slice aw s0.ws.length cw] 35) = W1 at *
  rw [unhide HS0] at HI0
  clear hq
  go_wp2_with fail
  go_loopg [5, 6] m.length (fun kx s5 s6 wr => ∃ i : Nat, s5 = .int .i64 0 ∧ s6 = .int .i64 i ∧ i ≤ m.length ∧ m.length - i ≤ kx ∧ Hid (InBox w wr q (svF (m.take i))) ∧ Hid (Box10 wr k0 false (.slice none 0 0) 0 0 (.slice none 0 0) 0 0 (.slice none 0 0) (.slice none 0 0) (.slice none 0 0)))
  case atStart => exact ⟨0, rfl, rfl, Nat.zero_le _, Nat.le_refl _, HI0, Z1⟩
  case round =>
    obtain ⟨i, rfl, rfl, hi, hgi, HI, HZ⟩ := hrel
    by_cases hlt : i < m.length
    · obtain ⟨t, ht⟩ : ∃ t, m[i]? = some t := ⟨_, List.getElem?_eq_getElem hlt⟩
      obtain ⟨hTk, hTi⟩ := svF_took (unhide HT) ht
      have hgd := (unhide HT).log.good t (List.mem_of_getElem? ht)
      have HCT := hide (fun v W (h : SvV W v (svF (m.take i))) => stakeF_any _ _ v t true 0 W h (svF_fits hTi) hTk (by have := fmB_le (gdE_zero hgd).2.2.2; omega) (by have := (gdE_zero hgd).2.2.1; omega) (by simp [svF]; omega))
      obtain ⟨bad, bnd, bcd, bal, bnl, bcl, ban, bnn, bcn, bai, bni, bci, baw, bnw, bcw, hbx, hsv, hbw⟩ := unhide HI
      obtain ⟨b, off, cap, he, hb, r, _⟩ := log_row ((unhide HV).next hbw) ht
      simp only [Value.slice.injEq, true_and] at he
      obtain ⟨rfl, rfl⟩ := he
      have e0 := r.z ht
      have e1 := r.o ht
      have e2 := r.s ht
      have e3 := r.p ht
      have e4 := r.d ht
      have e5 := r.v ht
      have e6 := r.w ht
      have hii : (i : Int) < (m.length : Int) := by omega
      obtain ⟨s', hs'⟩ : ∃ s', s' = svF (m.take (i + 1)) := ⟨_, rfl⟩
      have hss : Hid (s'.tr.ss = []) := hide (by rw [hs']; rfl)
      rw [← hs'] at HCT
      obtain ⟨s, hs⟩ : ∃ s, s = svF (m.take i) := ⟨_, rfl⟩
      rw [← hs] at HCT hbx hsv
      have HS' := hide hs'
      obtain ⟨x0, x1, x2, x3, x4, x5, x6, x7, x8, x9⟩ := hbx.cells
      have HBX := hide hbx
      have HSV := hide hsv
      have HBW := hide hbw
      have hqlt := hbx.lt
      clear r ht hb hTk hTi hgd hs hs' hbx hsv hbw HI
      obtain ⟨tz, tw, tx, tp, td, ty, tu⟩ := t
      unfold txnV at HCT
      simp only at e0 e1 e2 e3 e4 e5 e6
      go_upto_region 5 with fail
      go_region_with (first
        | (go_at_call 12; refine (unhide HCT _ _ ((unhide HSV).next (Below.refl _ _).drew)).mono ?_; rintro e w2 ⟨cad, cnd, ccd, cal, cnl, ccl, can, cnn, ccn, cai, cni, cci, caw, cnw, ccw, rfl, S2, hb2⟩; have B2 := hide (nbelow_drew hb2); have X2 := hide ((unhide HBX).next (unhide B2)); obtain ⟨y0, y1, y2, y3, y4, y5, y6, y7, y8, y9⟩ := (unhide X2).cells; have yf0 := (unhide X2).froz 0; have yf1 := (unhide X2).froz 1; have yf2 := (unhide X2).froz 2; have yf3 := (unhide X2).froz 3; have yf4 := (unhide X2).froz 4; have yf5 := (unhide X2).froz 5; have yf6 := (unhide X2).froz 6; have yf7 := (unhide X2).froz 7; have yf8 := (unhide X2).froz 8; have yf9 := (unhide X2).froz 9; have HBw2 := hide (nnext (unhide HBW) (unhide B2)); have Z2 := hide ((unhide HZ).next (unhide B2)); have HR2 := hide (inbox_over0 (unhide HBw2) (unhide HQ) (unhide hss) (unhide S2).1 (unhide X2)); have HZ3 := hide (zero_other (unhide Z2) (unhide HKQ) (.bool s'.up) (.slice cad cnd ccd) (.int .i64 s'.id) (.int .i64 s'.ep) (.slice cal cnl ccl) (.int .i64 s'.dn) (.int .i64 s'.tr.z) (.slice can cnn ccn) (.slice cai cni cci) (.slice caw cnw ccw)); unfold put10 at HR2 HZ3; clear hb2))
      all_goals go_wp2_with fail
      all_goals
        go_roundg (m.length - (i + 1))
        case measure => omega
        case rel =>
          refine ⟨i + 1, rfl, by simp, by omega, Nat.le_refl _, ?_, ?_⟩
          · rw [← unhide HS']
            with_reducible exact HR2
          · with_reducible exact HZ3
    · obtain rfl : i = m.length := by omega
      have hki : ¬ ((m.length : Int) < (m.length : Int)) := by omega
      rw [List.take_length] at HI
      obtain ⟨bad, bnd, bcd, bal, bnl, bcl, ban, bnn, bcn, bai, bni, bci, baw, bnw, bcw, hbx, hsv, hbw⟩ := unhide HI
      obtain ⟨s, hs⟩ : ∃ s, s = svF m := ⟨_, rfl⟩
      rw [← hs] at hbx hsv
      have HS := hide hs
      have hss : s.tr.ss = [] := by rw [hs]; rfl
      have HR := hide (inbox_over0 hbw (unhide HK0) hss hsv (unhide HZ))
      have HRS := hide (put10_sv0 (up := s.up) (id := s.id) (ep := s.ep) (dn := s.dn) (z := s.tr.z) (ad := bad) (nd := bnd) (cd := bcd) (al := bal) (nl := bnl) (cl := bcl) (an := ban) (nn := bnn) (cn := bcn) (ai := bai) (ni := bni) (ci := bci) (aw := baw) (nw := bnw) (cw := bcw) (unhide HZ).dumb hss hsv)
      obtain ⟨x0, x1, x2, x3, x4, x5, x6, x7, x8, x9⟩ := hbx.cells
      obtain ⟨r0, r1, r2, r3, r4, r5, r6, r7, r8, r9⟩ := (unhide HZ).cells
      have rf0 := (unhide HZ).froz 0
      have rf1 := (unhide HZ).froz 1
      have rf2 := (unhide HZ).froz 2
      have rf3 := (unhide HZ).froz 3
      have rf4 := (unhide HZ).froz 4
      have rf5 := (unhide HZ).froz 5
      have rf6 := (unhide HZ).froz 6
      have rf7 := (unhide HZ).froz 7
      have rf8 := (unhide HZ).froz 8
      have rf9 := (unhide HZ).froz 9
      clear hs hbx hsv hbw hss HI
      go_wp2_with fail
      refine bodyPost_ret (v := .tuple #[.agg #[.bool s.up, .slice bad bnd bcd, .int .i64 s.id, .int .i64 s.ep, .slice bal bnl bcl, .int .i64 s.dn, .int .i64 s.tr.z, .slice ban bnn bcn, .slice bai bni bci, .slice baw bnw bcw], .bool true]) (by simp [results, Tryd.results6, go_sem, r0, r1, r2, r3, r4, r5, r6, r7, r8, r9]) rfl ?_
      obtain ⟨_, _, _, _, _, _, _, _, _, _, _, _, _, _, _, _, hsv2, hbw2⟩ := unhide HR
      exact ⟨_, rfl, by rw [← unhide HS]; exact unhide HRS, hbw2⟩
end Go.Proofs.YteoijdpohcjfpaaDoor

namespace Go.Proofs.YteoijdpohcjfpaaDoor
open Go.RowKit

theorem ret_pick {a b : Int} (h : a = b) : Ending.returned (.int .i64 a) = .returned (.int .i64 b) := by rw [h]

theorem tmod_cases (k n : Int) (hn : 0 < n) : k.tmod n = k % n ∨ k.tmod n = k % n - n := by
  rw [Int.tmod_eq_emod]
  split
  · left; omega
  · right; omega

set_option maxRecDepth 10000 in
set_option maxHeartbeats 400000 in
theorem pick_any (k n : Int) (w : World) (hn : 0 < n) (hn1 : n ≤ 1048576) (hk : -9223372036854775808 ≤ k) (hk1 : k ≤ 9223372036854775807) :
    Calls Tryd.prog 9 #[.int .i64 k, .int .i64 n] w fun e w' => e = .returned (.int .i64 (k % n)) ∧ w' = w := by
  have hm1 := Int.emod_nonneg k (show n ≠ 0 by omega)
  have hm2 := Int.emod_lt_of_pos k hn
  by_cases h0 : 0 ≤ k
  · go_enter Tryd.func9, Tryd.ntmps9
    go_wp2
    go_ret
    exact ⟨rfl, rfl⟩
  · have HT := hide (tmod_cases k n hn)
    go_enter Tryd.func9, Tryd.ntmps9
    go_wp2
    all_goals go_ret
    all_goals refine ⟨ret_pick ?_, rfl⟩
    all_goals (have hT := unhide HT; clear HT; first | omega | (unfold wrap64; omega))

end Go.Proofs.YteoijdpohcjfpaaDoor

namespace Go.Proofs.YteoijdpohcjfpaaDoor
open Go.RowKit

theorem crash_log {s t : List UInt8} (h : s.length + t.length ≤ 1048576) (keep : Nat) : GivesD 15 (fun x => #[x, .int .i64 keep]) [⟨logN, s, t⟩] ([⟨logN, s, t⟩].map (crashF keep)) 0 :=
  gives_own fun v W hv => crash_yes v [⟨logN, s, t⟩] keep W hv (good_slim (good_one h)) (good_one h)
/-- a server that crashed -/
def svD (s : Sv) (d : List DF) : Sv := ⟨false, d, s.id, 0, [], 0, trNew, []⟩
/-- a server that came up with this log -/
noncomputable def svB (fs d : List DF) (id : Int) (m : List WTxn) : Sv := ⟨true, d, id, epochD fs, m, 0, trNew, []⟩

end Go.Proofs.YteoijdpohcjfpaaDoor

namespace Go.Proofs.YteoijdpohcjfpaaDoor
open Go.RowKit

theorem run_copy_log (W : World) (ty : TypeId) (v : Value) (ts : List WTxn) (hv : LogV W v ts) (hl : ts.length * 72 ≤ 140737488355328) :
    ∃ v' w', (Builtin.append_ #[22, 22] ty #[.slice none 0 0, v]).run Tryd.prog W = .ok v' w' ∧ OwnL w' W.heap.size v' ts ∧ W.grownBy w' none := by
  obtain ⟨i0, hi0, hz0, hz1, hz2⟩ := info_txn
  have main : ∀ (a : Addr) (cap : Nat), v = .slice (some a) ts.length cap → (∀ j u, (cellsT ts)[j]? = some u → W.cell? (a.add j) = some u) →
      ∃ v' w', (Builtin.append_ #[22, 22] ty #[.slice none 0 0, v]).run Tryd.prog W = .ok v' w' ∧ OwnL w' W.heap.size v' ts ∧ W.grownBy w' none := by
    intro a cap e hc
    subst e
    obtain ⟨v', w', h1, h2, h3, _⟩ := run_append_own (P := Tryd.prog) W W.heap.size 22 ty 47 i0 (txnV t0) 7 72 Tryd.underlying22 hi0 hz0 hz1 hz2 rfl (by decide) (.slice none 0 0) 0 [] (World.ownsRow_nil _ _ _ _) a ts.length cap (cellsT ts) (cellsT_length ts) hc
      (fun u hu => by
        obtain ⟨j, hj⟩ := List.getElem?_of_mem hu
        have hlt := (List.getElem?_eq_some_iff.1 hj).1
        rw [cellsT_length] at hlt
        have hg := cellsT_get ts (j / 7) _ (List.getElem?_eq_getElem (by omega)) (j % 7) (by omega)
        rw [show j / 7 * 7 + j % 7 = j by omega, hj] at hg
        exact tcells_one _ u (List.mem_of_getElem? hg.symm))
      (by simp only [maxLen]; omega) (by omega) (Nat.le_refl _)
    refine ⟨v', w', h1, ?_, h3⟩
    simpa [OwnL] using h2
  rcases hv with ⟨a, cap, rfl, rfl, _⟩ | ⟨b, off, cap, rfl, _, _, _, _, hr⟩
  · cases a with
    | none =>
      refine ⟨.slice none 0 0, W, ?_, OwnL.nil _ _, ⟨rfl, rfl, rfl, Nat.le_refl _, fun _ _ _ => rfl⟩⟩
      simp [Builtin.append_, run_underlying Tryd.underlying22, sizeOf, typeInfo, hi0, Builtin.lenOf, Builtin.firstCells]
    | some a => exact main a cap rfl (fun j u h => by simp [cellsT] at h)
  · exact main ⟨b, off, none⟩ cap rfl (fun j u h => by rw [Addr.add_lit]; exact hr j u h)

end Go.Proofs.YteoijdpohcjfpaaDoor

namespace Go.Proofs.YteoijdpohcjfpaaDoor
open Go.RowKit

theorem step_copy_log {w : World} {ops : Array Oper} {o : Oper} {a : Act} {K : Act → World → Prop} {Q : Exit → Act → World → Prop} {E : Prop} (hgd : Region.wanted o (yielded ops a.tmps) = true) (s x : Operand)
    (ho : o.op = .call { callee := .builtin .append, args := #[s, x], argTypes := #[22, 22] })
    (hs : a.eval s = .slice none 0 0) (v : Value) (hx : a.eval x = v) (ts : List WTxn) (hv : LogV w v ts) (hl : ts.length * 72 ≤ 140737488355328)
    (h : ∀ a' c' w', OwnL w' w.heap.size (.slice a' ts.length c') ts → w.grownBy w' none → K (a.put o.dst (.slice a' ts.length c')) w') :
    if Region.wanted o (yielded ops a.tmps) = true then Oper.wp Tryd.prog o a w K Q else E := by
  rw [if_pos hgd]
  obtain ⟨v', w', hr, h2, h3⟩ := run_copy_log w o.type v ts hv hl
  obtain ⟨a', c', rfl⟩ := ownl_slice h2
  unfold Oper.wp execOp
  simp only [ho, resolve, invoke, builtin, Sem.run_bind, Sem.run_pure, Result.andThen_ok, List.map_toArray, List.map_cons, List.map_nil, hs, hx, hr]
  exact h a' c' w' h2 h3
theorem step_app_one {w : World} {ops : Array Oper} {o : Oper} {a : Act} {K : Act → World → Prop} {Q : Exit → Act → World → Prop} {E : Prop} (hgd : Region.wanted o (yielded ops a.tmps) = true) (s x : Operand)
    (ho : o.op = .call { callee := .builtin .append, args := #[s, x], argTypes := #[22, 22] })
    (B : Nat) (a1 : Option Addr) (c1 : Nat) (ts : List WTxn) (hs : a.eval s = .slice a1 ts.length c1) (hown : OwnL w B (.slice a1 ts.length c1) ts)
    (q : Nat) (hx : a.eval x = .slice (some ⟨q, 0, none⟩) 1 1) (t : WTxn) (hnews : ∀ j u, (tcells t)[j]? = some u → w.cell? ((⟨q, 0, none⟩ : Addr).add j) = some u) (hl : (ts.length + 1) * 72 ≤ 140737488355328) (hB : B ≤ w.heap.size)
    (h : ∀ a' c' w', OwnL w' B (.slice a' (ts.length + 1) c') (ts ++ [t]) → w.grownBy w' (Value.slice a1 ts.length c1).ownBlock → K (a.put o.dst (.slice a' (ts.length + 1) c')) w') :
    if Region.wanted o (yielded ops a.tmps) = true then Oper.wp Tryd.prog o a w K Q else E := by
  rw [if_pos hgd]
  obtain ⟨i0, hi0, hz0, hz1, hz2⟩ := info_txn
  obtain ⟨v', w', hr, h2, h3, _⟩ := run_append_own (P := Tryd.prog) w B 22 o.type 47 i0 (txnV t0) 7 72 Tryd.underlying22 hi0 hz0 hz1 hz2 rfl (by decide) (.slice a1 ts.length c1) ts.length (cellsT ts) hown ⟨q, 0, none⟩ 1 1 (tcells t) rfl hnews (tcells_one t) (by simp only [maxLen]; omega) hl hB
  have h2' : OwnL w' B v' (ts ++ [t]) := OwnL.more h2
  obtain ⟨a', c', rfl⟩ := ownl_slice h2'
  have hlen : (ts ++ [t]).length = ts.length + 1 := by simp
  rw [hlen] at h2' hr
  unfold Oper.wp execOp
  simp only [ho, resolve, invoke, builtin, Sem.run_bind, Sem.run_pure, Result.andThen_ok, List.map_toArray, List.map_cons, List.map_nil, hs, hx, hr]
  exact h a' c' w' h2' h3
theorem tat_news {W : World} {g : Nat} {t : WTxn} (h : TAt W g t) (j : Nat) (u : Value) (hj : (tcells t)[j]? = some u) : W.cell? ((⟨g, 0, none⟩ : Addr).add j) = some u := by
  rw [Addr.add_lit]
  show World.cell? _ ⟨g, 0 + j, none⟩ = _
  rw [Nat.zero_add]
  unfold TAt at h
  simp only [World.cell?, h]
  have : (#[.int .i64 t.z, .int .i64 t.o, .int .i64 t.s, .string ⟨t.p.toArray⟩, .string ⟨t.d.toArray⟩, .int .i64 t.v, .int .i64 t.w] : Array Value)[j]? = (tcells t)[j]? := by simp [tcells]
  rw [this, hj]
  rfl
end Go.Proofs.YteoijdpohcjfpaaDoor

namespace Go.Proofs.YteoijdpohcjfpaaDoor
open Go.RowKit

/-- a server whose last transaction is not safe -/
noncomputable def svT (m : List WTxn) (t : WTxn) : Sv := ⟨true, [⟨logN, recsL m, recL t⟩], 0, epochD [], m ++ [t], 0, trNew, []⟩
theorem svT_took {m : List WTxn} {t : WTxn} (h : Tkn (m ++ [t])) : Took (svF m) t false 0 (svT m t) := by
  obtain ⟨h1, h2, h3⟩ := Tkn.at (b := []) h
  exact .inr (.inr ⟨h2, rfl, [⟨logN, recsL m, recL t⟩], rfl, appF_soft h1 (by omega)⟩)
theorem crash_torn (m : List WTxn) (t : WTxn) (k : Nat) : [(⟨logN, recsL m, recL t⟩ : DF)].map (crashF k) = [⟨logN, recsL m ++ (recL t).take k, []⟩] := by simp [crashF]
/-- what comes back of it -/
theorem torn_rec {m : List WTxn} {t : WTxn} (h : Tkn (m ++ [t])) (k : Nat) : ∃ G, ((k < (recL t).length ∧ G = m) ∨ (¬ k < (recL t).length ∧ G = m ++ [t])) ∧ GivesW 17 (fun x => #[x]) [⟨logN, recsL m ++ (recL t).take k, []⟩] G [logF G] 0 ∧ Slim [⟨logN, recsL m ++ (recL t).take k, []⟩] := by
  obtain ⟨h1, _, h3⟩ := Tkn.at (b := []) h
  have hg := (Logs.at (a := m) (b := []) h1).1
  have hs := recs_small h1.left (by omega)
  have hr := recL_le hg
  have hl : (recsL m ++ (recL t).take k).length + ([] : List UInt8).length ≤ 1048576 := by simp; omega
  by_cases hk : k < (recL t).length
  · refine ⟨m, .inl ⟨hk, rfl⟩, ?_, good_slim (good_one hl)⟩
    exact recover_yes (A := []) (B := []) (rec_one (r := (recL t).take k) hl (by have := scan_torn h1.left hg hk; simpa using this))
  · refine ⟨m ++ [t], .inr ⟨hk, rfl⟩, ?_, good_slim (good_one hl)⟩
    exact recover_yes (A := []) (B := []) (rec_one (r := []) hl (by
      rw [List.take_of_length_le (by omega), List.append_nil, ← recsL_snoc]
      exact scan_recs h1))

set_option maxRecDepth 10000 in
set_option maxHeartbeats 4000000 in
theorem storeTorn_walk (v : Value) (ts : List WTxn) (x : WTxn) (keep : Int) (w : World) (hv : LogV w v ts) (hd : ∀ t ∈ ts, t.d.length ≤ 140737488355328) (hxd : x.d.length ≤ 140737488355328) (hln : (ts.length + 1) * 72 ≤ 140737488355328) (hk0 : -9223372036854775808 ≤ keep) (hk1 : keep ≤ 9223372036854775807) :
    Calls Tryd.prog 4 #[v, txnV x, .int .i64 keep] w fun e w' => e = .returned (.bool true) ∧ Below w.heap.size w w' := by
  have HV := hide hv
  have HCO := hide (fun v1 W (h : LogV W v1 (ts ++ [x])) => taken_any v1 (ts ++ [x]) W h (fun t ht => by
    rcases List.mem_append.1 ht with ht | ht
    · exact hd t ht
    · obtain rfl := List.mem_singleton.1 ht
      exact hxd))
  have HLn : Hid (ts.length * 72 ≤ 140737488355328) := hide (by omega)
  have HLn1 : Hid ((ts.length + 1) * 72 ≤ 140737488355328) := hide hln
  obtain ⟨al, cl, rfl⟩ := log_slice hv
  obtain ⟨xz, xo, xs, xp, xd, xv, xw⟩ := x
  unfold txnV
  clear hv hd hxd hln
  go_enter Tryd.func4, Tryd.ntmps4
  go_wp2_with fail
  have HB0 := hide ((Below.refl w.heap.size w).alloc (Nat.le_refl _) (.cells #[.int .i64 xz, .int .i64 xo, .int .i64 xs, .string ⟨xp.toArray⟩, .string ⟨xd.toArray⟩, .int .i64 xv, .int .i64 xw] 47))
  have HX0' := hide (TAt.new w ⟨xz, xo, xs, xp, xd, xv, xw⟩)
  generalize w.alloc (.cells #[.int .i64 xz, .int .i64 xo, .int .i64 xs, .string ⟨xp.toArray⟩, .string ⟨xd.toArray⟩, .int .i64 xv, .int .i64 xw] 47) = W0 at *
  have HV0 := hide ((unhide HV).next (unhide HB0))
  clear HV
  have x0 := (unhide HX0').c0
  have x1 := (unhide HX0').c1
  have x2 := (unhide HX0').c2
  have x3 := (unhide HX0').c3
  have x4 := (unhide HX0').c4
  have x5 := (unhide HX0').c5
  have x6 := (unhide HX0').c6
  have hq0 := (unhide HX0').lt
  have hq2 : w.heap.size ≠ W0.heap.size := by omega
  go_cut [7] from 19 (fun t7 wx => ∃ a9 k9 c9, t7 = .slice a9 k9 c9 ∧ Hid (∃ m, m.length = k9 ∧ Tkn m ∧ LogV wx (.slice a9 k9 c9) m ∧ Below W0.heap.size W0 wx))
  case first =>
    go_region_law (first
      | (refine step_copy_log (by kernel_rfl) _ _ (by rfl) (by rfl) (.slice al ts.length cl) (by rfl) ts (unhide HV0).drew (unhide HLn) ?_; intro a1 c1 w1 ho1 hg1; have HB1 := hide (((Below.refl W0.heap.size W0).drew).grown hg1 (Nat.le_refl _) (fun k e => by cases e)); have HO1 : Hid (OwnL w1 W0.heap.size (.slice a1 ts.length c1) ts) := hide ho1; have xU := (unhide HX0').next (unhide HB1); have xg0 := xU.c0; have xg1 := xU.c1; have xg2 := xU.c2; have xg3 := xU.c3; have xg4 := xU.c4; have xg5 := xU.c5; have xg6 := xU.c6; have xlt := xU.lt; have xne : w.heap.size ≠ w1.heap.size := (by omega); clear xU ho1 hg1)
      | (refine step_copy_log (by kernel_rfl) _ _ (by rfl) (by rfl) (.slice al ts.length cl) (by rfl) ts ((unhide HV0).alloc (.cells #[.int .i64 xz, .int .i64 xo, .int .i64 xs, .string ⟨xp.toArray⟩, .string ⟨xd.toArray⟩, .int .i64 xv, .int .i64 xw] 47)).drew (unhide HLn) ?_; intro a1 c1 w1 ho1 hg1; have HB1a := hide (((Below.refl (W0.alloc (.cells #[.int .i64 xz, .int .i64 xo, .int .i64 xs, .string ⟨xp.toArray⟩, .string ⟨xd.toArray⟩, .int .i64 xv, .int .i64 xw] 47)).heap.size (W0.alloc (.cells #[.int .i64 xz, .int .i64 xo, .int .i64 xs, .string ⟨xp.toArray⟩, .string ⟨xd.toArray⟩, .int .i64 xv, .int .i64 xw] 47))).drew).grown hg1 (Nat.le_refl _) (fun k e => by cases e)); have HB1 := hide (below_next2 ((Below.refl W0.heap.size W0).alloc (Nat.le_refl _) (.cells #[.int .i64 xz, .int .i64 xo, .int .i64 xs, .string ⟨xp.toArray⟩, .string ⟨xd.toArray⟩, .int .i64 xv, .int .i64 xw] 47)) (unhide HB1a)); have HO1 : Hid (OwnL w1 W0.heap.size (.slice a1 ts.length c1) ts) := hide (OwnL.mono ho1 (by simp)); have HE1 := hide ((TAt.new W0 ⟨xz, xo, xs, xp, xd, xv, xw⟩).next (unhide HB1a)); clear ho1 hg1)
      | (refine step_app_one (by kernel_rfl) _ _ (by rfl) W0.heap.size a1 c1 ts (by rfl) ((unhide HO1).next ((Below.refl _ _).alloc (Nat.le_refl _) (.cells #[.int .i64 xz, .int .i64 xo, .int .i64 xs, .string ⟨xp.toArray⟩, .string ⟨xd.toArray⟩, .int .i64 xv, .int .i64 xw] 47))) w1.heap.size (by rfl) ⟨xz, xo, xs, xp, xd, xv, xw⟩ (wapp_new w1 ⟨xz, xo, xs, xp, xd, xv, xw⟩) (unhide HLn1) (by have := (unhide HB1).size; simp; omega) ?_; intro a2 c2 w2 ho2 hg2; have HB2 := hide (((unhide HB1).alloc (unhide HB1).size (.cells #[.int .i64 xz, .int .i64 xo, .int .i64 xs, .string ⟨xp.toArray⟩, .string ⟨xd.toArray⟩, .int .i64 xv, .int .i64 xw] 47)).grown hg2 ((unhide HB1).alloc (unhide HB1).size (.cells #[.int .i64 xz, .int .i64 xo, .int .i64 xs, .string ⟨xp.toArray⟩, .string ⟨xd.toArray⟩, .int .i64 xv, .int .i64 xw] 47)).size (fun k e => (ownl_block (unhide HO1) k e).1)); have HO2 := hide ho2; clear ho2 hg2)
      | (refine step_app_one (by kernel_rfl) _ _ (by rfl) W0.heap.size a1 c1 ts (by rfl) (unhide HO1) W0.heap.size (by rfl) ⟨xz, xo, xs, xp, xd, xv, xw⟩ (tat_news (unhide HE1)) (unhide HLn1) (unhide HB1).size ?_; intro a2 c2 w2 ho2 hg2; have HB2 := hide ((unhide HB1).grown hg2 (unhide HB1).size (fun k e => (ownl_block (unhide HO1) k e).1)); have HO2 := hide ho2; clear ho2 hg2)
      | (go_simp; go_at_call 5; refine (unhide HCO _ _ (unhide HO2).log).mono ?_; rintro e w3 ⟨a3, c3, m, rfl, HM3, hb3⟩; have HB3 := hide (below_next2 (unhide HB2) hb3); clear hb3))
    all_goals go_wp2_with fail
    all_goals go_meet
    all_goals exact ⟨a3, _, c3, rfl, hide ⟨m, rfl, (unhide HM3).2, (unhide HM3).1, unhide HB3⟩⟩
  case rest =>
    obtain ⟨a9, k9, c9, rfl, hcut⟩ := hcut
    obtain ⟨m, hmk, hTm, hVm, hBm⟩ := unhide hcut
    have HB1 := hide (below_next2 (unhide HB0) hBm)
    have HTM := hide hTm
    have HVM := hide hVm
    clear hcut hTm hVm hBm HB0 HX0' HV0 HCO HLn HLn1 x0 x1 x2 x3 x4 x5 x6 hq0 hq2
    by_cases h0 : m.length = 0
    · obtain rfl : k9 = 0 := by omega
      clear HTM HVM
      go_wp2_with fail
      refine (kboots_any _).mono ?_
      rintro e w1 ⟨rfl, hb1⟩
      have HB2 := hide (nnext (unhide HB1) hb1)
      clear hb1
      go_wp2_with fail
      go_ret
      exact ⟨rfl, unhide HB2⟩
    · obtain ⟨m', t, rfl⟩ := snoc_of h0
      have hmk' : k9 = m'.length + 1 := by rw [← hmk]; simp
      subst hmk'
      clear hmk h0
      have hTt := Tkn.at (b := []) (unhide HTM)
      have hgd := (Logs.at (a := m') (b := []) hTt.1).1
      have hml : m'.length ≤ 40 := hTt.2.2
      have HTF := hide (unhide HTM).front
      obtain ⟨b, off, cap, he, hb, r, _, hcp, _⟩ := log_row (unhide HVM) (i := m'.length) (t := t) (by simp)
      rw [List.length_append, List.length_singleton] at hcp
      simp only [List.length_append, List.length_singleton, Value.slice.injEq, true_and] at he
      obtain ⟨rfl, rfl⟩ := he
      have HVF := hide (LogV.front (unhide HVM))
      have HRT := hide (fun W (hW : Below wc.heap.size wc W) => (r.kept hW hb))
      have hrl := recL_le hgd
      have CF := hide (fun v1 W (h : LogV W v1 m') => filled_any v1 m' W h (unhide HTF))
      have CT := hide (fun v1 W (h : SvV W v1 (svF m')) => stake_any (svF m') (svT m' t) v1 t false 0 W h (svF_fits (unhide HTF)) (svT_took (unhide HTM)) (by have := fmB_le (gdE_zero hgd).2.2.2; omega) (by have := (gdE_zero hgd).2.2.1; omega) (by simp only [svF]; omega))
      have CE := hide (fun W => encode_yes t W hgd)
      obtain ⟨L, hL⟩ : ∃ L, (recL t).length = L := ⟨_, rfl⟩
      obtain ⟨K, hK⟩ : ∃ K : Nat, keep % ((L : Int) + 2) = K := ⟨(keep % ((L : Int) + 2)).toNat, by rw [Int.toNat_of_nonneg (Int.emod_nonneg _ (by omega))]⟩
      have CP := hide (fun W => pick_any keep ((L : Int) + 2) W (by omega) (by omega) hk0 hk1)
      rw [hK] at CP
      obtain ⟨G, hG, hGW, hGS⟩ := torn_rec (unhide HTM) K
      rw [hL] at hG hrl
      have CCR := hide (fun v1 W (h : SvV W v1 (svT m' t)) => scrash_ok (svT m' t) v1 [⟨logN, recsL m' ++ (recL t).take K, []⟩] K W h (by have := crash_log (s := recsL m') (t := recL t) (by have := recs_small (unhide HTF).log (by omega); omega) K; rwa [crash_torn] at this))
      have CBT := hide (fun v1 W (h : DiskV W v1 [⟨logN, recsL m' ++ (recL t).take K, []⟩]) => sboot_ok v1 _ [logF G] G 1 W h hGS (by omega) (by omega) hGW)
      have HGC := hide hG
      have hGl : G.length ≤ 41 := by
        rcases hG with ⟨_, rfl⟩ | ⟨_, rfl⟩
        · omega
        · simp; omega
      have CSL := hide (fun v1 v2 u W (hu : u.length ≤ 41) (h : LogV W v1 u) (h' : LogV W v2 u) => ksl_any v1 v2 u W (by omega) h h')
      have HL := hide hL
      have hne : ¬ (((m'.length : Int) + 1) = 0) := by omega
      have hlt1 : (m'.length : Int) < (m'.length : Int) + 1 := by omega
      clear hG hGW hGS hK hL r hb hTt hgd
      obtain ⟨i, hi⟩ : ∃ i, m'.length = i := ⟨_, rfl⟩
      have HI := hide hi
      have hic : i ≤ c9 := by omega
      clear hcp
      rw [hi] at hne hlt1 HVF HVM hml ⊢
      have hmt : (m' ++ [t])[m'.length]? = some t := by simp
      rw [hi] at hmt
      have HMT := hide hmt
      obtain ⟨s3, hs3⟩ : ∃ s3, s3 = svF m' := ⟨_, rfl⟩
      obtain ⟨s4, hs4⟩ : ∃ s4, s4 = svT m' t := ⟨_, rfl⟩
      have HS4 : Hid (s4.ts = m' ++ [t]) := hide (by rw [hs4]; rfl)
      obtain ⟨d5, hd5⟩ : ∃ d5 : List DF, d5 = [⟨logN, recsL m' ++ (recL t).take K, []⟩] := ⟨_, rfl⟩
      obtain ⟨s5, hs5⟩ : ∃ s5, s5 = svD s4 d5 := ⟨_, rfl⟩
      have HS5 : Hid (s5.fs = d5) := hide (by rw [hs5]; rfl)
      obtain ⟨s6, hs6⟩ : ∃ s6, s6 = svB d5 [logF G] 1 G := ⟨_, rfl⟩
      have HS6 : Hid (s6.ts = G) := hide (by rw [hs6]; rfl)
      rw [← hd5] at CCR CBT
      rw [show (⟨true, [logF G], 1, epochD d5, G, 0, trNew, []⟩ : Sv) = s6 from hs6.symm] at CBT
      rw [show (⟨false, d5, (svT m' t).id, 0, [], 0, trNew, []⟩ : Sv) = s5 by rw [hs5, hs4]; rfl, ← hs4] at CCR
      rw [← hs3] at CF CT
      rw [← hs4] at CT
      clear hi hmt hs3 hs4 hd5 hs5 hs6
      obtain ⟨tz, tw, tx, tp, td, ty, tu⟩ := t
      unfold txnV at CT CE
      go_wp2_with fail
      refine (kboots_any _).mono ?_
      rintro e w1 ⟨rfl, hb1⟩
      have r1 := unhide HRT w1 hb1
      have t0 := r1.z (unhide HMT)
      have t1 := r1.o (unhide HMT)
      have t2 := r1.s (unhide HMT)
      have t3 := r1.p (unhide HMT)
      have t4 := r1.d (unhide HMT)
      have t5 := r1.v (unhide HMT)
      have t6 := r1.w (unhide HMT)
      simp only at t0 t1 t2 t3 t4 t5 t6
      have hal := allocB w1 (.cells #[.int .i64 tz, .int .i64 tw, .int .i64 tx, .string ⟨tp.toArray⟩, .string ⟨td.toArray⟩, .int .i64 ty, .int .i64 tu] 47)
      have HB2 := hide (nnext (nnext (unhide HB1) hb1) hal)
      have HVM2 := hide (((unhide HVM).next hb1).next hal)
      have HVF2 := hide (((unhide HVF).next hb1).next hal)
      have HTA2 := hide (TAt.new w1 ⟨tz, tw, tx, tp, td, ty, tu⟩)
      clear r1 hb1 hal HB1 HVM HVF HRT HMT
      go_upto_region 5 with fail
      clear t0 t1 t2 t3 t4 t5 t6
      generalize w1.heap.size = q8 at *
      generalize w1.alloc (.cells #[.int .i64 tz, .int .i64 tw, .int .i64 tx, .string ⟨tp.toArray⟩, .string ⟨td.toArray⟩, .int .i64 ty, .int .i64 tu] 47) = W2 at *
      go_wp2_with fail
      refine (unhide CF _ _ (unhide HVF2)).mono ?_
      rintro e w3 ⟨v3, rfl, hv3, hb3⟩
      obtain ⟨ad, adn, adc, al, alc, an, anc, ai, aic, aw, awc, rfl, ah1, ah2, ah3, ah4, ah5⟩ := hv3.five
      have hal := allocB w3 (.cells #[.bool s3.up, .slice ad adn adc, .int .i64 s3.id, .int .i64 s3.ep, .slice al s3.ts.length alc, .int .i64 s3.dn, .int .i64 s3.tr.z, .slice an s3.tr.ns.length anc, .slice ai s3.tr.ss.length aic, .slice aw s3.ws.length awc] 35)
      have HB3 := hide (nnext (nnext (unhide HB2) hb3) hal)
      have HVM3 := hide (((unhide HVM2).next hb3).next hal)
      have HVF3 := hide (((unhide HVF2).next hb3).next hal)
      have HTA3 := hide (((unhide HTA2).next hb3).next hal)
      have HX3 := hide (Box10.new w3 s3.up s3.id s3.ep s3.dn s3.tr.z (.slice ad adn adc) (.slice al s3.ts.length alc) (.slice an s3.tr.ns.length anc) (.slice ai s3.tr.ss.length aic) (.slice aw s3.ws.length awc))
      have HSV3 := hide (hv3.next hal)
      clear hv3 hb3 hal ah1 ah2 ah3 ah4 ah5 HB2 HVM2 HVF2 HTA2 CF
      go_upto_region 6 with fail
      generalize w3.heap.size = q9 at *
      generalize w3.alloc (.cells #[.bool s3.up, .slice ad adn adc, .int .i64 s3.id, .int .i64 s3.ep, .slice al s3.ts.length alc, .int .i64 s3.dn, .int .i64 s3.tr.z, .slice an s3.tr.ns.length anc, .slice ai s3.tr.ss.length aic, .slice aw s3.ws.length awc] 35) = W3 at *
      obtain ⟨x0, x1, x2, x3, x4, x5, x6, x7, x8, x9⟩ := (unhide HX3).cells
      have t0 := (unhide HTA3).c0
      have t1 := (unhide HTA3).c1
      have t2 := (unhide HTA3).c2
      have t3 := (unhide HTA3).c3
      have t4 := (unhide HTA3).c4
      have t5 := (unhide HTA3).c5
      have t6 := (unhide HTA3).c6
      go_wp2_with fail
      refine (unhide CT _ _ (unhide HSV3)).mono ?_
      rintro e w4 ⟨v4, rfl, hv4, hb4⟩
      obtain ⟨bd, bdn, bdc, bl, blc, bn, bnc, bi, bic, bw, bwc, rfl, bh1, bh2, bh3, bh4, bh5⟩ := hv4.five
      have hal := allocB w4 (.cells #[.bool s4.up, .slice bd bdn bdc, .int .i64 s4.id, .int .i64 s4.ep, .slice bl s4.ts.length blc, .int .i64 s4.dn, .int .i64 s4.tr.z, .slice bn s4.tr.ns.length bnc, .slice bi s4.tr.ss.length bic, .slice bw s4.ws.length bwc] 35)
      have HB4 := hide (nnext (nnext (unhide HB3) hb4) hal)
      have HVM4 := hide (((unhide HVM3).next hb4).next hal)
      have HVF4 := hide (((unhide HVF3).next hb4).next hal)
      have HTA4 := hide (((unhide HTA3).next hb4).next hal)
      have HX4 := hide (Box10.new w4 s4.up s4.id s4.ep s4.dn s4.tr.z (.slice bd bdn bdc) (.slice bl s4.ts.length blc) (.slice bn s4.tr.ns.length bnc) (.slice bi s4.tr.ss.length bic) (.slice bw s4.ws.length bwc))
      have HSV4 := hide (hv4.next hal)
      have HLG4 := hide (bh2.next hal)
      clear hv4 hb4 hal bh1 bh2 bh3 bh4 bh5 HB3 HVM3 HVF3 HTA3 HX3 HSV3 CT x0 x1 x2 x3 x4 x5 x6 x7 x8 x9 t0 t1 t2 t3 t4 t5 t6
      go_upto_region 7 with fail
      generalize w4.heap.size = q11 at *
      generalize w4.alloc (.cells #[.bool s4.up, .slice bd bdn bdc, .int .i64 s4.id, .int .i64 s4.ep, .slice bl s4.ts.length blc, .int .i64 s4.dn, .int .i64 s4.tr.z, .slice bn s4.tr.ns.length bnc, .slice bi s4.tr.ss.length bic, .slice bw s4.ws.length bwc] 35) = W4 at *
      have t0 := (unhide HTA4).c0
      have t1 := (unhide HTA4).c1
      have t2 := (unhide HTA4).c2
      have t3 := (unhide HTA4).c3
      have t4 := (unhide HTA4).c4
      have t5 := (unhide HTA4).c5
      have t6 := (unhide HTA4).c6
      go_wp2_with fail
      refine (unhide CE _).mono ?_
      rintro e w5 ⟨rfl, hb5⟩
      have HB5 := hide (nnext (unhide HB4) hb5)
      have HVM5 := hide ((unhide HVM4).next hb5)
      have HVF5 := hide ((unhide HVF4).next hb5)
      have HX5 := hide ((unhide HX4).next hb5)
      have HSV5 := hide ((unhide HSV4).next hb5)
      have HLG5 := hide ((unhide HLG4).next hb5)
      clear hb5 HB4 HVM4 HVF4 HTA4 HX4 HSV4 HLG4 CE t0 t1 t2 t3 t4 t5 t6
      obtain ⟨rb, hrb⟩ : ∃ rb, recL ⟨tz, tw, tx, tp, td, ty, tu⟩ = rb := ⟨_, rfl⟩
      rw [hrb] at HL
      rw [hrb]
      clear hrb
      have hzs : (ByteArray.mk rb.toArray).size = L := by rw [← unhide HL]; exact Lib.size_eq ⟨rb.toArray⟩
      go_wp2_with fail
      refine (unhide CP _).mono ?_
      rintro e w6 ⟨rfl, rfl⟩
      obtain ⟨x0, x1, x2, x3, x4, x5, x6, x7, x8, x9⟩ := (unhide HX5).cells
      go_wp2_with fail
      refine (unhide CCR _ _ (unhide HSV5)).mono ?_
      rintro e w7 ⟨v7, rfl, hv7, hb7⟩
      obtain ⟨cd, cdn, cdc, cl, clc, cn, cnc, ci, cic, cw, cwc, rfl, ch1, ch2, ch3, ch4, ch5⟩ := hv7.five
      have hal := allocB w7 (.cells #[.bool s5.up, .slice cd cdn cdc, .int .i64 s5.id, .int .i64 s5.ep, .slice cl s5.ts.length clc, .int .i64 s5.dn, .int .i64 s5.tr.z, .slice cn s5.tr.ns.length cnc, .slice ci s5.tr.ss.length cic, .slice cw s5.ws.length cwc] 35)
      have HB7 := hide (nnext (nnext (unhide HB5) hb7) hal)
      have HVM7 := hide (((unhide HVM5).next hb7).next hal)
      have HVF7 := hide (((unhide HVF5).next hb7).next hal)
      have HX7 := hide (((unhide HX5).next hb7).next hal)
      have HLG7 := hide (((unhide HLG5).next hb7).next hal)
      have HC7 := hide (Box10.new w7 s5.up s5.id s5.ep s5.dn s5.tr.z (.slice cd cdn cdc) (.slice cl s5.ts.length clc) (.slice cn s5.tr.ns.length cnc) (.slice ci s5.tr.ss.length cic) (.slice cw s5.ws.length cwc))
      rw [unhide HS5] at ch1
      have HDK7 := hide (ch1.next hal)
      clear hv7 hb7 hal ch1 ch2 ch3 ch4 ch5 HB5 HVM5 HVF5 HX5 HSV5 HLG5 CCR CP x0 x1 x2 x3 x4 x5 x6 x7 x8 x9
      go_upto_region 10 with fail
      generalize w7.heap.size = q15 at *
      generalize w7.alloc (.cells #[.bool s5.up, .slice cd cdn cdc, .int .i64 s5.id, .int .i64 s5.ep, .slice cl s5.ts.length clc, .int .i64 s5.dn, .int .i64 s5.tr.z, .slice cn s5.tr.ns.length cnc, .slice ci s5.tr.ss.length cic, .slice cw s5.ws.length cwc] 35) = W7 at *
      have x1 := (unhide HC7).cells.2.1
      go_wp2_with fail
      refine (unhide CBT _ _ (unhide HDK7)).mono ?_
      rintro e w8 ⟨v8, rfl, hv8, hb8⟩
      obtain ⟨dd, ddn, ddc, dl, dlc, dn, dnc, di, dic, dw, dwc, rfl, dh1, dh2, dh3, dh4, dh5⟩ := hv8.five
      have hal := allocB w8 (.cells #[.bool s6.up, .slice dd ddn ddc, .int .i64 s6.id, .int .i64 s6.ep, .slice dl s6.ts.length dlc, .int .i64 s6.dn, .int .i64 s6.tr.z, .slice dn s6.tr.ns.length dnc, .slice di s6.tr.ss.length dic, .slice dw s6.ws.length dwc] 35)
      have HB8 := hide (nnext (nnext (unhide HB7) hb8) hal)
      have HVM8 := hide (((unhide HVM7).next hb8).next hal)
      have HVF8 := hide (((unhide HVF7).next hb8).next hal)
      have HX8 := hide (((unhide HX7).next hb8).next hal)
      have HLG8 := hide (((unhide HLG7).next hb8).next hal)
      have HD8 := hide (Box10.new w8 s6.up s6.id s6.ep s6.dn s6.tr.z (.slice dd ddn ddc) (.slice dl s6.ts.length dlc) (.slice dn s6.tr.ns.length dnc) (.slice di s6.tr.ss.length dic) (.slice dw s6.ws.length dwc))
      have HLD8 := hide (dh2.next hal)
      clear hv8 hb8 hal dh1 dh2 dh3 dh4 dh5 HB7 HVM7 HVF7 HX7 HLG7 HC7 HDK7 CBT x1
      go_upto_region 11 with fail
      generalize w8.heap.size = q17 at *
      generalize w8.alloc (.cells #[.bool s6.up, .slice dd ddn ddc, .int .i64 s6.id, .int .i64 s6.ep, .slice dl s6.ts.length dlc, .int .i64 s6.dn, .int .i64 s6.tr.z, .slice dn s6.tr.ns.length dnc, .slice di s6.tr.ss.length dic, .slice dw s6.ws.length dwc] 35) = W8 at *
      have hmm : (m' ++ [(⟨tz, tw, tx, tp, td, ty, tu⟩ : WTxn)]).length = i + 1 := by rw [List.length_append, unhide HI]; rfl
      rw [unhide HS4] at HX8 HLG8
      rw [hmm] at HX8 HLG8
      rw [unhide HS6] at HD8 HLD8
      obtain ⟨x0, x1, x2, x3, x4, x5, x6, x7, x8, x9⟩ := (unhide HX8).cells
      have CS1 := unhide CSL _ _ _ W8 (by rw [hmm]; omega) (unhide HLG8) (unhide HVM8)
      clear hmm
      go_wp2_with fail
      with_reducible refine CS1.mono ?_
      rintro e w9 ⟨rfl, hb9⟩
      have HB9 := hide (nnext (unhide HB8) hb9)
      have HVM9 := hide ((unhide HVM8).next hb9)
      have HVF9 := hide ((unhide HVF8).next hb9)
      have HD9 := hide ((unhide HD8).next hb9)
      have HLD9 := hide ((unhide HLD8).next hb9)
      clear hb9 HB8 HVM8 HVF8 HX8 HLG8 HD8 HLD8 CS1 x0 x1 x2 x3 x4 x5 x6 x7 x8 x9
      have x4 := (unhide HD9).cells.2.2.2.2.1
      rcases unhide HGC with ⟨hKL, hGe⟩ | ⟨hKL, hGe⟩
      · have hKi : ¬ (K : Int) ≥ (L : Int) := by omega
        subst hGe
        rw [unhide HI] at HLD9 x4
        have hbw : q17 < w9.heap.size := (unhide HD9).lt
        have c1' := fun d os => Calls.regrown_of (w := w9) (d := d) (os := os) (unhide CSL _ _ _ _ (by rw [unhide HI]; omega) ((unhide HLD9).next (below_regrown w9 d os)) ((unhide HVF9).next (below_regrown w9 d os)))
        have f4 := fun d os => cell_regrown x4 d os
        go_wp2_with fail
        clear x4
        refine wp_region_quiet_below (by kernel_rfl) (by kernel_rfl) ?_
        repeat (first | go_big_quiet_step (with_reducible exact c1' _ _) | quiet_step (with_reducible exact c1' _ _))
        refine wpQuiet_nil ?_
        intro _ hw'
        obtain ⟨⟨dq, osq⟩, hw''⟩ := hw'
        subst hw''
        have HBq := hide (nnext (unhide HB9) (below_regrown w9 dq osq))
        clear c1' f4
        go_wp2_with fail
        go_ret
        exact ⟨rfl, unhide HBq⟩
      · have hKi : (K : Int) ≥ (L : Int) := by omega
        have hmm : (m' ++ [(⟨tz, tw, tx, tp, td, ty, tu⟩ : WTxn)]).length = i + 1 := by rw [List.length_append, unhide HI]; rfl
        subst hGe
        rw [hmm] at HLD9 x4
        have CS2 := unhide CSL _ _ _ w9 (by rw [hmm]; omega) (unhide HLD9) (unhide HVM9)
        clear hmm
        go_wp2_with fail
        with_reducible refine CS2.mono ?_
        rintro e w10 ⟨rfl, hb10⟩
        have HB10 := hide (nnext (unhide HB9) hb10)
        clear hb10 CS2
        go_wp2_with fail
        go_ret
        exact ⟨rfl, unhide HB10⟩
end Go.Proofs.YteoijdpohcjfpaaDoor

namespace Go.Proofs.YteoijdpohcjfpaaDoor
open Go.ChangeShapes Go.WideShapes Go.ChangeAt Go.RowKit Go.ChangeMaps

def txnD {H : Type} (t : WTxn) : DataW H := .agg [.lit (.int .i64 t.z), .lit (.int .i64 t.o), .lit (.int .i64 t.s), .lit (.string t.p), .lit (.string t.d), .lit (.int .i64 t.v), .lit (.int .i64 t.w)]
structure TxnOk (t : WTxn) : Prop where
  z : (Lit.int .i64 t.z).wf = true
  o : (Lit.int .i64 t.o).wf = true
  s : (Lit.int .i64 t.s).wf = true
  p : (ByteArray.mk t.p.toArray).size ≤ maxLen
  d : (ByteArray.mk t.d.toArray).size ≤ maxLen
  v : (Lit.int .i64 t.v).wf = true
  w : (Lit.int .i64 t.w).wf = true

theorem cellsInt : Tryd.prog.cellsOf 3 = 1 := by kernel_rfl
theorem cellsStr : Tryd.prog.cellsOf 9 = 1 := by kernel_rfl
theorem cellsTxn : Tryd.prog.cellsOf 47 = 7 := by kernel_rfl
theorem ba_of (s : ByteArray) : ∃ l : List UInt8, s = ⟨l.toArray⟩ := ⟨s.data.toList, rfl⟩

set_option maxRecDepth 10000 in
theorem open_txn {H : Type} {enc : TypeId × Value → H} {W : World} {base : Nat} {spare : Nat → Bool} {held : Bool} {r : Reach} {b0 : Nat} {v : Value} {d : DataW H} {p : List MemPlace}
    (hv : Value.okWide Tryd.prog W r b0 47 v) (h : DataW.Trod enc Tryd.prog W base spare held 47 v d p) :
    ∃ t : WTxn, v = txnV t ∧ d = txnD t ∧ p = [] ∧ TxnOk t := by
  obtain ⟨cs, rfl, hsz⟩ := okWide_struct Tryd.underlying47 hv
  have hsz7 : cs.size = 7 := hsz.trans cellsTxn
  obtain ⟨l⟩ := cs
  match l, hsz7 with
  | [c0, c1, c2, c3, c4, c5, c6], _ =>
    obtain ⟨fuel, hf⟩ := h
    obtain ⟨xs, n, _, hx, _, hlen, hfs⟩ := DataW.trod_struct Tryd.underlying47 hf
    match xs, hlen with
    | [y0, y1, y2, y3, y4, y5, y6], _ =>
      obtain ⟨z, e0, rfl, w0⟩ := DataW.trod_int Tryd.underlying3 (show DataW.trod enc Tryd.prog W base spare held n 3 [c0] = some y0 by simpa [Value.cells, cellsInt] using hfs 0 _ rfl)
      obtain ⟨o, e1, rfl, w1⟩ := DataW.trod_int Tryd.underlying3 (show DataW.trod enc Tryd.prog W base spare held n 3 [c1] = some y1 by simpa [Value.cells, cellsInt] using hfs 1 _ rfl)
      obtain ⟨s, e2, rfl, w2⟩ := DataW.trod_int Tryd.underlying3 (show DataW.trod enc Tryd.prog W base spare held n 3 [c2] = some y2 by simpa [Value.cells, cellsInt] using hfs 2 _ rfl)
      obtain ⟨p', e3, rfl, w3⟩ := DataW.trod_string Tryd.underlying9 (show DataW.trod enc Tryd.prog W base spare held n 9 [c3] = some y3 by simpa [Value.cells, cellsStr] using hfs 3 _ rfl)
      obtain ⟨d', e4, rfl, w4⟩ := DataW.trod_string Tryd.underlying9 (show DataW.trod enc Tryd.prog W base spare held n 9 [c4] = some y4 by simpa [Value.cells, cellsStr] using hfs 4 _ rfl)
      obtain ⟨v', e5, rfl, w5⟩ := DataW.trod_int Tryd.underlying3 (show DataW.trod enc Tryd.prog W base spare held n 3 [c5] = some y5 by simpa [Value.cells, cellsInt] using hfs 5 _ rfl)
      obtain ⟨u', e6, rfl, w6⟩ := DataW.trod_int Tryd.underlying3 (show DataW.trod enc Tryd.prog W base spare held n 3 [c6] = some y6 by simpa [Value.cells, cellsInt] using hfs 6 _ rfl)
      simp only [List.cons.injEq, and_true] at e0 e1 e2 e3 e4 e5 e6
      subst e0 e1 e2 e3 e4 e5 e6
      obtain ⟨pl, rfl⟩ := ba_of p'
      obtain ⟨dl, rfl⟩ := ba_of d'
      simp only [Prod.mk.injEq] at hx
      exact ⟨⟨z, o, s, pl, dl, v', u'⟩, rfl, hx.1, hx.2, ⟨w0, w1, w2, w3, w4, w5, w6⟩⟩

theorem shut_txn {H : Type} {enc : TypeId × Value → H} {W : World} {base : Nat} {spare : Nat → Bool} {held : Bool} {t : WTxn} (h : TxnOk t) :
    DataW.Trod enc Tryd.prog W base spare held 47 (txnV t) (txnD t) [] := by
  have i : ∀ x : Int, (Lit.int .i64 x).wf = true → DataW.trod enc Tryd.prog W base spare held 1 3 [.int .i64 x] = some (.lit (.int .i64 x), []) := fun x hx => by simp [DataW.trod, Tryd.underlying3, hx]
  have g : ∀ l : List UInt8, (ByteArray.mk l.toArray).size ≤ maxLen → DataW.trod enc Tryd.prog W base spare held 1 9 [.string ⟨l.toArray⟩] = some (.lit (.string l), []) := fun l hl => by simp [DataW.trod, Tryd.underlying9, hl]
  have := trod_struct_mk (enc := enc) (w := W) (base := base) (spare := spare) (held := held) (n := 1) (cs := [.int .i64 t.z, .int .i64 t.o, .int .i64 t.s, .string ⟨t.p.toArray⟩, .string ⟨t.d.toArray⟩, .int .i64 t.v, .int .i64 t.w])
    (xs := [(.lit (.int .i64 t.z), []), (.lit (.int .i64 t.o), []), (.lit (.int .i64 t.s), []), (.lit (.string t.p), []), (.lit (.string t.d), []), (.lit (.int .i64 t.v), []), (.lit (.int .i64 t.w), [])])
    Tryd.underlying47 cellsTxn.symm (by simp [cellsInt, cellsStr, i _ h.z, i _ h.o, i _ h.s, g _ h.p, g _ h.d, i _ h.v, i _ h.w])
  exact ⟨2, by simpa [Value.cells, txnV, txnD] using this⟩

theorem sized_txn {H : Type} {ts : List TypeId} {ds : List (DataW H)} (h : (DataW.weightsEach Tryd.prog ts ds).all (· ≤ reachBytes) = true) {j : Nat} {t : WTxn} (ht : ts[j]? = some 47) (hd : ds[j]? = some (txnD t)) : t.p.length ≤ 140737488351232 ∧ t.d.length ≤ 140737488351232 := by
  have e : reachBytes = 140737488351232 := by decide
  have h1 := List.all_eq_true.1 h _ (DataW.weights_mem_each ht hd t.p.length (by simp [DataW.weights, txnD, Tryd.underlying47, DataW.weightsEach]))
  have h2 := List.all_eq_true.1 h _ (DataW.weights_mem_each ht hd t.d.length (by simp [DataW.weights, txnD, Tryd.underlying47, DataW.weightsEach]))
  rw [e] at h1 h2
  exact ⟨by simpa using h1, by simpa using h2⟩

end Go.Proofs.YteoijdpohcjfpaaDoor

namespace Go.Proofs.YteoijdpohcjfpaaDoor
open Go.ChangeShapes Go.WideShapes Go.ChangeAt Go.RowKit Go.ChangeMaps
theorem laidOut : laidOutB Tryd.prog = true := by kernel_rfl
section
variable {H : Type} {enc : TypeId × Value → H} {W : World} {base : Nat} {spare : Nat → Bool} {held : Bool}
theorem weightsAll_mem {e : TypeId} : ∀ (l : List (DataW H)) (d : DataW H) (x : Nat), d ∈ l → x ∈ DataW.weights Tryd.prog e d → x ∈ DataW.weightsAll Tryd.prog e l
  | d' :: r, d, x, h, hx => by
    rw [DataW.weightsAll]
    rcases List.mem_cons.1 h with rfl | h
    · exact List.mem_append.2 (.inl hx)
    · exact List.mem_append.2 (.inr (weightsAll_mem r d x h hx))
instance : Inhabited (DataW H) := ⟨.nil⟩

end
end Go.Proofs.YteoijdpohcjfpaaDoor
