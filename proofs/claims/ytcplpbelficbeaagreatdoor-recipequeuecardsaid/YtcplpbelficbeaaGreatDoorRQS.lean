/-
  prep.fillCreate: the walk.
  prep.fill: the walk.
  What growth's close does: the walk.
  What growth's close does: the walk.
  What tree.Good answers, at every tree: the walks.
-/
import Derived.Test.YtcplpbelficbeaaGreatDoorRQR
import Derived.Test.YtcplpbelficbeaaGreatDoorRQO
import Derived.Test.YtcplpbelficbeaaGreatDoorRQQ
namespace Go.Proofs.YtcplpbelficbeaaGreatDoor
open Go.RowKit

set_option maxRecDepth 20000 in
set_option maxHeartbeats 4000000 in
theorem fcreate_any (t : Tr) (z : Int) (vn vs : Value) (r : Rq) (g : Nat) (u w : World) (gt : GoodT t) (hn : SeqV u vn t.ns) (hs : SeqV u vs t.ss) (hb : Below u.heap.size u w) (hg : u.heap.size ≤ g) (hx : TAt w g ⟨z, r.o, r.s, [], [], 0, 0⟩) (hp : r.p.length ≤ 140737488355328) (hd : r.d.length ≤ 140737488355328) (htab : Lib.TabIs Tryz.prog u "internal/strconv.uint64pow10" .u64 Lib.pow10Tab) :
    Calls Tryz.prog 32 #[.pointer (some ⟨g, 0, none⟩), .agg #[.int .i64 t.z, vn, vs], rqV r] w (GivesFl u g (fcrE t r) (fcrX t z r)) := by
  have CO := hide (fun W (hW : Below u.heap.size u W) => topen_any t.z vn vs t.ss r.s W (hs.next hW) gt.ses)
  have CP := hide (fun W => good_any ⟨r.p.toArray⟩ W)
  have CL := hide (fun W => nclone_any r.p W (by omega))
  have CD := hide (fun W => nclone_any r.d W (by omega))
  have CN := hide (fun (x : WTxn) (hxp : x.p = r.p) W (hW : Below u.heap.size u W) (hx : TAt W g x) => pnumber_any t vn vs r x g u W gt hn hW hg hx hxp htab)
  obtain ⟨na, nc, rfl⟩ := seq_slice hn
  obtain ⟨sa, sc, rfl⟩ := seq_slice hs
  obtain ⟨ro, rs, rp, rd, rv, rf⟩ := r
  unfold rqV
  simp only at *
  have X0 := hide hx
  have B0 := hide hb
  have hgl := hx.lt
  have R0 := hide (TR.new w t.z (.slice na t.ns.length nc) (.slice sa t.ss.length sc) ⟨ro, rs, rp, rd, rv, rf⟩)
  clear hn hs hb hx
  by_cases hf : 0 ≤ rf ∧ rf ≤ 3
  · have hf1 := hf.1
    have hf2 := hf.2
    have HF := hide hf
    have hfb1 : (decide (rf < 0)) = false := by simp; omega
    have hfb2 : (decide (3 < rf)) = false := by simp; omega
    clear hf
    obtain ⟨a0, a1, a2, a3, a4, a5, a6, a7, a8⟩ := (unhide R0).nine
    simp only at a0 a1 a2 a3 a4 a5 a6 a7 a8
    go_enter Tryz.func32, Tryz.ntmps32
    go_wp2_with fail
    refine (unhide CP _).mono ?_
    rintro e w1 ⟨rfl, hb1⟩
    have R1 := hide ((unhide R0).next hb1)
    have B1 := hide (nnext (unhide B0) (nbox_then (nbox_then hb1)))
    have X1 := hide ((unhide X0).next (nbox_then (nbox_then hb1)))
    obtain ⟨b0, b1, b2, b3, b4, b5, b6, b7, b8⟩ := (unhide R1).nine
    simp only at b0 b1 b2 b3 b4 b5 b6 b7 b8
    clear a0 a1 a2 a3 a4 a5 a6 a7 a8 hb1 R0 B0 X0 CP
    cases hgd : goodB rp with
    | false =>
      have HG := hide hgd
      clear hgd
      go_wp2_with fail
      go_ret
      exact givesFl_no (fcr_form (unhide HF) (fun h => by have h1 := h.1; rw [unhide HG] at h1; exact absurd h1 (by decide))) (by decide) rfl (unhide B1)
    | true =>
      have HG := hide hgd
      clear hgd
      by_cases hr : rp = [47]
      · have HR := hide hr
        subst hr
        go_wp2_with fail
        go_ret
        exact givesFl_no (fcr_form (unhide HF) (fun h => h.2 rfl)) (by decide) rfl (unhide B1)
      · have HR := hide hr
        have hrb : (rp == [47]) = false := by simpa using hr
        clear hr
        go_wp2_with fail
        refine (unhide CO _ (unhide B1)).mono ?_
        rintro e w2 ⟨rfl, hb2⟩
        have R2 := hide ((unhide R1).next hb2)
        have B2 := hide (nnext (unhide B1) hb2)
        have X2 := hide ((unhide X1).next hb2)
        obtain ⟨d0, d1, d2, d3, d4, d5, d6, d7, d8⟩ := (unhide R2).nine
        simp only at d0 d1 d2 d3 d4 d5 d6 d7 d8
        clear b0 b1 b2 b3 b4 b5 b6 b7 b8 hb2 R1 B1 X1 CO hrb
        by_cases hm : rs ∈ t.ss
        · rw [show decide (rs ∈ t.ss) = true from decide_eq_true hm]
          have HM := hide hm
          clear hm
          go_wp2_with fail
          refine (unhide CL _).mono ?_
          rintro e w3 ⟨rfl, hb3⟩
          have R3 := hide ((unhide R2).next hb3)
          have B3 := hide (nnext (unhide B2) hb3)
          have X3 := hide ((unhide X2).next hb3)
          obtain ⟨e0, e1, e2, e3, e4, e5, e6, e7, e8⟩ := (unhide R3).nine
          simp only at e0 e1 e2 e3 e4 e5 e6 e7 e8
          have k3 := (unhide X3).c3
          have f3 := (unhide X3).f 3
          have hne : w.heap.size + 1 ≠ g := by omega
          have hne0 : w.heap.size ≠ g := by omega
          clear d0 d1 d2 d3 d4 d5 d6 d7 d8 hb3 R2 B2 X2 CL
          go_wp2_with fail
          refine (unhide CD _).mono ?_
          rintro e w4 ⟨rfl, hb4⟩
          have R4 := hide (((unhide R3).other (a := ⟨g, 3, none⟩) (.string ⟨rp.toArray⟩) (.inl hgl)).next hb4)
          have B4 : Hid (Below u.heap.size u w4) := hide (nnext ((unhide B3).setCell (by exact hg) _) hb4)
          have X4 := hide (((unhide X3).p rp).next hb4)
          obtain ⟨i0, i1, i2, i3, i4, i5, i6, i7, i8⟩ := (unhide R4).nine
          simp only at i0 i1 i2 i3 i4 i5 i6 i7 i8
          have k4 := (unhide X4).c4
          have f4 := (unhide X4).f 4
          have k6 := (unhide X4).c6
          have f6 := (unhide X4).f 6
          clear e0 e1 e2 e3 e4 e5 e6 e7 e8 hb4 R3 B3 X3 CD k3 f3
          have R5 := hide ((unhide R4).other (a := ⟨g, 4, none⟩) (.string ⟨rd.toArray⟩) (.inl hgl))
          have B5 : Hid (Below u.heap.size u (w4.setCell ⟨g, 4, none⟩ (.string ⟨rd.toArray⟩))) := hide ((unhide B4).setCell (by exact hg) _)
          have X5 := hide ((unhide X4).d rd)
          have HP : Hid (goodB rp = true ∧ rp ≠ [47]) := hide ⟨unhide HG, unhide HR⟩
          have hfs : rf = 0 ∨ rf = 1 ∨ rf = 2 ∨ rf = 3 := by omega
          clear HG HR
          simp only at X5
          rcases hfs with rfl | rfl | rfl | rfl
          · go_wp2_with fail
            go_ret
            exact givesF_ok (fcr_plain (unhide HF) (unhide HP) (unhide HM) (by simp)) rfl (unhide B5) (unhide X5)
          · go_wp2_with fail
            go_ret
            exact givesF_ok (fcr_plain (unhide HF) (unhide HP) (unhide HM) (by simp)) rfl ((unhide B5).setCell hg _) ((unhide X5).w rs)
          · go_wp2_with fail
            refine (unhide CN _ rfl _ (unhide B5) (unhide X5)).mono ?_
            rintro e w6 ⟨rfl, hb6, hx6⟩
            have HB := hide hb6
            have HX := hide hx6
            clear hb6 hx6
            go_wp2_with fail
            go_ret
            refine ⟨?_, unhide HB, fun h => ?_⟩
            · rw [fcr_num (unhide HF) (unhide HP) (unhide HM) (by simp)]; rfl
            · rw [fcr_num (unhide HF) (unhide HP) (unhide HM) (by simp)] at h
              exact unhide HX h
          · go_wp2_with fail
            refine (unhide CN _ rfl _ ((unhide B5).setCell hg _) ((unhide X5).w rs)).mono ?_
            rintro e w6 ⟨rfl, hb6, hx6⟩
            have HB := hide hb6
            have HX := hide hx6
            clear hb6 hx6
            go_wp2_with fail
            go_ret
            refine ⟨?_, unhide HB, fun h => ?_⟩
            · rw [fcr_num (unhide HF) (unhide HP) (unhide HM) (by simp)]; rfl
            · rw [fcr_num (unhide HF) (unhide HP) (unhide HM) (by simp)] at h
              exact unhide HX h
        · rw [show decide (rs ∈ t.ss) = false from decide_eq_false hm]
          have HM := hide hm
          clear hm
          go_wp2_with fail
          go_ret
          exact givesFl_no (fcr_shut (unhide HF) ⟨unhide HG, unhide HR⟩ (unhide HM)) (by decide) rfl (unhide B2)
  · have HF := hide hf
    have hc : decide (rf < 0) = true ∨ (decide (rf < 0) = false ∧ decide (3 < rf) = true) := by
      by_cases h : rf < 0
      · exact .inl (by simp [h])
      · exact .inr ⟨by simp; omega, by simp; omega⟩
    clear hf
    rcases hc with h | ⟨h, h'⟩
    all_goals
      simp only [decide_eq_true_eq, decide_eq_false_iff_not] at h
      (try simp only [decide_eq_true_eq] at h')
      go_enter Tryz.func32, Tryz.ntmps32
      go_wp2_with fail
      go_ret
      exact givesFl_no (fcr_range (unhide HF)) (by decide) rfl (nnext (nnext (unhide B0) (allocB _ _)) (allocB _ _))

end Go.Proofs.YtcplpbelficbeaaGreatDoor

namespace Go.Proofs.YtcplpbelficbeaaGreatDoor
open Go.RowKit

set_option maxRecDepth 20000 in
set_option maxHeartbeats 4000000 in
theorem pfill_any (t : Tr) (z : Int) (vn vs : Value) (r : Rq) (g : Nat) (u w : World) (gt : GoodT t) (hn : SeqV u vn t.ns) (hs : SeqV u vs t.ss) (hb : Below u.heap.size u w) (hg : u.heap.size ≤ g) (hx : TAt w g ⟨z, r.o, r.s, [], [], 0, 0⟩) (hp : r.p.length ≤ 140737488355328) (hd : r.d.length ≤ 140737488355328) (htab : Lib.TabIs Tryz.prog u "internal/strconv.uint64pow10" .u64 Lib.pow10Tab) :
    Calls Tryz.prog 16 #[.pointer (some ⟨g, 0, none⟩), .agg #[.int .i64 t.z, vn, vs], rqV r] w (GivesFl u g (filE t r) (filX t z r)) := by
  have CA := hide (fun (ho : r.o = 4 ∨ r.o = 5) W (hW : Below u.heap.size u W) hx => fchange_any t z vn vs r g u W gt hn hs hW hg hx ho hp hd)
  have CC := hide (fun W (hW : Below u.heap.size u W) hx => fcreate_any t z vn vs r g u W gt hn hs hW hg hx hp hd htab)
  obtain ⟨na, nc, rfl⟩ := seq_slice hn
  obtain ⟨sa, sc, rfl⟩ := seq_slice hs
  obtain ⟨ro, rs, rp, rd, rv, rf⟩ := r
  unfold rqV at *
  simp only at *
  have X0 := hide hx
  have B0 := hide hb
  have X1 := hide (hx.next (nnext (allocB w (.cells #[.int .i64 t.z, .slice na t.ns.length nc, .slice sa t.ss.length sc] 26)) (allocB _ (.cells #[.int .i64 ro, .int .i64 rs, .string ⟨rp.toArray⟩, .string ⟨rd.toArray⟩, .int .i64 rv, .int .i64 rf] 30))))
  have B1 := hide (nnext hb (nnext (allocB w (.cells #[.int .i64 t.z, .slice na t.ns.length nc, .slice sa t.ss.length sc] 26)) (allocB _ (.cells #[.int .i64 ro, .int .i64 rs, .string ⟨rp.toArray⟩, .string ⟨rd.toArray⟩, .int .i64 rv, .int .i64 rf] 30))))
  clear hn hs hb hx htab
  by_cases h1 : ro = 1 ∨ ro = 2
  · have HE := hide (fil_end (t := t) (z := z) (r := ⟨ro, rs, rp, rd, rv, rf⟩) h1)
    clear CA CC
    rcases h1 with rfl | rfl
    all_goals
      go_enter Tryz.func16, Tryz.ntmps16
      go_wp2_with fail
      go_ret
      exact givesF_ok (unhide HE).1 rfl (unhide B1) (by rw [(unhide HE).2]; exact unhide X1)
  · by_cases h3 : ro = 3
    · have HE := hide (fil_cre (t := t) (z := z) (r := ⟨ro, rs, rp, rd, rv, rf⟩) h3)
      subst h3
      clear CA h1
      go_enter Tryz.func16, Tryz.ntmps16
      go_wp2_with fail
      refine (unhide CC _ (unhide B1) (unhide X1)).mono ?_
      rintro e w6 ⟨rfl, hb6, hx6⟩
      have HB := hide hb6
      have HX := hide hx6
      clear hb6 hx6
      go_wp2_with fail
      go_ret
      refine ⟨?_, unhide HB, fun h => ?_⟩
      · rw [(unhide HE).1]; rfl
      · rw [(unhide HE).1] at h
        rw [(unhide HE).2]
        exact unhide HX h
    · by_cases h4 : ro = 4 ∨ ro = 5
      · have HE := hide (fil_chg (t := t) (z := z) (r := ⟨ro, rs, rp, rd, rv, rf⟩) h4)
        have CB := hide (unhide CA h4)
        clear CA CC h1 h3
        rcases h4 with rfl | rfl
        all_goals
          go_enter Tryz.func16, Tryz.ntmps16
          go_wp2_with fail
          refine (unhide CB _ (unhide B1) (unhide X1)).mono ?_
          rintro e w6 ⟨rfl, hb6, hx6⟩
          have HB := hide hb6
          have HX := hide hx6
          clear hb6 hx6
          go_wp2_with fail
          go_ret
          refine ⟨?_, unhide HB, fun h => ?_⟩
          · rw [(unhide HE).1]; rfl
          · rw [(unhide HE).1] at h
            rw [(unhide HE).2]
            exact unhide HX h
      · have HE := hide (fil_kind (t := t) (r := ⟨ro, rs, rp, rd, rv, rf⟩) (by simp only; omega))
        have e1 : (ro == 1) = false := by simp; omega
        have e2 : (ro == 2) = false := by simp; omega
        have e3 : (ro == 3) = false := by simp; omega
        have e4 : (ro == 4) = false := by simp; omega
        have e5 : (ro == 5) = false := by simp; omega
        clear CA CC h1 h3 h4
        go_enter Tryz.func16, Tryz.ntmps16
        go_wp2_with fail
        go_ret
        exact givesFl_no (unhide HE) (by decide) rfl (unhide B1)

end Go.Proofs.YtcplpbelficbeaaGreatDoor

namespace Go.Proofs.YtcplpbelficbeaaGreatDoor
open Go.RowKit

theorem OwnS.touched {α : Type} [Lay α] {W V : World} {B : Nat} {v : Value} {xs : List α} {F : Nat → Prop} (h : OwnS W B v xs) (ht : Touch F W V) (hf : ∀ k, v.ownBlock = some k → ¬ F k) : OwnS V B v xs := by
  rcases h with h | ⟨g, cap, rfl, hB, h⟩
  · exact .inl h
  · obtain ⟨rest, h1, h2⟩ := h
    have hlt := (Array.getElem?_eq_some_iff.1 h1).1
    exact .inr ⟨g, cap, rfl, hB, rest, (ht.block g hlt (hf g rfl)).trans h1, h2⟩
def Closed (F : Nat → Prop) (b : Nat) (z : Int) (ns : List Nd) (ss' : List Int) (ps : List (List UInt8)) (w : World) (e : Ending) (w' : World) : Prop :=
  (fullN (rmAll z ns ps) = true ∧ e = .returned (.int .i64 6) ∧ Touch F w w') ∨
  (fullN (rmAll z ns ps) = false ∧ e = .returned (.int .i64 0) ∧ ∃ vn' vs' ve', Grow w' F b z vn' vs' ve' (rmAll z ns ps) ss' (rmEv ps) ∧ Touch F w w')
structure Clo (z s : Int) (ss0 : List Int) (cur : List Nd) (ps : List (List UInt8)) : Prop where
  g : GoodN z cur ss0
  r : Rest s cur ps
  c : ∀ n ∈ cur, n.k ≤ 2147483647
/-- one removal: what it comes to -/
theorem clo_step (F : Nat → Prop) (b : Nat) (z s : Int) (vn vs ve : Value) (cur : List Nd) (ss ss0 : List Int) (es : List Ev) (p : List UInt8) (ps : List (List UInt8)) (w : World)
    (h : Grow w F b z vn vs ve cur ss es) (hF : ∀ k, w.heap.size ≤ k → F k) (hes : es.length ≤ 99998) (C : Clo z s ss0 cur (p :: ps)) :
    (fullN (rmAll z cur (p :: ps)) = true ∧ Calls Tryz.prog 41 #[.pointer (some ⟨b, 0, none⟩), .string ⟨p.toArray⟩] w fun e w' => e = .returned (.int .i64 6) ∧ Touch F w w') ∨
    (Clo z s ss0 (rmN z cur p) ps ∧ Calls Tryz.prog 41 #[.pointer (some ⟨b, 0, none⟩), .string ⟨p.toArray⟩] w fun e w' => e = .returned (.int .i64 0) ∧ ∃ vn' ve', Grow w' F b z vn' vs ve' (rmN z cur p) ss (es ++ [⟨2, p⟩, ⟨4, dirOf p⟩]) ∧ Touch F w w') := by
  obtain ⟨A, n, B, u, T, ho, hk, hr, hgd, hu1, hu2, hu3, hu4, hu5, hu6, g', R'⟩ := rest_step C.g C.r
  obtain ⟨A', B', T'⟩ := there_drop C.g.asc T hu2 hu3 hu4
  have hp := goodB_le hgd
  have hd := dirOf_len p
  have hkk := C.c u hu2
  have h0 := (C.g.ok u hu2).k0
  have hn := (C.g.ok u hu2).kids
  have hn2 : kidsN cur u.p ≤ cur.length := List.countP_le_length
  have hl := C.g.few
  by_cases hf : u.k = 2147483647
  · refine .inl ⟨rm_full hu2 hu3 hu4 hf ps hu6, ?_⟩
    exact remove_full F b z vn vs ve cur A B A' B' n u ss es p w h hF T T' hl hk hf (by omega) (by omega)
  · refine .inr ⟨⟨g', R', rm_cap C.g.asc hu2 hu3 (by omega) C.c⟩, ?_⟩
    exact remove_ok F b z vn vs ve cur A B A' B' n u ss es p w h hF T T' hl hk ⟨h0, by omega⟩ (by omega) (by omega) (by omega) (by omega)

end Go.Proofs.YtcplpbelficbeaaGreatDoor

namespace Go.Proofs.YtcplpbelficbeaaGreatDoor
open Go.RowKit

set_option maxRecDepth 20000 in
set_option maxHeartbeats 4000000 in
theorem close_any (F : Nat → Prop) (b : Nat) (z : Int) (vn vs ve : Value) (ns : List Nd) (ss A B ss0 : List Int) (s : Int) (w : World)
    (h : Grow w F b z vn vs ve ns ss []) (hF : ∀ k, w.heap.size ≤ k → F k) (T : SThere ss A B s) (hl : ss.length ≤ 2147483647) (C : Clo z s ss0 ns (ownedP ns s)) :
    Calls Tryz.prog 39 #[.pointer (some ⟨b, 0, none⟩), .int .i64 s] w fun e w' => Closed F b z ns (A ++ B) (ownedP ns s) w e w' := by
  have CF := ibs_there vs ss A B s w h.s.seq hl T
  have hne : ns ≠ [] := by obtain ⟨r, rest, e, _⟩ := C.g.root; rw [e]; simp
  have hfew := C.g.few
  obtain ⟨g, cap, hsv, hr⟩ : ∃ g cap, vs = .slice (some ⟨g, 0, none⟩) ss.length cap ∧ OwnR w g cap (A ++ s :: B) := by
    rcases h.s with ⟨_, e⟩ | ⟨g, cap, e, _, h3⟩
    · have := T.eq; rw [e] at this; simp at this
    · exact ⟨g, cap, e, by rw [← T.eq]; exact h3⟩
  subst hsv
  have hlen : ss.length = A.length + B.length + 1 := by rw [T.eq]; simp; omega
  have CD := idelete_any g cap A B s ss.length w hr hlen hl
  have c2 := h.c2
  have hgb := (h.fs g rfl).2
  have hFg := (h.fs g rfl).1
  have HG := hide h
  have HF := hide hF
  have HC := hide C
  have HCD := hide CD
  obtain ⟨ps, hps⟩ : ∃ ps, ownedP ns s = ps := ⟨_, rfl⟩
  have HPS := hide hps
  have hpl : ps.length ≤ 400 := by rw [← hps]; exact Nat.le_trans (owned_len ns s) hfew
  rw [hps]
  have hAl : A.length < ss.length := by omega
  clear h hF T hr CD C hps hlen
  go_enter Tryz.func39, Tryz.ntmps39
  go_wp2_with fail
  refine CF.mono ?_
  rintro e w1 ⟨rfl, rfl⟩
  clear CF
  go_wp2_with fail
  rw [show ((A.length : Int) + 1) = ((A.length + 1 : Nat) : Int) from by omega]
  refine (unhide HCD).mono ?_
  rintro e w2 ⟨rfl, ho2, hg2⟩
  have m2 : w2.cell? ⟨b, 2, none⟩ = some (.slice (some ⟨g, 0, none⟩) ss.length cap) := hg2.cell c2 (fun e => hgb (Option.some.inj e).symm)
  have l2 : w2.frozen? ⟨b, 2, none⟩ = false := (World.frozen?_of_block (hg2.block b (unhide HG).lt (fun e => hgb (Option.some.inj e).symm))).trans ((unhide HG).fz 2)
  have g2 := (unhide HG).se (vs' := .slice (some ⟨g, 0, none⟩) (A.length + B.length) cap) (ss' := A ++ B) (unhide HF) hg2 (.inr ⟨g, cap, by rw [List.length_append], Nat.zero_le _, ho2⟩) (.inl rfl)
  have t2 : Touch F w1 (w2.setCell ⟨b, 2, none⟩ (.slice (some ⟨g, 0, none⟩) (A.length + B.length) cap)) := (Touch.of_grown hg2 (fun k e => by cases e; exact hFg)).trans (Touch.set g2.fb _)
  have HG2 := hide g2
  have HT2 := hide t2
  clear g2 t2 ho2 hg2 HCD c2
  go_wp2_with fail
  refine (owned_any F b z _ _ _ _ _ _ s _ (unhide HG2) hfew hne).mono ?_
  rintro e w3 ⟨v3, rfl, ho3, hb3⟩
  rw [unhide HPS] at ho3
  have g3 := (unhide HG2).next hb3
  have HG3 := hide g3
  have HO3 := hide ho3
  obtain ⟨pa, pc, rfl, _⟩ := ho3.slice
  have hlow : ∀ k, (Value.slice pa ps.length pc).ownBlock = some k → (w2.setCell ⟨b, 2, none⟩ (.slice (some ⟨g, 0, none⟩) (A.length + B.length) cap)).heap.size ≤ k := by
    intro k e
    rcases unhide HO3 with ⟨h1, _⟩ | ⟨q, c, h1, hq, _⟩
    · rw [h1] at e; cases e
    · rw [h1] at e; cases e; exact hq
  have F3 : Hid (Grow w3 (fun k => F k ∧ (Value.slice pa ps.length pc).ownBlock ≠ some k) b z vn (.slice (some ⟨g, 0, none⟩) (A.length + B.length) cap) ve ns (A ++ B) []) := by
    have q := unhide HG2
    exact ⟨g3.blk, ⟨g3.fb, fun e => by have := hlow _ e; have := q.lt; omega⟩, g3.n, g3.s, g3.e, fun k hk => ⟨⟨(g3.fn k hk).1, fun e => by have := hlow _ e; have := q.n.low k hk; omega⟩, (g3.fn k hk).2⟩, fun k hk => ⟨⟨(g3.fs k hk).1, fun e => by have := hlow _ e; have := q.s.low k hk; omega⟩, (g3.fs k hk).2⟩, fun k hk => ⟨⟨(g3.fe k hk).1, fun e => by have := hlow _ e; have := q.e.low k hk; omega⟩, (g3.fe k hk).2⟩, g3.an, g3.asn⟩
  have T3 := hide ((unhide HT2).trans (Touch.of_below hb3))
  have hpb : ∀ k, (Value.slice pa ps.length pc).ownBlock = some k → k < w3.heap.size := fun k e => (unhide HO3).low k e
  have HPB := hide hpb
  have HF3 : Hid (∀ W : World, w3.heap.size ≤ W.heap.size → ∀ k, W.heap.size ≤ k → F k ∧ (Value.slice pa ps.length pc).ownBlock ≠ some k) := fun W hW k hk => ⟨unhide HF k (by have := (unhide T3).size; omega), fun e => by have := unhide HPB k e; omega⟩
  clear g3 ho3 hlow hpb hb3 m2 l2
  go_wp2_with fail
  go_loopg [37] ps.length (fun kx s37 wr => ∃ (k : Nat) (vn' ve' : Value), s37 = .int .i64 k ∧ k ≤ ps.length ∧ ps.length - k ≤ kx ∧ Hid (Grow wr (fun k => F k ∧ (Value.slice pa ps.length pc).ownBlock ≠ some k) b z vn' (.slice (some ⟨g, 0, none⟩) (A.length + B.length) cap) ve' (rmAll z ns (ps.take k)) (A ++ B) (rmEv (ps.take k))) ∧ Hid (Clo z s ss0 (rmAll z ns (ps.take k)) (ps.drop k)) ∧ Hid (Touch (fun k => F k ∧ (Value.slice pa ps.length pc).ownBlock ≠ some k) w3 wr))
  case atStart => exact ⟨0, vn, ve, rfl, Nat.zero_le _, Nat.le_refl _, F3, (by rw [List.drop_zero]; have := unhide HC; rw [unhide HPS] at this; exact hide this), hide (Touch.refl _ _)⟩
  case round =>
    obtain ⟨k, vn', ve', rfl, hk, hg, hG, hCl, hT⟩ := hrel
    have tF : Hid (Touch F w1 wr) := hide ((unhide T3).trans ((unhide hT).mono (fun k _ hk => hk.1)))
    by_cases hlt : k < ps.length
    · obtain ⟨p, hp⟩ : ∃ p, ps[k]? = some p := ⟨_, List.getElem?_eq_getElem hlt⟩
      have hor := (unhide HO3).touched (unhide hT) (fun q e h => h.2 e)
      obtain ⟨q, off, cq, he, _, hrow, _, _⟩ := seq_row hor.seq (by intro e; rw [e] at hlt; simp at hlt)
      simp only [Value.slice.injEq] at he
      obtain ⟨rfl, _, rfl⟩ := he
      have r0 := hrow.s0 hp
      have hdr : ps.drop k = p :: ps.drop (k + 1) := by rw [List.drop_eq_getElem_cons hlt]; congr 1; rw [List.getElem?_eq_getElem hlt] at hp; exact Option.some.inj hp
      have hev : (rmEv (ps.take k)).length ≤ 99998 := by rw [rmEv_len, List.length_take]; omega
      have CL := unhide hCl
      rw [hdr] at CL
      have ST := clo_step _ b z s vn' _ ve' _ (A ++ B) ss0 _ p (ps.drop (k + 1)) wr (unhide hG) (unhide HF3 wr (unhide hT).size) hev CL
      have HN := hide (rmAll_next z ns hp)
      have HV := hide (rmEv_next hp)
      have HSP := hide (show rmAll z ns ps = rmAll z (rmAll z ns (ps.take k)) (p :: ps.drop (k + 1)) by rw [← hdr]; exact rmAll_split z ns ps k)
      clear CL hdr hp hor hrow
      rcases ST with ⟨hfull, C6⟩ | ⟨C0, C00⟩
      · have HFU := hide hfull
        clear hfull
        go_wp2_with fail
        refine C6.mono ?_
        rintro e w4 ⟨rfl, t4⟩
        have HT4 := hide ((unhide tF).trans (t4.mono (fun k _ hk => hk.1)))
        clear C6 t4
        go_wp2_with fail
        go_ret
        exact .inl ⟨by rw [unhide HSP]; exact unhide HFU, rfl, unhide HT4⟩
      · have HC0 := hide C0
        clear C0
        go_wp2_with fail
        refine C00.mono ?_
        rintro e w4 ⟨rfl, vn2, ve2, g4, t4⟩
        have HG4 := hide g4
        have HT4 := hide ((unhide hT).trans t4)
        clear C00 t4 g4
        go_wp2_with fail
        go_roundg (ps.length - (k + 1))
        case measure => omega
        case rel => exact ⟨k + 1, vn2, ve2, rfl, by omega, Nat.le_refl _, (by rw [unhide HN, unhide HV]; exact HG4), (by rw [unhide HN]; exact HC0), HT4⟩
    · obtain rfl : k = ps.length := by omega
      have hGf := (unhide hG).cut (G := F) (fun k _ hk => hk.1)
      have hcap := (unhide hCl).c
      rw [List.take_length] at hGf hcap
      have HGf := hide hGf
      have HCp := hide (fullN_false.2 hcap)
      clear hGf hcap
      go_wp2_with fail
      go_ret
      exact .inr ⟨unhide HCp, rfl, vn', _, ve', unhide HGf, unhide tF⟩

end Go.Proofs.YtcplpbelficbeaaGreatDoor

namespace Go.Proofs.YtcplpbelficbeaaGreatDoor
open Go.RowKit

set_option maxRecDepth 20000 in
set_option maxHeartbeats 2000000 in
theorem tgood_any (t : Tr) (vn vs : Value) (w : World) (hn : SeqV w vn t.ns) (hs : SeqV w vs t.ss) (hw : WfT t) :
    Calls Tryz.prog 14 #[.agg #[.int .i64 t.z, vn, vs]] w fun e w' => e = .returned (.bool (goodT t)) ∧ Below w.heap.size w w' := by
  by_cases hz : zGood t.z = true
  · by_cases ho : OrdN t.ns
    · by_cases ha : SAsc t.ss
      · exact tgood_main t vn vs w hn hs hw hz ho ha
      · have F := hide (good_no (t := t) (fun h => ha h.2.2)).symm
        have CZ := fun W => zgood_any t.z W
        rw [hz] at CZ
        have CO := hide (fun W (h : Below w.heap.size w W) => ordered_any vn t.ns W (hn.next h))
        have CN := hide (fun W (h : Below w.heap.size w W) => numbered_any vs t.ss W (hs.next h) hw.ses)
        simp only [pd_true ho] at CO
        simp only [pd_false ha] at CN
        obtain ⟨na, nc, rfl⟩ := seq_slice hn
        obtain ⟨sa, sc, rfl⟩ := seq_slice hs
        clear hn hs hw hz ho ha
        go_enter Tryz.func14, Tryz.ntmps14
        go_wp2_with fail
        refine (CZ _).mono ?_
        rintro e w0 ⟨rfl, rfl⟩
        go_wp2_with fail
        refine (unhide CO _ (allocB _ _)).mono ?_
        rintro e w1 ⟨rfl, hb1⟩
        have c2 : w1.cell? ⟨w.heap.size, 2, none⟩ = some (.slice sa t.ss.length sc) := by rw [hb1.cell (p := ⟨w.heap.size, 2, none⟩) (by simp)]; simp
        have HB := hide (nbox_then hb1)
        clear hb1
        go_wp2_with fail
        refine (unhide CN _ (unhide HB)).mono ?_
        rintro e w2 ⟨rfl, rfl⟩
        go_wp2_with fail
        go_ret
        exact ⟨nret_bool (unhide F), unhide HB⟩
    · have F := hide (good_no (t := t) (fun h => ho h.2.1)).symm
      have CZ := fun W => zgood_any t.z W
      rw [hz] at CZ
      have CO := hide (fun W (h : Below w.heap.size w W) => ordered_any vn t.ns W (hn.next h))
      simp only [pd_false ho] at CO
      obtain ⟨na, nc, rfl⟩ := seq_slice hn
      obtain ⟨sa, sc, rfl⟩ := seq_slice hs
      clear hn hs hw hz ho
      go_enter Tryz.func14, Tryz.ntmps14
      go_wp2_with fail
      refine (CZ _).mono ?_
      rintro e w0 ⟨rfl, rfl⟩
      go_wp2_with fail
      refine (unhide CO _ (allocB _ _)).mono ?_
      rintro e w1 ⟨rfl, hb1⟩
      have HB := hide (nbox_then hb1)
      clear hb1
      go_wp2_with fail
      go_ret
      exact ⟨nret_bool (unhide F), unhide HB⟩
  · have F := hide (good_no (t := t) (fun h => hz h.1)).symm
    have hz' : zGood t.z = false := by simpa using hz
    have CZ := fun W => zgood_any t.z W
    rw [hz'] at CZ
    obtain ⟨na, nc, rfl⟩ := seq_slice hn
    obtain ⟨sa, sc, rfl⟩ := seq_slice hs
    clear hn hs hw hz hz'
    go_enter Tryz.func14, Tryz.ntmps14
    go_wp2_with fail
    refine (CZ _).mono ?_
    rintro e w0 ⟨rfl, rfl⟩
    go_wp2_with fail
    go_ret
    exact ⟨nret_bool (unhide F), allocB _ _⟩

end Go.Proofs.YtcplpbelficbeaaGreatDoor
