/-
  prep.fillCreate: the walk.
  prep.fill: the walk.
  aviarykeep's sameTree, of alike trees: the walk.
  What aviarykeep.pick answers: the walk.
  Lists of watches and of events, and one watch, as arguments: opened into plain lists; what their weights and their bulk say of their lengths.
-/
import Derived.Test.YtoacignhobchbaaGreatDoorSUAS
import Derived.Test.YtoacignhobchbaaGreatDoorSUAC
import Derived.Test.YtoacignhobchbaaGreatDoorRows
import Derived.Test.YtoacignhobchbaaGreatDoorSUA
import Derived.WalkKit
import Derived.WalkSpells
import Derived.WalkLawsBesides
import Derived.Test.YtoacignhobchbaaGreatDoorSUQ
import Derived.ProofKit
import Derived.OpenShut
import Derived.SizedLaws
import Derived.Deep.Slices
import Derived.Carry
namespace Go.Proofs.YtoacignhobchbaaGreatDoor
open Go.RowKit

set_option maxRecDepth 20000 in
set_option maxHeartbeats 4000000 in
theorem fcreate_any (t : Tr) (z : Int) (vn vs : Value) (r : Rq) (g : Nat) (u w : World) (gt : GoodT t) (hn : SeqV u vn t.ns) (hs : SeqV u vs t.ss) (hb : Below u.heap.size u w) (hg : u.heap.size ≤ g) (hx : TAt w g ⟨z, r.o, r.s, [], [], 0, 0⟩) (hp : r.p.length ≤ 140737488355328) (hd : r.d.length ≤ 140737488355328) (htab : Lib.TabIs Tryz.prog u "internal/strconv.uint64pow10" .u64 Lib.pow10Tab) :
    Calls Tryz.prog 58 #[.pointer (some ⟨g, 0, none⟩), .agg #[.int .i64 t.z, vn, vs], rqV r] w (GivesFl u g (fcrE t r) (fcrX t z r)) := by
  have CO := hide (fun W (hW : Below u.heap.size u W) => topen_any t.z vn vs t.ss r.s W (hs.next hW) gt.ses)
  have CP := hide (fun W => good_any ⟨r.p.toArray⟩ W)
  have CL := hide (fun W => nclone_any r.p W (by omega))
  have CD := hide (fun W => nclone_any r.d W (by omega))
  have CN := hide (fun (x : WTxn) (hxp : x.p = r.p) W (hW : Below u.heap.size u W) (hx : TAt W g x) => pnumber_any t vn vs r x g u W gt hn hW hg hx hxp htab)
  obtain ⟨na, nc, rfl⟩ := seq_slice hn
  obtain ⟨sa, sc, rfl⟩ := seq_slice hs
  obtain ⟨ro, rs, rp, rd, rv, rf⟩ := r
  unfold rqV
  simp only at *
  have X0 := hide hx
  have B0 := hide hb
  have hgl := hx.lt
  have R0 := hide (TR.new w t.z (.slice na t.ns.length nc) (.slice sa t.ss.length sc) ⟨ro, rs, rp, rd, rv, rf⟩)
  clear hn hs hb hx
  by_cases hf : 0 ≤ rf ∧ rf ≤ 3
  · have hf1 := hf.1
    have hf2 := hf.2
    have HF := hide hf
    have hfb1 : (decide (rf < 0)) = false := by simp; omega
    have hfb2 : (decide (3 < rf)) = false := by simp; omega
    clear hf
    obtain ⟨a0, a1, a2, a3, a4, a5, a6, a7, a8⟩ := (unhide R0).nine
    simp only at a0 a1 a2 a3 a4 a5 a6 a7 a8
    go_enter Tryz.func58, Tryz.ntmps58
    go_wp2_with fail
    refine (unhide CP _).mono ?_
    rintro e w1 ⟨rfl, hb1⟩
    have R1 := hide ((unhide R0).next hb1)
    have B1 := hide (nnext (unhide B0) (nbox_then (nbox_then hb1)))
    have X1 := hide ((unhide X0).next (nbox_then (nbox_then hb1)))
    obtain ⟨b0, b1, b2, b3, b4, b5, b6, b7, b8⟩ := (unhide R1).nine
    simp only at b0 b1 b2 b3 b4 b5 b6 b7 b8
    clear a0 a1 a2 a3 a4 a5 a6 a7 a8 hb1 R0 B0 X0 CP
    cases hgd : goodB rp with
    | false =>
      have HG := hide hgd
      clear hgd
      go_wp2_with fail
      go_ret
      exact givesFl_no (fcr_form (unhide HF) (fun h => by have h1 := h.1; rw [unhide HG] at h1; exact absurd h1 (by decide))) (by decide) rfl (unhide B1)
    | true =>
      have HG := hide hgd
      clear hgd
      by_cases hr : rp = [47]
      · have HR := hide hr
        subst hr
        go_wp2_with fail
        go_ret
        exact givesFl_no (fcr_form (unhide HF) (fun h => h.2 rfl)) (by decide) rfl (unhide B1)
      · have HR := hide hr
        have hrb : (rp == [47]) = false := by simpa using hr
        clear hr
        go_wp2_with fail
        refine (unhide CO _ (unhide B1)).mono ?_
        rintro e w2 ⟨rfl, hb2⟩
        have R2 := hide ((unhide R1).next hb2)
        have B2 := hide (nnext (unhide B1) hb2)
        have X2 := hide ((unhide X1).next hb2)
        obtain ⟨d0, d1, d2, d3, d4, d5, d6, d7, d8⟩ := (unhide R2).nine
        simp only at d0 d1 d2 d3 d4 d5 d6 d7 d8
        clear b0 b1 b2 b3 b4 b5 b6 b7 b8 hb2 R1 B1 X1 CO hrb
        by_cases hm : rs ∈ t.ss
        · rw [show decide (rs ∈ t.ss) = true from decide_eq_true hm]
          have HM := hide hm
          clear hm
          go_wp2_with fail
          refine (unhide CL _).mono ?_
          rintro e w3 ⟨rfl, hb3⟩
          have R3 := hide ((unhide R2).next hb3)
          have B3 := hide (nnext (unhide B2) hb3)
          have X3 := hide ((unhide X2).next hb3)
          obtain ⟨e0, e1, e2, e3, e4, e5, e6, e7, e8⟩ := (unhide R3).nine
          simp only at e0 e1 e2 e3 e4 e5 e6 e7 e8
          have k3 := (unhide X3).c3
          have f3 := (unhide X3).f 3
          have hne : w.heap.size + 1 ≠ g := by omega
          have hne0 : w.heap.size ≠ g := by omega
          clear d0 d1 d2 d3 d4 d5 d6 d7 d8 hb3 R2 B2 X2 CL
          go_wp2_with fail
          refine (unhide CD _).mono ?_
          rintro e w4 ⟨rfl, hb4⟩
          have R4 := hide (((unhide R3).other (a := ⟨g, 3, none⟩) (.string ⟨rp.toArray⟩) (.inl hgl)).next hb4)
          have B4 : Hid (Below u.heap.size u w4) := hide (nnext ((unhide B3).setCell (by exact hg) _) hb4)
          have X4 := hide (((unhide X3).p rp).next hb4)
          obtain ⟨i0, i1, i2, i3, i4, i5, i6, i7, i8⟩ := (unhide R4).nine
          simp only at i0 i1 i2 i3 i4 i5 i6 i7 i8
          have k4 := (unhide X4).c4
          have f4 := (unhide X4).f 4
          have k6 := (unhide X4).c6
          have f6 := (unhide X4).f 6
          clear e0 e1 e2 e3 e4 e5 e6 e7 e8 hb4 R3 B3 X3 CD k3 f3
          have R5 := hide ((unhide R4).other (a := ⟨g, 4, none⟩) (.string ⟨rd.toArray⟩) (.inl hgl))
          have B5 : Hid (Below u.heap.size u (w4.setCell ⟨g, 4, none⟩ (.string ⟨rd.toArray⟩))) := hide ((unhide B4).setCell (by exact hg) _)
          have X5 := hide ((unhide X4).d rd)
          have HP : Hid (goodB rp = true ∧ rp ≠ [47]) := hide ⟨unhide HG, unhide HR⟩
          have hfs : rf = 0 ∨ rf = 1 ∨ rf = 2 ∨ rf = 3 := by omega
          clear HG HR
          simp only at X5
          rcases hfs with rfl | rfl | rfl | rfl
          · go_wp2_with fail
            go_ret
            exact givesF_ok (fcr_plain (unhide HF) (unhide HP) (unhide HM) (by simp)) rfl (unhide B5) (unhide X5)
          · go_wp2_with fail
            go_ret
            exact givesF_ok (fcr_plain (unhide HF) (unhide HP) (unhide HM) (by simp)) rfl ((unhide B5).setCell hg _) ((unhide X5).w rs)
          · go_wp2_with fail
            refine (unhide CN _ rfl _ (unhide B5) (unhide X5)).mono ?_
            rintro e w6 ⟨rfl, hb6, hx6⟩
            have HB := hide hb6
            have HX := hide hx6
            clear hb6 hx6
            go_wp2_with fail
            go_ret
            refine ⟨?_, unhide HB, fun h => ?_⟩
            · rw [fcr_num (unhide HF) (unhide HP) (unhide HM) (by simp)]; rfl
            · rw [fcr_num (unhide HF) (unhide HP) (unhide HM) (by simp)] at h
              exact unhide HX h
          · go_wp2_with fail
            refine (unhide CN _ rfl _ ((unhide B5).setCell hg _) ((unhide X5).w rs)).mono ?_
            rintro e w6 ⟨rfl, hb6, hx6⟩
            have HB := hide hb6
            have HX := hide hx6
            clear hb6 hx6
            go_wp2_with fail
            go_ret
            refine ⟨?_, unhide HB, fun h => ?_⟩
            · rw [fcr_num (unhide HF) (unhide HP) (unhide HM) (by simp)]; rfl
            · rw [fcr_num (unhide HF) (unhide HP) (unhide HM) (by simp)] at h
              exact unhide HX h
        · rw [show decide (rs ∈ t.ss) = false from decide_eq_false hm]
          have HM := hide hm
          clear hm
          go_wp2_with fail
          go_ret
          exact givesFl_no (fcr_shut (unhide HF) ⟨unhide HG, unhide HR⟩ (unhide HM)) (by decide) rfl (unhide B2)
  · have HF := hide hf
    have hc : decide (rf < 0) = true ∨ (decide (rf < 0) = false ∧ decide (3 < rf) = true) := by
      by_cases h : rf < 0
      · exact .inl (by simp [h])
      · exact .inr ⟨by simp; omega, by simp; omega⟩
    clear hf
    rcases hc with h | ⟨h, h'⟩
    all_goals
      simp only [decide_eq_true_eq, decide_eq_false_iff_not] at h
      (try simp only [decide_eq_true_eq] at h')
      go_enter Tryz.func58, Tryz.ntmps58
      go_wp2_with fail
      go_ret
      exact givesFl_no (fcr_range (unhide HF)) (by decide) rfl (nnext (nnext (unhide B0) (allocB _ _)) (allocB _ _))

end Go.Proofs.YtoacignhobchbaaGreatDoor

namespace Go.Proofs.YtoacignhobchbaaGreatDoor
open Go.RowKit

set_option maxRecDepth 20000 in
set_option maxHeartbeats 4000000 in
theorem pfill_any (t : Tr) (z : Int) (vn vs : Value) (r : Rq) (g : Nat) (u w : World) (gt : GoodT t) (hn : SeqV u vn t.ns) (hs : SeqV u vs t.ss) (hb : Below u.heap.size u w) (hg : u.heap.size ≤ g) (hx : TAt w g ⟨z, r.o, r.s, [], [], 0, 0⟩) (hp : r.p.length ≤ 140737488355328) (hd : r.d.length ≤ 140737488355328) (htab : Lib.TabIs Tryz.prog u "internal/strconv.uint64pow10" .u64 Lib.pow10Tab) :
    Calls Tryz.prog 26 #[.pointer (some ⟨g, 0, none⟩), .agg #[.int .i64 t.z, vn, vs], rqV r] w (GivesFl u g (filE t r) (filX t z r)) := by
  have CA := hide (fun (ho : r.o = 4 ∨ r.o = 5) W (hW : Below u.heap.size u W) hx => fchange_any t z vn vs r g u W gt hn hs hW hg hx ho hp hd)
  have CC := hide (fun W (hW : Below u.heap.size u W) hx => fcreate_any t z vn vs r g u W gt hn hs hW hg hx hp hd htab)
  obtain ⟨na, nc, rfl⟩ := seq_slice hn
  obtain ⟨sa, sc, rfl⟩ := seq_slice hs
  obtain ⟨ro, rs, rp, rd, rv, rf⟩ := r
  unfold rqV at *
  simp only at *
  have X0 := hide hx
  have B0 := hide hb
  have X1 := hide (hx.next (nnext (allocB w (.cells #[.int .i64 t.z, .slice na t.ns.length nc, .slice sa t.ss.length sc] 34)) (allocB _ (.cells #[.int .i64 ro, .int .i64 rs, .string ⟨rp.toArray⟩, .string ⟨rd.toArray⟩, .int .i64 rv, .int .i64 rf] 58))))
  have B1 := hide (nnext hb (nnext (allocB w (.cells #[.int .i64 t.z, .slice na t.ns.length nc, .slice sa t.ss.length sc] 34)) (allocB _ (.cells #[.int .i64 ro, .int .i64 rs, .string ⟨rp.toArray⟩, .string ⟨rd.toArray⟩, .int .i64 rv, .int .i64 rf] 58))))
  clear hn hs hb hx htab
  by_cases h1 : ro = 1 ∨ ro = 2
  · have HE := hide (fil_end (t := t) (z := z) (r := ⟨ro, rs, rp, rd, rv, rf⟩) h1)
    clear CA CC
    rcases h1 with rfl | rfl
    all_goals
      go_enter Tryz.func26, Tryz.ntmps26
      go_wp2_with fail
      go_ret
      exact givesF_ok (unhide HE).1 rfl (unhide B1) (by rw [(unhide HE).2]; exact unhide X1)
  · by_cases h3 : ro = 3
    · have HE := hide (fil_cre (t := t) (z := z) (r := ⟨ro, rs, rp, rd, rv, rf⟩) h3)
      subst h3
      clear CA h1
      go_enter Tryz.func26, Tryz.ntmps26
      go_wp2_with fail
      refine (unhide CC _ (unhide B1) (unhide X1)).mono ?_
      rintro e w6 ⟨rfl, hb6, hx6⟩
      have HB := hide hb6
      have HX := hide hx6
      clear hb6 hx6
      go_wp2_with fail
      go_ret
      refine ⟨?_, unhide HB, fun h => ?_⟩
      · rw [(unhide HE).1]; rfl
      · rw [(unhide HE).1] at h
        rw [(unhide HE).2]
        exact unhide HX h
    · by_cases h4 : ro = 4 ∨ ro = 5
      · have HE := hide (fil_chg (t := t) (z := z) (r := ⟨ro, rs, rp, rd, rv, rf⟩) h4)
        have CB := hide (unhide CA h4)
        clear CA CC h1 h3
        rcases h4 with rfl | rfl
        all_goals
          go_enter Tryz.func26, Tryz.ntmps26
          go_wp2_with fail
          refine (unhide CB _ (unhide B1) (unhide X1)).mono ?_
          rintro e w6 ⟨rfl, hb6, hx6⟩
          have HB := hide hb6
          have HX := hide hx6
          clear hb6 hx6
          go_wp2_with fail
          go_ret
          refine ⟨?_, unhide HB, fun h => ?_⟩
          · rw [(unhide HE).1]; rfl
          · rw [(unhide HE).1] at h
            rw [(unhide HE).2]
            exact unhide HX h
      · have HE := hide (fil_kind (t := t) (r := ⟨ro, rs, rp, rd, rv, rf⟩) (by simp only; omega))
        have e1 : (ro == 1) = false := by simp; omega
        have e2 : (ro == 2) = false := by simp; omega
        have e3 : (ro == 3) = false := by simp; omega
        have e4 : (ro == 4) = false := by simp; omega
        have e5 : (ro == 5) = false := by simp; omega
        clear CA CC h1 h3 h4
        go_enter Tryz.func26, Tryz.ntmps26
        go_wp2_with fail
        go_ret
        exact givesFl_no (unhide HE) (by decide) rfl (unhide B1)

end Go.Proofs.YtoacignhobchbaaGreatDoor

namespace Go.Proofs.YtoacignhobchbaaGreatDoor
open Go.RowKit

set_option maxRecDepth 20000 in
set_option maxHeartbeats 2000000 in
theorem ksameT_any (t : Tr) (vn vs un us : Value) (w : World) (hn : SeqV w vn t.ns) (hs : SeqV w vs t.ss) (gn : SeqV w un t.ns) (gs : SeqV w us t.ss) (hl : t.ns.length ≤ 140737488355328) (hls : t.ss.length ≤ 140737488355328) :
    Calls Tryz.prog 10 #[.agg #[.int .i64 t.z, vn, vs], .agg #[.int .i64 t.z, un, us]] w fun e w' => e = .returned (.bool true) ∧ Below w.heap.size w w' := by
  have K : ∀ {α : Type} [Lay α] (v : Value) (xs : List α), SeqV w v xs → ∀ W, Below w.heap.size w W → ∀ (i : Nat) (x : α), xs[i]? = some x → ∃ b off c, v = .slice (some ⟨b, off, none⟩) xs.length c ∧ b < w.heap.size ∧ RowAt W b off (cellsL xs) := by
    intro α _ v xs hv W hW i x hx
    obtain ⟨b, off, c, e, hb, hr, _, _⟩ := seq_row hv (by intro h0; rw [h0] at hx; simp at hx)
    exact ⟨b, off, c, e, hb, hr.kept hW hb⟩
  have K1 := hide (K vn t.ns hn)
  have K2 := hide (K un t.ns gn)
  have K3 := hide (K vs t.ss hs)
  have K4 := hide (K us t.ss gs)
  have T0 := hide (TT.new w t.z vn vs un us)
  obtain ⟨na, nc, rfl⟩ := seq_slice hn
  obtain ⟨sa, sc, rfl⟩ := seq_slice hs
  obtain ⟨ma, mc, rfl⟩ := seq_slice gn
  obtain ⟨ra, rc, rfl⟩ := seq_slice gs
  clear hn hs gn gs K
  go_enter Tryz.func10, Tryz.ntmps10
  go_wp2_with fail
  go_loopg [5] t.ns.length (fun kx s5 wr => ∃ k : Nat, s5 = .int .i64 k ∧ k ≤ t.ns.length ∧ t.ns.length - k ≤ kx ∧ Hid (TT w wr t.z (.slice na t.ns.length nc) (.slice sa t.ss.length sc) (.slice ma t.ns.length mc) (.slice ra t.ss.length rc)))
  case atStart => exact ⟨0, rfl, Nat.zero_le _, Nat.le_refl _, T0⟩
  case round =>
    obtain ⟨k, rfl, hk, hg, hT⟩ := hrel
    obtain ⟨c0, c1, c2, c3, c4, c5⟩ := (unhide hT).six
    have hsz := (unhide hT).bl.size
    by_cases hlt : k < t.ns.length
    · obtain ⟨x, hx⟩ : ∃ x, t.ns[k]? = some x := ⟨_, List.getElem?_eq_getElem hlt⟩
      obtain ⟨b1, o1, cc1, he, hb1, q1⟩ := unhide K1 wr (unhide hT).bl k x hx
      simp only [Value.slice.injEq] at he
      obtain ⟨rfl, _, rfl⟩ := he
      obtain ⟨b2, o2, cc2, he, hb2, q2⟩ := unhide K2 wr (unhide hT).bl k x hx
      simp only [Value.slice.injEq] at he
      obtain ⟨rfl, _, rfl⟩ := he
      have d0 := q1.n0 hx
      have d1 := q1.n1 hx
      have d2 := q1.n2 hx
      have d3 := q1.n3 hx
      have d4 := q1.n4 hx
      have d5 := q1.n5 hx
      have d6 := q1.n6 hx
      have d7 := q1.n7 hx
      have d8 := q1.n8 hx
      have r0 := q2.n0 hx
      have r1 := q2.n1 hx
      have r2 := q2.n2 hx
      have r3 := q2.n3 hx
      have r4 := q2.n4 hx
      have r5 := q2.n5 hx
      have r6 := q2.n6 hx
      have r7 := q2.n7 hx
      have r8 := q2.n8 hx
      clear q1 q2 hx
      go_wp2_with fail
      go_region
      go_wp2_with fail
      go_roundg (t.ns.length - (k + 1))
      case measure => omega
      case rel => exact ⟨k + 1, rfl, by omega, Nat.le_refl _, hide ((unhide hT).next (Below.refl _ _).drew)⟩
    · obtain rfl : k = t.ns.length := by omega
      go_wp2_with fail
      go_loopg [6] t.ss.length (fun kx s6 wr => ∃ k : Nat, s6 = .int .i64 k ∧ k ≤ t.ss.length ∧ t.ss.length - k ≤ kx ∧ Hid (TT w wr t.z (.slice na t.ns.length nc) (.slice sa t.ss.length sc) (.slice ma t.ns.length mc) (.slice ra t.ss.length rc)))
      case atStart => exact ⟨0, rfl, Nat.zero_le _, Nat.le_refl _, hT⟩
      case round =>
        obtain ⟨k, rfl, hk, hg, hT⟩ := hrel
        obtain ⟨c0, c1, c2, c3, c4, c5⟩ := (unhide hT).six
        by_cases hlt : k < t.ss.length
        · obtain ⟨x, hx⟩ : ∃ x, t.ss[k]? = some x := ⟨_, List.getElem?_eq_getElem hlt⟩
          obtain ⟨b1, o1, cc1, he, hb1, q1⟩ := unhide K3 wr (unhide hT).bl k x hx
          simp only [Value.slice.injEq] at he
          obtain ⟨rfl, _, rfl⟩ := he
          obtain ⟨b2, o2, cc2, he, hb2, q2⟩ := unhide K4 wr (unhide hT).bl k x hx
          simp only [Value.slice.injEq] at he
          obtain ⟨rfl, _, rfl⟩ := he
          have d0 := q1.i0 hx
          have r0 := q2.i0 hx
          clear q1 q2 hx
          go_wp2_with fail
          go_region
          go_wp2_with fail
          go_roundg (t.ss.length - (k + 1))
          case measure => omega
          case rel => exact ⟨k + 1, rfl, by omega, Nat.le_refl _, hide ((unhide hT).next (Below.refl _ _).drew)⟩
        · obtain rfl : k = t.ss.length := by omega
          go_wp2_with fail
          go_ret
          exact ⟨rfl, (unhide hT).bl⟩

end Go.Proofs.YtoacignhobchbaaGreatDoor

namespace Go.Proofs.YtoacignhobchbaaGreatDoor
open Go.RowKit

theorem ret_pick {a b : Int} (h : a = b) : Ending.returned (.int .i64 a) = .returned (.int .i64 b) := by rw [h]

theorem tmod_cases (k n : Int) (hn : 0 < n) : k.tmod n = k % n ∨ k.tmod n = k % n - n := by
  rw [Int.tmod_eq_emod]
  split
  · left; omega
  · right; omega

set_option maxRecDepth 10000 in
set_option maxHeartbeats 400000 in
theorem pick_any (k n : Int) (w : World) (hn : 0 < n) (hn1 : n ≤ 1048576) (hk : -9223372036854775808 ≤ k) (hk1 : k ≤ 9223372036854775807) :
    Calls Tryz.prog 8 #[.int .i64 k, .int .i64 n] w fun e w' => e = .returned (.int .i64 (k % n)) ∧ w' = w := by
  have hm1 := Int.emod_nonneg k (show n ≠ 0 by omega)
  have hm2 := Int.emod_lt_of_pos k hn
  by_cases h0 : 0 ≤ k
  · go_enter Tryz.func8, Tryz.ntmps8
    go_wp2
    go_ret
    exact ⟨rfl, rfl⟩
  · have HT := hide (tmod_cases k n hn)
    go_enter Tryz.func8, Tryz.ntmps8
    go_wp2
    all_goals go_ret
    all_goals refine ⟨ret_pick ?_, rfl⟩
    all_goals (have hT := unhide HT; clear HT; first | omega | (unfold wrap64; omega))

end Go.Proofs.YtoacignhobchbaaGreatDoor

namespace Go.Proofs.YtoacignhobchbaaGreatDoor
open Go.ChangeShapes Go.WideShapes Go.ChangeAt Go.RowKit Go.ChangeMaps

theorem hcellsStr : Tryz.prog.cellsOf 9 = 1 := by kernel_rfl
theorem hcellsInt : Tryz.prog.cellsOf 3 = 1 := by kernel_rfl
theorem hcellsW : Tryz.prog.cellsOf 72 = 3 := by kernel_rfl
theorem hbytesW : Tryz.prog.bytesOf 72 = 32 := by kernel_rfl
theorem hlaidOut : laidOutB Tryz.prog = true := by kernel_rfl
theorem hlist_of (s : ByteArray) : ∃ l : List UInt8, s = ⟨l.toArray⟩ := ⟨s.data.toList, rfl⟩

section
variable {H : Type} {enc : TypeId × Value → H} {W : World} {base : Nat} {spare : Nat → Bool} {held : Bool}
def waD (x : Wa) : DataW H := .agg [.lit (.int .i64 x.s), .lit (.int .i64 x.k), .lit (.string x.p)]
structure WaOk (t : Wa) : Prop where
  s : (Lit.int .i64 t.s).wf = true
  k : (Lit.int .i64 t.k).wf = true
  p : (ByteArray.mk t.p.toArray).size ≤ maxLen
theorem hopen_w {n : Nat} {cs : List Value} {x : DataW H × List MemPlace} (hl : cs.length = 3) (h : DataW.trod enc Tryz.prog W base spare held n 72 cs = some x) : ∃ f : Wa, cs = wcells f ∧ x = (waD f, []) ∧ WaOk f := by
  match cs, hl with
  | [c0, c1, c2], _ =>
    obtain ⟨xs, k, _, hx, _, hlen, hfs⟩ := DataW.trod_struct Tryz.underlying72 h
    match xs, hlen with
    | [y0, y1, y2], _ =>
      obtain ⟨i0, e0, rfl, w0⟩ := DataW.trod_int Tryz.underlying3 (show DataW.trod enc Tryz.prog W base spare held k 3 [c0] = some y0 by simpa [hcellsInt] using hfs 0 _ rfl)
      obtain ⟨i1, e1, rfl, w1⟩ := DataW.trod_int Tryz.underlying3 (show DataW.trod enc Tryz.prog W base spare held k 3 [c1] = some y1 by simpa [hcellsInt] using hfs 1 _ rfl)
      obtain ⟨s2, e2, rfl, w2⟩ := DataW.trod_string Tryz.underlying9 (show DataW.trod enc Tryz.prog W base spare held k 9 [c2] = some y2 by simpa [hcellsStr] using hfs 2 _ rfl)
      simp only [List.cons.injEq, and_true] at e0 e1 e2
      subst e0 e1 e2
      obtain ⟨l2, rfl⟩ := hlist_of s2
      subst hx
      exact ⟨⟨i0, i1, l2⟩, rfl, rfl, ⟨w0, w1, w2⟩⟩
theorem weights_wa (x : Wa) : DataW.weights Tryz.prog 72 (waD x : DataW H) = [x.p.length] := by
  simp [DataW.weights, waD, Tryz.underlying72, DataW.weightsEach]
theorem hweightsAll_mem {e : TypeId} : ∀ (l : List (DataW H)) (d : DataW H) (x : Nat), d ∈ l → x ∈ DataW.weights Tryz.prog e d → x ∈ DataW.weightsAll Tryz.prog e l
  | d' :: r, d, x, h, hx => by
    rw [DataW.weightsAll]
    rcases List.mem_cons.1 h with rfl | h
    · exact List.mem_append.2 (.inl hx)
    · exact List.mem_append.2 (.inr (hweightsAll_mem r d x h hx))
theorem bulk_pos (d : DataW H) : 1 ≤ Rows.uptoBulk d := by
  cases d with
  | lit l => cases l <;> simp [Rows.uptoBulk]
  | _ => simp [Rows.uptoBulk]
theorem bulk_len : ∀ l : List (DataW H), l.length ≤ Rows.uptoBulkAll l
  | [] => by simp
  | d :: r => by
    have := bulk_len r
    have := bulk_pos d
    simp only [List.length_cons, Rows.uptoBulkAll]
    omega

set_option maxRecDepth 10000 in
/-- a slice of elements that are laid in a row -/
theorem open_seq {α : Type} [Lay α] (al : α) {T E : TypeId} (hU : Tryz.prog.underlying T = some (.slice E)) (hk : Tryz.prog.cellsOf E = Lay.k α) (hk0 : 0 < Lay.k α) {bytes : Nat} (hby : Tryz.prog.bytesOf E = bytes) (dat : α → DataW H) (len1 : α → Nat)
    (hw : ∀ x, DataW.weights Tryz.prog E (dat x) = [len1 x])
    (ho : ∀ {n : Nat} {cs : List Value} {x : DataW H × List MemPlace}, cs.length = Lay.k α → DataW.trod enc Tryz.prog W base spare held n E cs = some x → ∃ f : α, cs = Lay.cs f ∧ x.1 = dat f)
    {r : Reach} {b0 : Nat} {v : Value} {d : DataW H} {p : List MemPlace}
    (hv : Value.okWide Tryz.prog W r b0 T v) (h : DataW.Trod enc Tryz.prog W base spare held T v d p) :
    ∃ xs : List α, SeqV W v xs ∧ xs.length + 1 ≤ Rows.uptoBulk d ∧ ∀ M, (∀ x ∈ DataW.weights Tryz.prog T d, x ≤ M) → (∀ f ∈ xs, len1 f ≤ M) ∧ xs.length * bytes ≤ M := by
  obtain ⟨fuel, hf⟩ := h
  obtain ⟨sa, sl, sc, rfl⟩ := okWide_slice hU hv
  have hf' : DataW.trod enc Tryz.prog W base spare held fuel T [.slice sa sl sc] = some (d, p) := by simpa [Value.cells] using hf
  clear hf
  rcases Go.Deep.open_slice hU hf' with ⟨h1, hx⟩ | ⟨a, len, cap, m, k, D, Pl, h1, hb, hl, hm, hmm, hx, hel⟩
  · simp only [List.cons.injEq, and_true] at h1
    rw [h1]
    exact ⟨[], SeqV.nil W, by have := bulk_pos d; simpa using this, fun M _ => ⟨by simp, by simp⟩⟩
  · simp only [List.cons.injEq, and_true] at h1
    rw [h1]
    simp only [Prod.mk.injEq] at hx
    obtain ⟨rfl, _⟩ := hx
    have hlm : len ≤ m := by rw [hmm]; split <;> omega
    have each : ∀ i, i < len → ∃ f : α, (∀ c, c < Lay.k α → W.cell? (a.add (i * Lay.k α + c)) = (Lay.cs f)[c]?) ∧ D i = dat f := by
      intro i hi
      obtain ⟨cs', g1, g2⟩ := hel i (by omega)
      rw [hk] at g1
      obtain ⟨_, hlen, hcell⟩ := World.cells?_some g1
      obtain ⟨f, rfl, hd⟩ := ho hlen g2
      refine ⟨f, fun c hc => ?_, hd⟩
      have := hcell c hc
      rwa [Go.Deep.add_add] at this
    have : Inhabited α := ⟨al⟩
    obtain ⟨F, hF⟩ := Go.Deep.choose_lt each
    refine ⟨(List.range len).map F, ?_, ?_, ?_⟩
    · by_cases h0 : len = 0
      · subst h0
        exact .inl ⟨some a, cap, rfl, rfl, hm⟩
      · have c0 := (hF 0 (by omega)).1 0 hk0
        obtain ⟨y, hy⟩ : ∃ y, (Lay.cs (F 0))[0]? = some y := ⟨_, List.getElem?_eq_getElem (by rw [Lay.len]; exact hk0)⟩
        rw [hy] at c0
        obtain ⟨b, off, sp⟩ := a
        have hsp : sp = none := by
          cases sp with
          | none => rfl
          | some s => simp [World.cell?, Addr.add] at c0; split at c0 <;> simp at c0
        subst hsp
        have hblt : b < W.heap.size := World.block_lt_of_cell? W _ (show W.cell? ((⟨b, off, none⟩ : Addr).add (0 * Lay.k α + 0)) = some _ from c0) |> fun h => by simpa [Addr.add] using h
        refine .inr ⟨b, off, cap, by simp, by simpa using hl, hm, hblt, by simp; omega, fun j u hj => ?_⟩
        have hjl : j < len * Lay.k α := by
          have := (List.getElem?_eq_some_iff.1 hj).1
          rw [cellsL_length, List.length_map, List.length_range] at this
          exact this
        have hi : j / Lay.k α < len := Nat.div_lt_of_lt_mul (by rw [Nat.mul_comm]; exact hjl)
        have hm' : j % Lay.k α < Lay.k α := Nat.mod_lt _ hk0
        have hdm : j / Lay.k α * Lay.k α + j % Lay.k α = j := by rw [Nat.mul_comm]; exact Nat.div_add_mod j _
        have hg := cellsL_get ((List.range len).map F) (j / Lay.k α) (F (j / Lay.k α)) (by rw [List.getElem?_map, List.getElem?_range hi]; rfl) (j % Lay.k α) hm'
        rw [hdm, hj] at hg
        have := (hF (j / Lay.k α) hi).1 (j % Lay.k α) hm'
        rw [hdm, Addr.add_lit, ← hg] at this
        exact this
    · have := bulk_len ((List.range len).map D)
      simp only [List.length_map, List.length_range, Rows.uptoBulk] at this ⊢
      omega
    · intro M hM
      have hw' : DataW.weights Tryz.prog T (.slice ((List.range len).map D) ((List.range (m - len)).map fun j => D (len + j)) : DataW H) =
          (len + (m - len)) * bytes :: (DataW.weightsAll Tryz.prog E ((List.range len).map D) ++ DataW.weightsAll Tryz.prog E ((List.range (m - len)).map fun j => D (len + j))) := by
        simp [DataW.weights, hU, hby]
      rw [hw'] at hM
      refine ⟨fun f hf => ?_, ?_⟩
      · obtain ⟨i, hi, rfl⟩ := List.mem_map.1 hf
        have hi' : i < len := by simpa using hi
        have key : ∀ x ∈ DataW.weights Tryz.prog E (D i), x ≤ M := fun x hx => hM x (List.mem_cons_of_mem _ (List.mem_append.2 (.inl (hweightsAll_mem _ (D i) x (List.mem_map.2 ⟨i, hi, rfl⟩) hx))))
        rw [(hF i hi').2, hw] at key
        exact key _ (by simp)
      · have := hM _ (List.mem_cons_self ..)
        simp only [List.length_map, List.length_range]
        exact Nat.le_trans (Nat.mul_le_mul_right _ (by omega)) this
set_option maxRecDepth 10000 in
theorem open_watches {r : Reach} {b0 : Nat} {v : Value} {d : DataW H} {p : List MemPlace} (hv : Value.okWide Tryz.prog W r b0 23 v) (h : DataW.Trod enc Tryz.prog W base spare held 23 v d p) :
    ∃ xs : List Wa, SeqV W v xs ∧ xs.length + 1 ≤ Rows.uptoBulk d ∧ ∀ M, (∀ x ∈ DataW.weights Tryz.prog 23 d, x ≤ M) → (∀ f ∈ xs, f.p.length ≤ M) ∧ xs.length * 32 ≤ M :=
  open_seq (⟨0, 0, []⟩ : Wa) Tryz.underlying23 hcellsW (by decide) hbytesW waD (fun f => f.p.length) weights_wa (fun hl h => by obtain ⟨f, h1, h2, _⟩ := hopen_w hl h; exact ⟨f, h1, by rw [h2]⟩) hv h
theorem hsized {ts : List TypeId} {ds : List (DataW H)} (h : (DataW.weightsEach Tryz.prog ts ds).all (· ≤ reachBytes) = true) {j : Nat} {T : TypeId} {d : DataW H} (ht : ts[j]? = some T) (hd : ds[j]? = some d) : ∀ x ∈ DataW.weights Tryz.prog T d, x ≤ 140737488351232 := by
  intro x hx
  have e : reachBytes = 140737488351232 := by decide
  have h1 := List.all_eq_true.1 h _ (DataW.weights_mem_each ht hd x hx)
  rw [e] at h1
  simpa using h1
end
end Go.Proofs.YtoacignhobchbaaGreatDoor
