/-
  prep.fillCreate: the walk.
  prep.fill: the walk.
  prep.Prepare: the walk.
  What the laws of prep share: makes.
  aviarykeep.played: the walk.
  aviarykeep's sameTree, of alike trees: the walk.
  What aviarykeep.pick answers: the walk.
  TreeDeep: the walk.
-/
import Derived.Test.YtoacignhobchbaaGreatDoorSRAE
import Derived.Test.YtoacignhobchbaaGreatDoorSRR
import Derived.Test.YtoacignhobchbaaGreatDoorSRQ
import Derived.Test.YtoacignhobchbaaGreatDoorSRK
import Derived.Deep.CutRange
import Derived.Deep.RegionHeld3
import Derived.Test.YtoacignhobchbaaGreatDoorSRZ
import Derived.Test.YtoacignhobchbaaGreatDoorSRAB
import Derived.Test.YtoacignhobchbaaGreatDoorRows
import Derived.Test.YtoacignhobchbaaGreatDoorSRA
import Derived.WalkKit
import Derived.WalkSpells
import Derived.WalkLawsBesides
namespace Go.Proofs.YtoacignhobchbaaGreatDoor
open Go.RowKit

set_option maxRecDepth 20000 in
set_option maxHeartbeats 4000000 in
theorem fcreate_any (t : Tr) (z : Int) (vn vs : Value) (r : Rq) (g : Nat) (u w : World) (gt : GoodT t) (hn : SeqV u vn t.ns) (hs : SeqV u vs t.ss) (hb : Below u.heap.size u w) (hg : u.heap.size ≤ g) (hx : TAt w g ⟨z, r.o, r.s, [], [], 0, 0⟩) (hp : r.p.length ≤ 140737488355328) (hd : r.d.length ≤ 140737488355328) (htab : Lib.TabIs Tryz.prog u "internal/strconv.uint64pow10" .u64 Lib.pow10Tab) :
    Calls Tryz.prog 58 #[.pointer (some ⟨g, 0, none⟩), .agg #[.int .i64 t.z, vn, vs], rqV r] w (GivesFl u g (fcrE t r) (fcrX t z r)) := by
  have CO := hide (fun W (hW : Below u.heap.size u W) => topen_any t.z vn vs t.ss r.s W (hs.next hW) gt.ses)
  have CP := hide (fun W => good_any ⟨r.p.toArray⟩ W)
  have CL := hide (fun W => nclone_any r.p W (by omega))
  have CD := hide (fun W => nclone_any r.d W (by omega))
  have CN := hide (fun (x : WTxn) (hxp : x.p = r.p) W (hW : Below u.heap.size u W) (hx : TAt W g x) => pnumber_any t vn vs r x g u W gt hn hW hg hx hxp htab)
  obtain ⟨na, nc, rfl⟩ := seq_slice hn
  obtain ⟨sa, sc, rfl⟩ := seq_slice hs
  obtain ⟨ro, rs, rp, rd, rv, rf⟩ := r
  unfold rqV
  simp only at *
  have X0 := hide hx
  have B0 := hide hb
  have hgl := hx.lt
  have R0 := hide (TR.new w t.z (.slice na t.ns.length nc) (.slice sa t.ss.length sc) ⟨ro, rs, rp, rd, rv, rf⟩)
  clear hn hs hb hx
  by_cases hf : 0 ≤ rf ∧ rf ≤ 3
  · have hf1 := hf.1
    have hf2 := hf.2
    have HF := hide hf
    have hfb1 : (decide (rf < 0)) = false := by simp; omega
    have hfb2 : (decide (3 < rf)) = false := by simp; omega
    clear hf
    obtain ⟨a0, a1, a2, a3, a4, a5, a6, a7, a8⟩ := (unhide R0).nine
    simp only at a0 a1 a2 a3 a4 a5 a6 a7 a8
    go_enter Tryz.func58, Tryz.ntmps58
    go_wp2_with fail
    refine (unhide CP _).mono ?_
    rintro e w1 ⟨rfl, hb1⟩
    have R1 := hide ((unhide R0).next hb1)
    have B1 := hide (nnext (unhide B0) (nbox_then (nbox_then hb1)))
    have X1 := hide ((unhide X0).next (nbox_then (nbox_then hb1)))
    obtain ⟨b0, b1, b2, b3, b4, b5, b6, b7, b8⟩ := (unhide R1).nine
    simp only at b0 b1 b2 b3 b4 b5 b6 b7 b8
    clear a0 a1 a2 a3 a4 a5 a6 a7 a8 hb1 R0 B0 X0 CP
    cases hgd : goodB rp with
    | false =>
      have HG := hide hgd
      clear hgd
      go_wp2_with fail
      go_ret
      exact givesFl_no (fcr_form (unhide HF) (fun h => by have h1 := h.1; rw [unhide HG] at h1; exact absurd h1 (by decide))) (by decide) rfl (unhide B1)
    | true =>
      have HG := hide hgd
      clear hgd
      by_cases hr : rp = [47]
      · have HR := hide hr
        subst hr
        go_wp2_with fail
        go_ret
        exact givesFl_no (fcr_form (unhide HF) (fun h => h.2 rfl)) (by decide) rfl (unhide B1)
      · have HR := hide hr
        have hrb : (rp == [47]) = false := by simpa using hr
        clear hr
        go_wp2_with fail
        refine (unhide CO _ (unhide B1)).mono ?_
        rintro e w2 ⟨rfl, hb2⟩
        have R2 := hide ((unhide R1).next hb2)
        have B2 := hide (nnext (unhide B1) hb2)
        have X2 := hide ((unhide X1).next hb2)
        obtain ⟨d0, d1, d2, d3, d4, d5, d6, d7, d8⟩ := (unhide R2).nine
        simp only at d0 d1 d2 d3 d4 d5 d6 d7 d8
        clear b0 b1 b2 b3 b4 b5 b6 b7 b8 hb2 R1 B1 X1 CO hrb
        by_cases hm : rs ∈ t.ss
        · rw [show decide (rs ∈ t.ss) = true from decide_eq_true hm]
          have HM := hide hm
          clear hm
          go_wp2_with fail
          refine (unhide CL _).mono ?_
          rintro e w3 ⟨rfl, hb3⟩
          have R3 := hide ((unhide R2).next hb3)
          have B3 := hide (nnext (unhide B2) hb3)
          have X3 := hide ((unhide X2).next hb3)
          obtain ⟨e0, e1, e2, e3, e4, e5, e6, e7, e8⟩ := (unhide R3).nine
          simp only at e0 e1 e2 e3 e4 e5 e6 e7 e8
          have k3 := (unhide X3).c3
          have f3 := (unhide X3).f 3
          have hne : w.heap.size + 1 ≠ g := by omega
          have hne0 : w.heap.size ≠ g := by omega
          clear d0 d1 d2 d3 d4 d5 d6 d7 d8 hb3 R2 B2 X2 CL
          go_wp2_with fail
          refine (unhide CD _).mono ?_
          rintro e w4 ⟨rfl, hb4⟩
          have R4 := hide (((unhide R3).other (a := ⟨g, 3, none⟩) (.string ⟨rp.toArray⟩) (.inl hgl)).next hb4)
          have B4 : Hid (Below u.heap.size u w4) := hide (nnext ((unhide B3).setCell (by exact hg) _) hb4)
          have X4 := hide (((unhide X3).p rp).next hb4)
          obtain ⟨i0, i1, i2, i3, i4, i5, i6, i7, i8⟩ := (unhide R4).nine
          simp only at i0 i1 i2 i3 i4 i5 i6 i7 i8
          have k4 := (unhide X4).c4
          have f4 := (unhide X4).f 4
          have k6 := (unhide X4).c6
          have f6 := (unhide X4).f 6
          clear e0 e1 e2 e3 e4 e5 e6 e7 e8 hb4 R3 B3 X3 CD k3 f3
          have R5 := hide ((unhide R4).other (a := ⟨g, 4, none⟩) (.string ⟨rd.toArray⟩) (.inl hgl))
          have B5 : Hid (Below u.heap.size u (w4.setCell ⟨g, 4, none⟩ (.string ⟨rd.toArray⟩))) := hide ((unhide B4).setCell (by exact hg) _)
          have X5 := hide ((unhide X4).d rd)
          have HP : Hid (goodB rp = true ∧ rp ≠ [47]) := hide ⟨unhide HG, unhide HR⟩
          have hfs : rf = 0 ∨ rf = 1 ∨ rf = 2 ∨ rf = 3 := by omega
          clear HG HR
          simp only at X5
          rcases hfs with rfl | rfl | rfl | rfl
          · go_wp2_with fail
            go_ret
            exact givesF_ok (fcr_plain (unhide HF) (unhide HP) (unhide HM) (by simp)) rfl (unhide B5) (unhide X5)
          · go_wp2_with fail
            go_ret
            exact givesF_ok (fcr_plain (unhide HF) (unhide HP) (unhide HM) (by simp)) rfl ((unhide B5).setCell hg _) ((unhide X5).w rs)
          · go_wp2_with fail
            refine (unhide CN _ rfl _ (unhide B5) (unhide X5)).mono ?_
            rintro e w6 ⟨rfl, hb6, hx6⟩
            have HB := hide hb6
            have HX := hide hx6
            clear hb6 hx6
            go_wp2_with fail
            go_ret
            refine ⟨?_, unhide HB, fun h => ?_⟩
            · rw [fcr_num (unhide HF) (unhide HP) (unhide HM) (by simp)]; rfl
            · rw [fcr_num (unhide HF) (unhide HP) (unhide HM) (by simp)] at h
              exact unhide HX h
          · go_wp2_with fail
            refine (unhide CN _ rfl _ ((unhide B5).setCell hg _) ((unhide X5).w rs)).mono ?_
            rintro e w6 ⟨rfl, hb6, hx6⟩
            have HB := hide hb6
            have HX := hide hx6
            clear hb6 hx6
            go_wp2_with fail
            go_ret
            refine ⟨?_, unhide HB, fun h => ?_⟩
            · rw [fcr_num (unhide HF) (unhide HP) (unhide HM) (by simp)]; rfl
            · rw [fcr_num (unhide HF) (unhide HP) (unhide HM) (by simp)] at h
              exact unhide HX h
        · rw [show decide (rs ∈ t.ss) = false from decide_eq_false hm]
          have HM := hide hm
          clear hm
          go_wp2_with fail
          go_ret
          exact givesFl_no (fcr_shut (unhide HF) ⟨unhide HG, unhide HR⟩ (unhide HM)) (by decide) rfl (unhide B2)
  · have HF := hide hf
    have hc : decide (rf < 0) = true ∨ (decide (rf < 0) = false ∧ decide (3 < rf) = true) := by
      by_cases h : rf < 0
      · exact .inl (by simp [h])
      · exact .inr ⟨by simp; omega, by simp; omega⟩
    clear hf
    rcases hc with h | ⟨h, h'⟩
    all_goals
      simp only [decide_eq_true_eq, decide_eq_false_iff_not] at h
      (try simp only [decide_eq_true_eq] at h')
      go_enter Tryz.func58, Tryz.ntmps58
      go_wp2_with fail
      go_ret
      exact givesFl_no (fcr_range (unhide HF)) (by decide) rfl (nnext (nnext (unhide B0) (allocB _ _)) (allocB _ _))

end Go.Proofs.YtoacignhobchbaaGreatDoor

namespace Go.Proofs.YtoacignhobchbaaGreatDoor
open Go.RowKit

set_option maxRecDepth 20000 in
set_option maxHeartbeats 4000000 in
theorem pfill_any (t : Tr) (z : Int) (vn vs : Value) (r : Rq) (g : Nat) (u w : World) (gt : GoodT t) (hn : SeqV u vn t.ns) (hs : SeqV u vs t.ss) (hb : Below u.heap.size u w) (hg : u.heap.size ≤ g) (hx : TAt w g ⟨z, r.o, r.s, [], [], 0, 0⟩) (hp : r.p.length ≤ 140737488355328) (hd : r.d.length ≤ 140737488355328) (htab : Lib.TabIs Tryz.prog u "internal/strconv.uint64pow10" .u64 Lib.pow10Tab) :
    Calls Tryz.prog 26 #[.pointer (some ⟨g, 0, none⟩), .agg #[.int .i64 t.z, vn, vs], rqV r] w (GivesFl u g (filE t r) (filX t z r)) := by
  have CA := hide (fun (ho : r.o = 4 ∨ r.o = 5) W (hW : Below u.heap.size u W) hx => fchange_any t z vn vs r g u W gt hn hs hW hg hx ho hp hd)
  have CC := hide (fun W (hW : Below u.heap.size u W) hx => fcreate_any t z vn vs r g u W gt hn hs hW hg hx hp hd htab)
  obtain ⟨na, nc, rfl⟩ := seq_slice hn
  obtain ⟨sa, sc, rfl⟩ := seq_slice hs
  obtain ⟨ro, rs, rp, rd, rv, rf⟩ := r
  unfold rqV at *
  simp only at *
  have X0 := hide hx
  have B0 := hide hb
  have X1 := hide (hx.next (nnext (allocB w (.cells #[.int .i64 t.z, .slice na t.ns.length nc, .slice sa t.ss.length sc] 34)) (allocB _ (.cells #[.int .i64 ro, .int .i64 rs, .string ⟨rp.toArray⟩, .string ⟨rd.toArray⟩, .int .i64 rv, .int .i64 rf] 58))))
  have B1 := hide (nnext hb (nnext (allocB w (.cells #[.int .i64 t.z, .slice na t.ns.length nc, .slice sa t.ss.length sc] 34)) (allocB _ (.cells #[.int .i64 ro, .int .i64 rs, .string ⟨rp.toArray⟩, .string ⟨rd.toArray⟩, .int .i64 rv, .int .i64 rf] 58))))
  clear hn hs hb hx htab
  by_cases h1 : ro = 1 ∨ ro = 2
  · have HE := hide (fil_end (t := t) (z := z) (r := ⟨ro, rs, rp, rd, rv, rf⟩) h1)
    clear CA CC
    rcases h1 with rfl | rfl
    all_goals
      go_enter Tryz.func26, Tryz.ntmps26
      go_wp2_with fail
      go_ret
      exact givesF_ok (unhide HE).1 rfl (unhide B1) (by rw [(unhide HE).2]; exact unhide X1)
  · by_cases h3 : ro = 3
    · have HE := hide (fil_cre (t := t) (z := z) (r := ⟨ro, rs, rp, rd, rv, rf⟩) h3)
      subst h3
      clear CA h1
      go_enter Tryz.func26, Tryz.ntmps26
      go_wp2_with fail
      refine (unhide CC _ (unhide B1) (unhide X1)).mono ?_
      rintro e w6 ⟨rfl, hb6, hx6⟩
      have HB := hide hb6
      have HX := hide hx6
      clear hb6 hx6
      go_wp2_with fail
      go_ret
      refine ⟨?_, unhide HB, fun h => ?_⟩
      · rw [(unhide HE).1]; rfl
      · rw [(unhide HE).1] at h
        rw [(unhide HE).2]
        exact unhide HX h
    · by_cases h4 : ro = 4 ∨ ro = 5
      · have HE := hide (fil_chg (t := t) (z := z) (r := ⟨ro, rs, rp, rd, rv, rf⟩) h4)
        have CB := hide (unhide CA h4)
        clear CA CC h1 h3
        rcases h4 with rfl | rfl
        all_goals
          go_enter Tryz.func26, Tryz.ntmps26
          go_wp2_with fail
          refine (unhide CB _ (unhide B1) (unhide X1)).mono ?_
          rintro e w6 ⟨rfl, hb6, hx6⟩
          have HB := hide hb6
          have HX := hide hx6
          clear hb6 hx6
          go_wp2_with fail
          go_ret
          refine ⟨?_, unhide HB, fun h => ?_⟩
          · rw [(unhide HE).1]; rfl
          · rw [(unhide HE).1] at h
            rw [(unhide HE).2]
            exact unhide HX h
      · have HE := hide (fil_kind (t := t) (r := ⟨ro, rs, rp, rd, rv, rf⟩) (by simp only; omega))
        have e1 : (ro == 1) = false := by simp; omega
        have e2 : (ro == 2) = false := by simp; omega
        have e3 : (ro == 3) = false := by simp; omega
        have e4 : (ro == 4) = false := by simp; omega
        have e5 : (ro == 5) = false := by simp; omega
        clear CA CC h1 h3 h4
        go_enter Tryz.func26, Tryz.ntmps26
        go_wp2_with fail
        go_ret
        exact givesFl_no (unhide HE) (by decide) rfl (unhide B1)

end Go.Proofs.YtoacignhobchbaaGreatDoor

namespace Go.Proofs.YtoacignhobchbaaGreatDoor
open Go.RowKit

/-- what Prepare gives -/
def GivesP (w : World) (t : Tr) (z : Int) (r : Rq) (e : Ending) (w' : World) : Prop :=
  e = .returned (.tuple #[txnV (prpX t z r), .int .i64 (prpE t z r)]) ∧ Below w.heap.size w w'
theorem givesP_no {w w' : World} {t : Tr} {z : Int} {r : Rq} {E : Int} {e : Ending} (hE : prpE t z r = E) (h0 : E ≠ 0) (he : e = .returned (.tuple #[txnV t0, .int .i64 E])) (hb : Below w.heap.size w w') : GivesP w t z r e w' := by
  refine ⟨?_, hb⟩
  rw [prpX_no (by rw [hE]; exact h0), hE]
  exact he

theorem givesP_ok {w w' : World} {t : Tr} {z : Int} {r : Rq} {x : WTxn} {e : Ending} (hE : prpE t z r = 0) (hX : prpX t z r = x) (he : e = .returned (.tuple #[txnV x, .int .i64 0])) (hb : Below w.heap.size w w') : GivesP w t z r e w' := by
  refine ⟨?_, hb⟩
  rw [hE, hX]
  exact he

/-- the boxes of the tree, of the request, of the answer -/
structure PB (w W : World) (z : Int) (vn vs : Value) (r : Rq) : Prop where
  t : TR W w.heap.size z vn vs r
  a : TAt W (w.heap.size + 2) t0
  b : Below w.heap.size w W
section
variable {w W V : World} {z : Int} {vn vs : Value} {r : Rq}
theorem PB.next (h : PB w W z vn vs r) (hb : Below W.heap.size W V) : PB w V z vn vs r := ⟨h.t.next hb, h.a.next hb, nnext h.b hb⟩
theorem PB.new (w : World) (z : Int) (vn vs : Value) (r : Rq) : PB w (((w.alloc (.cells #[.int .i64 z, vn, vs] 34)).alloc (.cells #[.int .i64 r.o, .int .i64 r.s, .string ⟨r.p.toArray⟩, .string ⟨r.d.toArray⟩, .int .i64 r.v, .int .i64 r.f] 58)).alloc (.cells #[.int .i64 0, .int .i64 0, .int .i64 0, .string ⟨#[]⟩, .string ⟨#[]⟩, .int .i64 0, .int .i64 0] 53)) z vn vs r := by
  refine ⟨(TR.new w z vn vs r).next (allocB _ _), ?_, nnext (nnext (allocB _ _) (allocB _ _)) (allocB _ _)⟩
  have h := TAt.new ((w.alloc (.cells #[.int .i64 z, vn, vs] 34)).alloc (.cells #[.int .i64 r.o, .int .i64 r.s, .string ⟨r.p.toArray⟩, .string ⟨r.d.toArray⟩, .int .i64 r.v, .int .i64 r.f] 58)) t0
  rw [show ((w.alloc (.cells #[.int .i64 z, vn, vs] 34)).alloc (.cells #[.int .i64 r.o, .int .i64 r.s, .string ⟨r.p.toArray⟩, .string ⟨r.d.toArray⟩, .int .i64 r.v, .int .i64 r.f] 58)).heap.size = w.heap.size + 2 by simp] at h
  exact h
theorem PB.cells (h : PB w W z vn vs r) : (W.cell? ⟨w.heap.size + 2, 0, none⟩ = some (.int .i64 0) ∧ W.cell? ⟨w.heap.size + 2, 1, none⟩ = some (.int .i64 0) ∧ W.cell? ⟨w.heap.size + 2, 2, none⟩ = some (.int .i64 0) ∧ W.cell? ⟨w.heap.size + 2, 3, none⟩ = some (.string ⟨#[]⟩) ∧ W.cell? ⟨w.heap.size + 2, 4, none⟩ = some (.string ⟨#[]⟩) ∧ W.cell? ⟨w.heap.size + 2, 5, none⟩ = some (.int .i64 0) ∧ W.cell? ⟨w.heap.size + 2, 6, none⟩ = some (.int .i64 0)) := ⟨h.a.c0, h.a.c1, h.a.c2, h.a.c3, h.a.c4, h.a.c5, h.a.c6⟩
end
/-- a transaction stored whole -/
def put7 (W : World) (g : Nat) (t : WTxn) : World :=
  ((((((W.setCell ⟨g, 0, none⟩ (.int .i64 t.z)).setCell ⟨g, 1, none⟩ (.int .i64 t.o)).setCell ⟨g, 2, none⟩ (.int .i64 t.s)).setCell ⟨g, 3, none⟩ (.string ⟨t.p.toArray⟩)).setCell ⟨g, 4, none⟩ (.string ⟨t.d.toArray⟩)).setCell ⟨g, 5, none⟩ (.int .i64 t.v)).setCell ⟨g, 6, none⟩ (.int .i64 t.w)
theorem put7_below {w W : World} {g : Nat} (t : WTxn) (hb : Below w.heap.size w W) (hg : w.heap.size ≤ g) : Below w.heap.size w (put7 W g t) :=
  ((((((hb.setCell hg _).setCell hg _).setCell hg _).setCell hg _).setCell hg _).setCell hg _).setCell hg _

set_option maxRecDepth 20000 in
set_option maxHeartbeats 4000000 in
theorem prepare_any (t : Tr) (z : Int) (vn vs : Value) (r : Rq) (w : World) (hn : SeqV w vn t.ns) (hs : SeqV w vs t.ss) (hw : WfT t) (hp : r.p.length ≤ 140737488355328) (hd : r.d.length ≤ 140737488355328) (htab : Lib.TabIs Tryz.prog w "internal/strconv.uint64pow10" .u64 Lib.pow10Tab) :
    Calls Tryz.prog 14 #[.agg #[.int .i64 t.z, vn, vs], .int .i64 z, rqV r] w (GivesP w t z r) := by
  have CG := hide (fun W (hW : Below w.heap.size w W) => tgood_any t vn vs W (hn.next hW) (hs.next hW) hw)
  have CZ := hide (fun W => zgood_any z W)
  have CF := hide (fun (gt : GoodT t) g u (hu : Below w.heap.size w u) W hW hg hx => pfill_any t z vn vs r g u W gt (hn.next hu) (hs.next hu) hW hg hx hp hd (tab_kept htab hu))
  have CA := hide (fun W (hW : Below w.heap.size w W) => apply_any t vn vs (filX t z r) W (hn.next hW) (hs.next hW) hw (by have := filX_d t z r; omega))
  obtain ⟨na, nc, rfl⟩ := seq_slice hn
  obtain ⟨sa, sc, rfl⟩ := seq_slice hs
  obtain ⟨ro, rs, rp, rd, rv, rf⟩ := r
  unfold rqV at *
  simp only at *
  have P0 := hide (PB.new w t.z (.slice na t.ns.length nc) (.slice sa t.ss.length sc) ⟨ro, rs, rp, rd, rv, rf⟩)
  simp only at P0
  clear hn hs htab
  go_enter Tryz.func14, Tryz.ntmps14
  go_wp2_with fail
  refine (unhide CG _ (unhide P0).b).mono ?_
  rintro e w1 ⟨rfl, hb1⟩
  have P1 := hide ((unhide P0).next hb1)
  obtain ⟨b0, b1, b2, b3, b4, b5, b6, b7, b8⟩ := (unhide P1).t.nine
  obtain ⟨c0, c1, c2, c3, c4, c5, c6⟩ := (unhide P1).cells
  have f := (unhide P1).a.f
  have f0 := f 0
  have f1 := f 1
  have f2 := f 2
  have f3 := f 3
  have f4 := f 4
  have f5 := f 5
  have f6 := f 6
  simp only at b0 b1 b2 b3 b4 b5 b6 b7 b8
  clear hb1 P0 CG f
  cases hgd : goodT t with
  | false =>
    have HE : Hid (prpE t z ⟨ro, rs, rp, rd, rv, rf⟩ = 3) := hide (prp_head (by simp [headB, hgd]))
    clear hgd
    go_wp2_with fail
    exact bodyPost_ret (v := .tuple #[txnV t0, .int .i64 3]) (by simp [results, Tryz.results14, go_sem, txnV, t0, c0, c1, c2, c3, c4, c5, c6]) rfl (givesP_no (unhide HE) (by decide) rfl (put7_below t0 (unhide P1).b (by omega)))
  | true =>
    have HG := hide (goodT_true.1 hgd)
    have HGB := hide hgd
    clear hgd
    go_wp2_with fail
    refine (unhide CZ _).mono ?_
    rintro e w2 ⟨rfl, rfl⟩
    clear CZ
    cases hzd : zGood z with
    | false =>
      have HE : Hid (prpE t z ⟨ro, rs, rp, rd, rv, rf⟩ = 3) := hide (prp_head (by simp [headB, hzd]))
      clear hzd
      go_wp2_with fail
      exact bodyPost_ret (v := .tuple #[txnV t0, .int .i64 3]) (by simp [results, Tryz.results14, go_sem, txnV, t0, c0, c1, c2, c3, c4, c5, c6]) rfl (givesP_no (unhide HE) (by decide) rfl (put7_below t0 (unhide P1).b (by omega)))
    | true =>
      by_cases h1 : rs < 1
      · have HE : Hid (prpE t z ⟨ro, rs, rp, rd, rv, rf⟩ = 3) := hide (prp_head (by simp [headB]; intros; omega))
        have hd1 : decide (rs < 1) = true := decide_eq_true h1
        clear hzd h1
        go_wp2_with fail
        exact bodyPost_ret (v := .tuple #[txnV t0, .int .i64 3]) (by simp [results, Tryz.results14, go_sem, txnV, t0, c0, c1, c2, c3, c4, c5, c6]) rfl (givesP_no (unhide HE) (by decide) rfl (put7_below t0 (unhide P1).b (by omega)))
      · by_cases h2 : 2147483647 < rs
        · have HE : Hid (prpE t z ⟨ro, rs, rp, rd, rv, rf⟩ = 3) := hide (prp_head (by simp [headB]; intros; omega))
          have hd1 : decide (rs < 1) = false := decide_eq_false h1
          have hd2 : decide (2147483647 < rs) = true := decide_eq_true h2
          clear hzd h1 h2
          go_wp2_with fail
          exact bodyPost_ret (v := .tuple #[txnV t0, .int .i64 3]) (by simp [results, Tryz.results14, go_sem, txnV, t0, c0, c1, c2, c3, c4, c5, c6]) rfl (givesP_no (unhide HE) (by decide) rfl (put7_below t0 (unhide P1).b (by omega)))
        · have HH : Hid (headB t z ⟨ro, rs, rp, rd, rv, rf⟩ = true) := hide (headB_true.2 ⟨unhide HG, hzd, by simp only; omega, by simp only; omega⟩)
          have hd1 : decide (rs < 1) = false := decide_eq_false h1
          have hd2 : decide (2147483647 < rs) = false := decide_eq_false h2
          clear hzd h1 h2
          have X2 := hide (TAt.new w2 ⟨z, ro, rs, [], [], 0, 0⟩)
          have P2 := hide ((unhide P1).next (allocB w2 (.cells #[.int .i64 z, .int .i64 ro, .int .i64 rs, .string ⟨#[]⟩, .string ⟨#[]⟩, .int .i64 0, .int .i64 0] 53)))
          obtain ⟨d0, d1, d2, d3, d4, d5, d6, d7, d8⟩ := (unhide P2).t.nine
          simp only at d0 d1 d2 d3 d4 d5 d6 d7 d8
          clear c0 c1 c2 c3 c4 c5 c6 f0 f1 f2 f3 f4 f5 f6
          go_wp2_with fail
          refine (unhide CF (unhide HG) w2.heap.size w2 (unhide P1).b _ (allocB _ _) (Nat.le_refl _) (unhide X2)).mono ?_
          rintro e w3 ⟨rfl, hb3, hx3⟩
          have P3 := hide ((unhide P1).next hb3)
          have HX3 := hide hx3
          have PF : Hid (filE t ⟨ro, rs, rp, rd, rv, rf⟩ ≠ 0 → prpE t z ⟨ro, rs, rp, rd, rv, rf⟩ = filE t ⟨ro, rs, rp, rd, rv, rf⟩) := hide (fun h => prp_fill (unhide HH) h)
          have PA : Hid (filE t ⟨ro, rs, rp, rd, rv, rf⟩ = 0 → prpE t z ⟨ro, rs, rp, rd, rv, rf⟩ = appE t (filX t z ⟨ro, rs, rp, rd, rv, rf⟩)) := hide (fun h => prp_app (unhide HH) h)
          clear d0 d1 d2 d3 d4 d5 d6 d7 d8 b0 b1 b2 b3 b4 b5 b6 b7 b8 P2 X2 CF HG HGB HH hb3 hx3
          generalize filE t ⟨ro, rs, rp, rd, rv, rf⟩ = F at *
          by_cases hF : F = 0
          · have PE := hide (unhide PA hF)
            have X3 := hide (unhide HX3 hF)
            subst hF
            have KX : Hid (prpE t z ⟨ro, rs, rp, rd, rv, rf⟩ = 0 → prpX t z ⟨ro, rs, rp, rd, rv, rf⟩ = filX t z ⟨ro, rs, rp, rd, rv, rf⟩) := hide (fun h => prpX_ok h)
            unfold GivesA at CA
            clear PF PA HX3
            generalize appT t (filX t z ⟨ro, rs, rp, rd, rv, rf⟩) = T at *
            generalize appV t (filX t z ⟨ro, rs, rp, rd, rv, rf⟩) = V at *
            generalize appE t (filX t z ⟨ro, rs, rp, rd, rv, rf⟩) = E at *
            generalize filX t z ⟨ro, rs, rp, rd, rv, rf⟩ = x at *
            obtain ⟨xz, xo, xs, xp, xd, xv, xw⟩ := x
            unfold txnV at CA
            simp only at CA
            have x0 := (unhide X3).c0
            have x1 := (unhide X3).c1
            have x2 := (unhide X3).c2
            have x3 := (unhide X3).c3
            have x4 := (unhide X3).c4
            have x5 := (unhide X3).c5
            have x6 := (unhide X3).c6
            simp only at x0 x1 x2 x3 x4 x5 x6
            obtain ⟨e0, e1, e2, e3, e4, e5, e6, e7, e8⟩ := (unhide P3).t.nine
            obtain ⟨c0, c1, c2, c3, c4, c5, c6⟩ := (unhide P3).cells
            have f := (unhide P3).a.f
            have f0 := f 0
            have f1 := f 1
            have f2 := f 2
            have f3 := f 3
            have f4 := f 4
            have f5 := f 5
            have f6 := f 6
            simp only at e0 e1 e2 e3 e4 e5 e6 e7 e8
            clear f
            go_wp2_with fail
            refine (unhide CA _ (unhide P3).b).mono ?_
            rintro e w4 ⟨vn4, vs4, ve4, rfl, n4, s4, e4, hb4⟩
            obtain ⟨an, cn, rfl, _⟩ := n4.slice
            obtain ⟨ai, ci, rfl, _⟩ := s4.slice
            obtain ⟨ae, ce, rfl, _⟩ := e4.slice
            have P5 := hide ((unhide P3).next (nnext hb4 (allocB w4 (.cells #[.int .i64 T.z, .slice an T.ns.length cn, .slice ai T.ss.length ci] 34))))
            have X5 := hide ((unhide X3).next (nnext hb4 (allocB w4 (.cells #[.int .i64 T.z, .slice an T.ns.length cn, .slice ai T.ss.length ci] 34))))
            clear c0 c1 c2 c3 c4 c5 c6 f0 f1 f2 f3 f4 f5 f6 x0 x1 x2 x3 x4 x5 x6 e0 e1 e2 e3 e5 e6 e7 e8 hb4 n4 s4 e4 P3 X3 CA
            obtain ⟨c0, c1, c2, c3, c4, c5, c6⟩ := (unhide P5).cells
            have f := (unhide P5).a.f
            have f0 := f 0
            have f1 := f 1
            have f2 := f 2
            have f3 := f 3
            have f4 := f 4
            have f5 := f 5
            have f6 := f 6
            have x0 := (unhide X5).c0
            have x1 := (unhide X5).c1
            have x2 := (unhide X5).c2
            have x3 := (unhide X5).c3
            have x4 := (unhide X5).c4
            have x5 := (unhide X5).c5
            have x6 := (unhide X5).c6
            simp only at x0 x1 x2 x3 x4 x5 x6
            clear f
            by_cases hE : E = 0
            · subst hE
              have HX := hide (unhide KX (unhide PE))
              go_wp2_with fail
              exact bodyPost_ret (v := .tuple #[txnV ⟨xz, xo, xs, xp, xd, xv, xw⟩, .int .i64 0]) (by simp [results, Tryz.results14, go_sem, txnV, c0, c1, c2, c3, c4, c5, c6]) rfl (givesP_ok (unhide PE) (unhide HX) rfl (put7_below ⟨xz, xo, xs, xp, xd, xv, xw⟩ (unhide P5).b (by omega)))
            · have hEb : (E != 0) = true := by simpa using hE
              have HE := hide hE
              clear hE
              go_wp2_with fail
              exact bodyPost_ret (v := .tuple #[txnV t0, .int .i64 E]) (by simp [results, Tryz.results14, go_sem, txnV, t0, c0, c1, c2, c3, c4, c5, c6]) rfl (givesP_no (unhide PE) (unhide HE) rfl (put7_below t0 (unhide P5).b (by omega)))
          · have PE := hide (unhide PF hF)
            have hFb : (F != 0) = true := by simpa using hF
            have HF := hide hF
            clear PF PA HX3 hF CA
            obtain ⟨e0, e1, e2, e3, e4, e5, e6, e7, e8⟩ := (unhide P3).t.nine
            obtain ⟨c0, c1, c2, c3, c4, c5, c6⟩ := (unhide P3).cells
            have f := (unhide P3).a.f
            have f0 := f 0
            have f1 := f 1
            have f2 := f 2
            have f3 := f 3
            have f4 := f 4
            have f5 := f 5
            have f6 := f 6
            simp only at e0 e1 e2 e3 e4 e5 e6 e7 e8
            clear f
            go_wp2_with fail
            exact bodyPost_ret (v := .tuple #[txnV t0, .int .i64 F]) (by simp [results, Tryz.results14, go_sem, txnV, t0, c0, c1, c2, c3, c4, c5, c6]) rfl (givesP_no (unhide PE) (unhide HF) rfl (put7_below t0 (unhide P3).b (by omega)))

end Go.Proofs.YtoacignhobchbaaGreatDoor

namespace Go.Proofs.YtoacignhobchbaaGreatDoor
open Go.RowKit

theorem TAt.drew {W : World} {g : Nat} {x : WTxn} (h : TAt W g x) : TAt W.drew g x := h.next (Below.refl _ _).drew
theorem TAt.seven {W : World} {g : Nat} {x : WTxn} (h : TAt W g x) : W.cell? ⟨g, 0, none⟩ = some (.int .i64 x.z) ∧ W.cell? ⟨g, 1, none⟩ = some (.int .i64 x.o) ∧ W.cell? ⟨g, 2, none⟩ = some (.int .i64 x.s) ∧ W.cell? ⟨g, 3, none⟩ = some (.string ⟨x.p.toArray⟩) ∧ W.cell? ⟨g, 4, none⟩ = some (.string ⟨x.d.toArray⟩) ∧ W.cell? ⟨g, 5, none⟩ = some (.int .i64 x.v) ∧ W.cell? ⟨g, 6, none⟩ = some (.int .i64 x.w) := ⟨h.c0, h.c1, h.c2, h.c3, h.c4, h.c5, h.c6⟩
/-- a transaction in a box q of the call's own -/
structure PrX (W wx : World) (q : Nat) (x : WTxn) : Prop where
  box : TAt wx q x
  qb : W.heap.size ≤ q
  b : Below W.heap.size W wx
theorem PrX.next {W wx wy : World} {q : Nat} {x : WTxn} (h : PrX W wx q x) (hb : Below wx.heap.size wx wy) : PrX W wy q x := ⟨h.box.next hb, h.qb, nnext h.b hb⟩
theorem px_new {W w2 : World} (x : WTxn) (hb : Below W.heap.size W w2) : PrX W (w2.alloc (.cells #[.int .i64 x.z, .int .i64 x.o, .int .i64 x.s, .string ⟨x.p.toArray⟩, .string ⟨x.d.toArray⟩, .int .i64 x.v, .int .i64 x.w] 53)) w2.heap.size x :=
  ⟨TAt.new w2 x, hb.size, nnext hb (allocB _ _)⟩
theorem px_put {W w2 : World} {q : Nat} (x : WTxn) {y : WTxn} (hb : Below W.heap.size W w2) (hq : W.heap.size ≤ q) (hz : TAt w2 q y) : PrX W (put7 w2 q x) q x := by
  refine ⟨?_, hq, put7_below x hb hq⟩
  unfold TAt at hz ⊢
  unfold put7
  rw [block_set _ (block_set _ (block_set _ (block_set _ (block_set _ (block_set _ (block_set _ hz))))))]
  simp
theorem px_newF {W w2 : World} (z o s : Int) (p d : List UInt8) (v u : Int) (hb : Below W.heap.size W w2) : PrX W (w2.alloc (.cells #[.int .i64 z, .int .i64 o, .int .i64 s, .string ⟨p.toArray⟩, .string ⟨d.toArray⟩, .int .i64 v, .int .i64 u] 53)) w2.heap.size ⟨z, o, s, p, d, v, u⟩ := px_new ⟨z, o, s, p, d, v, u⟩ hb
theorem px_putF {W w2 : World} {q : Nat} (z o s : Int) (p d : List UInt8) (v u : Int) {y : WTxn} (hb : Below W.heap.size W w2) (hq : W.heap.size ≤ q) (hz : TAt w2 q y) :
    PrX W (((((((w2.setCell ⟨q, 0, none⟩ (.int .i64 z)).setCell ⟨q, 1, none⟩ (.int .i64 o)).setCell ⟨q, 2, none⟩ (.int .i64 s)).setCell ⟨q, 3, none⟩ (.string ⟨p.toArray⟩)).setCell ⟨q, 4, none⟩ (.string ⟨d.toArray⟩)).setCell ⟨q, 5, none⟩ (.int .i64 v)).setCell ⟨q, 6, none⟩ (.int .i64 u)) q ⟨z, o, s, p, d, v, u⟩ := px_put ⟨z, o, s, p, d, v, u⟩ hb hq hz
theorem zcells7 {W : World} {q : Nat} (h : TAt W q t0) : (W.cell? ⟨q, 0, none⟩ = some (.int .i64 0) ∧ W.cell? ⟨q, 1, none⟩ = some (.int .i64 0) ∧ W.cell? ⟨q, 2, none⟩ = some (.int .i64 0) ∧ W.cell? ⟨q, 3, none⟩ = some (.string ⟨#[]⟩) ∧ W.cell? ⟨q, 4, none⟩ = some (.string ⟨#[]⟩) ∧ W.cell? ⟨q, 5, none⟩ = some (.int .i64 0) ∧ W.cell? ⟨q, 6, none⟩ = some (.int .i64 0)) ∧ W.frozen? ⟨q, 0, none⟩ = false ∧ W.frozen? ⟨q, 1, none⟩ = false ∧ W.frozen? ⟨q, 2, none⟩ = false ∧ W.frozen? ⟨q, 3, none⟩ = false ∧ W.frozen? ⟨q, 4, none⟩ = false ∧ W.frozen? ⟨q, 5, none⟩ = false ∧ W.frozen? ⟨q, 6, none⟩ = false :=
  ⟨⟨h.c0, h.c1, h.c2, h.c3, h.c4, h.c5, h.c6⟩, h.f 0, h.f 1, h.f 2, h.f 3, h.f 4, h.f 5, h.f 6⟩
theorem TR.drew {W : World} {q : Nat} {z : Int} {vn vs : Value} {r : Rq} (h : TR W q z vn vs r) : TR W.drew q z vn vs r := h.next (Below.refl _ _).drew
theorem TR.fr {W : World} {q : Nat} {z : Int} {vn vs : Value} {r : Rq} (h : TR W q z vn vs r) (j : Nat) : W.frozen? ⟨q + 1, j, none⟩ = false := by
  have h1 := h.r
  simp [World.frozen?, h1]
end Go.Proofs.YtoacignhobchbaaGreatDoor

namespace Go.Proofs.YtoacignhobchbaaGreatDoor
open Go.RowKit

def qcells (r : Rq) : List Value := [.int .i64 r.o, .int .i64 r.s, .string ⟨r.p.toArray⟩, .string ⟨r.d.toArray⟩, .int .i64 r.v, .int .i64 r.f]
instance layQ : Lay Rq := ⟨6, qcells, 58, fun _ => rfl, fun x u hu => by simp [qcells] at hu; rcases hu with rfl | rfl | rfl | rfl | rfl | rfl <;> rfl⟩
theorem RowAt.q {w : World} {b off : Nat} {xs : List Rq} (h : RowAt w b off (cellsL xs)) {i : Nat} {x : Rq} (hi : xs[i]? = some x) (c : Nat) (hc : c < 6) : ∀ v, (qcells x)[c]? = some v → w.cell? ⟨b, off + i * 6 + c, none⟩ = some v := fun v hv => by
  have := h (i * 6 + c) v (by rw [← hv]; exact cellsL_get xs i x hi c hc)
  rwa [← Nat.add_assoc] at this

/-- what Prepare's statement reads -/
structure DepQ (W : World) (q : Nat) (z : Int) (vn vs : Value) (g o : Nat) (r : Rq) : Prop where
  a : W.heap[q]? = some (.cells #[.int .i64 z, vn, vs] 34 (0, 0))
  l : g < W.heap.size
  c0 : W.cell? ⟨g, o, none⟩ = some (.int .i64 r.o)
  c1 : W.cell? ⟨g, o + 1, none⟩ = some (.int .i64 r.s)
  c2 : W.cell? ⟨g, o + 2, none⟩ = some (.string ⟨r.p.toArray⟩)
  c3 : W.cell? ⟨g, o + 3, none⟩ = some (.string ⟨r.d.toArray⟩)
  c4 : W.cell? ⟨g, o + 4, none⟩ = some (.int .i64 r.v)
  c5 : W.cell? ⟨g, o + 5, none⟩ = some (.int .i64 r.f)
theorem DepQ.next {W V : World} {q : Nat} {z : Int} {vn vs : Value} {g o : Nat} {r : Rq} (h : DepQ W q z vn vs g o r) (hb : Below W.heap.size W V) : DepQ V q z vn vs g o r :=
  ⟨(hb.block _ (Array.getElem?_eq_some_iff.1 h.a).1).trans h.a, Nat.lt_of_lt_of_le h.l hb.size, (hb.cell (p := ⟨g, o, none⟩) h.l).trans h.c0, (hb.cell (p := ⟨g, o + 1, none⟩) h.l).trans h.c1, (hb.cell (p := ⟨g, o + 2, none⟩) h.l).trans h.c2, (hb.cell (p := ⟨g, o + 3, none⟩) h.l).trans h.c3, (hb.cell (p := ⟨g, o + 4, none⟩) h.l).trans h.c4, (hb.cell (p := ⟨g, o + 5, none⟩) h.l).trans h.c5⟩
theorem DepQ.drew {W : World} {q : Nat} {z : Int} {vn vs : Value} {g o : Nat} {r : Rq} (h : DepQ W q z vn vs g o r) : DepQ W.drew q z vn vs g o r := h.next (Below.refl _ _).drew
theorem DepQ.nine {W : World} {q : Nat} {z : Int} {vn vs : Value} {g o : Nat} {r : Rq} (h : DepQ W q z vn vs g o r) : W.cell? ⟨q, 0, none⟩ = some (.int .i64 z) ∧ W.cell? ⟨q, 1, none⟩ = some vn ∧ W.cell? ⟨q, 2, none⟩ = some vs ∧ W.cell? ⟨g, o, none⟩ = some (.int .i64 r.o) ∧ W.cell? ⟨g, o + 1, none⟩ = some (.int .i64 r.s) ∧ W.cell? ⟨g, o + 2, none⟩ = some (.string ⟨r.p.toArray⟩) ∧ W.cell? ⟨g, o + 3, none⟩ = some (.string ⟨r.d.toArray⟩) ∧ W.cell? ⟨g, o + 4, none⟩ = some (.int .i64 r.v) ∧ W.cell? ⟨g, o + 5, none⟩ = some (.int .i64 r.f) := by
  have h1 := h.a
  refine ⟨?_, ?_, ?_, h.c0, h.c1, h.c2, h.c3, h.c4, h.c5⟩ <;> simp [World.cell?, h1]

/-- the tree in its box q, the log so far -/
structure PX (w W : World) (q : Nat) (C : Tr) (m : List WTxn) (vn vs vo : Value) : Prop where
  t : W.heap[q]? = some (.cells #[.int .i64 C.z, vn, vs] 34 (0, 0))
  n : OwnS W w.heap.size vn C.ns
  s : OwnS W w.heap.size vs C.ss
  o : OwnS W w.heap.size vo m
  qb : w.heap.size ≤ q
  b : Below w.heap.size w W
section
variable {w W V : World} {q : Nat} {C : Tr} {m : List WTxn} {vn vs vo : Value}
theorem PX.lt (h : PX w W q C m vn vs vo) : q < W.heap.size := (Array.getElem?_eq_some_iff.1 h.t).1
theorem PX.next (h : PX w W q C m vn vs vo) (hb : Below W.heap.size W V) : PX w V q C m vn vs vo := ⟨(hb.block _ h.lt).trans h.t, h.n.next hb, h.s.next hb, h.o.next hb, h.qb, nnext h.b hb⟩
theorem PX.cells (h : PX w W q C m vn vs vo) : (W.cell? ⟨q, 0, none⟩ = some (.int .i64 C.z) ∧ W.cell? ⟨q, 1, none⟩ = some vn ∧ W.cell? ⟨q, 2, none⟩ = some vs) ∧ W.frozen? ⟨q, 0, none⟩ = false ∧ W.frozen? ⟨q, 1, none⟩ = false ∧ W.frozen? ⟨q, 2, none⟩ = false := by
  have h1 := h.t
  refine ⟨⟨?_, ?_, ?_⟩, ?_, ?_, ?_⟩ <;> simp [World.cell?, World.frozen?, h1]
theorem PX.put (h : PX w W q C m vn vs vo) {T : Tr} {an ai : Value} (n : OwnS W w.heap.size an T.ns) (s : OwnS W w.heap.size ai T.ss) :
    PX w (((W.setCell ⟨q, 0, none⟩ (.int .i64 T.z)).setCell ⟨q, 1, none⟩ an).setCell ⟨q, 2, none⟩ ai) q T m an ai vo := by
  have k1 := own_box n h.t (by decide)
  have k2 := own_box s h.t (by decide)
  have k3 := own_box h.o h.t (by decide)
  refine ⟨?_, ((n.other k1 _).other k1 _).other k1 _, ((s.other k2 _).other k2 _).other k2 _, ((h.o.other k3 _).other k3 _).other k3 _, h.qb, ((h.b.setCell h.qb _).setCell h.qb _).setCell h.qb _⟩
  rw [block_set ai (block_set an (block_set (.int .i64 T.z) h.t))]
  simp
theorem PX.grow {x : WTxn} {vo' : Value} (h : PX w W q C m vn vs vo) (hg : W.grownBy V vo.ownBlock) (ho : OwnS V w.heap.size vo' (m ++ [x])) : PX w V q C (m ++ [x]) vn vs vo' := by
  refine ⟨(hg.block q h.lt (fun e => own_box h.o h.t (by decide) e.symm)).trans h.t, h.n.grown hg (h.n.apart h.o (by decide)), h.s.grown hg (h.s.apart h.o (by decide)), ho, h.qb, ?_⟩
  exact h.b.grown hg h.b.size (fun k e => own_ge h.o e)
theorem TAt.otherS {g : Nat} {x : WTxn} (h : TAt W g x) {a : Addr} (hne : g ≠ a.block) (v : Value) : TAt (W.setCell a v) g x := (Below.heap_setCell W a v g hne).trans h
end

/-- a played log is handed back -/
def GivesPl (w : World) (e : Ending) (w' : World) : Prop := ∃ a c m, e = .returned (.slice a m.length c) ∧ Hid (LogV w' (.slice a m.length c) m ∧ Pld m) ∧ Below w.heap.size w w'

set_option maxRecDepth 20000 in
set_option maxHeartbeats 8000000 in
theorem played_any (v : Value) (rs : List Rq) (w : World) (hv : SeqV w v rs) (hr : ∀ r ∈ rs, r.p.length ≤ 140737488355328 ∧ r.d.length ≤ 140737488355328) (ht : TabP w) :
    Calls Tryz.prog 4 #[v] w (GivesPl w) := by
  obtain ⟨i0, hi0, hz0, hz1, hz2⟩ := info_txn
  have hlen : rs.length ≤ 9223372036854775807 := by
    rcases hv with ⟨_, _, _, rfl, _⟩ | ⟨_, _, _, _, h1, h2, _⟩
    · simp
    · simp only [maxLen] at h2; omega
  have HQL := hide (fun W (hW : Below w.heap.size w W) (i : Nat) (x : Rq) (hx : rs[i]? = some x) => (show ∃ g off c, v = .slice (some ⟨g, off, none⟩) rs.length c ∧ g < w.heap.size ∧ RowAt W g off (cellsL rs) from by
    obtain ⟨b, off, c, e, hb, h2, _, _⟩ := seq_row hv (by intro h0; rw [h0] at hx; simp at hx)
    exact ⟨b, off, c, e, hb, h2.kept hW hb⟩))
  have HRS := hide hr
  have HTB := hide (fun W (hW : Below w.heap.size w W) => ht.next hW)
  obtain ⟨la, lc, rfl⟩ := seq_slice hv
  clear hv hr ht
  go_enter Tryz.func4, Tryz.ntmps4
  go_wp2_with fail
  refine (tnew_any _).mono ?_
  rintro e w1 ⟨vn1, vs1, rfl, n1, s1, hb1⟩
  obtain ⟨an1, cn1, rfl, _⟩ := n1.slice
  obtain ⟨ai1, ci1, rfl, _⟩ := s1.slice
  have P0 : Hid (PX w (w1.alloc (.cells #[.int .i64 trNew.z, .slice an1 trNew.ns.length cn1, .slice ai1 trNew.ss.length ci1] 34)) w1.heap.size trNew [] (.slice an1 trNew.ns.length cn1) (.slice ai1 trNew.ss.length ci1) (.slice none 0 0)) :=
    hide ⟨heap_alloc_new w1 _, n1.next (allocB _ _), s1.next (allocB _ _), .inl ⟨rfl, rfl⟩, hb1.size, nnext hb1 (allocB _ _)⟩
  clear n1 s1 hb1
  go_upto_region 2 with fail
  generalize w1.heap.size = q at *
  generalize w1.alloc (.cells #[.int .i64 trNew.z, .slice an1 trNew.ns.length cn1, .slice ai1 trNew.ss.length ci1] 34) = W1 at *
  go_wp2_with fail
  go_loopg [4, 5] rs.length (fun kx s4 s5 wr => ∃ (k : Nat) (m : List WTxn) (C : Tr) (a1 : Option Addr) (c1 : Nat) (an : Option Addr) (cn : Nat) (ai : Option Addr) (ci : Nat), s4 = .slice a1 m.length c1 ∧ s5 = .int .i64 k ∧ k ≤ rs.length ∧ rs.length - k ≤ kx ∧ m.length ≤ 40 ∧ Hid (Pld m ∧ C = trAt m m.length) ∧ Hid (PX w wr q C m (.slice an C.ns.length cn) (.slice ai C.ss.length ci) (.slice a1 m.length c1)))
  case atStart => exact ⟨0, [], trNew, none, 0, an1, cn1, ai1, ci1, rfl, rfl, Nat.zero_le _, Nat.le_refl _, by simp, hide ⟨pld_nil, by simp [trAt]⟩, P0⟩
  case round =>
    obtain ⟨k, m, C, a1, c1, an, cn, ai, ci, rfl, rfl, hk, hkx, hm, HP, HX⟩ := hrel
    clear P0
    by_cases hlt : k < rs.length ∧ m.length < 40
    · obtain ⟨r, hr⟩ : ∃ r, rs[k]? = some r := ⟨_, List.getElem?_eq_getElem hlt.1⟩
      obtain ⟨lb, lo, lc', he, hlb, hrow⟩ := unhide HQL wr (unhide HX).b k r hr
      simp only [Value.slice.injEq, true_and] at he
      obtain ⟨rfl, rfl⟩ := he
      have hsz := (unhide HX).b.size
      have R0 : Hid (DepQ wr q C.z (.slice an C.ns.length cn) (.slice ai C.ss.length ci) lb (lo + k * 6) r) := hide ⟨(unhide HX).t, by omega, hrow.q hr 0 (by omega) _ rfl, hrow.q hr 1 (by omega) _ rfl, hrow.q hr 2 (by omega) _ rfl, hrow.q hr 3 (by omega) _ rfl, hrow.q hr 4 (by omega) _ rfl, hrow.q hr 5 (by omega) _ rfl⟩
      have hrs := unhide HRS r (List.mem_of_getElem? hr)
      have gC : GoodT C := by rw [(unhide HP).2]; exact pld_good (unhide HP).1 (Nat.le_refl _)
      have CQ := hide (fun W (hW : Below wr.heap.size wr W) (vn vs : Value) (hn : SeqV W vn C.ns) (hs : SeqV W vs C.ss) => prepare_any C (1 + m.length) vn vs r W hn hs gC.wf hrs.1 hrs.2 (unhide HTB _ (nnext (unhide HX).b hW)))
      have CA := hide (fun (W : World) (vn vs : Value) (hn : SeqV W vn C.ns) (hs : SeqV W vs C.ss) => apply_any C vn vs (prpX C (1 + m.length) r) W hn hs gC.wf (by
        by_cases h : prpE C (1 + m.length) r = 0
        · rw [prpX_ok h]; have := filX_d C (1 + m.length) r; omega
        · rw [prpX_no h]; decide))
      have KP := hide (fun (h : prpE C (1 + m.length) r = 0) => And.intro (fits_plain (t := C) (z := 1 + m.length) (r := r) h).app (show Pld (m ++ [prpX C (1 + m.length) r]) ∧ appT C (prpX C (1 + m.length) r) = trAt (m ++ [prpX C (1 + m.length) r]) (m.length + 1) from by
        have e := (unhide HP).2
        refine ⟨pld_snoc (unhide HP).1 hlt.2 (by rw [← e]; exact h) (by rw [← e]), ?_⟩
        rw [trAt_succ (x := prpX C (1 + m.length) r) (by simp), trAt_app m _ (Nat.le_refl _), ← e]))
      unfold GivesP at CQ
      unfold GivesA at CA
      obtain ⟨T, hT⟩ : ∃ T, appT C (prpX C (1 + m.length) r) = T := ⟨_, rfl⟩
      obtain ⟨V, hV⟩ : ∃ V, appV C (prpX C (1 + m.length) r) = V := ⟨_, rfl⟩
      obtain ⟨A, hA⟩ : ∃ A, appE C (prpX C (1 + m.length) r) = A := ⟨_, rfl⟩
      obtain ⟨E, hE⟩ : ∃ E, prpE C (1 + m.length) r = E := ⟨_, rfl⟩
      rw [hT, hV, hA] at CA
      rw [hT, hA, hE] at KP
      rw [hE] at CQ
      clear hT hV hA hE
      obtain ⟨X, hX⟩ : ∃ X, prpX C (1 + m.length) r = X := ⟨_, rfl⟩
      rw [hX] at CA KP CQ
      clear hX
      obtain ⟨ro, rw', rp, rd, rv, rf⟩ := r
      obtain ⟨xz, xo, xs, xp, xd, xv, xw⟩ := X
      unfold rqV txnV at CQ
      unfold txnV at CA
      simp only at R0 CQ CA
      have hkk : (k : Int) < (rs.length : Int) := by omega
      have hmm : (m.length : Int) < 40 := by omega
      have hwm : IntKind.i64.wrap (1 + (m.length : Int)) = 1 + (m.length : Int) := by rw [IntKind.wrap_i64]; omega
      have hqlt := (unhide HX).lt
      clear hr hrow hrs gC
      go_upto_region 6 with fail
      go_cut [6, 7] from 9 to 46 (fun t6 t7 wx => ∃ p, t6 = .pointer (some ⟨p, 0, none⟩) ∧ t7 = .int .i64 E ∧ Hid (PrX wr wx p ⟨xz, xo, xs, xp, xd, xv, xw⟩))
      case first =>
        clear HQL HRS HTB KP CA
        go_region_held3 (fun w' => w'.cell? ⟨q, 0, none⟩ = some (.int .i64 C.z) ∧ w'.cell? ⟨q, 1, none⟩ = some (.slice an C.ns.length cn) ∧ w'.cell? ⟨q, 2, none⟩ = some (.slice ai C.ss.length ci) ∧ w'.cell? ⟨lb, lo + k * 6, none⟩ = some (.int .i64 ro) ∧ w'.cell? ⟨lb, lo + k * 6 + 1, none⟩ = some (.int .i64 rw') ∧ w'.cell? ⟨lb, lo + k * 6 + 2, none⟩ = some (.string ⟨rp.toArray⟩) ∧ w'.cell? ⟨lb, lo + k * 6 + 3, none⟩ = some (.string ⟨rd.toArray⟩) ∧ w'.cell? ⟨lb, lo + k * 6 + 4, none⟩ = some (.int .i64 rv) ∧ w'.cell? ⟨lb, lo + k * 6 + 5, none⟩ = some (.int .i64 rf)) (first | with_reducible exact (unhide R0).nine | with_reducible exact (unhide R0).drew.nine | with_reducible exact ((unhide R0).next (allocB _ _)).nine | with_reducible exact ((unhide R0).next (allocB _ _)).drew.nine | with_reducible exact ((unhide R0).drew.next (allocB _ _)).nine | with_reducible exact (unhide aX2).nine | with_reducible exact ((unhide aX2).next (allocB _ _)).nine | with_reducible exact ((unhide R0).next (unhide aP2).b).nine) (first
          | (go_at_call 14; refine (unhide CQ _ (by first | with_reducible exact (Below.refl _ _).drew | with_reducible exact (allocB _ _).drew | with_reducible exact nnext (Below.refl _ _).drew (allocB _ _)) _ _ ((unhide HX).n.seq.next (by first | with_reducible exact (Below.refl _ _).drew | with_reducible exact (allocB _ _).drew | with_reducible exact nnext (Below.refl _ _).drew (allocB _ _))) ((unhide HX).s.seq.next (by first | with_reducible exact (Below.refl _ _).drew | with_reducible exact (allocB _ _).drew | with_reducible exact nnext (Below.refl _ _).drew (allocB _ _)))).mono ?_; rintro e aw2 ⟨rfl, hb2⟩; have aB2 : Hid (Below wr.heap.size wr aw2) := hide (nnext (by first | with_reducible exact (Below.refl _ _).drew | with_reducible exact (allocB _ _).drew | with_reducible exact nnext (Below.refl _ _).drew (allocB _ _)) hb2); have aX2 := hide ((unhide R0).next (unhide aB2)); have ah2 := (unhide aB2).size; (try (have aZ2 : Hid (TAt aw2 wr.heap.size t0) := hide ((hb2.block _ (by simp)).trans (heap_alloc_new wr _)); have aP2 := hide (px_putF xz xo xs xp xd xv xw (unhide aB2) (Nat.le_refl _) (unhide aZ2)); obtain ⟨⟨az0, az1, az2, az3, az4, az5, az6⟩, af0, af1, af2, af3, af4, af5, af6⟩ := zcells7 (unhide aZ2))); clear hb2))
        all_goals go_wp2_with fail
        all_goals go_meet
        all_goals refine ⟨_, rfl, rfl, hide ?_⟩
        all_goals first
          | with_reducible exact px_newF xz xo xs xp xd xv xw (unhide aB2)
          | with_reducible exact unhide aP2
          | with_reducible exact px_putF xz xo xs xp xd xv xw (unhide aB2) (Nat.le_refl _) (unhide aZ2)
      case rest =>
        obtain ⟨p, rfl, rfl, A1⟩ := hcut
        have X1 := hide ((unhide HX).next (unhide A1).b)
        have hpq : p ≠ q := by have := (unhide A1).qb; omega
        clear R0 CQ HX
        by_cases hE : E = 0
        · subst hE
          obtain ⟨rfl, hpl, hTe⟩ := unhide KP rfl
          have HPL := hide hpl
          have HTE := hide hTe
          have C3 := unhide CA wc _ _ (unhide X1).n.seq (unhide X1).s.seq
          obtain ⟨⟨t0', t1', t2'⟩, tf0, tf1, tf2⟩ := (unhide X1).cells
          obtain ⟨b0, b1, b2, b3, b4, b5, b6⟩ := (unhide A1).box.seven
          simp only at b0 b1 b2 b3 b4 b5 b6
          clear KP CA hpl hTe
          go_wp2_with fail
          refine C3.mono ?_
          rintro e w5 ⟨vn5, vs5, ve5, rfl, n5, s5, e5, hb5⟩
          obtain ⟨bn, dn, rfl, _⟩ := n5.slice
          obtain ⟨bi, di, rfl, _⟩ := s5.slice
          obtain ⟨be, de, rfl, _⟩ := e5.slice
          have X2 := hide ((unhide X1).next hb5)
          have hbs := (unhide X1).b.size
          have X3 := hide ((unhide X2).put (n5.lower hbs) (s5.lower hbs))
          have T2 := (unhide A1).box.next hb5
          have T3 := hide ((((T2.otherS (a := ⟨q, 0, none⟩) hpq (.int .i64 T.z)).otherS (a := ⟨q, 1, none⟩) hpq (.slice bn T.ns.length dn)).otherS (a := ⟨q, 2, none⟩) hpq (.slice bi T.ss.length di)))
          obtain ⟨⟨u0, u1, u2⟩, uf0, uf1, uf2⟩ := (unhide X2).cells
          have hq5 := (unhide X2).lt
          clear n5 s5 e5 hb5 T2 X1 A1 C3 t0' t1' t2' tf0 tf1 tf2 b0 b1 b2 b3 b4 b5 b6
          go_upto_region 9 with fail
          generalize ((w5.setCell ⟨q, 0, none⟩ (.int .i64 T.z)).setCell ⟨q, 1, none⟩ (.slice bn T.ns.length dn)).setCell ⟨q, 2, none⟩ (.slice bi T.ss.length di) = W5 at *
          clear X2 u0 u1 u2 uf0 uf1 uf2 hq5
          obtain ⟨b0, b1, b2, b3, b4, b5, b6⟩ := (unhide T3).seven
          simp only at b0 b1 b2 b3 b4 b5 b6
          have HN := hide (one_newX W5 ⟨xz, xo, xs, xp, xd, xv, xw⟩)
          have X4 := hide (fun O => (unhide X3).next (allocB W5 O))
          have h5 : Hid ((m.length + 1) * 72 ≤ 140737488355328) := hide (by omega)
          have h4 : Hid (m.length + 1 ≤ maxLen) := hide (by simp only [maxLen]; omega)
          have h6 : Hid (∀ O1, w.heap.size ≤ (W5.alloc O1).heap.size) := hide (fun O1 => by have := (unhide X3).b.size; simp; omega)
          simp only at HN
          go_wp2_with (at_builtin; refine wpList_app1 rfl _ _ 24 rfl i0 _ 72 Tryz.underlying24 hi0 hz0 hz1 hz2 rfl (by decide) _ m rfl w.heap.size (unhide X4 _).o W5.heap.size rfl ⟨xz, xo, xs, xp, xd, xv, xw⟩ (unhide HN) (unhide h5) (unhide h4) (unhide h6 _) ?_)
          intro a6 c6 w6 ho6 hg6
          have X6 := hide ((unhide X4 _).grow hg6 ho6)
          clear ho6 hg6 X3 X4 T3 HN h4 h5 h6 b0 b1 b2 b3 b4 b5 b6
          go_wp2_with fail
          go_roundg (rs.length - (k + 1))
          case measure => omega
          case rel =>
            have e1 : (m ++ [(⟨xz, xo, xs, xp, xd, xv, xw⟩ : WTxn)]).length = m.length + 1 := by simp
            exact ⟨k + 1, m ++ [⟨xz, xo, xs, xp, xd, xv, xw⟩], T, a6, c6, bn, dn, bi, di, by rw [e1], by simp, by omega, Nat.le_refl _, by rw [e1]; omega, hide ⟨unhide HPL, by rw [e1]; exact unhide HTE⟩, by rw [e1]; exact X6⟩
        · have hEb : (E == 0) = false := by simpa using hE
          clear KP CA hE
          go_wp2_with fail
          go_roundg (rs.length - (k + 1))
          case measure => omega
          case rel => exact ⟨k + 1, m, C, a1, c1, an, cn, ai, ci, rfl, by simp, by omega, Nat.le_refl _, hm, HP, X1⟩
    · by_cases h1 : k < rs.length
      · have h2 : ¬ (m.length : Int) < 40 := by omega
        have h3 : (k : Int) < (rs.length : Int) := by omega
        go_wp2_with fail
        go_ret
        exact ⟨_, _, m, rfl, hide ⟨seq_log.1 (unhide HX).o.seq, (unhide HP).1⟩, (unhide HX).b⟩
      · have h3 : ¬ (k : Int) < (rs.length : Int) := by omega
        go_wp2_with fail
        go_ret
        exact ⟨_, _, m, rfl, hide ⟨seq_log.1 (unhide HX).o.seq, (unhide HP).1⟩, (unhide HX).b⟩
end Go.Proofs.YtoacignhobchbaaGreatDoor

namespace Go.Proofs.YtoacignhobchbaaGreatDoor
open Go.RowKit

set_option maxRecDepth 20000 in
set_option maxHeartbeats 2000000 in
theorem ksameT_any (t : Tr) (vn vs un us : Value) (w : World) (hn : SeqV w vn t.ns) (hs : SeqV w vs t.ss) (gn : SeqV w un t.ns) (gs : SeqV w us t.ss) (hl : t.ns.length ≤ 140737488355328) (hls : t.ss.length ≤ 140737488355328) :
    Calls Tryz.prog 10 #[.agg #[.int .i64 t.z, vn, vs], .agg #[.int .i64 t.z, un, us]] w fun e w' => e = .returned (.bool true) ∧ Below w.heap.size w w' := by
  have K : ∀ {α : Type} [Lay α] (v : Value) (xs : List α), SeqV w v xs → ∀ W, Below w.heap.size w W → ∀ (i : Nat) (x : α), xs[i]? = some x → ∃ b off c, v = .slice (some ⟨b, off, none⟩) xs.length c ∧ b < w.heap.size ∧ RowAt W b off (cellsL xs) := by
    intro α _ v xs hv W hW i x hx
    obtain ⟨b, off, c, e, hb, hr, _, _⟩ := seq_row hv (by intro h0; rw [h0] at hx; simp at hx)
    exact ⟨b, off, c, e, hb, hr.kept hW hb⟩
  have K1 := hide (K vn t.ns hn)
  have K2 := hide (K un t.ns gn)
  have K3 := hide (K vs t.ss hs)
  have K4 := hide (K us t.ss gs)
  have T0 := hide (TT.new w t.z vn vs un us)
  obtain ⟨na, nc, rfl⟩ := seq_slice hn
  obtain ⟨sa, sc, rfl⟩ := seq_slice hs
  obtain ⟨ma, mc, rfl⟩ := seq_slice gn
  obtain ⟨ra, rc, rfl⟩ := seq_slice gs
  clear hn hs gn gs K
  go_enter Tryz.func10, Tryz.ntmps10
  go_wp2_with fail
  go_loopg [5] t.ns.length (fun kx s5 wr => ∃ k : Nat, s5 = .int .i64 k ∧ k ≤ t.ns.length ∧ t.ns.length - k ≤ kx ∧ Hid (TT w wr t.z (.slice na t.ns.length nc) (.slice sa t.ss.length sc) (.slice ma t.ns.length mc) (.slice ra t.ss.length rc)))
  case atStart => exact ⟨0, rfl, Nat.zero_le _, Nat.le_refl _, T0⟩
  case round =>
    obtain ⟨k, rfl, hk, hg, hT⟩ := hrel
    obtain ⟨c0, c1, c2, c3, c4, c5⟩ := (unhide hT).six
    have hsz := (unhide hT).bl.size
    by_cases hlt : k < t.ns.length
    · obtain ⟨x, hx⟩ : ∃ x, t.ns[k]? = some x := ⟨_, List.getElem?_eq_getElem hlt⟩
      obtain ⟨b1, o1, cc1, he, hb1, q1⟩ := unhide K1 wr (unhide hT).bl k x hx
      simp only [Value.slice.injEq] at he
      obtain ⟨rfl, _, rfl⟩ := he
      obtain ⟨b2, o2, cc2, he, hb2, q2⟩ := unhide K2 wr (unhide hT).bl k x hx
      simp only [Value.slice.injEq] at he
      obtain ⟨rfl, _, rfl⟩ := he
      have d0 := q1.n0 hx
      have d1 := q1.n1 hx
      have d2 := q1.n2 hx
      have d3 := q1.n3 hx
      have d4 := q1.n4 hx
      have d5 := q1.n5 hx
      have d6 := q1.n6 hx
      have d7 := q1.n7 hx
      have d8 := q1.n8 hx
      have r0 := q2.n0 hx
      have r1 := q2.n1 hx
      have r2 := q2.n2 hx
      have r3 := q2.n3 hx
      have r4 := q2.n4 hx
      have r5 := q2.n5 hx
      have r6 := q2.n6 hx
      have r7 := q2.n7 hx
      have r8 := q2.n8 hx
      clear q1 q2 hx
      go_wp2_with fail
      go_region
      go_wp2_with fail
      go_roundg (t.ns.length - (k + 1))
      case measure => omega
      case rel => exact ⟨k + 1, rfl, by omega, Nat.le_refl _, hide ((unhide hT).next (Below.refl _ _).drew)⟩
    · obtain rfl : k = t.ns.length := by omega
      go_wp2_with fail
      go_loopg [6] t.ss.length (fun kx s6 wr => ∃ k : Nat, s6 = .int .i64 k ∧ k ≤ t.ss.length ∧ t.ss.length - k ≤ kx ∧ Hid (TT w wr t.z (.slice na t.ns.length nc) (.slice sa t.ss.length sc) (.slice ma t.ns.length mc) (.slice ra t.ss.length rc)))
      case atStart => exact ⟨0, rfl, Nat.zero_le _, Nat.le_refl _, hT⟩
      case round =>
        obtain ⟨k, rfl, hk, hg, hT⟩ := hrel
        obtain ⟨c0, c1, c2, c3, c4, c5⟩ := (unhide hT).six
        by_cases hlt : k < t.ss.length
        · obtain ⟨x, hx⟩ : ∃ x, t.ss[k]? = some x := ⟨_, List.getElem?_eq_getElem hlt⟩
          obtain ⟨b1, o1, cc1, he, hb1, q1⟩ := unhide K3 wr (unhide hT).bl k x hx
          simp only [Value.slice.injEq] at he
          obtain ⟨rfl, _, rfl⟩ := he
          obtain ⟨b2, o2, cc2, he, hb2, q2⟩ := unhide K4 wr (unhide hT).bl k x hx
          simp only [Value.slice.injEq] at he
          obtain ⟨rfl, _, rfl⟩ := he
          have d0 := q1.i0 hx
          have r0 := q2.i0 hx
          clear q1 q2 hx
          go_wp2_with fail
          go_region
          go_wp2_with fail
          go_roundg (t.ss.length - (k + 1))
          case measure => omega
          case rel => exact ⟨k + 1, rfl, by omega, Nat.le_refl _, hide ((unhide hT).next (Below.refl _ _).drew)⟩
        · obtain rfl : k = t.ss.length := by omega
          go_wp2_with fail
          go_ret
          exact ⟨rfl, (unhide hT).bl⟩

end Go.Proofs.YtoacignhobchbaaGreatDoor

namespace Go.Proofs.YtoacignhobchbaaGreatDoor
open Go.RowKit

theorem ret_pick {a b : Int} (h : a = b) : Ending.returned (.int .i64 a) = .returned (.int .i64 b) := by rw [h]

theorem tmod_cases (k n : Int) (hn : 0 < n) : k.tmod n = k % n ∨ k.tmod n = k % n - n := by
  rw [Int.tmod_eq_emod]
  split
  · left; omega
  · right; omega

set_option maxRecDepth 10000 in
set_option maxHeartbeats 400000 in
theorem pick_any (k n : Int) (w : World) (hn : 0 < n) (hn1 : n ≤ 1048576) (hk : -9223372036854775808 ≤ k) (hk1 : k ≤ 9223372036854775807) :
    Calls Tryz.prog 8 #[.int .i64 k, .int .i64 n] w fun e w' => e = .returned (.int .i64 (k % n)) ∧ w' = w := by
  have hm1 := Int.emod_nonneg k (show n ≠ 0 by omega)
  have hm2 := Int.emod_lt_of_pos k hn
  by_cases h0 : 0 ≤ k
  · go_enter Tryz.func8, Tryz.ntmps8
    go_wp2
    go_ret
    exact ⟨rfl, rfl⟩
  · have HT := hide (tmod_cases k n hn)
    go_enter Tryz.func8, Tryz.ntmps8
    go_wp2
    all_goals go_ret
    all_goals refine ⟨ret_pick ?_, rfl⟩
    all_goals (have hT := unhide HT; clear HT; first | omega | (unfold wrap64; omega))

end Go.Proofs.YtoacignhobchbaaGreatDoor

namespace Go.Proofs.YtoacignhobchbaaGreatDoor
open Go.RowKit

/-- a box q holds a good tree -/
structure CurT (w wr : World) (q : Nat) (C : Tr) (vn vs : Value) : Prop where
  box : wr.heap[q]? = some (.cells #[.int .i64 C.z, vn, vs] 34 (0, 0))
  n : SeqV wr vn C.ns
  s : SeqV wr vs C.ss
  good : GoodT C
  qb : w.heap.size ≤ q
  b : Below w.heap.size w wr
theorem CurT.lt {w wr : World} {q : Nat} {C : Tr} {vn vs : Value} (h : CurT w wr q C vn vs) : q < wr.heap.size := (Array.getElem?_eq_some_iff.1 h.box).1
theorem CurT.next {w wr V : World} {q : Nat} {C : Tr} {vn vs : Value} (h : CurT w wr q C vn vs) (hb : Below wr.heap.size wr V) : CurT w V q C vn vs :=
  ⟨(hb.block _ h.lt).trans h.box, h.n.next hb, h.s.next hb, h.good, h.qb, nnext h.b hb⟩
theorem CurT.cells {w wr : World} {q : Nat} {C : Tr} {vn vs : Value} (h : CurT w wr q C vn vs) : wr.cell? ⟨q, 0, none⟩ = some (.int .i64 C.z) ∧ wr.cell? ⟨q, 1, none⟩ = some vn ∧ wr.cell? ⟨q, 2, none⟩ = some vs ∧ wr.frozen? ⟨q, 0, none⟩ = false ∧ wr.frozen? ⟨q, 1, none⟩ = false ∧ wr.frozen? ⟨q, 2, none⟩ = false := by
  have h1 := h.box
  refine ⟨?_, ?_, ?_, ?_, ?_, ?_⟩ <;> simp [World.cell?, World.frozen?, h1]
/-- a new tree is stored in the box -/
theorem CurT.put {w wr W : World} {q : Nat} {C T : Tr} {vn vs un us : Value} {B : Nat} (h : CurT w wr q C vn vs) (hB : q < B) (n : OwnS wr B un T.ns) (s : OwnS wr B us T.ss) (g : GoodT T) (hW : W = ((wr.setCell ⟨q, 0, none⟩ (.int .i64 T.z)).setCell ⟨q, 1, none⟩ un).setCell ⟨q, 2, none⟩ us) : CurT w W q T un us := by
  subst hW
  have no : ∀ {α : Type} [Lay α] {v : Value} {xs : List α}, OwnS wr B v xs → v.ownBlock ≠ some q := by
    intro α _ v xs ho e
    rcases ho with ⟨rfl, _⟩ | ⟨g, cap, rfl, hB, _⟩
    · cases e
    · simp [Value.ownBlock] at e; omega
  refine ⟨?_, ((((n.other (no n) _).other (no n) _).other (no n) _)).seq, ((((s.other (no s) _).other (no s) _).other (no s) _)).seq, g, h.qb, ((h.b.setCell h.qb _).setCell h.qb _).setCell h.qb _⟩
  rw [block_set us (block_set un (block_set (.int .i64 T.z) h.box))]
  simp
/-- what Apply's statement reads -/
structure DepR (W : World) (q : Nat) (z : Int) (vn vs : Value) (g o : Nat) (x : WTxn) : Prop where
  a : W.heap[q]? = some (.cells #[.int .i64 z, vn, vs] 34 (0, 0))
  l : g < W.heap.size
  c0 : W.cell? ⟨g, o, none⟩ = some (.int .i64 x.z)
  c1 : W.cell? ⟨g, o + 1, none⟩ = some (.int .i64 x.o)
  c2 : W.cell? ⟨g, o + 2, none⟩ = some (.int .i64 x.s)
  c3 : W.cell? ⟨g, o + 3, none⟩ = some (.string ⟨x.p.toArray⟩)
  c4 : W.cell? ⟨g, o + 4, none⟩ = some (.string ⟨x.d.toArray⟩)
  c5 : W.cell? ⟨g, o + 5, none⟩ = some (.int .i64 x.v)
  c6 : W.cell? ⟨g, o + 6, none⟩ = some (.int .i64 x.w)
theorem DepR.next {W V : World} {q : Nat} {z : Int} {vn vs : Value} {g o : Nat} {x : WTxn} (h : DepR W q z vn vs g o x) (hb : Below W.heap.size W V) : DepR V q z vn vs g o x :=
  ⟨(hb.block _ (Array.getElem?_eq_some_iff.1 h.a).1).trans h.a, Nat.lt_of_lt_of_le h.l hb.size, (hb.cell (p := ⟨g, o, none⟩) h.l).trans h.c0, (hb.cell (p := ⟨g, o + 1, none⟩) h.l).trans h.c1, (hb.cell (p := ⟨g, o + 2, none⟩) h.l).trans h.c2, (hb.cell (p := ⟨g, o + 3, none⟩) h.l).trans h.c3, (hb.cell (p := ⟨g, o + 4, none⟩) h.l).trans h.c4, (hb.cell (p := ⟨g, o + 5, none⟩) h.l).trans h.c5, (hb.cell (p := ⟨g, o + 6, none⟩) h.l).trans h.c6⟩
theorem DepR.drew {W : World} {q : Nat} {z : Int} {vn vs : Value} {g o : Nat} {x : WTxn} (h : DepR W q z vn vs g o x) : DepR W.drew q z vn vs g o x := h.next (Below.refl _ _).drew
theorem DepR.ten {W : World} {q : Nat} {z : Int} {vn vs : Value} {g o : Nat} {x : WTxn} (h : DepR W q z vn vs g o x) : W.cell? ⟨q, 0, none⟩ = some (.int .i64 z) ∧ W.cell? ⟨q, 1, none⟩ = some vn ∧ W.cell? ⟨q, 2, none⟩ = some vs ∧ W.cell? ⟨g, o, none⟩ = some (.int .i64 x.z) ∧ W.cell? ⟨g, o + 1, none⟩ = some (.int .i64 x.o) ∧ W.cell? ⟨g, o + 2, none⟩ = some (.int .i64 x.s) ∧ W.cell? ⟨g, o + 3, none⟩ = some (.string ⟨x.p.toArray⟩) ∧ W.cell? ⟨g, o + 4, none⟩ = some (.string ⟨x.d.toArray⟩) ∧ W.cell? ⟨g, o + 5, none⟩ = some (.int .i64 x.v) ∧ W.cell? ⟨g, o + 6, none⟩ = some (.int .i64 x.w) := by
  have h1 := h.a
  refine ⟨?_, ?_, ?_, h.c0, h.c1, h.c2, h.c3, h.c4, h.c5, h.c6⟩ <;> simp [World.cell?, h1]

end Go.Proofs.YtoacignhobchbaaGreatDoor
