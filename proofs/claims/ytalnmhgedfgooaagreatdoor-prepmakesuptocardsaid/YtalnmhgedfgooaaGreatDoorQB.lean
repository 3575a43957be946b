/-
  prep.number: the walk.
  prep.fillCreate: the walk.
  prep.fill: the walk.
-/
import Derived.Test.YtalnmhgedfgooaaGreatDoorQA
namespace Go.Proofs.YtalnmhgedfgooaaGreatDoor
open Go.RowKit

set_option maxRecDepth 20000 in
set_option maxHeartbeats 4000000 in
theorem pnumber_any (t : Tr) (vn vs : Value) (r : Rq) (x : WTxn) (g : Nat) (u w : World) (gt : GoodT t) (hn : SeqV u vn t.ns) (hb : Below u.heap.size u w) (hg : u.heap.size ≤ g) (hx : TAt w g x) (hxp : x.p = r.p) (htab : Lib.TabIs Tryz.prog u "internal/strconv.uint64pow10" .u64 Lib.pow10Tab) :
    Calls Tryz.prog 70 #[.pointer (some ⟨g, 0, none⟩), .agg #[.int .i64 t.z, vn, vs]] w (GivesF u g (numE t r) { x with p := numP t r }) := by
  have CS := hide (fun W => split_any r.p W)
  have CG := hide (fun W (hW : Below u.heap.size u W) => tget_any t vn vs (dirOf r.p) W gt (hn.next hW))
  have hdl := dirOf_len r.p
  have hsl : (stepOf r.p).length ≤ 200 := by
    rw [stepOf]
    split
    · rename_i h
      obtain ⟨a, b, e, hb⟩ := good_cut h.1
      rw [e, lastCut_some b hb a]
      have := goodB_le h.1
      rw [e] at this
      simp at this ⊢
      omega
    · simp
  have CN := hide (fun (n : Int) W (hW : Below u.heap.size u W) => serial_any ⟨(stepOf r.p).toArray⟩ n W (by show (stepOf r.p).length ≤ _; omega) (tab_kept htab hW))
  have CJ := hide (fun (m : List UInt8) (hm : m.length ≤ 140737488355328) W => join_any (dirOf r.p) m W hm)
  obtain ⟨na, nc, rfl⟩ := seq_slice hn
  unfold nodeV at CG
  rw [← hxp] at CS
  have k3 := hx.c3
  rw [hxp] at k3 CS
  have X0 := hide hx
  have B0 := hide hb
  have hgl := hx.lt
  have K0 : ∀ W, Below (w.alloc (.cells #[.int .i64 t.z, .slice na t.ns.length nc, vs] 25)).heap.size (w.alloc (.cells #[.int .i64 t.z, .slice na t.ns.length nc, vs] 25)) W → W.heap[w.heap.size]? = some (.cells #[.int .i64 t.z, .slice na t.ns.length nc, vs] 25 (0, 0)) := fun W hW => (hW.block _ (by simp)).trans (heap_alloc_new w _)
  have HK := hide K0
  have HXP := hide hxp
  clear hn hb hx K0 hxp
  go_enter Tryz.func70, Tryz.ntmps70
  go_wp2_with fail
  refine (unhide CS _).mono ?_
  rintro e w1 ⟨rfl, hb1⟩
  have T1 := unhide HK w1 hb1
  have B1 := hide (nnext (unhide B0) (nbox_then hb1))
  have X1 := hide ((unhide X0).next (nbox_then hb1))
  have c0 : w1.cell? ⟨w.heap.size, 0, none⟩ = some (.int .i64 t.z) := by simp [World.cell?, T1]
  have c1 : w1.cell? ⟨w.heap.size, 1, none⟩ = some (.slice na t.ns.length nc) := by simp [World.cell?, T1]
  have c2 : w1.cell? ⟨w.heap.size, 2, none⟩ = some vs := by simp [World.cell?, T1]
  clear hb1 T1 B0 X0 CS HK k3
  obtain ⟨D, hD⟩ : ∃ D, dirOf r.p = D := ⟨_, rfl⟩
  obtain ⟨S, hS⟩ : ∃ S, stepOf r.p = S := ⟨_, rfl⟩
  rw [hD] at CG hdl CJ ⊢
  rw [hS] at CN hsl ⊢
  have HD := hide hD
  have HS := hide hS
  clear hD hS
  go_wp2_with fail
  refine (unhide CG _ (unhide B1)).mono ?_
  rintro e w2 ⟨rfl, hb2⟩
  have B2 := hide (nnext (unhide B1) hb2)
  have X2 := hide ((unhide X1).next hb2)
  clear hb2 B1 X1 c0 c1 c2 CG
  cases hl : lookN t.ns D with
  | none =>
    obtain ⟨h1, h2⟩ := get_none hl
    have HL := hide hl
    rw [h1, h2]
    clear hl h1 h2
    unfold nzero
    simp only
    go_wp2_with fail
    go_ret
    exact givesF_no (num_none (by rw [unhide HD]; exact unhide HL)) (by decide) rfl (nnext (unhide B2) (allocB _ _))
  | some n =>
    obtain ⟨h1, h2⟩ := get_some hl
    have HL := hide hl
    rw [h1, h2]
    clear hl h1 h2
    obtain ⟨np, nd, nc', nm, nq, nv, nk, no, nn⟩ := n
    simp only
    have B3 := hide (nnext (unhide B2) (allocB w2 (.cells #[.string ⟨np.toArray⟩, .string ⟨nd.toArray⟩, .int .i64 nc', .int .i64 nm, .int .i64 nq, .int .i64 nv, .int .i64 nk, .int .i64 no, .int .i64 nn] 46)))
    go_wp2_with fail
    refine (unhide CN nk _ (unhide B3)).mono ?_
    rintro e w3 ⟨rfl, hb3⟩
    rw [serS_list]
    have B4 := hide (nnext (unhide B3) hb3)
    have X4 := hide ((unhide X2).next (nbox_then hb3))
    have hml := serL_len S nk
    have CJ1 := hide (unhide CJ (serL S nk) (by omega))
    have NS : Hid (serE S nk ≠ 0 → numE t r = serE S nk) := hide (fun h => by
      have h' := num_ser (t := t) (r := r) (u := ⟨np, nd, nc', nm, nq, nv, nk, no, nn⟩) (by rw [unhide HD]; exact unhide HL) (by rw [unhide HS]; exact h)
      rw [unhide HS] at h'
      exact h')
    have NJ : Hid (serE S nk = 0 → numE t r = joinE D (serL S nk)) := hide (fun h => by
      have h' := num_join (t := t) (r := r) (u := ⟨np, nd, nc', nm, nq, nv, nk, no, nn⟩) (by rw [unhide HD]; exact unhide HL) (by rw [unhide HS]; exact h)
      rw [unhide HS, unhide HD] at h'
      exact h')
    have NP : Hid (numP t r = joinS D (serL S nk)) := hide (by
      rw [numP, unhide HD, unhide HS, cv_some (u := ⟨np, nd, nc', nm, nq, nv, nk, no, nn⟩) (by rw [unhide HD]; exact unhide HL)])
    clear hb3 B3 X2 B2 CN CJ HL HD HS
    generalize serL S nk = M at *
    generalize serE S nk = F at *
    by_cases hF : F = 0
    · subst hF
      have HN := hide (unhide NJ rfl)
      clear NS NJ
      go_wp2_with fail
      refine (unhide CJ1 _).mono ?_
      rintro e w4 ⟨rfl, hb4⟩
      have B5 := hide (nnext (unhide B4) hb4)
      have X5 := hide ((unhide X4).next hb4)
      have k3 := (unhide X5).c3
      have f3 := (unhide X5).f 3
      clear hb4 B4 X4 CJ1
      generalize joinS D M = J at *
      generalize joinE D M = G at *
      go_wp2_with fail
      go_ret
      refine ⟨?_, (unhide B5).setCell hg _, fun _ => ?_⟩
      · rw [unhide HN]; rfl
      · rw [unhide NP]; exact (unhide X5).p J
    · have hFb : (F != 0) = true := by simpa using hF
      have HN := hide (unhide NS hF)
      have HF := hide hF
      clear NS NJ hF
      go_wp2_with fail
      go_ret
      exact givesF_no (unhide HN) (unhide HF) rfl (unhide B4)

end Go.Proofs.YtalnmhgedfgooaaGreatDoor

namespace Go.Proofs.YtalnmhgedfgooaaGreatDoor
open Go.RowKit

set_option maxRecDepth 20000 in
set_option maxHeartbeats 4000000 in
theorem fcreate_any (t : Tr) (z : Int) (vn vs : Value) (r : Rq) (g : Nat) (u w : World) (gt : GoodT t) (hn : SeqV u vn t.ns) (hs : SeqV u vs t.ss) (hb : Below u.heap.size u w) (hg : u.heap.size ≤ g) (hx : TAt w g ⟨z, r.o, r.s, [], [], 0, 0⟩) (hp : r.p.length ≤ 140737488355328) (hd : r.d.length ≤ 140737488355328) (htab : Lib.TabIs Tryz.prog u "internal/strconv.uint64pow10" .u64 Lib.pow10Tab) :
    Calls Tryz.prog 46 #[.pointer (some ⟨g, 0, none⟩), .agg #[.int .i64 t.z, vn, vs], rqV r] w (GivesF u g (fcrE t r) (fcrX t z r)) := by
  have CO := hide (fun W (hW : Below u.heap.size u W) => topen_any t.z vn vs t.ss r.s W (hs.next hW) gt.ses)
  have CP := hide (fun W => good_any ⟨r.p.toArray⟩ W)
  have CL := hide (fun W => nclone_any r.p W (by omega))
  have CD := hide (fun W => nclone_any r.d W (by omega))
  have CN := hide (fun (x : WTxn) (hxp : x.p = r.p) W (hW : Below u.heap.size u W) (hx : TAt W g x) => pnumber_any t vn vs r x g u W gt hn hW hg hx hxp htab)
  obtain ⟨na, nc, rfl⟩ := seq_slice hn
  obtain ⟨sa, sc, rfl⟩ := seq_slice hs
  obtain ⟨ro, rs, rp, rd, rv, rf⟩ := r
  unfold rqV
  simp only at *
  have X0 := hide hx
  have B0 := hide hb
  have hgl := hx.lt
  have R0 := hide (TR.new w t.z (.slice na t.ns.length nc) (.slice sa t.ss.length sc) ⟨ro, rs, rp, rd, rv, rf⟩)
  clear hn hs hb hx
  by_cases hf : 0 ≤ rf ∧ rf ≤ 3
  · have hf1 := hf.1
    have hf2 := hf.2
    have HF := hide hf
    have hfb1 : (decide (rf < 0)) = false := by simp; omega
    have hfb2 : (decide (3 < rf)) = false := by simp; omega
    clear hf
    obtain ⟨a0, a1, a2, a3, a4, a5, a6, a7, a8⟩ := (unhide R0).nine
    simp only at a0 a1 a2 a3 a4 a5 a6 a7 a8
    go_enter Tryz.func46, Tryz.ntmps46
    go_wp2_with fail
    refine (unhide CP _).mono ?_
    rintro e w1 ⟨rfl, hb1⟩
    have R1 := hide ((unhide R0).next hb1)
    have B1 := hide (nnext (unhide B0) (nbox_then (nbox_then hb1)))
    have X1 := hide ((unhide X0).next (nbox_then (nbox_then hb1)))
    obtain ⟨b0, b1, b2, b3, b4, b5, b6, b7, b8⟩ := (unhide R1).nine
    simp only at b0 b1 b2 b3 b4 b5 b6 b7 b8
    clear a0 a1 a2 a3 a4 a5 a6 a7 a8 hb1 R0 B0 X0 CP
    cases hgd : goodB rp with
    | false =>
      have HG := hide hgd
      clear hgd
      go_wp2_with fail
      go_ret
      exact givesF_no (fcr_form (unhide HF) (fun h => by have h1 := h.1; rw [unhide HG] at h1; exact absurd h1 (by decide))) (by decide) rfl (unhide B1)
    | true =>
      have HG := hide hgd
      clear hgd
      by_cases hr : rp = [47]
      · have HR := hide hr
        subst hr
        go_wp2_with fail
        go_ret
        exact givesF_no (fcr_form (unhide HF) (fun h => h.2 rfl)) (by decide) rfl (unhide B1)
      · have HR := hide hr
        have hrb : (rp == [47]) = false := by simpa using hr
        clear hr
        go_wp2_with fail
        refine (unhide CO _ (unhide B1)).mono ?_
        rintro e w2 ⟨rfl, hb2⟩
        have R2 := hide ((unhide R1).next hb2)
        have B2 := hide (nnext (unhide B1) hb2)
        have X2 := hide ((unhide X1).next hb2)
        obtain ⟨d0, d1, d2, d3, d4, d5, d6, d7, d8⟩ := (unhide R2).nine
        simp only at d0 d1 d2 d3 d4 d5 d6 d7 d8
        clear b0 b1 b2 b3 b4 b5 b6 b7 b8 hb2 R1 B1 X1 CO hrb
        by_cases hm : rs ∈ t.ss
        · rw [show decide (rs ∈ t.ss) = true from decide_eq_true hm]
          have HM := hide hm
          clear hm
          go_wp2_with fail
          refine (unhide CL _).mono ?_
          rintro e w3 ⟨rfl, hb3⟩
          have R3 := hide ((unhide R2).next hb3)
          have B3 := hide (nnext (unhide B2) hb3)
          have X3 := hide ((unhide X2).next hb3)
          obtain ⟨e0, e1, e2, e3, e4, e5, e6, e7, e8⟩ := (unhide R3).nine
          simp only at e0 e1 e2 e3 e4 e5 e6 e7 e8
          have k3 := (unhide X3).c3
          have f3 := (unhide X3).f 3
          have hne : w.heap.size + 1 ≠ g := by omega
          have hne0 : w.heap.size ≠ g := by omega
          clear d0 d1 d2 d3 d4 d5 d6 d7 d8 hb3 R2 B2 X2 CL
          go_wp2_with fail
          refine (unhide CD _).mono ?_
          rintro e w4 ⟨rfl, hb4⟩
          have R4 := hide (((unhide R3).other (a := ⟨g, 3, none⟩) (.string ⟨rp.toArray⟩) (.inl hgl)).next hb4)
          have B4 : Hid (Below u.heap.size u w4) := hide (nnext ((unhide B3).setCell (by exact hg) _) hb4)
          have X4 := hide (((unhide X3).p rp).next hb4)
          obtain ⟨i0, i1, i2, i3, i4, i5, i6, i7, i8⟩ := (unhide R4).nine
          simp only at i0 i1 i2 i3 i4 i5 i6 i7 i8
          have k4 := (unhide X4).c4
          have f4 := (unhide X4).f 4
          have k6 := (unhide X4).c6
          have f6 := (unhide X4).f 6
          clear e0 e1 e2 e3 e4 e5 e6 e7 e8 hb4 R3 B3 X3 CD k3 f3
          have R5 := hide ((unhide R4).other (a := ⟨g, 4, none⟩) (.string ⟨rd.toArray⟩) (.inl hgl))
          have B5 : Hid (Below u.heap.size u (w4.setCell ⟨g, 4, none⟩ (.string ⟨rd.toArray⟩))) := hide ((unhide B4).setCell (by exact hg) _)
          have X5 := hide ((unhide X4).d rd)
          have HP : Hid (goodB rp = true ∧ rp ≠ [47]) := hide ⟨unhide HG, unhide HR⟩
          have hfs : rf = 0 ∨ rf = 1 ∨ rf = 2 ∨ rf = 3 := by omega
          clear HG HR
          simp only at X5
          rcases hfs with rfl | rfl | rfl | rfl
          · go_wp2_with fail
            go_ret
            exact givesF_ok (fcr_plain (unhide HF) (unhide HP) (unhide HM) (by simp)) rfl (unhide B5) (unhide X5)
          · go_wp2_with fail
            go_ret
            exact givesF_ok (fcr_plain (unhide HF) (unhide HP) (unhide HM) (by simp)) rfl ((unhide B5).setCell hg _) ((unhide X5).w rs)
          · go_wp2_with fail
            refine (unhide CN _ rfl _ (unhide B5) (unhide X5)).mono ?_
            rintro e w6 ⟨rfl, hb6, hx6⟩
            have HB := hide hb6
            have HX := hide hx6
            clear hb6 hx6
            go_wp2_with fail
            go_ret
            refine ⟨?_, unhide HB, fun h => ?_⟩
            · rw [fcr_num (unhide HF) (unhide HP) (unhide HM) (by simp)]; rfl
            · rw [fcr_num (unhide HF) (unhide HP) (unhide HM) (by simp)] at h
              exact unhide HX h
          · go_wp2_with fail
            refine (unhide CN _ rfl _ ((unhide B5).setCell hg _) ((unhide X5).w rs)).mono ?_
            rintro e w6 ⟨rfl, hb6, hx6⟩
            have HB := hide hb6
            have HX := hide hx6
            clear hb6 hx6
            go_wp2_with fail
            go_ret
            refine ⟨?_, unhide HB, fun h => ?_⟩
            · rw [fcr_num (unhide HF) (unhide HP) (unhide HM) (by simp)]; rfl
            · rw [fcr_num (unhide HF) (unhide HP) (unhide HM) (by simp)] at h
              exact unhide HX h
        · rw [show decide (rs ∈ t.ss) = false from decide_eq_false hm]
          have HM := hide hm
          clear hm
          go_wp2_with fail
          go_ret
          exact givesF_no (fcr_shut (unhide HF) ⟨unhide HG, unhide HR⟩ (unhide HM)) (by decide) rfl (unhide B2)
  · have HF := hide hf
    have hc : decide (rf < 0) = true ∨ (decide (rf < 0) = false ∧ decide (3 < rf) = true) := by
      by_cases h : rf < 0
      · exact .inl (by simp [h])
      · exact .inr ⟨by simp; omega, by simp; omega⟩
    clear hf
    rcases hc with h | ⟨h, h'⟩
    all_goals
      simp only [decide_eq_true_eq, decide_eq_false_iff_not] at h
      (try simp only [decide_eq_true_eq] at h')
      go_enter Tryz.func46, Tryz.ntmps46
      go_wp2_with fail
      go_ret
      exact givesF_no (fcr_range (unhide HF)) (by decide) rfl (nnext (nnext (unhide B0) (allocB _ _)) (allocB _ _))

end Go.Proofs.YtalnmhgedfgooaaGreatDoor

namespace Go.Proofs.YtalnmhgedfgooaaGreatDoor
open Go.RowKit

set_option maxRecDepth 20000 in
set_option maxHeartbeats 4000000 in
theorem pfill_any (t : Tr) (z : Int) (vn vs : Value) (r : Rq) (g : Nat) (u w : World) (gt : GoodT t) (hn : SeqV u vn t.ns) (hs : SeqV u vs t.ss) (hb : Below u.heap.size u w) (hg : u.heap.size ≤ g) (hx : TAt w g ⟨z, r.o, r.s, [], [], 0, 0⟩) (hp : r.p.length ≤ 140737488355328) (hd : r.d.length ≤ 140737488355328) (htab : Lib.TabIs Tryz.prog u "internal/strconv.uint64pow10" .u64 Lib.pow10Tab) :
    Calls Tryz.prog 21 #[.pointer (some ⟨g, 0, none⟩), .agg #[.int .i64 t.z, vn, vs], rqV r] w (GivesF u g (filE t r) (filX t z r)) := by
  have CA := hide (fun (ho : r.o = 4 ∨ r.o = 5) W (hW : Below u.heap.size u W) hx => fchange_any t z vn vs r g u W gt hn hs hW hg hx ho hp hd)
  have CC := hide (fun W (hW : Below u.heap.size u W) hx => fcreate_any t z vn vs r g u W gt hn hs hW hg hx hp hd htab)
  obtain ⟨na, nc, rfl⟩ := seq_slice hn
  obtain ⟨sa, sc, rfl⟩ := seq_slice hs
  obtain ⟨ro, rs, rp, rd, rv, rf⟩ := r
  unfold rqV at *
  simp only at *
  have X0 := hide hx
  have B0 := hide hb
  have X1 := hide (hx.next (nnext (allocB w (.cells #[.int .i64 t.z, .slice na t.ns.length nc, .slice sa t.ss.length sc] 25)) (allocB _ (.cells #[.int .i64 ro, .int .i64 rs, .string ⟨rp.toArray⟩, .string ⟨rd.toArray⟩, .int .i64 rv, .int .i64 rf] 27))))
  have B1 := hide (nnext hb (nnext (allocB w (.cells #[.int .i64 t.z, .slice na t.ns.length nc, .slice sa t.ss.length sc] 25)) (allocB _ (.cells #[.int .i64 ro, .int .i64 rs, .string ⟨rp.toArray⟩, .string ⟨rd.toArray⟩, .int .i64 rv, .int .i64 rf] 27))))
  clear hn hs hb hx htab
  by_cases h1 : ro = 1 ∨ ro = 2
  · have HE := hide (fil_end (t := t) (z := z) (r := ⟨ro, rs, rp, rd, rv, rf⟩) h1)
    clear CA CC
    rcases h1 with rfl | rfl
    all_goals
      go_enter Tryz.func21, Tryz.ntmps21
      go_wp2_with fail
      go_ret
      exact givesF_ok (unhide HE).1 rfl (unhide B1) (by rw [(unhide HE).2]; exact unhide X1)
  · by_cases h3 : ro = 3
    · have HE := hide (fil_cre (t := t) (z := z) (r := ⟨ro, rs, rp, rd, rv, rf⟩) h3)
      subst h3
      clear CA h1
      go_enter Tryz.func21, Tryz.ntmps21
      go_wp2_with fail
      refine (unhide CC _ (unhide B1) (unhide X1)).mono ?_
      rintro e w6 ⟨rfl, hb6, hx6⟩
      have HB := hide hb6
      have HX := hide hx6
      clear hb6 hx6
      go_wp2_with fail
      go_ret
      refine ⟨?_, unhide HB, fun h => ?_⟩
      · rw [(unhide HE).1]; rfl
      · rw [(unhide HE).1] at h
        rw [(unhide HE).2]
        exact unhide HX h
    · by_cases h4 : ro = 4 ∨ ro = 5
      · have HE := hide (fil_chg (t := t) (z := z) (r := ⟨ro, rs, rp, rd, rv, rf⟩) h4)
        have CB := hide (unhide CA h4)
        clear CA CC h1 h3
        rcases h4 with rfl | rfl
        all_goals
          go_enter Tryz.func21, Tryz.ntmps21
          go_wp2_with fail
          refine (unhide CB _ (unhide B1) (unhide X1)).mono ?_
          rintro e w6 ⟨rfl, hb6, hx6⟩
          have HB := hide hb6
          have HX := hide hx6
          clear hb6 hx6
          go_wp2_with fail
          go_ret
          refine ⟨?_, unhide HB, fun h => ?_⟩
          · rw [(unhide HE).1]; rfl
          · rw [(unhide HE).1] at h
            rw [(unhide HE).2]
            exact unhide HX h
      · have HE := hide (fil_kind (t := t) (r := ⟨ro, rs, rp, rd, rv, rf⟩) (by simp only; omega))
        have e1 : (ro == 1) = false := by simp; omega
        have e2 : (ro == 2) = false := by simp; omega
        have e3 : (ro == 3) = false := by simp; omega
        have e4 : (ro == 4) = false := by simp; omega
        have e5 : (ro == 5) = false := by simp; omega
        clear CA CC h1 h3 h4
        go_enter Tryz.func21, Tryz.ntmps21
        go_wp2_with fail
        go_ret
        exact givesF_no (unhide HE) (by decide) rfl (unhide B1)

end Go.Proofs.YtalnmhgedfgooaaGreatDoor
