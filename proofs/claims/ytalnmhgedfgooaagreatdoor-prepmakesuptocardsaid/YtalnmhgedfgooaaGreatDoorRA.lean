/-
  aviaryref.Prepare: the walk.
  aviaryref.Prepare, OpOpen, OpClose, no kind: the walk.
-/
import Derived.Test.YtalnmhgedfgooaaGreatDoorQC
import Derived.Test.YtalnmhgedfgooaaGreatDoorQW
import Derived.Test.YtalnmhgedfgooaaGreatDoorQL
import Derived.Test.YtalnmhgedfgooaaGreatDoorQJ
namespace Go.Proofs.YtalnmhgedfgooaaGreatDoor
open Go.RowKit

theorem stepOf_len (p : List UInt8) : (stepOf p).length ≤ 200 := by
  by_cases h : goodB p = true ∧ p ≠ [47]
  · obtain ⟨a, b, e, hb⟩ := good_cut h.1
    have h1 := goodB_le h.1
    have h2 : stepOf p = b := by
      rw [e] at h ⊢
      exact stepOf_cut h.1 h.2 hb
    have h3 := congrArg List.length e
    rw [List.length_append, List.length_cons] at h3
    rw [h2]
    omega
  · rw [stepOf, if_neg h]
    exact Nat.zero_le _
theorem filX_p2 (t : Tr) (z : Int) (r : Rq) (h : r.p.length ≤ 1048576) : (filX t z r).p.length ≤ 1048576 := by
  have := numP_len t r
  unfold filX
  split
  · simp only [fcrX]
    split <;> omega
  · split
    · simp only [fchX]; omega
    · simp
/-- aviaryref.GetNode at a good tree -/
theorem rget_any (t : Tr) (vn vs : Value) (p : List UInt8) (w : World) (g : GoodT t) (hn : SeqV w vn t.ns) :
    Calls Tryz.prog 26 #[.agg #[.int .i64 t.z, vn, vs], .string ⟨p.toArray⟩] w fun e w' => e = .returned (.tuple #[nodeV (getN t p), .int .i64 (getE t p)]) ∧ Below w.heap.size w w' := by
  have few := g.nod.few
  rcases nwhere p t.ns g.nod.asc with ⟨A, n, B, T⟩ | ⟨A, B, G⟩
  · rw [(get_some T.look).1, (get_some T.look).2]
    exact rget_at t.z vn vs t.ns p A.length n w hn (by omega) (at_there T)
  · rw [(get_none G.look).1, (get_none G.look).2]
    refine rget_no t.z vn vs t.ns p w hn (by omega) (fun n hm => ?_)
    rw [G.eq] at hm
    rcases List.mem_append.1 hm with h | h
    · exact bl_ne (G.lo n h)
    · exact (bl_ne (G.hi n h)).symm
/-- aviaryref.Serial -/
theorem rserial_any (l : List UInt8) (n : Int) (w : World) (hs : l.length ≤ 1048576) :
    Calls Tryz.prog 28 #[.string ⟨l.toArray⟩, .int .i64 n] w fun e w' =>
      e = .returned (.tuple #[.string ⟨(serL l n).toArray⟩, .int .i64 (serE l n)]) ∧ Below w.heap.size w w' := by
  by_cases h : 0 ≤ n ∧ n ≤ 2147483647
  · obtain ⟨k, rfl⟩ := Int.eq_ofNat_of_zero_le h.1
    refine (refSerial_in l k w (by omega) hs).mono ?_
    rintro e w' ⟨rfl, hb⟩
    exact ⟨ret_str2 (by rw [← serS_list, serS, if_pos h, Int.toNat_natCast]) (by rw [serE, if_pos h, Int.toNat_natCast]), hb⟩
  · refine (refSerial_out ⟨l.toArray⟩ n w (by omega)).mono ?_
    rintro e w' ⟨rfl, rfl⟩
    exact ⟨ret_str2 (by rw [← serS_list, serS, if_neg h]) (by rw [serE, if_neg h]), Below.refl _ _⟩

set_option maxRecDepth 20000 in
set_option maxHeartbeats 4000000 in
theorem rprepare_head (t : Tr) (z : Int) (vn vs : Value) (r : Rq) (w : World) (hn : SeqV w vn t.ns) (hs : SeqV w vs t.ss) (hw : WfT t) (hz : t.z ≤ 9223372036854775807) (hzz : z ≤ 9223372036854775807) (hlong : ∀ n ∈ t.ns, n.p.length ≤ 1048576) (hls : t.ss.length * 8 ≤ 140737488351232) (hp : r.p.length ≤ 1048576) (hd : r.d.length ≤ 140737488355328) (hh : headB t z r = false) :
    Calls Tryz.prog 9 #[.agg #[.int .i64 t.z, vn, vs], .int .i64 z, rqV r] w (GivesP w t z r) := by
  have CG := hide (fun W (hW : Below w.heap.size w W) => rgoodT_any t vn vs W (hn.next hW) (hs.next hW) hw hz hlong (by omega))
  have CZ := hide (fun W => rgood_any z hzz W)
  obtain ⟨na, nc, rfl⟩ := seq_slice hn
  obtain ⟨sa, sc, rfl⟩ := seq_slice hs
  have HE := hide (prp_head hh)
  obtain ⟨ro, rs, rp, rd, rv, rf⟩ := r
  unfold rqV at *
  simp only at *
  have P0 := hide (PB.new w t.z (.slice na t.ns.length nc) (.slice sa t.ss.length sc) ⟨ro, rs, rp, rd, rv, rf⟩)
  simp only at P0
  clear hn hs
  go_enter Tryz.func9, Tryz.ntmps9
  go_wp2_with fail
  refine (unhide CG _ (unhide P0).b).mono ?_
  rintro e w1 ⟨rfl, hb1⟩
  have P1 := hide ((unhide P0).next hb1)
  obtain ⟨b0, b1, b2, b3, b4, b5, b6, b7, b8⟩ := (unhide P1).t.nine
  obtain ⟨c0, c1, c2, c3, c4, c5, c6⟩ := (unhide P1).cells
  have f := (unhide P1).a.f
  have f0 := f 0
  have f1 := f 1
  have f2 := f 2
  have f3 := f 3
  have f4 := f 4
  have f5 := f 5
  have f6 := f 6
  simp only at b0 b1 b2 b3 b4 b5 b6 b7 b8
  clear hb1 P0 CG f
  cases hgd : goodT t with
  | false =>
    clear hgd hh
    go_wp2_with fail
    exact bodyPost_ret (v := .tuple #[txnV t0, .int .i64 3]) (by simp [results, Tryz.results9, go_sem, txnV, t0, c0, c1, c2, c3, c4, c5, c6]) rfl (givesP_no (unhide HE) (by decide) rfl (put7_below t0 (unhide P1).b (by omega)))
  | true =>
    have HG := hide hgd
    clear hgd
    go_wp2_with fail
    refine (unhide CZ _).mono ?_
    rintro e w2 ⟨rfl, rfl⟩
    clear CZ
    cases hzd : zGood z with
    | false =>
      clear hzd hh
      go_wp2_with fail
      exact bodyPost_ret (v := .tuple #[txnV t0, .int .i64 3]) (by simp [results, Tryz.results9, go_sem, txnV, t0, c0, c1, c2, c3, c4, c5, c6]) rfl (givesP_no (unhide HE) (by decide) rfl (put7_below t0 (unhide P1).b (by omega)))
    | true =>
      have hrs : rs < 1 ∨ 2147483648 ≤ rs := by
        simp [headB, unhide HG, hzd] at hh
        omega
      by_cases h1 : rs < 1
      · have hd1 : decide (rs < 1) = true := decide_eq_true h1
        clear hzd hh h1 hrs
        go_wp2_with fail
        exact bodyPost_ret (v := .tuple #[txnV t0, .int .i64 3]) (by simp [results, Tryz.results9, go_sem, txnV, t0, c0, c1, c2, c3, c4, c5, c6]) rfl (givesP_no (unhide HE) (by decide) rfl (put7_below t0 (unhide P1).b (by omega)))
      · have hd1 : decide (rs < 1) = false := decide_eq_false h1
        have hd2 : decide (2147483648 ≤ rs) = true := by simp; omega
        clear hzd hh h1 hrs
        go_wp2_with fail
        exact bodyPost_ret (v := .tuple #[txnV t0, .int .i64 3]) (by simp [results, Tryz.results9, go_sem, txnV, t0, c0, c1, c2, c3, c4, c5, c6]) rfl (givesP_no (unhide HE) (by decide) rfl (put7_below t0 (unhide P1).b (by omega)))

end Go.Proofs.YtalnmhgedfgooaaGreatDoor

namespace Go.Proofs.YtalnmhgedfgooaaGreatDoor
open Go.RowKit

set_option maxRecDepth 20000 in
set_option maxHeartbeats 8000000 in
theorem rprepare_end (t : Tr) (z : Int) (vn vs : Value) (r : Rq) (w : World) (hn : SeqV w vn t.ns) (hs : SeqV w vs t.ss) (hw : WfT t) (hz : t.z ≤ 9223372036854775807) (hzz : z ≤ 9223372036854775807) (hlong : ∀ n ∈ t.ns, n.p.length ≤ 1048576) (hls : t.ss.length * 8 ≤ 140737488351232) (hp : r.p.length ≤ 1048576) (hd : r.d.length ≤ 140737488355328) (hh : headB t z r = true) (ho : r.o = 1 ∨ r.o = 2) :
    Calls Tryz.prog 9 #[.agg #[.int .i64 t.z, vn, vs], .int .i64 z, rqV r] w (GivesP w t z r) := by
  have CG := hide (fun W (hW : Below w.heap.size w W) => rgoodT_any t vn vs W (hn.next hW) (hs.next hW) hw hz hlong (by omega))
  have CZ := hide (fun W => rgood_any z hzz W)
  obtain ⟨gt, hzg, hr1, hr2⟩ := headB_true.1 hh
  have CO := hide (fun W (hW : Below w.heap.size w W) => risopen_any t.z vn vs t.ss r.s W (hs.next hW) (by omega))
  have CN := hide (fun (p : List UInt8) W (hW : Below w.heap.size w W) => rget_any t vn vs p W gt (hn.next hW))
  have CP := hide (fun W => refGood_any r.p W (by omega))
  have CS := hide (fun W => rsplit_any r.p W (by omega))
  have CA := hide (fun W (hW : Below w.heap.size w W) => rapply_any t (filX t z r) vn vs W (hn.next hW) (hs.next hW) ⟨hw, hz, hlong, by omega, by rw [(filX_heads t z r).1]; exact hzz, filX_p2 t z r hp, by have := filX_d t z r; omega⟩ hls)
  rw [goodT_true.2 gt] at CG
  rw [hzg] at CZ
  obtain ⟨na, nc, rfl⟩ := seq_slice hn
  obtain ⟨sa, sc, rfl⟩ := seq_slice hs
  have PF : Hid (filE t r ≠ 0 → prpE t z r = filE t r) := hide (fun h => prp_fill hh h)
  have PA : Hid (filE t r = 0 → prpE t z r = appE t (filX t z r)) := hide (fun h => prp_app hh h)
  have PX : Hid (prpE t z r = 0 → prpX t z r = filX t z r) := hide (fun h => prpX_ok h)
  unfold GivesR at CA
  unfold nodeV at CN
  obtain ⟨ro, rs, rp, rd, rv, rf⟩ := r
  unfold rqV at *
  simp only at *
  have hd1 : decide (rs < 1) = false := decide_eq_false (by omega)
  have hd2 : decide (2147483648 ≤ rs) = false := decide_eq_false (by omega)
  have P0 := hide (PB.new w t.z (.slice na t.ns.length nc) (.slice sa t.ss.length sc) ⟨ro, rs, rp, rd, rv, rf⟩)
  simp only at P0
  have GT := hide gt
  clear hn hs hw hh hzg gt hr1 hr2
  have HF := hide (fil_end (t := t) (z := z) (r := ⟨ro, rs, rp, rd, rv, rf⟩) ho).1
  have HX := hide (fil_end (t := t) (z := z) (r := ⟨ro, rs, rp, rd, rv, rf⟩) ho).2
  simp only at HX
  clear CO CN CP CS
  rcases ho with rfl | rfl
  · go_enter Tryz.func9, Tryz.ntmps9
    go_wp2_with fail
    refine (unhide CG _ (unhide P0).b).mono ?_
    rintro e w1 ⟨rfl, hb1⟩
    have P1 := hide ((unhide P0).next hb1)
    obtain ⟨b0, b1, b2, b3, b4, b5, b6, b7, b8⟩ := (unhide P1).t.nine
    simp only at b0 b1 b2 b3 b4 b5 b6 b7 b8
    clear hb1 P0 CG
    go_wp2_with fail
    refine (unhide CZ _).mono ?_
    rintro e w2 ⟨rfl, rfl⟩
    clear CZ
    have X2 := hide (TAt.new w2 ⟨z, 1, rs, [], [], 0, 0⟩)
    have P2 := hide ((unhide P1).next (allocB w2 (.cells #[.int .i64 z, .int .i64 1, .int .i64 rs, .string ⟨#[]⟩, .string ⟨#[]⟩, .int .i64 0, .int .i64 0] 29)))
    simp only at X2
    obtain ⟨d0, d1, d2, d3, d4, d5, d6, d7, d8⟩ := (unhide P2).t.nine
    simp only at d0 d1 d2 d3 d4 d5 d6 d7 d8
    have PE := hide (unhide PA (unhide HF))
    rw [unhide HX] at CA PX PE
    clear PF PA
    generalize appT t _ = T at CA
    generalize appV t _ = V at CA
    generalize appE t _ = A at CA PE
    unfold txnV at CA
    simp only at CA
    obtain ⟨i0, i1, i2, i3, i4, i5, i6, i7, i8⟩ := (unhide P2).t.nine
    obtain ⟨c0, c1, c2, c3, c4, c5, c6⟩ := (unhide P2).cells
    have f := (unhide P2).a.f
    have f0 := f 0
    have f1 := f 1
    have f2 := f 2
    have f3 := f 3
    have f4 := f 4
    have f5 := f 5
    have f6 := f 6
    simp only at i0 i1 i2 i3 i4 i5 i6 i7 i8
    clear f
    obtain ⟨x0, x1, x2, x3, x4, x5, x6⟩ := (unhide X2).seven
    simp only at x0 x1 x2 x3 x4 x5 x6
    go_wp2_with fail
    refine (unhide CA _ (unhide P2).b).mono ?_
    rintro e wA ⟨vnA, vsA, veA, rfl, nA, sA, eA, hbA⟩
    obtain ⟨an, cn, rfl, _⟩ := nA.slice
    obtain ⟨ai, ci, rfl, _⟩ := sA.slice
    obtain ⟨ae, ce, rfl, _⟩ := eA.slice
    have PB5 := hide ((unhide P2).next (nnext hbA (allocB wA (.cells #[.int .i64 T.z, .slice an T.ns.length cn, .slice ai T.ss.length ci] 25))))
    have XB5 := hide ((unhide X2).next (nnext hbA (allocB wA (.cells #[.int .i64 T.z, .slice an T.ns.length cn, .slice ai T.ss.length ci] 25))))
    clear c0 c1 c2 c3 c4 c5 c6 f0 f1 f2 f3 f4 f5 f6 x0 x1 x2 x3 x4 x5 x6 i0 i1 i2 i3 i4 i5 i6 i7 i8 hbA nA sA eA CA
    obtain ⟨o0, o1, o2, o3, o4, o5, o6, o7, o8⟩ := (unhide PB5).t.nine
    obtain ⟨c0, c1, c2, c3, c4, c5, c6⟩ := (unhide PB5).cells
    have f := (unhide PB5).a.f
    have f0 := f 0
    have f1 := f 1
    have f2 := f 2
    have f3 := f 3
    have f4 := f 4
    have f5 := f 5
    have f6 := f 6
    simp only at o0 o1 o2 o3 o4 o5 o6 o7 o8
    clear f
    obtain ⟨x0, x1, x2, x3, x4, x5, x6⟩ := (unhide XB5).seven
    simp only at x0 x1 x2 x3 x4 x5 x6
    by_cases hA : A = 0
    · subst hA
      have HXX := hide (unhide PX (unhide PE))
      go_wp2_with fail
      exact bodyPost_ret (v := .tuple #[txnV ⟨z, 1, rs, [], [], 0, 0⟩, .int .i64 0]) (by simp [results, Tryz.results9, go_sem, txnV, c0, c1, c2, c3, c4, c5, c6]) rfl (givesP_ok (unhide PE) (unhide HXX) rfl (put7_below ⟨z, 1, rs, [], [], 0, 0⟩ (unhide PB5).b (by omega)))
    · have hAb : (A != 0) = true := by simpa using hA
      have HA := hide hA
      clear hA
      go_wp2_with fail
      exact bodyPost_ret (v := .tuple #[txnV t0, .int .i64 A]) (by simp [results, Tryz.results9, go_sem, txnV, t0, c0, c1, c2, c3, c4, c5, c6]) rfl (givesP_no (unhide PE) (unhide HA) rfl (put7_below t0 (unhide PB5).b (by omega)))
  · go_enter Tryz.func9, Tryz.ntmps9
    go_wp2_with fail
    refine (unhide CG _ (unhide P0).b).mono ?_
    rintro e w1 ⟨rfl, hb1⟩
    have P1 := hide ((unhide P0).next hb1)
    obtain ⟨b0, b1, b2, b3, b4, b5, b6, b7, b8⟩ := (unhide P1).t.nine
    simp only at b0 b1 b2 b3 b4 b5 b6 b7 b8
    clear hb1 P0 CG
    go_wp2_with fail
    refine (unhide CZ _).mono ?_
    rintro e w2 ⟨rfl, rfl⟩
    clear CZ
    have X2 := hide (TAt.new w2 ⟨z, 2, rs, [], [], 0, 0⟩)
    have P2 := hide ((unhide P1).next (allocB w2 (.cells #[.int .i64 z, .int .i64 2, .int .i64 rs, .string ⟨#[]⟩, .string ⟨#[]⟩, .int .i64 0, .int .i64 0] 29)))
    simp only at X2
    obtain ⟨d0, d1, d2, d3, d4, d5, d6, d7, d8⟩ := (unhide P2).t.nine
    simp only at d0 d1 d2 d3 d4 d5 d6 d7 d8
    have PE := hide (unhide PA (unhide HF))
    rw [unhide HX] at CA PX PE
    clear PF PA
    generalize appT t _ = T at CA
    generalize appV t _ = V at CA
    generalize appE t _ = A at CA PE
    unfold txnV at CA
    simp only at CA
    obtain ⟨i0, i1, i2, i3, i4, i5, i6, i7, i8⟩ := (unhide P2).t.nine
    obtain ⟨c0, c1, c2, c3, c4, c5, c6⟩ := (unhide P2).cells
    have f := (unhide P2).a.f
    have f0 := f 0
    have f1 := f 1
    have f2 := f 2
    have f3 := f 3
    have f4 := f 4
    have f5 := f 5
    have f6 := f 6
    simp only at i0 i1 i2 i3 i4 i5 i6 i7 i8
    clear f
    obtain ⟨x0, x1, x2, x3, x4, x5, x6⟩ := (unhide X2).seven
    simp only at x0 x1 x2 x3 x4 x5 x6
    go_wp2_with fail
    refine (unhide CA _ (unhide P2).b).mono ?_
    rintro e wA ⟨vnA, vsA, veA, rfl, nA, sA, eA, hbA⟩
    obtain ⟨an, cn, rfl, _⟩ := nA.slice
    obtain ⟨ai, ci, rfl, _⟩ := sA.slice
    obtain ⟨ae, ce, rfl, _⟩ := eA.slice
    have PB5 := hide ((unhide P2).next (nnext hbA (allocB wA (.cells #[.int .i64 T.z, .slice an T.ns.length cn, .slice ai T.ss.length ci] 25))))
    have XB5 := hide ((unhide X2).next (nnext hbA (allocB wA (.cells #[.int .i64 T.z, .slice an T.ns.length cn, .slice ai T.ss.length ci] 25))))
    clear c0 c1 c2 c3 c4 c5 c6 f0 f1 f2 f3 f4 f5 f6 x0 x1 x2 x3 x4 x5 x6 i0 i1 i2 i3 i4 i5 i6 i7 i8 hbA nA sA eA CA
    obtain ⟨o0, o1, o2, o3, o4, o5, o6, o7, o8⟩ := (unhide PB5).t.nine
    obtain ⟨c0, c1, c2, c3, c4, c5, c6⟩ := (unhide PB5).cells
    have f := (unhide PB5).a.f
    have f0 := f 0
    have f1 := f 1
    have f2 := f 2
    have f3 := f 3
    have f4 := f 4
    have f5 := f 5
    have f6 := f 6
    simp only at o0 o1 o2 o3 o4 o5 o6 o7 o8
    clear f
    obtain ⟨x0, x1, x2, x3, x4, x5, x6⟩ := (unhide XB5).seven
    simp only at x0 x1 x2 x3 x4 x5 x6
    by_cases hA : A = 0
    · subst hA
      have HXX := hide (unhide PX (unhide PE))
      go_wp2_with fail
      exact bodyPost_ret (v := .tuple #[txnV ⟨z, 2, rs, [], [], 0, 0⟩, .int .i64 0]) (by simp [results, Tryz.results9, go_sem, txnV, c0, c1, c2, c3, c4, c5, c6]) rfl (givesP_ok (unhide PE) (unhide HXX) rfl (put7_below ⟨z, 2, rs, [], [], 0, 0⟩ (unhide PB5).b (by omega)))
    · have hAb : (A != 0) = true := by simpa using hA
      have HA := hide hA
      clear hA
      go_wp2_with fail
      exact bodyPost_ret (v := .tuple #[txnV t0, .int .i64 A]) (by simp [results, Tryz.results9, go_sem, txnV, t0, c0, c1, c2, c3, c4, c5, c6]) rfl (givesP_no (unhide PE) (unhide HA) rfl (put7_below t0 (unhide PB5).b (by omega)))

set_option maxRecDepth 20000 in
set_option maxHeartbeats 8000000 in
theorem rprepare_kind (t : Tr) (z : Int) (vn vs : Value) (r : Rq) (w : World) (hn : SeqV w vn t.ns) (hs : SeqV w vs t.ss) (hw : WfT t) (hz : t.z ≤ 9223372036854775807) (hzz : z ≤ 9223372036854775807) (hlong : ∀ n ∈ t.ns, n.p.length ≤ 1048576) (hls : t.ss.length * 8 ≤ 140737488351232) (hp : r.p.length ≤ 1048576) (hd : r.d.length ≤ 140737488355328) (hh : headB t z r = true) (ho : r.o < 1 ∨ 5 < r.o) :
    Calls Tryz.prog 9 #[.agg #[.int .i64 t.z, vn, vs], .int .i64 z, rqV r] w (GivesP w t z r) := by
  have CG := hide (fun W (hW : Below w.heap.size w W) => rgoodT_any t vn vs W (hn.next hW) (hs.next hW) hw hz hlong (by omega))
  have CZ := hide (fun W => rgood_any z hzz W)
  obtain ⟨gt, hzg, hr1, hr2⟩ := headB_true.1 hh
  have CO := hide (fun W (hW : Below w.heap.size w W) => risopen_any t.z vn vs t.ss r.s W (hs.next hW) (by omega))
  have CN := hide (fun (p : List UInt8) W (hW : Below w.heap.size w W) => rget_any t vn vs p W gt (hn.next hW))
  have CP := hide (fun W => refGood_any r.p W (by omega))
  have CS := hide (fun W => rsplit_any r.p W (by omega))
  have CA := hide (fun W (hW : Below w.heap.size w W) => rapply_any t (filX t z r) vn vs W (hn.next hW) (hs.next hW) ⟨hw, hz, hlong, by omega, by rw [(filX_heads t z r).1]; exact hzz, filX_p2 t z r hp, by have := filX_d t z r; omega⟩ hls)
  rw [goodT_true.2 gt] at CG
  rw [hzg] at CZ
  obtain ⟨na, nc, rfl⟩ := seq_slice hn
  obtain ⟨sa, sc, rfl⟩ := seq_slice hs
  have PF : Hid (filE t r ≠ 0 → prpE t z r = filE t r) := hide (fun h => prp_fill hh h)
  have PA : Hid (filE t r = 0 → prpE t z r = appE t (filX t z r)) := hide (fun h => prp_app hh h)
  have PX : Hid (prpE t z r = 0 → prpX t z r = filX t z r) := hide (fun h => prpX_ok h)
  unfold GivesR at CA
  unfold nodeV at CN
  obtain ⟨ro, rs, rp, rd, rv, rf⟩ := r
  unfold rqV at *
  simp only at *
  have hd1 : decide (rs < 1) = false := decide_eq_false (by omega)
  have hd2 : decide (2147483648 ≤ rs) = false := decide_eq_false (by omega)
  have P0 := hide (PB.new w t.z (.slice na t.ns.length nc) (.slice sa t.ss.length sc) ⟨ro, rs, rp, rd, rv, rf⟩)
  simp only at P0
  have GT := hide gt
  clear hn hs hw hh hzg gt hr1 hr2
  have HE := hide (unhide PF (by rw [fil_kind (t := t) (r := ⟨ro, rs, rp, rd, rv, rf⟩) ho]; decide))
  rw [fil_kind (t := t) (r := ⟨ro, rs, rp, rd, rv, rf⟩) ho] at HE
  have e1 : (ro == 1) = false := by simp; omega
  have e2 : (ro == 2) = false := by simp; omega
  have e3 : (ro == 3) = false := by simp; omega
  have e4 : (ro == 4) = false := by simp; omega
  have e5 : (ro == 5) = false := by simp; omega
  clear CO CN CP CS CA PF PA PX ho
  go_enter Tryz.func9, Tryz.ntmps9
  go_wp2_with fail
  refine (unhide CG _ (unhide P0).b).mono ?_
  rintro e w1 ⟨rfl, hb1⟩
  have P1 := hide ((unhide P0).next hb1)
  obtain ⟨b0, b1, b2, b3, b4, b5, b6, b7, b8⟩ := (unhide P1).t.nine
  simp only at b0 b1 b2 b3 b4 b5 b6 b7 b8
  clear hb1 P0 CG
  go_wp2_with fail
  refine (unhide CZ _).mono ?_
  rintro e w2 ⟨rfl, rfl⟩
  clear CZ
  have X2 := hide (TAt.new w2 ⟨z, ro, rs, [], [], 0, 0⟩)
  have P2 := hide ((unhide P1).next (allocB w2 (.cells #[.int .i64 z, .int .i64 ro, .int .i64 rs, .string ⟨#[]⟩, .string ⟨#[]⟩, .int .i64 0, .int .i64 0] 29)))
  simp only at X2
  obtain ⟨d0, d1, d2, d3, d4, d5, d6, d7, d8⟩ := (unhide P2).t.nine
  simp only at d0 d1 d2 d3 d4 d5 d6 d7 d8
  obtain ⟨e0, e1, e2, e3, e4, e5, e6, e7, e8⟩ := (unhide P2).t.nine
  obtain ⟨c0, c1, c2, c3, c4, c5, c6⟩ := (unhide P2).cells
  have f := (unhide P2).a.f
  have f0 := f 0
  have f1 := f 1
  have f2 := f 2
  have f3 := f 3
  have f4 := f 4
  have f5 := f 5
  have f6 := f 6
  simp only at e0 e1 e2 e3 e4 e5 e6 e7 e8
  clear f
  go_wp2_with fail
  exact bodyPost_ret (v := .tuple #[txnV t0, .int .i64 4]) (by simp [results, Tryz.results9, go_sem, txnV, t0, c0, c1, c2, c3, c4, c5, c6]) rfl (givesP_no (unhide HE) (by decide) rfl (put7_below t0 (unhide P2).b (by omega)))

end Go.Proofs.YtalnmhgedfgooaaGreatDoor
