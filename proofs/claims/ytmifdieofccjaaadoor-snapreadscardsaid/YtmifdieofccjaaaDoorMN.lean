/-
  aviarykeep's sameTree, of alike trees: the walk.
  aviarykeep's snaps; SnapBack: the walks.
-/
import Derived.Test.YtmifdieofccjaaaDoorMH
import Derived.Test.YtmifdieofccjaaaDoorMM
import Derived.Test.YtmifdieofccjaaaDoorMF
namespace Go.Proofs.YtmifdieofccjaaaDoor
open Go.RowKit

set_option maxRecDepth 20000 in
set_option maxHeartbeats 2000000 in
theorem ksameT_any (t : Tr) (vn vs un us : Value) (w : World) (hn : SeqV w vn t.ns) (hs : SeqV w vs t.ss) (gn : SeqV w un t.ns) (gs : SeqV w us t.ss) (hl : t.ns.length ≤ 140737488355328) (hls : t.ss.length ≤ 140737488355328) :
    Calls Tryd.prog 19 #[.agg #[.int .i64 t.z, vn, vs], .agg #[.int .i64 t.z, un, us]] w fun e w' => e = .returned (.bool true) ∧ Below w.heap.size w w' := by
  have K : ∀ {α : Type} [Lay α] (v : Value) (xs : List α), SeqV w v xs → ∀ W, Below w.heap.size w W → ∀ (i : Nat) (x : α), xs[i]? = some x → ∃ b off c, v = .slice (some ⟨b, off, none⟩) xs.length c ∧ b < w.heap.size ∧ RowAt W b off (cellsL xs) := by
    intro α _ v xs hv W hW i x hx
    obtain ⟨b, off, c, e, hb, hr, _, _⟩ := seq_row hv (by intro h0; rw [h0] at hx; simp at hx)
    exact ⟨b, off, c, e, hb, hr.kept hW hb⟩
  have K1 := hide (K vn t.ns hn)
  have K2 := hide (K un t.ns gn)
  have K3 := hide (K vs t.ss hs)
  have K4 := hide (K us t.ss gs)
  have T0 := hide (TT.new w t.z vn vs un us)
  obtain ⟨na, nc, rfl⟩ := seq_slice hn
  obtain ⟨sa, sc, rfl⟩ := seq_slice hs
  obtain ⟨ma, mc, rfl⟩ := seq_slice gn
  obtain ⟨ra, rc, rfl⟩ := seq_slice gs
  clear hn hs gn gs K
  go_enter Tryd.func19, Tryd.ntmps19
  go_wp2_with fail
  go_loopg [5] t.ns.length (fun kx s5 wr => ∃ k : Nat, s5 = .int .i64 k ∧ k ≤ t.ns.length ∧ t.ns.length - k ≤ kx ∧ Hid (TT w wr t.z (.slice na t.ns.length nc) (.slice sa t.ss.length sc) (.slice ma t.ns.length mc) (.slice ra t.ss.length rc)))
  case atStart => exact ⟨0, rfl, Nat.zero_le _, Nat.le_refl _, T0⟩
  case round =>
    obtain ⟨k, rfl, hk, hg, hT⟩ := hrel
    obtain ⟨c0, c1, c2, c3, c4, c5⟩ := (unhide hT).six
    have hsz := (unhide hT).bl.size
    by_cases hlt : k < t.ns.length
    · obtain ⟨x, hx⟩ : ∃ x, t.ns[k]? = some x := ⟨_, List.getElem?_eq_getElem hlt⟩
      obtain ⟨b1, o1, cc1, he, hb1, q1⟩ := unhide K1 wr (unhide hT).bl k x hx
      simp only [Value.slice.injEq] at he
      obtain ⟨rfl, _, rfl⟩ := he
      obtain ⟨b2, o2, cc2, he, hb2, q2⟩ := unhide K2 wr (unhide hT).bl k x hx
      simp only [Value.slice.injEq] at he
      obtain ⟨rfl, _, rfl⟩ := he
      have d0 := q1.n0 hx
      have d1 := q1.n1 hx
      have d2 := q1.n2 hx
      have d3 := q1.n3 hx
      have d4 := q1.n4 hx
      have d5 := q1.n5 hx
      have d6 := q1.n6 hx
      have d7 := q1.n7 hx
      have d8 := q1.n8 hx
      have r0 := q2.n0 hx
      have r1 := q2.n1 hx
      have r2 := q2.n2 hx
      have r3 := q2.n3 hx
      have r4 := q2.n4 hx
      have r5 := q2.n5 hx
      have r6 := q2.n6 hx
      have r7 := q2.n7 hx
      have r8 := q2.n8 hx
      clear q1 q2 hx
      go_wp2_with fail
      go_region
      go_wp2_with fail
      go_roundg (t.ns.length - (k + 1))
      case measure => omega
      case rel => exact ⟨k + 1, rfl, by omega, Nat.le_refl _, hide ((unhide hT).next (Below.refl _ _).drew)⟩
    · obtain rfl : k = t.ns.length := by omega
      go_wp2_with fail
      go_loopg [6] t.ss.length (fun kx s6 wr => ∃ k : Nat, s6 = .int .i64 k ∧ k ≤ t.ss.length ∧ t.ss.length - k ≤ kx ∧ Hid (TT w wr t.z (.slice na t.ns.length nc) (.slice sa t.ss.length sc) (.slice ma t.ns.length mc) (.slice ra t.ss.length rc)))
      case atStart => exact ⟨0, rfl, Nat.zero_le _, Nat.le_refl _, hT⟩
      case round =>
        obtain ⟨k, rfl, hk, hg, hT⟩ := hrel
        obtain ⟨c0, c1, c2, c3, c4, c5⟩ := (unhide hT).six
        by_cases hlt : k < t.ss.length
        · obtain ⟨x, hx⟩ : ∃ x, t.ss[k]? = some x := ⟨_, List.getElem?_eq_getElem hlt⟩
          obtain ⟨b1, o1, cc1, he, hb1, q1⟩ := unhide K3 wr (unhide hT).bl k x hx
          simp only [Value.slice.injEq] at he
          obtain ⟨rfl, _, rfl⟩ := he
          obtain ⟨b2, o2, cc2, he, hb2, q2⟩ := unhide K4 wr (unhide hT).bl k x hx
          simp only [Value.slice.injEq] at he
          obtain ⟨rfl, _, rfl⟩ := he
          have d0 := q1.i0 hx
          have r0 := q2.i0 hx
          clear q1 q2 hx
          go_wp2_with fail
          go_region
          go_wp2_with fail
          go_roundg (t.ss.length - (k + 1))
          case measure => omega
          case rel => exact ⟨k + 1, rfl, by omega, Nat.le_refl _, hide ((unhide hT).next (Below.refl _ _).drew)⟩
        · obtain rfl : k = t.ss.length := by omega
          go_wp2_with fail
          go_ret
          exact ⟨rfl, (unhide hT).bl⟩


end Go.Proofs.YtmifdieofccjaaaDoor

namespace Go.Proofs.YtmifdieofccjaaaDoor
open Go.RowKit

theorem good_trNew : GoodT trNew := by
  refine ⟨by decide, ⟨List.Pairwise.nil, by simp [trNew]⟩, ⟨by decide, ⟨nroot, [], rfl, rfl, rfl⟩, List.pairwise_singleton _ _, ?_⟩, ?_⟩
  · intro n hn
    obtain rfl : n = nroot := by simpa [trNew] using hn
    refine ⟨by decide, goodB_root, fun h => absurd rfl h, by decide, by decide, by decide, by decide, by decide, by decide, by decide, by decide, ?_, .inl rfl⟩
    show (0 : Int) = kidsN [nroot] [47]
    simp [kidsN, nroot, dirOf_root]
  · intro n hn
    obtain rfl : n = nroot := by simpa [trNew] using hn
    decide
theorem wf_good {t : Tr} (g : GoodT t) : WfT t := by
  refine ⟨fun s hs => by have := g.ses.2 s hs; omega, fun n hn => ?_⟩
  have k := g.nod.ok n hn
  have := goodB_le k.path
  have := k.data
  omega
theorem snap_len (t : Tr) : (snapL t).length = (bodT t).length + 5 := by rw [snapL, List.length_append, be_length, aheadT, List.length_cons]
theorem snap_new : (snapL trNew).length = 81 := by
  rw [snap_len]
  simp [bodT, trNew, numsL, nodsL, nodL, nroot, statI, be_length]
theorem wr_good {t : Tr} (g : GoodT t) : wrS t = snapL t ∧ wrE t = 0 := ⟨by rw [wrS, if_pos (goodT_true.2 g)], by rw [wrE, if_pos (goodT_true.2 g)]⟩
theorem wr_bad {t : Tr} (h : goodT t = false) : wrS t = [] ∧ wrE t = 3 := ⟨by rw [wrS, if_neg (by rw [h]; decide)], by rw [wrE, if_neg (by rw [h]; decide)]⟩

set_option maxRecDepth 20000 in
set_option maxHeartbeats 1000000 in
theorem snaps_true (w : World) : Calls Tryd.prog 17 #[] w fun e w' => e = .returned (.bool true) ∧ Below w.heap.size w w' := by
  have CW := hide (fun (W : World) (vn vs : Value) (hn : SeqV W vn trNew.ns) (hs : SeqV W vs trNew.ss) => swrite_any trNew vn vs W hn hs (wf_good good_trNew))
  rw [(wr_good good_trNew).1, (wr_good good_trNew).2] at CW
  have hl := snap_new
  obtain ⟨S, hS⟩ : ∃ S, snapL trNew = S := ⟨_, rfl⟩
  rw [hS] at CW hl
  clear hS
  have hz : (ByteArray.mk S.toArray).size = 81 := (Lib.size_eq ⟨S.toArray⟩).trans hl
  go_enter Tryd.func17, Tryd.ntmps17
  go_wp2_with fail
  refine (tnew_any _).mono ?_
  rintro e w1 ⟨vn1, vs1, rfl, n1, s1, hb1⟩
  have N1 := hide n1.seq
  have S1 := hide s1.seq
  have B1 := hide hb1
  clear n1 s1 hb1
  go_wp2_with fail
  refine (unhide CW _ _ _ (unhide N1) (unhide S1)).mono ?_
  rintro e w2 ⟨rfl, hb2⟩
  have B2 := hide (nnext (unhide B1) hb2)
  clear hb2 N1 S1 B1 CW
  go_wp2_with fail
  go_ret
  exact ⟨rfl, unhide B2⟩

set_option maxRecDepth 20000 in
set_option maxHeartbeats 4000000 in
theorem snapBack_walk (t : Tr) (vn vs : Value) (w : World) (hn : SeqV w vn t.ns) (hs : SeqV w vs t.ss) (hw : WfT t) (hl : t.ns.length * 88 ≤ 140737488355328) (hls : t.ss.length * 8 ≤ 140737488355328) :
    Calls Tryd.prog 5 #[.agg #[.int .i64 t.z, vn, vs]] w fun e w' => e = .returned (.bool true) ∧ Below w.heap.size w w' := by
  have CO := hide (fun W (hW : Below w.heap.size w W) => own_any t vn vs W (hn.next hW) (hs.next hW) hl hls)
  have CW := hide (fun (W : World) (vn vs : Value) (hn : SeqV W vn t.ns) (hs : SeqV W vs t.ss) => swrite_any t vn vs W hn hs hw)
  have CG := hide (fun W (hW : Below w.heap.size w W) => tgood_any t vn vs W (hn.next hW) (hs.next hW) hw)
  have CM := hide (fun W (hW : Below w.heap.size w W) (un us : Value) (gn : SeqV W un t.ns) (gs : SeqV W us t.ss) => ksameT_any t un us vn vs W gn gs (hn.next hW) (hs.next hW) (by omega) (by omega))
  unfold GivesT at CO
  have HT := hide (heap_alloc_new w (.cells #[.int .i64 t.z, vn, vs] 25))
  obtain ⟨na, nc, rfl⟩ := seq_slice hn
  obtain ⟨sa, sc, rfl⟩ := seq_slice hs
  clear hn hs
  cases hg : goodT t with
  | true =>
    have g := goodT_true.1 hg
    rw [(wr_good g).1, (wr_good g).2] at CW
    have lb := bod_len g
    have ls := snap_len t
    have CR := hide (fun W => sread_any (snapL t) W (by omega))
    unfold ReadG at CR
    rw [(rd_back g).1, (rd_back g).2] at CR
    obtain ⟨S, hS⟩ : ∃ S, snapL t = S := ⟨_, rfl⟩
    rw [hS] at CW CR
    clear hS g hg lb ls CG
    go_enter Tryd.func5, Tryd.ntmps5
    go_wp2_with fail
    refine (unhide CO _ (allocB _ _)).mono ?_
    rintro e w1 ⟨vn1, vs1, rfl, n1, s1, hb1⟩
    have N1 := hide n1.seq
    have S1 := hide s1.seq
    have B1 := hide (nbox_then hb1)
    have T1 := hide ((hb1.block _ (by simp)).trans (unhide HT))
    have hq1 : w.heap.size < w1.heap.size := (Array.getElem?_eq_some_iff.1 (unhide T1)).1
    clear n1 s1 hb1 CO HT
    go_wp2_with fail
    refine (unhide CW _ _ _ (unhide N1) (unhide S1)).mono ?_
    rintro e w2 ⟨rfl, hb2⟩
    have B2 := hide (nnext (unhide B1) hb2)
    have T2 := hide ((hb2.block _ hq1).trans (unhide T1))
    clear hb2 N1 S1 B1 CW T1
    go_wp2_with fail
    refine (snaps_true _).mono ?_
    rintro e w3 ⟨rfl, hb3⟩
    have B3 := hide (nnext (unhide B2) hb3)
    have T3 := hide ((hb3.block _ (Array.getElem?_eq_some_iff.1 (unhide T2)).1).trans (unhide T2))
    clear hb3 B2 T2
    go_wp2_with fail
    refine (unhide CR _).mono ?_
    rintro e w4 ⟨vn4, vs4, rfl, n4, s4, hb4⟩
    obtain ⟨an, cn, rfl, _⟩ := n4.slice
    obtain ⟨ai, ci, rfl, _⟩ := s4.slice
    have N4 := hide (n4.seq.next (allocB w4 (.cells #[.int .i64 t.z, .slice an t.ns.length cn, .slice ai t.ss.length ci] 25)))
    have S4 := hide (s4.seq.next (allocB w4 (.cells #[.int .i64 t.z, .slice an t.ns.length cn, .slice ai t.ss.length ci] 25)))
    have B4 := hide (nnext (nnext (unhide B3) hb4) (allocB w4 (.cells #[.int .i64 t.z, .slice an t.ns.length cn, .slice ai t.ss.length ci] 25)))
    have hq4 := (Array.getElem?_eq_some_iff.1 ((hb4.block _ (Array.getElem?_eq_some_iff.1 (unhide T3)).1).trans (unhide T3))).1
    have T4 := hide (((allocB w4 (.cells #[.int .i64 t.z, .slice an t.ns.length cn, .slice ai t.ss.length ci] 25)).block _ hq4).trans ((hb4.block _ (Array.getElem?_eq_some_iff.1 (unhide T3)).1).trans (unhide T3)))
    have d0 : (w4.alloc (.cells #[.int .i64 t.z, .slice an t.ns.length cn, .slice ai t.ss.length ci] 25)).cell? ⟨w.heap.size, 0, none⟩ = some (.int .i64 t.z) := by have h := unhide T4; simp only [World.cell?, h]; rfl
    have d1 : (w4.alloc (.cells #[.int .i64 t.z, .slice an t.ns.length cn, .slice ai t.ss.length ci] 25)).cell? ⟨w.heap.size, 1, none⟩ = some (.slice na t.ns.length nc) := by have h := unhide T4; simp only [World.cell?, h]; rfl
    have d2 : (w4.alloc (.cells #[.int .i64 t.z, .slice an t.ns.length cn, .slice ai t.ss.length ci] 25)).cell? ⟨w.heap.size, 2, none⟩ = some (.slice sa t.ss.length sc) := by have h := unhide T4; simp only [World.cell?, h]; rfl
    clear n4 s4 hb4 CR T3 B3 T4
    go_wp2_with fail
    refine (unhide CM _ (unhide B4) _ _ (unhide N4) (unhide S4)).mono ?_
    rintro e w5 ⟨rfl, hb5⟩
    have B5 := hide (nnext (unhide B4) hb5)
    clear hb5
    go_wp2_with fail
    go_ret
    exact ⟨rfl, unhide B5⟩
  | false =>
    rw [(wr_bad hg).1, (wr_bad hg).2] at CW
    rw [hg] at CG
    clear CM
    go_enter Tryd.func5, Tryd.ntmps5
    go_wp2_with fail
    refine (unhide CO _ (allocB _ _)).mono ?_
    rintro e w1 ⟨vn1, vs1, rfl, n1, s1, hb1⟩
    have N1 := hide n1.seq
    have S1 := hide s1.seq
    have B1 := hide (nbox_then hb1)
    have T1 := hide ((hb1.block _ (by simp)).trans (unhide HT))
    have hq1 : w.heap.size < w1.heap.size := (Array.getElem?_eq_some_iff.1 (unhide T1)).1
    clear n1 s1 hb1 CO HT
    go_wp2_with fail
    refine (unhide CW _ _ _ (unhide N1) (unhide S1)).mono ?_
    rintro e w2 ⟨rfl, hb2⟩
    have B2 := hide (nnext (unhide B1) hb2)
    have T2 := hide ((hb2.block _ hq1).trans (unhide T1))
    have d0 : w2.cell? ⟨w.heap.size, 0, none⟩ = some (.int .i64 t.z) := by have h := unhide T2; simp [World.cell?, h]
    have d1 : w2.cell? ⟨w.heap.size, 1, none⟩ = some (.slice na t.ns.length nc) := by have h := unhide T2; simp [World.cell?, h]
    have d2 : w2.cell? ⟨w.heap.size, 2, none⟩ = some (.slice sa t.ss.length sc) := by have h := unhide T2; simp [World.cell?, h]
    clear hb2 N1 S1 B1 CW T1
    go_wp2_with fail
    refine (unhide CG _ (unhide B2)).mono ?_
    rintro e w3 ⟨rfl, hb3⟩
    have B3 := hide (nnext (unhide B2) hb3)
    clear hb3 B2 CG
    go_wp2_with fail
    refine (snaps_true _).mono ?_
    rintro e w4 ⟨rfl, hb4⟩
    have B4 := hide (nnext (unhide B3) hb4)
    clear hb4 B3
    go_wp2_with fail
    go_ret
    exact ⟨rfl, unhide B4⟩
end Go.Proofs.YtmifdieofccjaaaDoor
