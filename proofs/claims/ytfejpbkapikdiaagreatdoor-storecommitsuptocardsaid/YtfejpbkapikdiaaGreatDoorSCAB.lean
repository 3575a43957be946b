/-
  aviaryref's Apply: its answer where all went well: words on memory.
  aviaryref's Apply, of a delete that is let in: the walk.
-/
import Derived.Test.YtfejpbkapikdiaaGreatDoorSCAA
namespace Go.Proofs.YtfejpbkapikdiaaGreatDoor
open Go.RowKit

theorem own_from {α : Type} [Lay α] {W : World} {B C : Nat} {v : Value} {xs : List α} (h : OwnS W C v xs) (hB : ∀ k, v.ownBlock = some k → B ≤ k) : OwnS W B v xs := by
  rcases h with h | ⟨g, cap, rfl, _, h⟩
  · exact .inl h
  · exact .inr ⟨g, cap, rfl, hB g rfl, h⟩
theorem appE_six {t : Tr} {x : WTxn} {ns : List Nd} (a : Adm t x) (hc : chgE t x = 0) (hN : chgN t x = ns) (h : ∃ y ∈ ns, 2147483647 < y.k) : appE t x = 6 := by
  rw [appE, if_neg (by rw [a.zero]; decide), if_neg (by rw [hc]; decide), hN, if_pos (fullN_true.2 h)]
theorem appE_ok {t : Tr} {x : WTxn} {ns : List Nd} (a : Adm t x) (hc : chgE t x = 0) (hN : chgN t x = ns) (h : ∀ y ∈ ns, y.k ≤ 2147483647) : appE t x = 0 := by
  rw [appE, if_neg (by rw [a.zero]; decide), if_neg (by rw [hc]; decide), hN, if_neg (by rw [fullN_false.2 h]; decide)]
theorem fin_ok {w W : World} {t : Tr} {vn vs : Value} {x : WTxn} {m bo be bp : Nat} {un us ue : Value} {ns : List Nd} {ss : List Int} {es : List Ev} (R : RS w W t vn vs x m bo be bp un us ue ns ss es) (hE : appE t x = 0) (hN : chgN t x = ns) (hS : chgS t x = ss) (hV : chgV t x = es) :
    GivesR w t x (.returned (.tuple #[.agg #[.int .i64 x.z, un, us], ue, .int .i64 0])) (((W.setCell ⟨w.heap.size + 2, 0, none⟩ (.int .i64 x.z)).setCell ⟨w.heap.size + 2, 1, none⟩ un).setCell ⟨w.heap.size + 2, 2, none⟩ us).drew := by
  have hm := R.hm
  have g := R.rg
  have h1 : appT t x = ⟨x.z, ns, ss⟩ := by rw [appT, if_pos hE, hN, hS]
  have h2 : appV t x = es := by rw [appV, if_pos hE, hV]
  have kn : ∀ k, un.ownBlock = some k → w.heap.size ≤ k ∧ k ≠ w.heap.size + 2 := fun k hk => by have := (g.kn k hk).1.1; omega
  have ks : ∀ k, us.ownBlock = some k → w.heap.size ≤ k ∧ k ≠ w.heap.size + 2 := fun k hk => by have := (g.ks k hk).1.1; omega
  have ke : ∀ k, ue.ownBlock = some k → w.heap.size ≤ k ∧ k ≠ w.heap.size + 2 := fun k hk => by have := (g.ke k hk).1.1; omega
  refine ⟨un, us, ue, by rw [h1, hE], ?_, ?_, ?_, ?_⟩
  · rw [h1]
    exact own_from ((((g.n.other (fun e => (kn _ e).2 rfl) _).other (fun e => (kn _ e).2 rfl) _).other (fun e => (kn _ e).2 rfl) _).next (Below.refl _ _).drew) (fun k hk => (kn k hk).1)
  · rw [h1]
    exact own_from ((((g.s.other (fun e => (ks _ e).2 rfl) _).other (fun e => (ks _ e).2 rfl) _).other (fun e => (ks _ e).2 rfl) _).next (Below.refl _ _).drew) (fun k hk => (ks k hk).1)
  · rw [h2]
    exact own_from ((((g.e.other (fun e => (ke _ e).2 rfl) _).other (fun e => (ke _ e).2 rfl) _).other (fun e => (ke _ e).2 rfl) _).next (Below.refl _ _).drew) (fun k hk => (ke k hk).1)
  · exact (((R.rb.b.setCell (by show w.heap.size ≤ w.heap.size + 2; omega) _).setCell (by show w.heap.size ≤ w.heap.size + 2; omega) _).setCell (by show w.heap.size ≤ w.heap.size + 2; omega) _).drew

end Go.Proofs.YtfejpbkapikdiaaGreatDoor

namespace Go.Proofs.YtfejpbkapikdiaaGreatDoor
open Go.RowKit

set_option maxRecDepth 20000 in
set_option maxHeartbeats 4000000 in
theorem rdel_ok (t : Tr) (x : WTxn) (vn vs : Value) (w : World) (hn : SeqV w vn t.ns) (hs : SeqV w vs t.ss) (ar : Args t x) (ad : Adm t x) (ho : x.o = 4) (A B : List Nd) (n : Nd) (T : NThere t.ns A n B x.p) (hk : n.n = 0) (A' B' : List Nd) (u : Nd) (U : NThere (A ++ B) A' u B' (dirOf x.p)) (huk : 0 ≤ u.k ∧ u.k ≤ 2147483647) (hun : 0 ≤ u.n ∧ u.n ≤ 1000) (hls : t.ss.length * 8 ≤ 140737488351232) (hchg : chgE t x = 0) :
    Calls Tryz.prog 17 #[.agg #[.int .i64 t.z, vn, vs], txnV x] w (GivesR w t x) := by
  have g := goodT_true.1 ad.good
  have hlf := g.nod.few
  have hco : decide (x.s ∈ t.ss) = true := by rw [ad.opn, ho]; decide
  have CG := hide (fun W (hW : Below w.heap.size w W) => rgoodT_any t vn vs W (hn.next hW) (hs.next hW) ar.wf ar.z ar.long ar.ss)
  rw [ad.good] at CG
  have CX := hide (fun W => rgd_any x W ar.xz ar.xp ar.xd)
  rw [ad.txn] at CX
  have CI := hide (fun W (hW : Below w.heap.size w W) => risopen_any t.z vn vs t.ss x.s W (hs.next hW) ar.ss)
  rw [hco] at CI
  have CS := hide (fun W => rsplit_any x.p W ar.xp)
  have CN1 := hide (fun W (hW : Below w.heap.size w W) => rnode_at t.z vn vs t.ns x.p A.length n W (hn.next hW) (by omega) (at_there T))
  have CN2 := hide (fun W (hW : Below w.heap.size w W) => rnode_ex t vn vs (dirOf x.p) W (hn.next hW) g)
  have hzn : ¬ x.z ≤ t.z := ad.ord
  have HO := hide ho
  have CC := hide (fun W (hW : Below w.heap.size w W) => rcopyT_any t vn vs W (hn.next hW) (hs.next hW) (by omega) (by omega))
  have AD := hide ad
  have HXP := hide ar.xp
  have T0 := hide (RB.new w t.z vn vs x)
  obtain ⟨rb, ro, rcap, hre, hrb, hrow, _, _⟩ := seq_row hn (by rw [T.eq]; simp)
  have HROW := hide (fun W (hW : Below w.heap.size w W) => hrow.kept hW hrb)
  have HAT := hide (show t.ns[A.length]? = some n by rw [T.eq]; exact nat_at _ _ _)
  have hil : (A.length : Int) < (t.ns.length : Int) := by have h9 := (List.getElem?_eq_some_iff.1 (unhide HAT)).1; omega
  obtain ⟨na, nc, rfl⟩ := seq_slice hn
  obtain ⟨sa, sc, rfl⟩ := seq_slice hs
  unfold txnV at CX
  unfold txnV
  rw [unhide HO] at CX
  clear hn hs ar ad g ho hco
  simp only [Value.slice.injEq] at hre
  obtain ⟨rfl, _, rfl⟩ := hre
  clear hrow
  go_enter Tryz.func17, Tryz.ntmps17
  go_wp2_with fail
  refine (unhide CG _ (unhide T0).b).mono ?_
  rintro e w1 ⟨rfl, hb1⟩
  have B1 := hide ((unhide T0).next hb1)
  obtain ⟨t0, t1, t2⟩ := (unhide B1).tc
  obtain ⟨x0, x1, x2, x3, x4, x5, x6⟩ := (unhide B1).xc
  rw [unhide HO] at x1
  have hl1 := (unhide B1).lt
  have hm1 : w.heap.size + 1 < w1.heap.size := by omega
  have hp1 : w.heap.size < w1.heap.size := by omega
  clear hb1
  go_wp2_with fail
  refine (unhide CX _).mono ?_
  rintro e w2 ⟨rfl, hb2⟩
  have B2 := hide ((unhide B1).next hb2)
  obtain ⟨t0, t1, t2⟩ := (unhide B2).tc
  obtain ⟨x0, x1, x2, x3, x4, x5, x6⟩ := (unhide B2).xc
  rw [unhide HO] at x1
  have hl2 := (unhide B2).lt
  have hm2 : w.heap.size + 1 < w2.heap.size := by omega
  have hp2 : w.heap.size < w2.heap.size := by omega
  clear hb2
  go_wp2_with fail
  refine (unhide CI _ (unhide B2).b).mono ?_
  rintro e w3 ⟨rfl, hb3⟩
  have B3 := hide ((unhide B2).next hb3)
  obtain ⟨t0, t1, t2⟩ := (unhide B3).tc
  obtain ⟨x0, x1, x2, x3, x4, x5, x6⟩ := (unhide B3).xc
  rw [unhide HO] at x1
  have hl3 := (unhide B3).lt
  have hm3 : w.heap.size + 1 < w3.heap.size := by omega
  have hp3 : w.heap.size < w3.heap.size := by omega
  clear hb3
  go_wp2_with fail
  refine (unhide CN1 _ (unhide B3).b).mono ?_
  rintro e w4 ⟨rfl, hb4⟩
  have B4 := hide ((unhide B3).next hb4)
  obtain ⟨t0, t1, t2⟩ := (unhide B4).tc
  obtain ⟨x0, x1, x2, x3, x4, x5, x6⟩ := (unhide B4).xc
  rw [unhide HO] at x1
  have hl4 := (unhide B4).lt
  have hm4 : w.heap.size + 1 < w4.heap.size := by omega
  have hp4 : w.heap.size < w4.heap.size := by omega
  clear hb4
  go_wp2_with fail
  refine (unhide CS _).mono ?_
  rintro e w5 ⟨rfl, hb5⟩
  have B5 := hide ((unhide B4).next hb5)
  obtain ⟨t0, t1, t2⟩ := (unhide B5).tc
  obtain ⟨x0, x1, x2, x3, x4, x5, x6⟩ := (unhide B5).xc
  rw [unhide HO] at x1
  have hl5 := (unhide B5).lt
  have hm5 : w.heap.size + 1 < w5.heap.size := by omega
  have hp5 : w.heap.size < w5.heap.size := by omega
  clear hb5
  go_wp2_with fail
  refine (unhide CN2 _ (unhide B5).b).mono ?_
  rintro e w6 ⟨j6, rfl, hb6⟩
  have B6 := hide ((unhide B5).next hb6)
  obtain ⟨t0, t1, t2⟩ := (unhide B6).tc
  obtain ⟨x0, x1, x2, x3, x4, x5, x6⟩ := (unhide B6).xc
  rw [unhide HO] at x1
  have hl6 := (unhide B6).lt
  have hm6 : w.heap.size + 1 < w6.heap.size := by omega
  have hp6 : w.heap.size < w6.heap.size := by omega
  clear hb6
  have n8 := (unhide HROW w6 (unhide B6).b).n8 (unhide HAT)
  rw [hk] at n8
  go_wp2_with fail
  refine (unhide CC _ (unhide B6).b).mono ?_
  rintro e w7 ⟨un, us, rfl, hn7, hs7, hb7⟩
  have B7 := hide ((unhide B6).next hb7)
  obtain ⟨t0, t1, t2⟩ := (unhide B7).tc
  obtain ⟨x0, x1, x2, x3, x4, x5, x6⟩ := (unhide B7).xc
  rw [unhide HO] at x1
  have hl7 := (unhide B7).lt
  have hm7 : w.heap.size + 1 < w7.heap.size := by omega
  have hp7 : w.heap.size < w7.heap.size := by omega
  obtain ⟨una, unc, rfl, _⟩ := hn7.slice
  obtain ⟨usa, usc, rfl, _⟩ := hs7.slice
  have q1 : w.heap.size + 1 ≠ w7.heap.size := by omega
  have q0 : w.heap.size ≠ w7.heap.size := by omega
  have q2 : w.heap.size + 2 ≠ w7.heap.size := by omega
  have h67 := hb7.size
  have R0 := hide (RS.new (unhide B6) hb7 hn7 hs7)
  clear hb7 hn7 hs7
  go_upto_region 44 with fail
  obtain ⟨W8, hW8⟩ : ∃ W8, (((w7.alloc (.cells #[.int .i64 x.z, .slice una t.ns.length unc, .slice usa t.ss.length usc] 31)).alloc (.cells #[.slice none 0 0] 46)).alloc (.cells #[.func (.func 49) #[] #[.pointer (some ⟨w7.heap.size, 0, none⟩), .pointer (some ⟨w.heap.size + 1, 0, none⟩), .pointer (some ⟨w7.heap.size + 1, 0, none⟩)]] 99)) = W8 := ⟨_, rfl⟩
  unfold parV at R0
  rw [hW8] at R0
  rw [hW8]
  have hs8 : w7.heap.size + 3 = W8.heap.size := by rw [← hW8]; simp
  have hl8 : w7.heap.size + 2 < W8.heap.size := by omega
  obtain ⟨m, hm⟩ : ∃ m, w6.heap.size = m := ⟨_, rfl⟩
  obtain ⟨bo, hbo⟩ : ∃ bo, w7.heap.size = bo := ⟨_, rfl⟩
  rw [hm, hbo] at R0
  have hmW : m ≤ W8.heap.size := by omega
  have hmw : w.heap.size + 3 ≤ m := by omega
  have hbm : m ≤ bo := by omega
  have HBO := hide hbo
  rw [hbo]
  clear hW8 hs8 hm hbo q0 q1 q2
  have R8 := hide (unhide R0)
  obtain ⟨x0, x1, x2, x3, x4, x5, x6⟩ := (unhide R8).rb.xc
  rw [unhide HO] at x1
  obtain ⟨t0, t1, t2⟩ := (unhide R8).rb.tc
  have GN := hide (rgone_any (FB m (bo + 2)) bo (bo + 1) (w.heap.size + 1) (bo + 2) x.z _ _ _ t.ns A B A' B' n u t.ss [] x.p x.z W8 (unhide R8).rg ((unhide R8).free hmW) x0 (by omega) (fun h => by have := h.1; omega) (by have := (unhide R8).pcell.1; exact this) (unhide R8).pcell.2 (fun h => h.2 rfl) T U hlf ⟨huk.1, by omega⟩ hun (unhide HXP) (by simp))
  have HNL : Hid ((rmN x.z t.ns x.p).length ≤ 400) := hide (by rw [rmN, bumpAt, List.length_map]; exact Nat.le_trans (List.length_filter_le _ _) hlf)
  have C1 : Hid (chgN t x = rmN x.z t.ns x.p) := hide (by rw [chgN, unhide HO]; rfl)
  have C2 : Hid (chgS t x = t.ss) := hide (by rw [chgS, unhide HO]; rfl)
  have C3 : Hid (chgV t x = [⟨2, x.p⟩, ⟨4, dirOf x.p⟩]) := hide (by rw [chgV, unhide HO]; rfl)
  have E6 := hide (fun h => appE_six (unhide AD) hchg (unhide C1) h)
  have E0 := hide (fun h => appE_ok (unhide AD) hchg (unhide C1) h)
  obtain ⟨NS, hNS⟩ : ∃ NS, rmN x.z t.ns x.p = NS := ⟨_, rfl⟩
  rw [hNS] at GN HNL C1 E6 E0
  clear T U hchg hNS n8 hk
  go_wp2_with fail
  refine (unhide GN).mono ?_
  rintro e w9 ⟨rfl, vn9, ve9, g9, t9⟩
  have R9 := hide ((unhide R8).step t9 g9)
  rw [List.nil_append] at R9
  clear g9 t9
  have g9 := (unhide R9).rg
  have k1 := g9.c1
  have hNl := unhide HNL
  obtain ⟨ua, uc, rfl, _⟩ := g9.n.slice
  have KR : Hid (∀ W, Below w9.heap.size w9 W → ∀ (k : Nat) (y : Nd), NS[k]? = some y → ∃ b, ua = some ⟨b, 0, none⟩ ∧ b < W.heap.size ∧ RowAt W b 0 (cellsL NS)) := hide (fun W hW k y hy => by
    rcases (g9.n.next hW) with ⟨_, h0⟩ | ⟨q, cap, e, _, h1⟩
    · rw [h0] at hy; simp at hy
    · simp only [Value.slice.injEq] at e
      exact ⟨q, e.1, h1.lt, h1.row⟩)
  have hlo := g9.lo
  clear g9
  go_wp2_with fail
  go_loopg [406] NS.length (fun kx s406 wr => ∃ k : Nat, s406 = .int .i64 k ∧ k ≤ NS.length ∧ NS.length - k ≤ kx ∧ Hid (∀ i y, i < k → NS[i]? = some y → y.k ≤ 2147483647) ∧ Hid (Below w9.heap.size w9 wr))
  case atStart => exact ⟨0, rfl, Nat.zero_le _, Nat.le_refl _, hide (fun i y hi => absurd hi (by omega)), hide (Below.refl _ _)⟩
  case round =>
    obtain ⟨k, rfl, hk', hgk, hno, hB⟩ := hrel
    by_cases hlt : k < NS.length
    · obtain ⟨y, hy⟩ : ∃ y, NS[k]? = some y := ⟨_, List.getElem?_eq_getElem hlt⟩
      obtain ⟨b, rfl, hb, q⟩ := unhide KR wr (unhide hB) k y hy
      have d0 := q.n0 hy
      have d1 := q.n1 hy
      have d2 := q.n2 hy
      have d3 := q.n3 hy
      have d4 := q.n4 hy
      have d5 := q.n5 hy
      have d6 := q.n6 hy
      have d7 := q.n7 hy
      have d8 := q.n8 hy
      simp only [Nat.zero_add] at d0 d1 d2 d3 d4 d5 d6 d7 d8
      have HA := hide (nnext (unhide hB) (allocB wr (.cells #[.string ⟨y.p.toArray⟩, .string ⟨y.d.toArray⟩, .int .i64 y.c, .int .i64 y.m, .int .i64 y.q, .int .i64 y.v, .int .i64 y.k, .int .i64 y.o, .int .i64 y.n] 75)))
      by_cases hyk : y.k ≤ 2147483647
      · have hyn : ¬ ((2147483648 : Int) ≤ y.k) := by omega
        have HNK : Hid (∀ i z, i < k + 1 → NS[i]? = some z → z.k ≤ 2147483647) := hide (fun i z hi hz => by
          by_cases h : i = k
          · subst h; rw [hy] at hz; cases hz; exact hyk
          · exact unhide hno i z (by omega) hz)
        clear q hy
        go_wp2_with fail
        go_roundg (NS.length - (k + 1))
        case measure => omega
        case rel => exact ⟨k + 1, rfl, by omega, Nat.le_refl _, HNK, HA⟩
      · have hyn : (2147483648 : Int) ≤ y.k := by omega
        have HE6 := hide (unhide E6 ⟨y, List.mem_of_getElem? hy, by omega⟩)
        have BX := hide ((unhide R9).rb.next (unhide HA))
        clear q hy
        go_wp2_with fail
        refine (rno_any 6 _).mono ?_
        rintro e wE ⟨rfl, hbE⟩
        have BE := hide ((unhide BX).next (by first | exact hbE | exact nbelow_drew hbE))
        obtain ⟨⟨r0, r1, r2⟩, f0, f1, f2⟩ := (unhide BE).rc
        have s0 := nset_same r0
        have s1 := nset_same r1
        have s2 := nset_same r2
        have hlE := (unhide BE).lt
        clear hbE
        go_wp2_with fail
        exact bodyPost_ret (v := .tuple #[.agg #[.int .i64 0, .slice none 0 0, .slice none 0 0], .slice none 0 0, .int .i64 6]) (by simp [results, Tryz.results17, go_sem, r0, r1, r2]) rfl (givesR_no (unhide HE6) (by decide) rfl (unhide BE).b)
    · obtain rfl : k = NS.length := by omega
      have HE0 := hide (unhide E0 (fun y hy => by
        obtain ⟨i, hi⟩ := List.getElem?_of_mem hy
        exact unhide hno i y (List.getElem?_eq_some_iff.1 hi).1 hi))
      have RW := (unhide R9).next (unhide hB)
      have e0 := RW.rg.c0
      have e1 := RW.rg.c1
      have e2 := RW.rg.c2
      have ee := RW.rg.ce
      obtain ⟨⟨r0, r1, r2⟩, f0, f1, f2⟩ := RW.rb.rc
      have hlr := RW.rb.lt
      have hlo2 := RW.rg.lo
      have hle2 := RW.rg.le
      have hm9 := RW.hm
      have hbo2 : bo ≠ w.heap.size + 2 := by have := RW.rg.fo.1; omega
      have hbe2 : bo + 1 ≠ w.heap.size + 2 := by have := RW.rg.fv.1; omega
      have FIN := hide (fin_ok RW (unhide HE0) (unhide C1) (unhide C2) (unhide C3))
      obtain ⟨ea, ec, rfl, _⟩ := RW.rg.e.slice

      clear RW
      go_wp2_with fail
      go_region
      all_goals go_wp2_with fail
      all_goals exact bodyPost_ret (v := .tuple #[.agg #[.int .i64 x.z, .slice ua NS.length uc, .slice usa t.ss.length usc], .slice ea 2 ec, .int .i64 0]) (by simp [results, Tryz.results17, go_sem, r0, r1, r2]) rfl (unhide FIN)

end Go.Proofs.YtfejpbkapikdiaaGreatDoor
