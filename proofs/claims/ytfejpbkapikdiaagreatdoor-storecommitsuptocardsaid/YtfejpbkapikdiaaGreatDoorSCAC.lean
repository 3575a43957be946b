/-
  aviaryref's Apply: setting: the walk.
-/
import Derived.Test.YtfejpbkapikdiaaGreatDoorSCAB
namespace Go.Proofs.YtfejpbkapikdiaaGreatDoor
open Go.RowKit

theorem wpList_app_ev0 {w : World} {ops : Array Oper} {rest : List Oper} {o : Oper} {a : Act} {Q : Exit → Act → World → Prop} (hgd : o.guard = none) (s x : Operand)
    (ho : o.op = .call { callee := .builtin .append, args := #[s, x], argTypes := #[46, 46] })
    (hs : a.eval s = .slice none 0 0) (q : Nat) (hx : a.eval x = .slice (some ⟨q, 0, none⟩) 1 1) (t : Ev) (hnews : OneR w q t)
    (h : ∀ a' c' w', OwnS w' 0 (.slice a' 1 c') [t] → w.grownBy w' none → ((Value.slice a' 1 c').ownBlock = none ∨ (Value.slice a' 1 c').ownBlock = some w.heap.size) → wpList Tryz.prog ops Q rest (a.put o.dst (.slice a' 1 c')) w') :
    wpList Tryz.prog ops Q (o :: rest) a w :=
  wpList_app_ev1 hgd s x ho (.slice none 0 0) [] hs (.inl ⟨rfl, rfl⟩) q hx t hnews (by simp) h

set_option maxRecDepth 20000 in
set_option maxHeartbeats 4000000 in
theorem rset_ok (t : Tr) (x : WTxn) (vn vs : Value) (w : World) (hn : SeqV w vn t.ns) (hs : SeqV w vs t.ss) (ar : Args t x) (ad : Adm t x) (ho : x.o = 5) (A B : List Nd) (n : Nd) (T : NThere t.ns A n B x.p) (hv : x.v = n.v + 1) (hv0 : 0 ≤ n.v ∧ n.v ≤ 2147483647) (hls : t.ss.length * 8 ≤ 140737488351232) (hchg : chgE t x = 0) :
    Calls Tryz.prog 17 #[.agg #[.int .i64 t.z, vn, vs], txnV x] w (GivesR w t x) := by
  have g := goodT_true.1 ad.good
  have hlf := g.nod.few
  have hco : decide (x.s ∈ t.ss) = true := by rw [ad.opn, ho]; decide
  have CG := hide (fun W (hW : Below w.heap.size w W) => rgoodT_any t vn vs W (hn.next hW) (hs.next hW) ar.wf ar.z ar.long ar.ss)
  rw [ad.good] at CG
  have CX := hide (fun W => rgd_any x W ar.xz ar.xp ar.xd)
  rw [ad.txn] at CX
  have CI := hide (fun W (hW : Below w.heap.size w W) => risopen_any t.z vn vs t.ss x.s W (hs.next hW) ar.ss)
  rw [hco] at CI
  have CS := hide (fun W => rsplit_any x.p W ar.xp)
  have CN1 := hide (fun W (hW : Below w.heap.size w W) => rnode_at t.z vn vs t.ns x.p A.length n W (hn.next hW) (by omega) (at_there T))
  have CN2 := hide (fun W (hW : Below w.heap.size w W) => rnode_ex t vn vs (dirOf x.p) W (hn.next hW) g)
  have hzn : ¬ x.z ≤ t.z := ad.ord
  have HO := hide ho
  have CC := hide (fun W (hW : Below w.heap.size w W) => rcopyT_any t vn vs W (hn.next hW) (hs.next hW) (by omega) (by omega))
  have AD := hide ad
  have HXP := hide ar.xp
  have T0 := hide (RB.new w t.z vn vs x)
  obtain ⟨rb, ro, rcap, hre, hrb, hrow, _, _⟩ := seq_row hn (by rw [T.eq]; simp)
  have HROW := hide (fun W (hW : Below w.heap.size w W) => hrow.kept hW hrb)
  have HAT := hide (show t.ns[A.length]? = some n by rw [T.eq]; exact nat_at _ _ _)
  have hil : (A.length : Int) < (t.ns.length : Int) := by have h9 := (List.getElem?_eq_some_iff.1 (unhide HAT)).1; omega
  have hvb : (x.v == n.v + 1) = true := by simpa using hv
  have hvn : (x.v != n.v + 1) = false := by simpa using hv
  have hv1 := hv0.1
  have hv2 := hv0.2
  clear hv hv0
  obtain ⟨na, nc, rfl⟩ := seq_slice hn
  obtain ⟨sa, sc, rfl⟩ := seq_slice hs
  unfold txnV at CX
  unfold txnV
  rw [unhide HO] at CX
  clear hn hs ar ad g ho hco
  simp only [Value.slice.injEq] at hre
  obtain ⟨rfl, _, rfl⟩ := hre
  clear hrow
  go_enter Tryz.func17, Tryz.ntmps17
  go_wp2_with fail
  refine (unhide CG _ (unhide T0).b).mono ?_
  rintro e w1 ⟨rfl, hb1⟩
  have B1 := hide ((unhide T0).next hb1)
  obtain ⟨t0, t1, t2⟩ := (unhide B1).tc
  obtain ⟨x0, x1, x2, x3, x4, x5, x6⟩ := (unhide B1).xc
  rw [unhide HO] at x1
  have hl1 := (unhide B1).lt
  have hm1 : w.heap.size + 1 < w1.heap.size := by omega
  have hp1 : w.heap.size < w1.heap.size := by omega
  clear hb1
  go_wp2_with fail
  refine (unhide CX _).mono ?_
  rintro e w2 ⟨rfl, hb2⟩
  have B2 := hide ((unhide B1).next hb2)
  obtain ⟨t0, t1, t2⟩ := (unhide B2).tc
  obtain ⟨x0, x1, x2, x3, x4, x5, x6⟩ := (unhide B2).xc
  rw [unhide HO] at x1
  have hl2 := (unhide B2).lt
  have hm2 : w.heap.size + 1 < w2.heap.size := by omega
  have hp2 : w.heap.size < w2.heap.size := by omega
  clear hb2
  go_wp2_with fail
  refine (unhide CI _ (unhide B2).b).mono ?_
  rintro e w3 ⟨rfl, hb3⟩
  have B3 := hide ((unhide B2).next hb3)
  obtain ⟨t0, t1, t2⟩ := (unhide B3).tc
  obtain ⟨x0, x1, x2, x3, x4, x5, x6⟩ := (unhide B3).xc
  rw [unhide HO] at x1
  have hl3 := (unhide B3).lt
  have hm3 : w.heap.size + 1 < w3.heap.size := by omega
  have hp3 : w.heap.size < w3.heap.size := by omega
  clear hb3
  go_wp2_with fail
  refine (unhide CN1 _ (unhide B3).b).mono ?_
  rintro e w4 ⟨rfl, hb4⟩
  have B4 := hide ((unhide B3).next hb4)
  obtain ⟨t0, t1, t2⟩ := (unhide B4).tc
  obtain ⟨x0, x1, x2, x3, x4, x5, x6⟩ := (unhide B4).xc
  rw [unhide HO] at x1
  have hl4 := (unhide B4).lt
  have hm4 : w.heap.size + 1 < w4.heap.size := by omega
  have hp4 : w.heap.size < w4.heap.size := by omega
  clear hb4
  go_wp2_with fail
  refine (unhide CS _).mono ?_
  rintro e w5 ⟨rfl, hb5⟩
  have B5 := hide ((unhide B4).next hb5)
  obtain ⟨t0, t1, t2⟩ := (unhide B5).tc
  obtain ⟨x0, x1, x2, x3, x4, x5, x6⟩ := (unhide B5).xc
  rw [unhide HO] at x1
  have hl5 := (unhide B5).lt
  have hm5 : w.heap.size + 1 < w5.heap.size := by omega
  have hp5 : w.heap.size < w5.heap.size := by omega
  clear hb5
  go_wp2_with fail
  refine (unhide CN2 _ (unhide B5).b).mono ?_
  rintro e w6 ⟨j6, rfl, hb6⟩
  have B6 := hide ((unhide B5).next hb6)
  obtain ⟨t0, t1, t2⟩ := (unhide B6).tc
  obtain ⟨x0, x1, x2, x3, x4, x5, x6⟩ := (unhide B6).xc
  rw [unhide HO] at x1
  have hl6 := (unhide B6).lt
  have hm6 : w.heap.size + 1 < w6.heap.size := by omega
  have hp6 : w.heap.size < w6.heap.size := by omega
  clear hb6
  have n5 := (unhide HROW w6 (unhide B6).b).n5 (unhide HAT)
  go_wp2_with fail
  go_region
  have B6d := hide ((unhide B6).next (V := w6.drew) (Below.refl _ _).drew)
  have hl6d := (unhide B6d).lt
  go_wp2_with fail
  refine (unhide CC _ (unhide B6d).b).mono ?_
  rintro e w7 ⟨un, us, rfl, hn7, hs7, hb7⟩
  have B7 := hide ((unhide B6d).next hb7)
  obtain ⟨t0, t1, t2⟩ := (unhide B7).tc
  obtain ⟨x0, x1, x2, x3, x4, x5, x6⟩ := (unhide B7).xc
  rw [unhide HO] at x1
  have hl7 := (unhide B7).lt
  have hm7 : w.heap.size + 1 < w7.heap.size := by omega
  have hp7 : w.heap.size < w7.heap.size := by omega
  obtain ⟨una, unc, rfl, _⟩ := hn7.slice
  obtain ⟨usa, usc, rfl, _⟩ := hs7.slice
  have q1 : w.heap.size + 1 ≠ w7.heap.size := by omega
  have q0 : w.heap.size ≠ w7.heap.size := by omega
  have q2 : w.heap.size + 2 ≠ w7.heap.size := by omega
  have h67 := hb7.size
  have R0 := hide (RS.new (unhide B6d) hb7 hn7 hs7)
  clear hb7 hn7 hs7
  go_upto_region 44 with fail
  obtain ⟨W8, hW8⟩ : ∃ W8, (((w7.alloc (.cells #[.int .i64 x.z, .slice una t.ns.length unc, .slice usa t.ss.length usc] 31)).alloc (.cells #[.slice none 0 0] 46)).alloc (.cells #[.func (.func 49) #[] #[.pointer (some ⟨w7.heap.size, 0, none⟩), .pointer (some ⟨w.heap.size + 1, 0, none⟩), .pointer (some ⟨w7.heap.size + 1, 0, none⟩)]] 99)) = W8 := ⟨_, rfl⟩
  unfold parV at R0
  rw [hW8] at R0
  rw [hW8]
  have hs8 : w7.heap.size + 3 = W8.heap.size := by rw [← hW8]; simp
  have hl8 : w7.heap.size + 2 < W8.heap.size := by omega
  obtain ⟨m, hm⟩ : ∃ m, w6.drew.heap.size = m := ⟨_, rfl⟩
  obtain ⟨bo, hbo⟩ : ∃ bo, w7.heap.size = bo := ⟨_, rfl⟩
  rw [hm, hbo] at R0
  have hmW : m ≤ W8.heap.size := by omega
  have hmw : w.heap.size + 3 ≤ m := by omega
  have hbm : m ≤ bo := by omega
  have HBO := hide hbo
  rw [hbo]
  clear hW8 hs8 hm hbo q0 q1 q2
  have R8 := hide (unhide R0)
  obtain ⟨x0, x1, x2, x3, x4, x5, x6⟩ := (unhide R8).rb.xc
  rw [unhide HO] at x1
  obtain ⟨t0, t1, t2⟩ := (unhide R8).rb.tc
  obtain ⟨g, cap, he, hr, hgo, hge, hFg⟩ := (unhide R8).rg.nrow (by rw [T.eq]; simp)
  simp only [Value.slice.injEq] at he
  obtain ⟨rfl, _, rfl⟩ := he
  have HE := hide T.eq
  have at' : t.ns[A.length]? = some n := by rw [T.eq]; exact nat_at A n B
  have r1 := hr.row.n1 at'
  have r3 := hr.row.n3 at'
  have r5 := hr.row.n5 at'
  have z1 := hr.frozen (A.length * 9 + 1)
  have z3 := hr.frozen (A.length * 9 + 3)
  have z5 := hr.frozen (A.length * 9 + 5)
  rw [Nat.zero_add] at r1 r3 r5
  have c1 := (unhide R8).rg.c1
  have hgx : g ≠ w.heap.size + 1 := fun e => by have := hFg.1; omega
  have hgl := hr.lt
  have hNl2 : t.ns.length ≤ 400 := hlf
  have S5 : Hid (setAt x.p x.d x.v x.z t.ns = A ++ (⟨n.p, x.d, n.c, x.z, n.q, x.v, n.k, n.o, n.n⟩ : Nd) :: B) := hide (by rw [setAt]; exact T.mapAt _)
  have Q4 : Hid (RG (((W8.setCell ⟨g, A.length * 9 + 1, none⟩ (.string ⟨x.d.toArray⟩)).setCell ⟨g, A.length * 9 + 5, none⟩ (.int .i64 x.v)).setCell ⟨g, A.length * 9 + 3, none⟩ (.int .i64 x.z)) (FB m (bo + 2)) bo (bo + 1) x.z (.slice (some ⟨g, 0, none⟩) t.ns.length unc) (.slice usa t.ss.length usc) (.slice none 0 0) (A ++ (⟨n.p, x.d, n.c, x.z, n.q, x.v, n.k, n.o, n.n⟩ : Nd) :: B) t.ss [] ∧ Touch (FB m (bo + 2)) W8 (((W8.setCell ⟨g, A.length * 9 + 1, none⟩ (.string ⟨x.d.toArray⟩)).setCell ⟨g, A.length * 9 + 5, none⟩ (.int .i64 x.v)).setCell ⟨g, A.length * 9 + 3, none⟩ (.int .i64 x.z))) := hide (by
    have e0 := (unhide R8).rg
    rw [T.eq] at e0
    have e1 := e0.put (m := ⟨n.p, x.d, n.c, n.m, n.q, n.v, n.k, n.o, n.n⟩) (c := 1) (by omega) (v := .string ⟨x.d.toArray⟩) rfl
    have e2 := e1.put (m := ⟨n.p, x.d, n.c, n.m, n.q, x.v, n.k, n.o, n.n⟩) (c := 5) (by omega) (v := .int .i64 x.v) rfl
    have e3 := e2.put (m := ⟨n.p, x.d, n.c, x.z, n.q, x.v, n.k, n.o, n.n⟩) (c := 3) (by omega) (v := .int .i64 x.z) rfl
    rw [← T.eq] at e3
    exact ⟨e3, ((Touch.set (a := ⟨g, A.length * 9 + 1, none⟩) hFg _).trans (Touch.set (a := ⟨g, A.length * 9 + 5, none⟩) hFg _)).trans (Touch.set (a := ⟨g, A.length * 9 + 3, none⟩) hFg _)⟩)
  have HF8 := hide ((unhide R8).free hmW)
  clear at' hr
  go_upto_region 99 with fail
  go_cut [35] from 36 (fun t35 wx => t35 = .pointer (some ⟨g, A.length * 9, none⟩) ∧ Hid (RG wx (FB m (bo + 2)) bo (bo + 1) x.z (.slice (some ⟨g, 0, none⟩) t.ns.length unc) (.slice usa t.ss.length usc) (.slice none 0 0) (A ++ (⟨n.p, x.d, n.c, x.z, n.q, x.v, n.k, n.o, n.n⟩ : Nd) :: B) t.ss [] ∧ Touch (FB m (bo + 2)) W8 wx))
  case first =>
    clear T CC AD HXP
    go_region
    all_goals go_wp2_with fail
    all_goals go_meet
    all_goals exact ⟨rfl, hide ⟨(unhide Q4).1.next (Below.refl _ _).drew, (unhide Q4).2.drew⟩⟩
  case rest =>
    obtain ⟨rfl, HC⟩ := hcut
    obtain ⟨NS, hNS⟩ : ∃ NS, (A ++ (⟨n.p, x.d, n.c, x.z, n.q, x.v, n.k, n.o, n.n⟩ : Nd) :: B) = NS := ⟨_, rfl⟩
    have HNL : Hid (NS.length ≤ 400) := hide (by rw [← hNS]; have := unhide HE; rw [this] at hlf; simp at hlf ⊢; omega)
    have C1 : Hid (chgN t x = NS) := hide (by rw [chgN, unhide HO, ← hNS]; exact unhide S5)
    have C2 : Hid (chgS t x = t.ss) := hide (by rw [chgS, unhide HO]; rfl)
    have C3 : Hid (chgV t x = [⟨3, x.p⟩]) := hide (by rw [chgV, unhide HO]; rfl)
    have E6 := hide (fun h => appE_six (unhide AD) hchg (unhide C1) h)
    have E0 := hide (fun h => appE_ok (unhide AD) hchg (unhide C1) h)
    obtain ⟨un9, hun9⟩ : ∃ un9, (Value.slice (some ⟨g, 0, none⟩) t.ns.length unc) = un9 := ⟨_, rfl⟩
    rw [hNS, hun9] at HC
    obtain ⟨ua, uc, hua, _⟩ := (unhide HC).1.n.slice
    rw [hua] at HC
    have RC := hide ((unhide R8).step (unhide HC).2 (unhide HC).1)
    obtain ⟨y0, y1, y2, y3, y4, y5, y6⟩ := (unhide RC).rb.xc
    rw [unhide HO] at y1
    have ce := (unhide RC).rg.ce
    have hlo9 := (unhide RC).rg.lo
    have hle9 := (unhide RC).rg.le
    have hmc : m ≤ wc.heap.size := by have := (unhide HC).2.size; omega
    have hbx9 : w.heap.size + 1 < wc.heap.size := by omega
    have K4 : Hid (∀ (w4 : World) (a4 : Option Addr) (c4 : Nat), OwnS w4 0 (.slice a4 1 c4) [(⟨3, x.p⟩ : Ev)] → (wc.alloc (.cells #[.int .i64 3, .string ⟨x.p.toArray⟩] 60)).grownBy w4 none → ((Value.slice a4 1 c4).ownBlock = none ∨ (Value.slice a4 1 c4).ownBlock = some (wc.alloc (.cells #[.int .i64 3, .string ⟨x.p.toArray⟩] 60)).heap.size) →
        w4.cell? ⟨bo + 1, 0, none⟩ = some (.slice none 0 0) ∧ w4.frozen? ⟨bo + 1, 0, none⟩ = false ∧ bo + 1 < w4.heap.size ∧ w4.cell? ⟨bo, 1, none⟩ = some (.slice ua NS.length uc) ∧ RS w (w4.setCell ⟨bo + 1, 0, none⟩ (.slice a4 1 c4)) t (.slice (some ⟨rb, ro, none⟩) t.ns.length nc) (.slice sa t.ss.length sc) x m bo (bo + 1) (bo + 2) (.slice ua NS.length uc) (.slice usa t.ss.length usc) (.slice a4 1 c4) NS t.ss [⟨3, x.p⟩]) := hide (by
      intro w4 a4 c4 ho4 hg4 hl4
      have rx := (unhide RC).next (allocB _ (.cells #[.int .i64 3, .string ⟨x.p.toArray⟩] 60))
      have gx := rx.rg
      have nn : ∀ k, some k ≠ (none : Option Nat) := fun k e => by cases e
      have t4 : Touch (FB m (bo + 2)) (wc.alloc (.cells #[.int .i64 3, .string ⟨x.p.toArray⟩] 60)) w4 := Touch.of_grown hg4 (fun k e => by cases e)
      have hsz : wc.heap.size + 1 = (wc.alloc (.cells #[.int .i64 3, .string ⟨x.p.toArray⟩] 60)).heap.size := by simp
      exact ⟨hg4.cell gx.ce (nn _), (World.frozen?_of_block (hg4.block (bo + 1) gx.le (nn _))).trans (gx.fze 0), Nat.lt_of_lt_of_le gx.le hg4.size, hg4.cell gx.c1 (nn _), rx.step (t4.trans (Touch.set (a := ⟨bo + 1, 0, none⟩) gx.fv _)) (gx.ev (rx.free (by omega)) hg4 ho4 hl4)⟩)
    clear hNS hun9 hua HC S5 Q4 hchg
    go_wp2_with (at_builtin; refine wpList_app_ev0 rfl _ _ rfl rfl wc.heap.size rfl ⟨3, x.p⟩ (one_newE wc 3 x.p) ?_)
    intro a4 c4 w4 ho4 hg4 hl4
    obtain ⟨m0, m1, m3, m4, r4⟩ := unhide K4 w4 a4 c4 ho4 hg4 (by simpa using hl4)
    have R4 := hide r4
    clear ho4 hg4 hl4 r4 K4
    go_wp2_with fail
    obtain ⟨w9, hw9⟩ : ∃ w9, w4.setCell ⟨bo + 1, 0, none⟩ (.slice a4 1 c4) = w9 := ⟨_, rfl⟩
    obtain ⟨ve9, hve9⟩ : ∃ ve9, (Value.slice a4 1 c4) = ve9 := ⟨_, rfl⟩
    rw [hw9] at R4
    rw [hw9]
    rw [hve9] at R4
    have R9 := hide (unhide R4)
    clear hw9 hve9 R4 m0 m1 m3 m4
    have g9 := (unhide R9).rg
    have k1 := g9.c1
    have hNl := unhide HNL
    have KR : Hid (∀ W, Below w9.heap.size w9 W → ∀ (k : Nat) (y : Nd), NS[k]? = some y → ∃ b, ua = some ⟨b, 0, none⟩ ∧ b < W.heap.size ∧ RowAt W b 0 (cellsL NS)) := hide (fun W hW k y hy => by
      rcases (g9.n.next hW) with ⟨_, h0⟩ | ⟨q, cap, e, _, h1⟩
      · rw [h0] at hy; simp at hy
      · simp only [Value.slice.injEq] at e
        exact ⟨q, e.1, h1.lt, h1.row⟩)
    have hlo := g9.lo
    clear g9
    go_loopg [406] NS.length (fun kx s406 wr => ∃ k : Nat, s406 = .int .i64 k ∧ k ≤ NS.length ∧ NS.length - k ≤ kx ∧ Hid (∀ i y, i < k → NS[i]? = some y → y.k ≤ 2147483647) ∧ Hid (Below w9.heap.size w9 wr))
    case atStart => exact ⟨0, rfl, Nat.zero_le _, Nat.le_refl _, hide (fun i y hi => absurd hi (by omega)), hide (Below.refl _ _)⟩
    case round =>
      obtain ⟨k, rfl, hk', hgk, hno, hB⟩ := hrel
      by_cases hlt : k < NS.length
      · obtain ⟨y, hy⟩ : ∃ y, NS[k]? = some y := ⟨_, List.getElem?_eq_getElem hlt⟩
        obtain ⟨b, rfl, hb, q⟩ := unhide KR wr (unhide hB) k y hy
        have d0 := q.n0 hy
        have d1 := q.n1 hy
        have d2 := q.n2 hy
        have d3 := q.n3 hy
        have d4 := q.n4 hy
        have d5 := q.n5 hy
        have d6 := q.n6 hy
        have d7 := q.n7 hy
        have d8 := q.n8 hy
        simp only [Nat.zero_add] at d0 d1 d2 d3 d4 d5 d6 d7 d8
        have HA := hide (nnext (unhide hB) (allocB wr (.cells #[.string ⟨y.p.toArray⟩, .string ⟨y.d.toArray⟩, .int .i64 y.c, .int .i64 y.m, .int .i64 y.q, .int .i64 y.v, .int .i64 y.k, .int .i64 y.o, .int .i64 y.n] 75)))
        by_cases hyk : y.k ≤ 2147483647
        · have hyn : ¬ ((2147483648 : Int) ≤ y.k) := by omega
          have HNK : Hid (∀ i z, i < k + 1 → NS[i]? = some z → z.k ≤ 2147483647) := hide (fun i z hi hz => by
            by_cases h : i = k
            · subst h; rw [hy] at hz; cases hz; exact hyk
            · exact unhide hno i z (by omega) hz)
          clear q hy
          go_wp2_with fail
          go_roundg (NS.length - (k + 1))
          case measure => omega
          case rel => exact ⟨k + 1, rfl, by omega, Nat.le_refl _, HNK, HA⟩
        · have hyn : (2147483648 : Int) ≤ y.k := by omega
          have HE6 := hide (unhide E6 ⟨y, List.mem_of_getElem? hy, by omega⟩)
          have BX := hide ((unhide R9).rb.next (unhide HA))
          clear q hy
          go_wp2_with fail
          refine (rno_any 6 _).mono ?_
          rintro e wE ⟨rfl, hbE⟩
          have BE := hide ((unhide BX).next (by first | exact hbE | exact nbelow_drew hbE))
          obtain ⟨⟨r0, r1, r2⟩, f0, f1, f2⟩ := (unhide BE).rc
          have s0 := nset_same r0
          have s1 := nset_same r1
          have s2 := nset_same r2
          have hlE := (unhide BE).lt
          clear hbE
          go_wp2_with fail
          exact bodyPost_ret (v := .tuple #[.agg #[.int .i64 0, .slice none 0 0, .slice none 0 0], .slice none 0 0, .int .i64 6]) (by simp [results, Tryz.results17, go_sem, r0, r1, r2]) rfl (givesR_no (unhide HE6) (by decide) rfl (unhide BE).b)
      · obtain rfl : k = NS.length := by omega
        have HE0 := hide (unhide E0 (fun y hy => by
          obtain ⟨i, hi⟩ := List.getElem?_of_mem hy
          exact unhide hno i y (List.getElem?_eq_some_iff.1 hi).1 hi))
        have RW := (unhide R9).next (unhide hB)
        have e0 := RW.rg.c0
        have e1 := RW.rg.c1
        have e2 := RW.rg.c2
        have ee := RW.rg.ce
        obtain ⟨⟨r0, r1, r2⟩, f0, f1, f2⟩ := RW.rb.rc
        have hlr := RW.rb.lt
        have hlo2 := RW.rg.lo
        have hle2 := RW.rg.le
        have hm9 := RW.hm
        have hbo2 : bo ≠ w.heap.size + 2 := by have := RW.rg.fo.1; omega
        have hbe2 : bo + 1 ≠ w.heap.size + 2 := by have := RW.rg.fv.1; omega
        have FIN := hide (fin_ok RW (unhide HE0) (unhide C1) (unhide C2) (unhide C3))
        obtain ⟨ea, ec, rfl, _⟩ := RW.rg.e.slice

        clear RW
        go_wp2_with fail
        go_region
        all_goals go_wp2_with fail
        all_goals exact bodyPost_ret (v := .tuple #[.agg #[.int .i64 x.z, .slice ua NS.length uc, .slice usa t.ss.length usc], .slice ea 1 ec, .int .i64 0]) (by simp [results, Tryz.results17, go_sem, r0, r1, r2]) rfl (unhide FIN)

end Go.Proofs.YtfejpbkapikdiaaGreatDoor
