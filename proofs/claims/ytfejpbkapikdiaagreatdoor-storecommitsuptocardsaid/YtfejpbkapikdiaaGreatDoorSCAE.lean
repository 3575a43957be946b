/-
  aviaryref's Apply: closing a session: the walk.
-/
import Derived.Test.YtfejpbkapikdiaaGreatDoorSCAD
namespace Go.Proofs.YtfejpbkapikdiaaGreatDoor
open Go.RowKit

theorem rmAll_rest {z s : Int} {ss : List Int} : ∀ (ps qs : List (List UInt8)) (cur : List Nd), GoodN z cur ss → Rest s cur (ps ++ qs) → GoodN z (rmAll z cur ps) ss ∧ Rest s (rmAll z cur ps) qs
  | [], _, _, g, R => ⟨g, R⟩
  | p :: ps, qs, cur, g, R => by
    obtain ⟨_, _, _, _, _, _, _, _, _, _, _, _, _, _, _, g', R'⟩ := rest_step g R
    exact rmAll_rest ps qs (rmN z cur p) g' R'
theorem rmN_k {z : Int} {ns : List Nd} {p : List UInt8} {c : Int} (h : ∀ n ∈ ns, n.k ≤ c) : ∀ n ∈ rmN z ns p, n.k ≤ c + 1 := by
  intro n hn
  obtain ⟨m, hm, _, rfl⟩ := mem_rm hn
  have := h m hm
  split
  · show m.k + 1 ≤ c + 1; omega
  · omega
theorem rmAll_k {z : Int} : ∀ (ps : List (List UInt8)) (cur : List Nd) (c : Int), (∀ n ∈ cur, n.k ≤ c) → ∀ n ∈ rmAll z cur ps, n.k ≤ c + (ps.length : Int)
  | [], cur, c, h => fun n hn => by have := h n hn; simpa using this
  | p :: ps, cur, c, h => fun n hn => by
    have := rmAll_k ps (rmN z cur p) (c + 1) (rmN_k h) n hn
    rw [List.length_cons]; omega
theorem owned_split {ns : List Nd} {k : Nat} {y : Nd} {s : Int} (hy : ns[k]? = some y) (ho : y.o = s) : ∃ qs, ownedP ns s = ownedP (ns.take k) s ++ y.p :: qs := by
  refine ⟨ownedP (ns.drop (k + 1)) s, ?_⟩
  have e : ns = ns.take k ++ y :: ns.drop (k + 1) := by
    obtain ⟨hi, rfl⟩ := List.getElem?_eq_some_iff.1 hy
    simp
  conv => lhs; rw [e]
  simp [ownedP, List.filter_append, ho]
theorem clo_at {z s : Int} {ns : List Nd} {ss : List Int} (g : GoodN z ns ss) (h0 : s ≠ 0) (hc : ∀ n ∈ ns, n.k ≤ 2147483647) {k : Nat} {y : Nd} (hy : ns[k]? = some y) (ho : y.o = s) :
    ∃ A n B A' u B', NThere (rmAll z ns (ownedP (ns.take k) s)) A n B y.p ∧ NThere (A ++ B) A' u B' (dirOf y.p) ∧ (0 ≤ u.k ∧ u.k ≤ 4294967296) ∧ (0 ≤ u.n ∧ u.n ≤ 1000) ∧ (rmAll z ns (ownedP (ns.take k) s)).length ≤ 400 ∧ y.p.length ≤ 1048576 ∧ (rmEv (ownedP (ns.take k) s)).length ≤ 99998 := by
  obtain ⟨qs, hq⟩ := owned_split hy ho
  have R0 := rest_owned g h0
  rw [hq] at R0
  obtain ⟨g1, R1⟩ := rmAll_rest _ _ _ g R0
  obtain ⟨A, n, B, u, T, _, _, _, hgd, hu1, hu2, hu3, hu4, hu5, hu6, g', R'⟩ := rest_step g1 R1
  obtain ⟨A', B', U⟩ := there_drop g1.asc T hu2 hu3 hu4
  have hkk := rmAll_k (z := z) (ownedP (ns.take k) s) ns 2147483647 hc u hu2
  have h1 := owned_len (ns.take k) s
  have h2 : (ns.take k).length ≤ ns.length := by simp; omega
  have h3 := g.few
  have h4 := (g1.ok u hu2).k0
  have hn := (g1.ok u hu2).kids
  have hn2 : kidsN (rmAll z ns (ownedP (ns.take k) s)) u.p ≤ (rmAll z ns (ownedP (ns.take k) s)).length := List.countP_le_length
  have h5 := g1.few
  exact ⟨A, n, B, A', u, B', T, U, ⟨h4, by omega⟩, ⟨by omega, by omega⟩, h5, by have := goodB_le hgd; omega, by rw [rmEv_len]; omega⟩

set_option maxRecDepth 20000 in
set_option maxHeartbeats 4000000 in
theorem rclo_ok (t : Tr) (x : WTxn) (vn vs : Value) (w : World) (hn : SeqV w vn t.ns) (hs : SeqV w vs t.ss) (ar : Args t x) (ad : Adm t x) (ho : x.o = 2)  (hls : t.ss.length * 8 ≤ 140737488351232) (hchg : chgE t x = 0) :
    Calls Tryz.prog 17 #[.agg #[.int .i64 t.z, vn, vs], txnV x] w (GivesR w t x) := by
  have g := goodT_true.1 ad.good
  have hlf := g.nod.few
  have hco : decide (x.s ∈ t.ss) = true := by rw [ad.opn, ho]; decide
  have CG := hide (fun W (hW : Below w.heap.size w W) => rgoodT_any t vn vs W (hn.next hW) (hs.next hW) ar.wf ar.z ar.long ar.ss)
  rw [ad.good] at CG
  have CX := hide (fun W => rgd_any x W ar.xz ar.xp ar.xd)
  rw [ad.txn] at CX
  have CI := hide (fun W (hW : Below w.heap.size w W) => risopen_any t.z vn vs t.ss x.s W (hs.next hW) ar.ss)
  rw [hco] at CI
  have CS := hide (fun W => rsplit_any x.p W ar.xp)
  have CN1 := hide (fun W (hW : Below w.heap.size w W) => rnode_ex t vn vs x.p W (hn.next hW) g)
  have CN2 := hide (fun W (hW : Below w.heap.size w W) => rnode_ex t vn vs (dirOf x.p) W (hn.next hW) g)
  have hzn : ¬ x.z ≤ t.z := ad.ord
  have HO := hide ho
  have hsl := sasc_len g.ses
  have HSW := hide (fun W (hW : Below w.heap.size w W) => hs.next hW)
  have HG := hide (g.nod.mono (z := t.z) (show t.z ≤ x.z by omega))
  have HCAP := hide g.cap
  have HS0 : Hid (x.s ≠ 0) := hide (by have := (g.ses.2 _ (of_decide_eq_true hco)).1; omega)
  have HNW := hide (fun W (hW : Below w.heap.size w W) => hn.next hW)
  have CC := hide (fun W (hW : Below w.heap.size w W) => rcopyT_any t vn vs W (hn.next hW) (hs.next hW) (by omega) (by omega))
  have AD := hide ad
  have HXP := hide ar.xp
  have T0 := hide (RB.new w t.z vn vs x)
  obtain ⟨na, nc, rfl⟩ := seq_slice hn
  obtain ⟨sa, sc, rfl⟩ := seq_slice hs
  unfold txnV at CX
  unfold txnV
  rw [unhide HO] at CX
  clear hn hs ar ad g ho hco
  go_enter Tryz.func17, Tryz.ntmps17
  go_wp2_with fail
  refine (unhide CG _ (unhide T0).b).mono ?_
  rintro e w1 ⟨rfl, hb1⟩
  have B1 := hide ((unhide T0).next hb1)
  obtain ⟨t0, t1, t2⟩ := (unhide B1).tc
  obtain ⟨x0, x1, x2, x3, x4, x5, x6⟩ := (unhide B1).xc
  rw [unhide HO] at x1
  have hl1 := (unhide B1).lt
  have hm1 : w.heap.size + 1 < w1.heap.size := by omega
  have hp1 : w.heap.size < w1.heap.size := by omega
  clear hb1
  go_wp2_with fail
  refine (unhide CX _).mono ?_
  rintro e w2 ⟨rfl, hb2⟩
  have B2 := hide ((unhide B1).next hb2)
  obtain ⟨t0, t1, t2⟩ := (unhide B2).tc
  obtain ⟨x0, x1, x2, x3, x4, x5, x6⟩ := (unhide B2).xc
  rw [unhide HO] at x1
  have hl2 := (unhide B2).lt
  have hm2 : w.heap.size + 1 < w2.heap.size := by omega
  have hp2 : w.heap.size < w2.heap.size := by omega
  clear hb2
  go_wp2_with fail
  refine (unhide CI _ (unhide B2).b).mono ?_
  rintro e w3 ⟨rfl, hb3⟩
  have B3 := hide ((unhide B2).next hb3)
  obtain ⟨t0, t1, t2⟩ := (unhide B3).tc
  obtain ⟨x0, x1, x2, x3, x4, x5, x6⟩ := (unhide B3).xc
  rw [unhide HO] at x1
  have hl3 := (unhide B3).lt
  have hm3 : w.heap.size + 1 < w3.heap.size := by omega
  have hp3 : w.heap.size < w3.heap.size := by omega
  clear hb3
  go_wp2_with fail
  refine (unhide CN1 _ (unhide B3).b).mono ?_
  rintro e w4 ⟨j4, rfl, hb4⟩
  have B4 := hide ((unhide B3).next hb4)
  obtain ⟨t0, t1, t2⟩ := (unhide B4).tc
  obtain ⟨x0, x1, x2, x3, x4, x5, x6⟩ := (unhide B4).xc
  rw [unhide HO] at x1
  have hl4 := (unhide B4).lt
  have hm4 : w.heap.size + 1 < w4.heap.size := by omega
  have hp4 : w.heap.size < w4.heap.size := by omega
  clear hb4
  go_wp2_with fail
  refine (unhide CS _).mono ?_
  rintro e w5 ⟨rfl, hb5⟩
  have B5 := hide ((unhide B4).next hb5)
  obtain ⟨t0, t1, t2⟩ := (unhide B5).tc
  obtain ⟨x0, x1, x2, x3, x4, x5, x6⟩ := (unhide B5).xc
  rw [unhide HO] at x1
  have hl5 := (unhide B5).lt
  have hm5 : w.heap.size + 1 < w5.heap.size := by omega
  have hp5 : w.heap.size < w5.heap.size := by omega
  clear hb5
  go_wp2_with fail
  refine (unhide CN2 _ (unhide B5).b).mono ?_
  rintro e w6 ⟨j6, rfl, hb6⟩
  have B6 := hide ((unhide B5).next hb6)
  obtain ⟨t0, t1, t2⟩ := (unhide B6).tc
  obtain ⟨x0, x1, x2, x3, x4, x5, x6⟩ := (unhide B6).xc
  rw [unhide HO] at x1
  have hl6 := (unhide B6).lt
  have hm6 : w.heap.size + 1 < w6.heap.size := by omega
  have hp6 : w.heap.size < w6.heap.size := by omega
  clear hb6
  go_wp2_with fail
  refine (unhide CC _ (unhide B6).b).mono ?_
  rintro e w7 ⟨un, us, rfl, hn7, hs7, hb7⟩
  have B7 := hide ((unhide B6).next hb7)
  obtain ⟨t0, t1, t2⟩ := (unhide B7).tc
  obtain ⟨x0, x1, x2, x3, x4, x5, x6⟩ := (unhide B7).xc
  rw [unhide HO] at x1
  have hl7 := (unhide B7).lt
  have hm7 : w.heap.size + 1 < w7.heap.size := by omega
  have hp7 : w.heap.size < w7.heap.size := by omega
  obtain ⟨una, unc, rfl, _⟩ := hn7.slice
  obtain ⟨usa, usc, rfl, _⟩ := hs7.slice
  have q1 : w.heap.size + 1 ≠ w7.heap.size := by omega
  have q0 : w.heap.size ≠ w7.heap.size := by omega
  have q2 : w.heap.size + 2 ≠ w7.heap.size := by omega
  have h67 := hb7.size
  have R0 := hide (RS.new (unhide B6) hb7 hn7 hs7)
  clear hb7 hn7 hs7
  go_upto_region 44 with fail
  obtain ⟨W8, hW8⟩ : ∃ W8, (((w7.alloc (.cells #[.int .i64 x.z, .slice una t.ns.length unc, .slice usa t.ss.length usc] 31)).alloc (.cells #[.slice none 0 0] 46)).alloc (.cells #[.func (.func 49) #[] #[.pointer (some ⟨w7.heap.size, 0, none⟩), .pointer (some ⟨w.heap.size + 1, 0, none⟩), .pointer (some ⟨w7.heap.size + 1, 0, none⟩)]] 99)) = W8 := ⟨_, rfl⟩
  unfold parV at R0
  rw [hW8] at R0
  rw [hW8]
  have hs8 : w7.heap.size + 3 = W8.heap.size := by rw [← hW8]; simp
  have hl8 : w7.heap.size + 2 < W8.heap.size := by omega
  obtain ⟨m, hm⟩ : ∃ m, w6.heap.size = m := ⟨_, rfl⟩
  obtain ⟨bo, hbo⟩ : ∃ bo, w7.heap.size = bo := ⟨_, rfl⟩
  rw [hm, hbo] at R0
  have hmW : m ≤ W8.heap.size := by omega
  have hmw : w.heap.size + 3 ≤ m := by omega
  have hbm : m ≤ bo := by omega
  have HBO := hide hbo
  rw [hbo]
  clear hW8 hs8 hm hbo q0 q1 q2
  have R8 := hide (unhide R0)
  obtain ⟨x0, x1, x2, x3, x4, x5, x6⟩ := (unhide R8).rb.xc
  rw [unhide HO] at x1
  obtain ⟨t0, t1, t2⟩ := (unhide R8).rb.tc
  have KS : Hid (∀ W, Below W8.heap.size W8 W → ∀ (k : Nat) (y : Int), t.ss[k]? = some y → ∃ b off, sa = some ⟨b, off, none⟩ ∧ b < W.heap.size ∧ W.cell? ⟨b, off + k, none⟩ = some (.int .i64 y)) := hide (fun W hW k y hy => by
    obtain ⟨b, off, cap, he, hb, hr, _, _⟩ := seq_row (unhide HSW W (nnext (unhide R8).rb.b hW)) (by intro h0; rw [h0] at hy; simp at hy)
    simp only [Value.slice.injEq] at he
    exact ⟨b, off, he.1, hb, hr.i0 hy⟩)
  have KX : Hid (∀ W, Below W8.heap.size W8 W → W.cell? ⟨w.heap.size + 1, 2, none⟩ = some (.int .i64 x.s) ∧ w.heap.size + 1 < W.heap.size ∧ w.heap.size < W.heap.size ∧ W.cell? ⟨w.heap.size, 1, none⟩ = some (.slice na t.ns.length nc) ∧ W.cell? ⟨w.heap.size, 2, none⟩ = some (.slice sa t.ss.length sc)) := hide (fun W hW => by
    have h := (unhide R8).rb.next hW
    obtain ⟨_, _, z2, _, _, _, _⟩ := h.xc
    obtain ⟨_, u1, u2⟩ := h.tc
    have := h.lt
    exact ⟨z2, by omega, by omega, u1, u2⟩)
  have KN : Hid (∀ W, Below w.heap.size w W → ∀ (k : Nat) (y : Nd), t.ns[k]? = some y → ∃ b off, na = some ⟨b, off, none⟩ ∧ b < W.heap.size ∧ RowAt W b off (cellsL t.ns)) := hide (fun W hW k y hy => by
    obtain ⟨b, off, cap, he, hb, hr, _, _⟩ := seq_row (unhide HNW W hW) (by intro h0; rw [h0] at hy; simp at hy)
    simp only [Value.slice.injEq] at he
    exact ⟨b, off, he.1, hb, hr⟩)
  go_wp2_with fail
  go_loopg [24, 269] t.ss.length (fun kx sl sk wr => ∃ (k : Nat) (L : List Int) (la : Option Addr) (lc : Nat), sk = .int .i64 k ∧ sl = .slice la L.length lc ∧ k ≤ t.ss.length ∧ t.ss.length - k ≤ kx ∧ Hid (([] : List Int) ++ (t.ss.take k).filter (fun y => decide (y ≠ x.s)) = L) ∧ Hid (OwnS wr W8.heap.size (.slice la L.length lc) L) ∧ Hid (Below W8.heap.size W8 wr))
  case atStart => exact ⟨0, [], none, 0, rfl, rfl, Nat.zero_le _, Nat.le_refl _, hide rfl, hide (.inl ⟨rfl, rfl⟩), hide (Below.refl _ _)⟩
  case round =>
    obtain ⟨k, L, la, lc, rfl, rfl, hk', hgk, hL, hO, hB⟩ := hrel
    obtain ⟨z2, hlw, hlw0, u1, u2⟩ := unhide KX wr (unhide hB)
    have hLl : L.length ≤ 2147483647 := by
      have h1 : ((t.ss.take k).filter (fun y => decide (y ≠ x.s))).length ≤ (t.ss.take k).length := List.length_filter_le _ _
      have h2 : (t.ss.take k).length ≤ k := by simp; omega
      rw [← unhide hL]
      simp only [List.nil_append]; omega
    by_cases hlt : k < t.ss.length
    · obtain ⟨y, hy⟩ : ∃ y, t.ss[k]? = some y := ⟨_, List.getElem?_eq_getElem hlt⟩
      obtain ⟨b, off, rfl, hb, d0⟩ := unhide KS wr (unhide hB) k y hy
      have hds := flt_snoc (fun y => decide (y ≠ x.s)) hy
      by_cases hc : y ≠ x.s
      · have hcb : (y != x.s) = true := by simpa using hc
        have hcc : (y == x.s) = false := by simpa using hc
        rw [if_pos (by simpa using hc)] at hds
        have HDS : Hid (([] : List Int) ++ (t.ss.take (k + 1)).filter (fun y => decide (y ≠ x.s)) = L ++ [y]) := hide (by rw [hds, ← List.append_assoc, unhide hL])
        have HO1 := hide ((unhide hO).next (allocB wr (.cells #[.int .i64 y] 3)))
        have HB1 := hide (nnext (unhide hB) (allocB wr (.cells #[.int .i64 y] 3)))
        clear hds hy hc
        go_wp2_with (at_builtin; refine wpList_app_i1 rfl _ _ rfl (.slice la L.length lc) L rfl ((unhide HO1).lower (Nat.zero_le _)) wr.heap.size rfl y (one_newI wr y) (by omega) ?_)
        intro a3 c3 w3 ho3 hg3 hl3
        obtain ⟨o3, b3⟩ := grows_on (unhide HO1) (unhide HB1) ho3 hg3 (by simpa using hl3)
        have HO3 := hide o3
        have HB3 := hide b3
        clear ho3 hg3 hl3 o3 b3
        go_wp2_with fail
        go_roundg (t.ss.length - (k + 1))
        case measure => omega
        case rel => exact ⟨k + 1, L ++ [y], a3, c3, rfl, by rw [List.length_append]; rfl, by omega, Nat.le_refl _, HDS, by rw [List.length_append]; exact HO3, HB3⟩
      · have hcb : (y != x.s) = false := by simpa using hc
        have hcc : (y == x.s) = true := by simpa using hc
        rw [if_neg (by simpa using hc)] at hds
        have HDS : Hid (([] : List Int) ++ (t.ss.take (k + 1)).filter (fun y => decide (y ≠ x.s)) = L) := hide (by rw [hds, List.append_nil, unhide hL])
        clear hds hy hc
        go_wp2_with fail
        go_roundg (t.ss.length - (k + 1))
        case measure => omega
        case rel => exact ⟨k + 1, L, la, lc, rfl, rfl, by omega, Nat.le_refl _, HDS, hO, hB⟩
    · obtain rfl : k = t.ss.length := by omega
      have hL2 := unhide hL
      rw [List.take_length] at hL2
      rw [List.nil_append] at hL2
      have C2 : Hid (chgS t x = L) := hide (by rw [chgS, unhide HO, ← hL2]; rfl)
      have R4 := hide ((unhide R8).step ((Touch.of_below (F := FB m (bo + 2)) (unhide hB)).trans (Touch.set (a := ⟨bo, 2, none⟩) (unhide R8).rg.fo (.slice la L.length lc))) ((unhide R8).rg.se ((unhide R8).free hmW) (unhide hB) (unhide hO)))
      have gw := (unhide R8).rg.next (unhide hB)
      have k1 := gw.c1
      have k2 := gw.c2
      have ff2 := gw.fzo 2
      have hbw := gw.lo
      have hnb : w.heap.size ≠ bo := by omega
      have hws := (unhide hB).size
      clear gw hL2 hL
      go_wp2_with fail
      obtain ⟨w9, hw9⟩ : ∃ w9, wr.setCell ⟨bo, 2, none⟩ (.slice la L.length lc) = w9 := ⟨_, rfl⟩
      have hm9 : m ≤ w9.heap.size := by rw [← hw9, set_size]; omega
      rw [hw9] at R4
      rw [hw9]
      have RA9 := hide (unhide R4)
      clear hw9 R4 k1 k2 ff2 hbw hnb
      go_loopg [287] t.ns.length (fun kx sk wr => ∃ (k : Nat) (un2 ue2 : Value), sk = .int .i64 k ∧ k ≤ t.ns.length ∧ t.ns.length - k ≤ kx ∧ m ≤ wr.heap.size ∧ Hid (RS w wr t (.slice na t.ns.length nc) (.slice sa t.ss.length sc) x m bo (bo + 1) (bo + 2) un2 (.slice la L.length lc) ue2 (rmAll x.z t.ns (ownedP (t.ns.take k) x.s)) L (rmEv (ownedP (t.ns.take k) x.s))))
      case atStart => exact ⟨0, _, _, rfl, Nat.zero_le _, Nat.le_refl _, hm9, RA9⟩
      case round =>
        obtain ⟨k, un2, ue2, rfl, hk2, hgk2, hmr, HRS⟩ := hrel
        by_cases hlt : k < t.ns.length
        · obtain ⟨y, hy⟩ : ∃ y, t.ns[k]? = some y := ⟨_, List.getElem?_eq_getElem hlt⟩
          obtain ⟨b, off, rfl, hb, q⟩ := unhide KN wr (unhide HRS).rb.b k y hy
          have d0 := q.n0 hy
          have d1 := q.n1 hy
          have d2 := q.n2 hy
          have d3 := q.n3 hy
          have d4 := q.n4 hy
          have d5 := q.n5 hy
          have d6 := q.n6 hy
          have d7 := q.n7 hy
          have d8 := q.n8 hy
          have RA := hide ((unhide HRS).next (allocB wr (.cells #[.string ⟨y.p.toArray⟩, .string ⟨y.d.toArray⟩, .int .i64 y.c, .int .i64 y.m, .int .i64 y.q, .int .i64 y.v, .int .i64 y.k, .int .i64 y.o, .int .i64 y.n] 75)))
          have hsA : (wr.alloc (.cells #[.string ⟨y.p.toArray⟩, .string ⟨y.d.toArray⟩, .int .i64 y.c, .int .i64 y.m, .int .i64 y.q, .int .i64 y.v, .int .i64 y.k, .int .i64 y.o, .int .i64 y.n] 75)).heap.size = wr.heap.size + 1 := by simp
          obtain ⟨a0, _, z2, _, _, _, _⟩ := (unhide HRS).rb.xc
          have hlr := (unhide HRS).rb.lt
          have hlw : w.heap.size + 1 < wr.heap.size := by omega
          have hot := owned_take hy x.s
          by_cases hc : y.o = x.s
          · rw [if_pos hc] at hot
            have hcb : (y.o == x.s) = true := by simpa using hc
            obtain ⟨A, n, B, A', u, B', T, U, huk, hun, hcl, hyl, hel⟩ := clo_at (unhide HG) (unhide HS0) (unhide HCAP) hy hc
            obtain ⟨a0, _, _, _, _, _, _⟩ := (unhide RA).rb.xc
            have GN := hide (rgone_any (FB m (bo + 2)) bo (bo + 1) (w.heap.size + 1) (bo + 2) x.z _ _ _ (rmAll x.z t.ns (ownedP (t.ns.take k) x.s)) A B A' B' n u L (rmEv (ownedP (t.ns.take k) x.s)) y.p x.z (wr.alloc (.cells #[.string ⟨y.p.toArray⟩, .string ⟨y.d.toArray⟩, .int .i64 y.c, .int .i64 y.m, .int .i64 y.q, .int .i64 y.v, .int .i64 y.k, .int .i64 y.o, .int .i64 y.n] 75)) (unhide RA).rg ((unhide RA).free (by omega)) a0 (by omega) (fun h => by have := h.1; omega) (by have := (unhide RA).pcell.1; exact this) (unhide RA).pcell.2 (fun h => h.2 rfl) T U hcl huk hun hyl hel)
            have EQ1 : Hid (rmN x.z (rmAll x.z t.ns (ownedP (t.ns.take k) x.s)) y.p = rmAll x.z t.ns (ownedP (t.ns.take (k + 1)) x.s)) := hide (by rw [hot, rmAll, rmAll, List.foldl_append]; rfl)
            have EQ2 : Hid (rmEv (ownedP (t.ns.take k) x.s) ++ [⟨2, y.p⟩, ⟨4, dirOf y.p⟩] = rmEv (ownedP (t.ns.take (k + 1)) x.s)) := hide (by rw [hot, rmEv, rmEv, List.flatMap_append]; rfl)
            rw [unhide EQ1, unhide EQ2] at GN
            clear q hy hot hc T U huk hun hcl hyl hel a0 EQ1 EQ2
            go_wp2_with fail
            refine (unhide GN).mono ?_
            rintro e w5 ⟨rfl, vn5, ve5, g5, t5⟩
            have R5 := hide ((unhide RA).step t5 g5)
            have hm5 : m ≤ w5.heap.size := by have := t5.size; omega
            clear g5 t5
            go_wp2_with fail
            go_roundg (t.ns.length - (k + 1))
            case measure => omega
            case rel => exact ⟨k + 1, vn5, ve5, rfl, by omega, Nat.le_refl _, hm5, R5⟩
          · rw [if_neg hc, List.append_nil] at hot
            have hcb : (y.o == x.s) = false := by simpa using hc
            rw [← hot] at RA
            have hm5 : m ≤ (wr.alloc (.cells #[.string ⟨y.p.toArray⟩, .string ⟨y.d.toArray⟩, .int .i64 y.c, .int .i64 y.m, .int .i64 y.q, .int .i64 y.v, .int .i64 y.k, .int .i64 y.o, .int .i64 y.n] 75)).heap.size := by omega
            clear q hy hot hc
            go_wp2_with fail
            go_roundg (t.ns.length - (k + 1))
            case measure => omega
            case rel => exact ⟨k + 1, un2, ue2, rfl, by omega, Nat.le_refl _, hm5, RA⟩
        · obtain rfl : k = t.ns.length := by omega
          rw [List.take_length] at HRS
          have HNL : Hid ((rmAll x.z t.ns (ownedP t.ns x.s)).length ≤ 400) := hide (by have := rmAll_length (z := x.z) _ _ (unhide HG) (rest_owned (unhide HG) (unhide HS0)); omega)
          have C1 : Hid (chgN t x = rmAll x.z t.ns (ownedP t.ns x.s)) := hide (by rw [chgN, unhide HO]; rfl)
          have C3 : Hid (chgV t x = rmEv (ownedP t.ns x.s)) := hide (by rw [chgV, unhide HO]; rfl)
          have E6 := hide (fun h => appE_six (unhide AD) hchg (unhide C1) h)
          have E0 := hide (fun h => appE_ok (unhide AD) hchg (unhide C1) h)
          obtain ⟨NS, hNS⟩ : ∃ NS, rmAll x.z t.ns (ownedP t.ns x.s) = NS := ⟨_, rfl⟩
          obtain ⟨ES, hES⟩ : ∃ ES, rmEv (ownedP t.ns x.s) = ES := ⟨_, rfl⟩
          rw [hNS] at HRS HNL C1 E6 E0
          rw [hES] at HRS C3
          obtain ⟨v9, hv9⟩ : ∃ v9, wr = v9 := ⟨_, rfl⟩
          rw [hv9] at HRS
          rw [hv9]
          have R9 := hide (unhide HRS)
          clear hNS hES hv9 HRS hchg
          have g9 := (unhide R9).rg
          have k1 := g9.c1
          have hNl := unhide HNL
          obtain ⟨ua, uc, rfl, _⟩ := g9.n.slice
          have KR : Hid (∀ W, Below v9.heap.size v9 W → ∀ (k : Nat) (y : Nd), NS[k]? = some y → ∃ b, ua = some ⟨b, 0, none⟩ ∧ b < W.heap.size ∧ RowAt W b 0 (cellsL NS)) := hide (fun W hW k y hy => by
            rcases (g9.n.next hW) with ⟨_, h0⟩ | ⟨q, cap, e, _, h1⟩
            · rw [h0] at hy; simp at hy
            · simp only [Value.slice.injEq] at e
              exact ⟨q, e.1, h1.lt, h1.row⟩)
          have hlo := g9.lo
          clear g9
          go_wp2_with fail
          go_loopg [406] NS.length (fun kx s406 wr => ∃ k : Nat, s406 = .int .i64 k ∧ k ≤ NS.length ∧ NS.length - k ≤ kx ∧ Hid (∀ i y, i < k → NS[i]? = some y → y.k ≤ 2147483647) ∧ Hid (Below v9.heap.size v9 wr))
          case atStart => exact ⟨0, rfl, Nat.zero_le _, Nat.le_refl _, hide (fun i y hi => absurd hi (by omega)), hide (Below.refl _ _)⟩
          case round =>
            obtain ⟨k, rfl, hk', hgk, hno, hB⟩ := hrel
            by_cases hlt : k < NS.length
            · obtain ⟨y, hy⟩ : ∃ y, NS[k]? = some y := ⟨_, List.getElem?_eq_getElem hlt⟩
              obtain ⟨b, rfl, hb, q⟩ := unhide KR wr (unhide hB) k y hy
              have d0 := q.n0 hy
              have d1 := q.n1 hy
              have d2 := q.n2 hy
              have d3 := q.n3 hy
              have d4 := q.n4 hy
              have d5 := q.n5 hy
              have d6 := q.n6 hy
              have d7 := q.n7 hy
              have d8 := q.n8 hy
              simp only [Nat.zero_add] at d0 d1 d2 d3 d4 d5 d6 d7 d8
              have HA := hide (nnext (unhide hB) (allocB wr (.cells #[.string ⟨y.p.toArray⟩, .string ⟨y.d.toArray⟩, .int .i64 y.c, .int .i64 y.m, .int .i64 y.q, .int .i64 y.v, .int .i64 y.k, .int .i64 y.o, .int .i64 y.n] 75)))
              by_cases hyk : y.k ≤ 2147483647
              · have hyn : ¬ ((2147483648 : Int) ≤ y.k) := by omega
                have HNK : Hid (∀ i z, i < k + 1 → NS[i]? = some z → z.k ≤ 2147483647) := hide (fun i z hi hz => by
                  by_cases h : i = k
                  · subst h; rw [hy] at hz; cases hz; exact hyk
                  · exact unhide hno i z (by omega) hz)
                clear q hy
                go_wp2_with fail
                go_roundg (NS.length - (k + 1))
                case measure => omega
                case rel => exact ⟨k + 1, rfl, by omega, Nat.le_refl _, HNK, HA⟩
              · have hyn : (2147483648 : Int) ≤ y.k := by omega
                have HE6 := hide (unhide E6 ⟨y, List.mem_of_getElem? hy, by omega⟩)
                have BX := hide ((unhide R9).rb.next (unhide HA))
                clear q hy
                go_wp2_with fail
                refine (rno_any 6 _).mono ?_
                rintro e wE ⟨rfl, hbE⟩
                have BE := hide ((unhide BX).next (by first | exact hbE | exact nbelow_drew hbE))
                obtain ⟨⟨r0, r1, r2⟩, f0, f1, f2⟩ := (unhide BE).rc
                have s0 := nset_same r0
                have s1 := nset_same r1
                have s2 := nset_same r2
                have hlE := (unhide BE).lt
                clear hbE
                go_wp2_with fail
                exact bodyPost_ret (v := .tuple #[.agg #[.int .i64 0, .slice none 0 0, .slice none 0 0], .slice none 0 0, .int .i64 6]) (by simp [results, Tryz.results17, go_sem, r0, r1, r2]) rfl (givesR_no (unhide HE6) (by decide) rfl (unhide BE).b)
            · obtain rfl : k = NS.length := by omega
              have HE0 := hide (unhide E0 (fun y hy => by
                obtain ⟨i, hi⟩ := List.getElem?_of_mem hy
                exact unhide hno i y (List.getElem?_eq_some_iff.1 hi).1 hi))
              have RW := (unhide R9).next (unhide hB)
              have e0 := RW.rg.c0
              have e1 := RW.rg.c1
              have e2 := RW.rg.c2
              have ee := RW.rg.ce
              obtain ⟨⟨r0, r1, r2⟩, f0, f1, f2⟩ := RW.rb.rc
              have hlr := RW.rb.lt
              have hlo2 := RW.rg.lo
              have hle2 := RW.rg.le
              have hm9 := RW.hm
              have hbo2 : bo ≠ w.heap.size + 2 := by have := RW.rg.fo.1; omega
              have hbe2 : bo + 1 ≠ w.heap.size + 2 := by have := RW.rg.fv.1; omega
              have FIN := hide (fin_ok RW (unhide HE0) (unhide C1) (unhide C2) (unhide C3))
              obtain ⟨ea, ec, rfl, _⟩ := RW.rg.e.slice

              clear RW
              go_wp2_with fail
              go_region
              all_goals go_wp2_with fail
              all_goals exact bodyPost_ret (v := .tuple #[.agg #[.int .i64 x.z, .slice ua NS.length uc, .slice la L.length lc], .slice ea ES.length ec, .int .i64 0]) (by simp [results, Tryz.results17, go_sem, r0, r1, r2]) rfl (unhide FIN)

end Go.Proofs.YtfejpbkapikdiaaGreatDoor
