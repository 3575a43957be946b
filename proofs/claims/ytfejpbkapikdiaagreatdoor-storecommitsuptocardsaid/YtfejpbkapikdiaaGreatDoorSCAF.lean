/-
  aviaryref's Apply: creating a node: the walk.
-/
import Derived.Test.YtfejpbkapikdiaaGreatDoorSCAD
import Derived.Test.YtfejpbkapikdiaaGreatDoorSCAC
namespace Go.Proofs.YtfejpbkapikdiaaGreatDoor
open Go.RowKit

set_option maxRecDepth 20000 in
set_option maxHeartbeats 4000000 in
theorem rcre_a (t : Tr) (x : WTxn) (vn vs : Value) (w : World) (hn : SeqV w vn t.ns) (hs : SeqV w vs t.ss) (ar : Args t x) (ad : Adm t x) (ho : x.o = 3) (A B : List Nd) (G : NGap t.ns A B x.p) (A' B' : List Nd) (u : Nd) (U : NThere t.ns A' u B' (dirOf x.p)) (hu : u.o = 0) (hw : x.w = 0) (hf : t.ns.length < 400) (Aq Bq : List Nd) (Uq : NThere (A ++ newN x :: B) Aq u Bq (dirOf x.p)) (huk : 0 ≤ u.k ∧ u.k ≤ 2147483647) (hkn : 0 ≤ u.n ∧ u.n ≤ 1000) (hls : t.ss.length * 8 ≤ 140737488351232) (hchg : chgE t x = 0) :
    Calls Tryz.prog 17 #[.agg #[.int .i64 t.z, vn, vs], txnV x] w (GivesR w t x) := by
  have g := goodT_true.1 ad.good
  have hlf := g.nod.few
  have hco : decide (x.s ∈ t.ss) = true := by rw [ad.opn, ho]; decide
  have CG := hide (fun W (hW : Below w.heap.size w W) => rgoodT_any t vn vs W (hn.next hW) (hs.next hW) ar.wf ar.z ar.long ar.ss)
  rw [ad.good] at CG
  have CX := hide (fun W => rgd_any x W ar.xz ar.xp ar.xd)
  rw [ad.txn] at CX
  have CI := hide (fun W (hW : Below w.heap.size w W) => risopen_any t.z vn vs t.ss x.s W (hs.next hW) ar.ss)
  rw [hco] at CI
  have CS := hide (fun W => rsplit_any x.p W ar.xp)
  have CN1 := hide (fun W (hW : Below w.heap.size w W) => rnode_no t.z vn vs t.ns x.p W (hn.next hW) (by omega) (gap_no G))
  have CN2 := hide (fun W (hW : Below w.heap.size w W) => rnode_at t.z vn vs t.ns (dirOf x.p) A'.length u W (hn.next hW) (by omega) (at_there U))
  have hzn : ¬ x.z ≤ t.z := ad.ord
  have HO := hide ho
  have CC := hide (fun W (hW : Below w.heap.size w W) => rcopyT_any t vn vs W (hn.next hW) (hs.next hW) (by omega) (by omega))
  have AD := hide ad
  have HXP := hide ar.xp
  have T0 := hide (RB.new w t.z vn vs x)
  obtain ⟨rb, ro, rcap, hre, hrb, hrow, _, _⟩ := seq_row hn (by rw [U.eq]; simp)
  have HROW := hide (fun W (hW : Below w.heap.size w W) => hrow.kept hW hrb)
  have HAT := hide (show t.ns[A'.length]? = some u by rw [U.eq]; exact nat_at _ _ _)
  have hil : (A'.length : Int) < (t.ns.length : Int) := by have h9 := (List.getElem?_eq_some_iff.1 (unhide HAT)).1; omega
  have hub : (u.o == 0) = true := by simpa using hu
  have hun : (u.o != 0) = false := by simpa using hu
  have hw1 : (x.w != 0) = false := by simpa using hw
  have hw0 : (x.w == 0) = true := by simpa using hw
  have hfi : ¬ ((400 : Int) ≤ (t.ns.length : Int)) := by omega
  have HINS := hide (show insN t.ns (newN x) = A ++ newN x :: B from G.ins)
  clear hu hw
  obtain ⟨na, nc, rfl⟩ := seq_slice hn
  obtain ⟨sa, sc, rfl⟩ := seq_slice hs
  unfold txnV at CX
  unfold txnV
  rw [unhide HO] at CX
  clear hn hs ar ad g ho hco
  simp only [Value.slice.injEq] at hre
  obtain ⟨rfl, _, rfl⟩ := hre
  clear hrow
  go_enter Tryz.func17, Tryz.ntmps17
  go_wp2_with fail
  refine (unhide CG _ (unhide T0).b).mono ?_
  rintro e w1 ⟨rfl, hb1⟩
  have B1 := hide ((unhide T0).next hb1)
  obtain ⟨t0, t1, t2⟩ := (unhide B1).tc
  obtain ⟨x0, x1, x2, x3, x4, x5, x6⟩ := (unhide B1).xc
  rw [unhide HO] at x1
  have hl1 := (unhide B1).lt
  have hm1 : w.heap.size + 1 < w1.heap.size := by omega
  have hp1 : w.heap.size < w1.heap.size := by omega
  clear hb1
  go_wp2_with fail
  refine (unhide CX _).mono ?_
  rintro e w2 ⟨rfl, hb2⟩
  have B2 := hide ((unhide B1).next hb2)
  obtain ⟨t0, t1, t2⟩ := (unhide B2).tc
  obtain ⟨x0, x1, x2, x3, x4, x5, x6⟩ := (unhide B2).xc
  rw [unhide HO] at x1
  have hl2 := (unhide B2).lt
  have hm2 : w.heap.size + 1 < w2.heap.size := by omega
  have hp2 : w.heap.size < w2.heap.size := by omega
  clear hb2
  go_wp2_with fail
  refine (unhide CI _ (unhide B2).b).mono ?_
  rintro e w3 ⟨rfl, hb3⟩
  have B3 := hide ((unhide B2).next hb3)
  obtain ⟨t0, t1, t2⟩ := (unhide B3).tc
  obtain ⟨x0, x1, x2, x3, x4, x5, x6⟩ := (unhide B3).xc
  rw [unhide HO] at x1
  have hl3 := (unhide B3).lt
  have hm3 : w.heap.size + 1 < w3.heap.size := by omega
  have hp3 : w.heap.size < w3.heap.size := by omega
  clear hb3
  go_wp2_with fail
  refine (unhide CN1 _ (unhide B3).b).mono ?_
  rintro e w4 ⟨rfl, hb4⟩
  have B4 := hide ((unhide B3).next hb4)
  obtain ⟨t0, t1, t2⟩ := (unhide B4).tc
  obtain ⟨x0, x1, x2, x3, x4, x5, x6⟩ := (unhide B4).xc
  rw [unhide HO] at x1
  have hl4 := (unhide B4).lt
  have hm4 : w.heap.size + 1 < w4.heap.size := by omega
  have hp4 : w.heap.size < w4.heap.size := by omega
  clear hb4
  go_wp2_with fail
  refine (unhide CS _).mono ?_
  rintro e w5 ⟨rfl, hb5⟩
  have B5 := hide ((unhide B4).next hb5)
  obtain ⟨t0, t1, t2⟩ := (unhide B5).tc
  obtain ⟨x0, x1, x2, x3, x4, x5, x6⟩ := (unhide B5).xc
  rw [unhide HO] at x1
  have hl5 := (unhide B5).lt
  have hm5 : w.heap.size + 1 < w5.heap.size := by omega
  have hp5 : w.heap.size < w5.heap.size := by omega
  clear hb5
  go_wp2_with fail
  refine (unhide CN2 _ (unhide B5).b).mono ?_
  rintro e w6 ⟨rfl, hb6⟩
  have B6 := hide ((unhide B5).next hb6)
  obtain ⟨t0, t1, t2⟩ := (unhide B6).tc
  obtain ⟨x0, x1, x2, x3, x4, x5, x6⟩ := (unhide B6).xc
  rw [unhide HO] at x1
  have hl6 := (unhide B6).lt
  have hm6 : w.heap.size + 1 < w6.heap.size := by omega
  have hp6 : w.heap.size < w6.heap.size := by omega
  clear hb6
  have n7 := (unhide HROW w6 (unhide B6).b).n7 (unhide HAT)
  go_wp2_with fail
  refine (unhide CC _ (unhide B6).b).mono ?_
  rintro e w7 ⟨un, us, rfl, hn7, hs7, hb7⟩
  have B7 := hide ((unhide B6).next hb7)
  obtain ⟨t0, t1, t2⟩ := (unhide B7).tc
  obtain ⟨x0, x1, x2, x3, x4, x5, x6⟩ := (unhide B7).xc
  rw [unhide HO] at x1
  have hl7 := (unhide B7).lt
  have hm7 : w.heap.size + 1 < w7.heap.size := by omega
  have hp7 : w.heap.size < w7.heap.size := by omega
  obtain ⟨una, unc, rfl, _⟩ := hn7.slice
  obtain ⟨usa, usc, rfl, _⟩ := hs7.slice
  have q1 : w.heap.size + 1 ≠ w7.heap.size := by omega
  have q0 : w.heap.size ≠ w7.heap.size := by omega
  have q2 : w.heap.size + 2 ≠ w7.heap.size := by omega
  have h67 := hb7.size
  have R0 := hide (RS.new (unhide B6) hb7 hn7 hs7)
  clear hb7 hn7 hs7
  go_upto_region 44 with fail
  obtain ⟨W8, hW8⟩ : ∃ W8, (((w7.alloc (.cells #[.int .i64 x.z, .slice una t.ns.length unc, .slice usa t.ss.length usc] 31)).alloc (.cells #[.slice none 0 0] 46)).alloc (.cells #[.func (.func 49) #[] #[.pointer (some ⟨w7.heap.size, 0, none⟩), .pointer (some ⟨w.heap.size + 1, 0, none⟩), .pointer (some ⟨w7.heap.size + 1, 0, none⟩)]] 99)) = W8 := ⟨_, rfl⟩
  unfold parV at R0
  rw [hW8] at R0
  rw [hW8]
  have hs8 : w7.heap.size + 3 = W8.heap.size := by rw [← hW8]; simp
  have hl8 : w7.heap.size + 2 < W8.heap.size := by omega
  obtain ⟨m, hm⟩ : ∃ m, w6.heap.size = m := ⟨_, rfl⟩
  obtain ⟨bo, hbo⟩ : ∃ bo, w7.heap.size = bo := ⟨_, rfl⟩
  rw [hm, hbo] at R0
  have hmW : m ≤ W8.heap.size := by omega
  have hmw : w.heap.size + 3 ≤ m := by omega
  have hbm : m ≤ bo := by omega
  have HBO := hide hbo
  rw [hbo]
  clear hW8 hs8 hm hbo q0 q1 q2
  have R8 := hide (unhide R0)
  obtain ⟨x0, x1, x2, x3, x4, x5, x6⟩ := (unhide R8).rb.xc
  rw [unhide HO] at x1
  obtain ⟨t0, t1, t2⟩ := (unhide R8).rb.tc
  have k1 := (unhide R8).rg.c1
  have hlo8 := (unhide R8).rg.lo
  have HLX : Hid ((insN t.ns (newN x)).length ≤ 400) := hide (by rw [unhide HINS]; have := G.eq; have h2 := congrArg List.length this; simp at h2 ⊢; omega)
  go_wp2_with fail
  obtain ⟨V8, hV8⟩ : ∃ V8, W8.alloc (.cells #[.string ⟨x.p.toArray⟩, .string ⟨x.d.toArray⟩, .int .i64 x.z, .int .i64 x.z, .int .i64 x.z, .int .i64 0, .int .i64 0, .int .i64 x.w, .int .i64 0] 75) = V8 := ⟨_, rfl⟩
  have BV : Hid (Below W8.heap.size W8 V8) := hide (by rw [← hV8]; exact allocB _ _)
  have ON : Hid (OneR V8 W8.heap.size (newN x)) := hide (by rw [← hV8]; exact one_newN W8 (newN x))
  rw [hV8]
  have RV := hide ((unhide R8).next (unhide BV))
  have hmV : m ≤ V8.heap.size := by have := (unhide BV).size; omega
  obtain ⟨bn, hbn⟩ : ∃ bn, W8.heap.size = bn := ⟨_, rfl⟩
  rw [hbn] at ON
  rw [hbn]
  have KR : Hid (∀ W, Below V8.heap.size V8 W → ∀ (k : Nat) (y : Nd), t.ns[k]? = some y → ∃ b, una = some ⟨b, 0, none⟩ ∧ b < W.heap.size ∧ RowAt W b 0 (cellsL t.ns)) := hide (fun W hW k y hy => by
    rcases ((unhide RV).rg.n.next hW) with ⟨_, h0⟩ | ⟨q, cap, e, _, h1⟩
    · rw [h0] at hy; simp at hy
    · simp only [Value.slice.injEq] at e
      exact ⟨q, e.1, h1.lt, h1.row⟩)
  have KX : Hid (∀ W, Below V8.heap.size V8 W → W.cell? ⟨w.heap.size + 1, 3, none⟩ = some (.string ⟨x.p.toArray⟩) ∧ w.heap.size + 1 < W.heap.size ∧ W.cell? ⟨bo, 1, none⟩ = some (.slice una t.ns.length unc) ∧ bo < W.heap.size) := hide (fun W hW => by
    have h := (unhide RV).next hW
    have := h.rb.lt
    exact ⟨h.rb.xc.2.2.2.1, by omega, h.rg.c1, h.rg.lo⟩)
  have KB : Hid (∀ W, Below V8.heap.size V8 W → W.cell? ⟨bn, 0, none⟩ = some (.string ⟨x.p.toArray⟩) ∧ W.cell? ⟨bn, 1, none⟩ = some (.string ⟨x.d.toArray⟩) ∧ W.cell? ⟨bn, 2, none⟩ = some (.int .i64 x.z) ∧ W.cell? ⟨bn, 3, none⟩ = some (.int .i64 x.z) ∧ W.cell? ⟨bn, 4, none⟩ = some (.int .i64 x.z) ∧ W.cell? ⟨bn, 5, none⟩ = some (.int .i64 0) ∧ W.cell? ⟨bn, 6, none⟩ = some (.int .i64 0) ∧ W.cell? ⟨bn, 7, none⟩ = some (.int .i64 x.w) ∧ W.cell? ⟨bn, 8, none⟩ = some (.int .i64 0) ∧ bn < W.heap.size) := hide (fun W hW => by
    have hl := (Array.getElem?_eq_some_iff.1 (unhide ON)).1
    have h : W.heap[bn]? = some (.cells #[.string ⟨x.p.toArray⟩, .string ⟨x.d.toArray⟩, .int .i64 x.z, .int .i64 x.z, .int .i64 x.z, .int .i64 0, .int .i64 0, .int .i64 x.w, .int .i64 0] 75) := (hW.block _ hl).trans (unhide ON)
    refine ⟨?_, ?_, ?_, ?_, ?_, ?_, ?_, ?_, ?_, by have := hW.size; omega⟩ <;> simp [World.cell?, h])
  have HGN := hide (gap_no G)
  clear hV8 hbn BV ON k1 hlo8 G
  go_loopg [30, 321] t.ns.length (fun kx sl sk wr => ∃ (k : Nat) (L : List Nd) (la : Option Addr) (lc : Nat), sk = .int .i64 k ∧ sl = .slice la L.length lc ∧ k ≤ t.ns.length ∧ t.ns.length - k ≤ kx ∧ Hid (([] : List Nd) ++ (t.ns.take k).filter (fun y => bl y.p x.p) = L) ∧ Hid (OwnS wr V8.heap.size (.slice la L.length lc) L) ∧ Hid (Below V8.heap.size V8 wr))
  case atStart => exact ⟨0, [], none, 0, rfl, rfl, Nat.zero_le _, Nat.le_refl _, hide rfl, hide (.inl ⟨rfl, rfl⟩), hide (Below.refl _ _)⟩
  case round =>
    obtain ⟨k, L, la, lc, rfl, rfl, hk', hgk, hL, hO, hB⟩ := hrel
    obtain ⟨z3, hlw, k1, hlo8⟩ := unhide KX wr (unhide hB)
    have hLl : L.length ≤ 2000 := by
      have h1 : ((t.ns.take k).filter (fun y => bl y.p x.p)).length ≤ (t.ns.take k).length := List.length_filter_le _ _
      have h2 : (t.ns.take k).length ≤ k := by simp; omega
      rw [← unhide hL]
      simp only [List.nil_append]; omega
    by_cases hlt : k < t.ns.length
    · obtain ⟨y, hy⟩ : ∃ y, t.ns[k]? = some y := ⟨_, List.getElem?_eq_getElem hlt⟩
      obtain ⟨b, rfl, hb, q⟩ := unhide KR wr (unhide hB) k y hy
      have d0 := q.n0 hy
      have d1 := q.n1 hy
      have d2 := q.n2 hy
      have d3 := q.n3 hy
      have d4 := q.n4 hy
      have d5 := q.n5 hy
      have d6 := q.n6 hy
      have d7 := q.n7 hy
      have d8 := q.n8 hy
      simp only [Nat.zero_add] at d0 d1 d2 d3 d4 d5 d6 d7 d8
      have hds := flt_snoc (fun y => bl y.p x.p) hy
      cases hc : bl y.p x.p
      · rw [if_neg (by rw [hc]; decide)] at hds
        have HDS : Hid (([] : List Nd) ++ (t.ns.take (k + 1)).filter (fun y => bl y.p x.p) = L) := hide (by rw [hds, List.append_nil, unhide hL])
        have HO1 := hide ((unhide hO).next (allocB wr (.cells #[.string ⟨y.p.toArray⟩, .string ⟨y.d.toArray⟩, .int .i64 y.c, .int .i64 y.m, .int .i64 y.q, .int .i64 y.v, .int .i64 y.k, .int .i64 y.o, .int .i64 y.n] 75)))
        have HB1 := hide (nnext (unhide hB) (allocB wr (.cells #[.string ⟨y.p.toArray⟩, .string ⟨y.d.toArray⟩, .int .i64 y.c, .int .i64 y.m, .int .i64 y.q, .int .i64 y.v, .int .i64 y.k, .int .i64 y.o, .int .i64 y.n] 75)))
        clear hds hy q
        go_wp2_with fail
        go_roundg (t.ns.length - (k + 1))
        case measure => omega
        case rel => exact ⟨k + 1, L, la, lc, rfl, rfl, by omega, Nat.le_refl _, HDS, HO1, HB1⟩
      · rw [if_pos (by rw [hc])] at hds
        have HDS : Hid (([] : List Nd) ++ (t.ns.take (k + 1)).filter (fun y => bl y.p x.p) = L ++ [y]) := hide (by rw [hds, ← List.append_assoc, unhide hL])
        have HO1 := hide (((unhide hO).next (allocB wr (.cells #[.string ⟨y.p.toArray⟩, .string ⟨y.d.toArray⟩, .int .i64 y.c, .int .i64 y.m, .int .i64 y.q, .int .i64 y.v, .int .i64 y.k, .int .i64 y.o, .int .i64 y.n] 75))).next (allocB _ (.cells #[.string ⟨y.p.toArray⟩, .string ⟨y.d.toArray⟩, .int .i64 y.c, .int .i64 y.m, .int .i64 y.q, .int .i64 y.v, .int .i64 y.k, .int .i64 y.o, .int .i64 y.n] 75)))
        have HB1 := hide (nnext (nnext (unhide hB) (allocB wr (.cells #[.string ⟨y.p.toArray⟩, .string ⟨y.d.toArray⟩, .int .i64 y.c, .int .i64 y.m, .int .i64 y.q, .int .i64 y.v, .int .i64 y.k, .int .i64 y.o, .int .i64 y.n] 75))) (allocB _ (.cells #[.string ⟨y.p.toArray⟩, .string ⟨y.d.toArray⟩, .int .i64 y.c, .int .i64 y.m, .int .i64 y.q, .int .i64 y.v, .int .i64 y.k, .int .i64 y.o, .int .i64 y.n] 75)))
        clear hds hy q
        go_wp2_with (at_builtin; refine wpList_app_nd1 rfl _ _ rfl (.slice la L.length lc) L rfl ((unhide HO1).lower (Nat.zero_le _)) (wr.heap.size + 1) rfl y (one_newN2 wr _ y) (by omega) ?_)
        intro a3 c3 w3 ho3 hg3 hl3
        obtain ⟨o3, b3⟩ := grows_on (unhide HO1) (unhide HB1) ho3 hg3 (by simpa using hl3)
        have HO3 := hide o3
        have HB3 := hide b3
        clear ho3 hg3 hl3 o3 b3
        go_wp2_with fail
        go_roundg (t.ns.length - (k + 1))
        case measure => omega
        case rel => exact ⟨k + 1, L ++ [y], a3, c3, rfl, by rw [List.length_append]; rfl, by omega, Nat.le_refl _, HDS, by rw [List.length_append]; exact HO3, HB3⟩
    · obtain rfl : k = t.ns.length := by omega
      have hL2 := unhide hL
      rw [List.take_length] at hL2
      rw [List.nil_append] at hL2
      obtain ⟨o0, o1, o2, o3, o4, o5, o6, o7, o8, hbnw⟩ := unhide KB wr (unhide hB)
      have HO1 := hide ((unhide hO).next (allocB wr (.cells #[.string ⟨x.p.toArray⟩, .string ⟨x.d.toArray⟩, .int .i64 x.z, .int .i64 x.z, .int .i64 x.z, .int .i64 0, .int .i64 0, .int .i64 x.w, .int .i64 0] 75)))
      have HB1 := hide (nnext (unhide hB) (allocB wr (.cells #[.string ⟨x.p.toArray⟩, .string ⟨x.d.toArray⟩, .int .i64 x.z, .int .i64 x.z, .int .i64 x.z, .int .i64 0, .int .i64 0, .int .i64 x.w, .int .i64 0] 75)))
      have HPL : Hid (t.ns.filter (fun y => bl y.p x.p) ++ [newN x] = L ++ [newN x]) := hide (by rw [hL2])
      clear hL2 hL
      go_wp2_with (at_builtin; refine wpList_app_nd1 rfl _ _ rfl (.slice la L.length lc) L rfl ((unhide HO1).lower (Nat.zero_le _)) wr.heap.size rfl (newN x) (one_newN wr (newN x)) (by omega) ?_)
      intro a3 c3 w3 ho3 hg3 hl3
      obtain ⟨o3', b3⟩ := grows_on (unhide HO1) (unhide HB1) ho3 hg3 (by simpa using hl3)
      obtain ⟨z3, hlw, k1, hlo8⟩ := unhide KX w3 b3
      obtain ⟨P, hP⟩ : ∃ P, L ++ [newN x] = P := ⟨_, rfl⟩
      have hPl : P.length ≤ 500 := by
        have h1 : (t.ns.filter (fun y => bl y.p x.p)).length ≤ t.ns.length := List.length_filter_le _ _
        have h2 := congrArg List.length (unhide HPL)
        rw [hP, List.length_append, List.length_singleton] at h2
        omega
      have hPe : L.length + 1 = P.length := by rw [← hP, List.length_append, List.length_singleton]
      rw [hP] at o3'
      rw [hPe] at o3'
      rw [hPe]
      rw [hP] at HPL
      have HP0 := hide (unhide HPL)
      have HO3 := hide o3'
      have HB3 := hide b3
      clear ho3 hg3 hl3 o3' b3 hP hPe HPL HO1 HB1 hO hB
      go_wp2_with fail
      go_loopg [30, 342] t.ns.length (fun kx sl sk wr => ∃ (k : Nat) (L : List Nd) (la : Option Addr) (lc : Nat), sk = .int .i64 k ∧ sl = .slice la L.length lc ∧ k ≤ t.ns.length ∧ t.ns.length - k ≤ kx ∧ Hid (P ++ (t.ns.take k).filter (fun y => bl x.p y.p) = L) ∧ Hid (OwnS wr V8.heap.size (.slice la L.length lc) L) ∧ Hid (Below V8.heap.size V8 wr))
      case atStart => exact ⟨0, P, a3, c3, rfl, rfl, Nat.zero_le _, Nat.le_refl _, hide (by simp), HO3, HB3⟩
      case round =>
        obtain ⟨k, L, la, lc, rfl, rfl, hk', hgk, hL, hO, hB⟩ := hrel
        obtain ⟨z3, hlw, k1, hlo8⟩ := unhide KX wr (unhide hB)
        have hLl : L.length ≤ 2000 := by
          have h1 : ((t.ns.take k).filter (fun y => bl x.p y.p)).length ≤ (t.ns.take k).length := List.length_filter_le _ _
          have h2 : (t.ns.take k).length ≤ k := by simp; omega
          rw [← unhide hL]
          simp only [List.length_append]; omega
        by_cases hlt : k < t.ns.length
        · obtain ⟨y, hy⟩ : ∃ y, t.ns[k]? = some y := ⟨_, List.getElem?_eq_getElem hlt⟩
          obtain ⟨b, rfl, hb, q⟩ := unhide KR wr (unhide hB) k y hy
          have d0 := q.n0 hy
          have d1 := q.n1 hy
          have d2 := q.n2 hy
          have d3 := q.n3 hy
          have d4 := q.n4 hy
          have d5 := q.n5 hy
          have d6 := q.n6 hy
          have d7 := q.n7 hy
          have d8 := q.n8 hy
          simp only [Nat.zero_add] at d0 d1 d2 d3 d4 d5 d6 d7 d8
          have hds := flt_snoc (fun y => bl x.p y.p) hy
          cases hc : bl x.p y.p
          · rw [if_neg (by rw [hc]; decide)] at hds
            have HDS : Hid (P ++ (t.ns.take (k + 1)).filter (fun y => bl x.p y.p) = L) := hide (by rw [hds, List.append_nil, unhide hL])
            have HO1 := hide ((unhide hO).next (allocB wr (.cells #[.string ⟨y.p.toArray⟩, .string ⟨y.d.toArray⟩, .int .i64 y.c, .int .i64 y.m, .int .i64 y.q, .int .i64 y.v, .int .i64 y.k, .int .i64 y.o, .int .i64 y.n] 75)))
            have HB1 := hide (nnext (unhide hB) (allocB wr (.cells #[.string ⟨y.p.toArray⟩, .string ⟨y.d.toArray⟩, .int .i64 y.c, .int .i64 y.m, .int .i64 y.q, .int .i64 y.v, .int .i64 y.k, .int .i64 y.o, .int .i64 y.n] 75)))
            have hcl : Op.bytesLess y.p x.p = true := by cases hq : Op.bytesLess y.p x.p with | true => rfl | false => exact absurd (bl_total _ _ hq hc) (unhide HGN y (List.mem_of_getElem? hy))
            clear hds hy q
            go_wp2_with fail
            go_roundg (t.ns.length - (k + 1))
            case measure => omega
            case rel => exact ⟨k + 1, L, la, lc, rfl, rfl, by omega, Nat.le_refl _, HDS, HO1, HB1⟩
          · rw [if_pos (by rw [hc])] at hds
            have HDS : Hid (P ++ (t.ns.take (k + 1)).filter (fun y => bl x.p y.p) = L ++ [y]) := hide (by rw [hds, ← List.append_assoc, unhide hL])
            have HO1 := hide (((unhide hO).next (allocB wr (.cells #[.string ⟨y.p.toArray⟩, .string ⟨y.d.toArray⟩, .int .i64 y.c, .int .i64 y.m, .int .i64 y.q, .int .i64 y.v, .int .i64 y.k, .int .i64 y.o, .int .i64 y.n] 75))).next (allocB _ (.cells #[.string ⟨y.p.toArray⟩, .string ⟨y.d.toArray⟩, .int .i64 y.c, .int .i64 y.m, .int .i64 y.q, .int .i64 y.v, .int .i64 y.k, .int .i64 y.o, .int .i64 y.n] 75)))
            have HB1 := hide (nnext (nnext (unhide hB) (allocB wr (.cells #[.string ⟨y.p.toArray⟩, .string ⟨y.d.toArray⟩, .int .i64 y.c, .int .i64 y.m, .int .i64 y.q, .int .i64 y.v, .int .i64 y.k, .int .i64 y.o, .int .i64 y.n] 75))) (allocB _ (.cells #[.string ⟨y.p.toArray⟩, .string ⟨y.d.toArray⟩, .int .i64 y.c, .int .i64 y.m, .int .i64 y.q, .int .i64 y.v, .int .i64 y.k, .int .i64 y.o, .int .i64 y.n] 75)))
            have hcl : Op.bytesLess y.p x.p = false := bl_asymm hc
            have hce : (y.p == x.p) = false := by simpa using unhide HGN y (List.mem_of_getElem? hy)
            clear hds hy q
            go_wp2_with (at_builtin; refine wpList_app_nd1 rfl _ _ rfl (.slice la L.length lc) L rfl ((unhide HO1).lower (Nat.zero_le _)) (wr.heap.size + 1) rfl y (one_newN2 wr _ y) (by omega) ?_)
            intro a3 c3 w3 ho3 hg3 hl3
            obtain ⟨o3, b3⟩ := grows_on (unhide HO1) (unhide HB1) ho3 hg3 (by simpa using hl3)
            have HO3 := hide o3
            have HB3 := hide b3
            clear ho3 hg3 hl3 o3 b3
            go_wp2_with fail
            go_roundg (t.ns.length - (k + 1))
            case measure => omega
            case rel => exact ⟨k + 1, L ++ [y], a3, c3, rfl, by rw [List.length_append]; rfl, by omega, Nat.le_refl _, HDS, by rw [List.length_append]; exact HO3, HB3⟩
        · obtain rfl : k = t.ns.length := by omega
          have hL2 := unhide hL
          rw [List.take_length] at hL2
          rw [← unhide HP0, List.append_assoc] at hL2
          have HLI : Hid (A ++ newN x :: B = L) := hide (by rw [← unhide HINS, insN, ← hL2]; rfl)
          clear hL2 hL
          rw [unhide HLI] at Uq
          have R4 := hide ((unhide RV).step ((Touch.of_below (F := FB m (bo + 2)) (unhide hB)).trans (Touch.set (a := ⟨bo, 1, none⟩) (unhide RV).rg.fo (.slice la L.length lc))) ((unhide RV).rg.nd ((unhide RV).free hmV) (unhide hB) (unhide hO)))
          have gw := (unhide RV).rg.next (unhide hB)
          have z1 := gw.fzo 1
          have ke := gw.ce
          have hle8 := gw.le
          have hws := (unhide hB).size
          have hlL : L.length ≤ 400 := by rw [← unhide HLI, ← unhide HINS, insN]; have := unhide HLX; rw [insN] at this; exact this
          have CP : Hid (∀ W ve, m ≤ W.heap.size → RS w W t (.slice (some ⟨rb, ro, none⟩) t.ns.length nc) (.slice sa t.ss.length sc) x m bo (bo + 1) (bo + 2) (.slice la L.length lc) (.slice usa t.ss.length usc) ve L t.ss [⟨1, x.p⟩] → Calls Tryz.prog 49 #[.string ⟨x.p.toArray⟩, .int .i64 1, .pointer (some ⟨bo, 0, none⟩), .pointer (some ⟨w.heap.size + 1, 0, none⟩), .pointer (some ⟨bo + 1, 0, none⟩)] W fun e w' => e = .returned (.tuple #[]) ∧ ∃ ve', RG w' (FB m (bo + 2)) bo (bo + 1) x.z (.slice la L.length lc) (.slice usa t.ss.length usc) ve' (Aq ++ bump x.z 1 u :: Bq) t.ss [⟨1, x.p⟩, ⟨4, dirOf x.p⟩] ∧ Touch (FB m (bo + 2)) W w') := hide (fun W ve hmW' R => by
            have hlt := R.rb.lt
            exact rparent_any (FB m (bo + 2)) bo (bo + 1) (w.heap.size + 1) x.z _ _ ve L Aq Bq u t.ss [⟨1, x.p⟩] x.p 1 x.z W R.rg (R.free hmW') R.rb.xc.1 (by omega) (fun h => by have := h.1; omega) Uq hlL ⟨huk.1, by omega⟩ hkn ⟨by omega, by omega⟩ (unhide HXP) (by simp))
          have K4 : Hid (∀ (w4 : World) (a4 : Option Addr) (c4 : Nat), OwnS w4 0 (.slice a4 1 c4) [(⟨1, x.p⟩ : Ev)] → ((wr.setCell ⟨bo, 1, none⟩ (.slice la L.length lc)).alloc (.cells #[.int .i64 1, .string ⟨x.p.toArray⟩] 60)).grownBy w4 none → ((Value.slice a4 1 c4).ownBlock = none ∨ (Value.slice a4 1 c4).ownBlock = some ((wr.setCell ⟨bo, 1, none⟩ (.slice la L.length lc)).alloc (.cells #[.int .i64 1, .string ⟨x.p.toArray⟩] 60)).heap.size) →
              w4.cell? ⟨bo + 1, 0, none⟩ = some (.slice none 0 0) ∧ w4.frozen? ⟨bo + 1, 0, none⟩ = false ∧ bo + 1 < w4.heap.size ∧ w4.cell? ⟨bo + 2, 0, none⟩ = some (.func (.func 49) #[] #[.pointer (some ⟨bo, 0, none⟩), .pointer (some ⟨w.heap.size + 1, 0, none⟩), .pointer (some ⟨bo + 1, 0, none⟩)]) ∧ bo + 2 < w4.heap.size ∧ w4.cell? ⟨w.heap.size + 1, 3, none⟩ = some (.string ⟨x.p.toArray⟩) ∧ m ≤ w4.heap.size ∧ RS w (w4.setCell ⟨bo + 1, 0, none⟩ (.slice a4 1 c4)) t (.slice (some ⟨rb, ro, none⟩) t.ns.length nc) (.slice sa t.ss.length sc) x m bo (bo + 1) (bo + 2) (.slice la L.length lc) (.slice usa t.ss.length usc) (.slice a4 1 c4) L t.ss [⟨1, x.p⟩]) := hide (by
            intro w4 a4 c4 ho4 hg4 hl4
            have rx := (unhide R4).next (allocB _ (.cells #[.int .i64 1, .string ⟨x.p.toArray⟩] 60))
            have gx := rx.rg
            have nn : ∀ k, some k ≠ (none : Option Nat) := fun k e => by cases e
            have t4 : Touch (FB m (bo + 2)) ((wr.setCell ⟨bo, 1, none⟩ (.slice la L.length lc)).alloc (.cells #[.int .i64 1, .string ⟨x.p.toArray⟩] 60)) w4 := Touch.of_grown hg4 (fun k e => by cases e)
            have hsz : wr.heap.size + 1 = ((wr.setCell ⟨bo, 1, none⟩ (.slice la L.length lc)).alloc (.cells #[.int .i64 1, .string ⟨x.p.toArray⟩] 60)).heap.size := by simp [World.setCell]
            have hs4 := hg4.size
            exact ⟨hg4.cell gx.ce (nn _), (World.frozen?_of_block (hg4.block (bo + 1) gx.le (nn _))).trans (gx.fze 0), Nat.lt_of_lt_of_le gx.le hg4.size, hg4.cell rx.pcell.1 (nn _), Nat.lt_of_lt_of_le rx.pcell.2 hg4.size, hg4.cell rx.rb.xc.2.2.2.1 (nn _), by omega, rx.step (t4.trans (Touch.set (a := ⟨bo + 1, 0, none⟩) gx.fv _)) (gx.ev (rx.free (by omega)) hg4 ho4 hl4)⟩)
          have NSX : Hid (Aq ++ bump x.z 1 u :: Bq = bumpAt (dirOf x.p) x.z 1 L) := hide (Uq.bump x.z 1).symm
          have heo : bo + 1 ≠ bo := by omega
          have hex : bo + 1 ≠ w.heap.size + 1 := by omega
          have hpx : bo + 2 ≠ bo + 1 := by omega
          clear gw Uq R4
          go_wp2_with (at_builtin; refine wpList_app_ev0 rfl _ _ rfl rfl wr.heap.size rfl ⟨1, x.p⟩ (one_newE2 wr _ _ 1 x.p) ?_)
          intro a4 c4 w4 ho4 hg4 hl4
          obtain ⟨m0, m1, m3, m5, m6, m7, m8, r4⟩ := unhide K4 w4 a4 c4 ho4 hg4 (by simpa [World.setCell] using hl4)
          have m5' : w4.cell? ⟨bo + 1 + 1, 0, none⟩ = some (.func (.func 49) #[] #[.pointer (some ⟨bo, 0, none⟩), .pointer (some ⟨w.heap.size + 1, 0, none⟩), .pointer (some ⟨bo + 1, 0, none⟩)]) := m5
          have m6' : bo + 1 + 1 < w4.heap.size := m6
          have R5 := hide r4
          have hm5 : m ≤ (w4.setCell ⟨bo + 1, 0, none⟩ (.slice a4 1 c4)).heap.size := by rw [set_size]; exact m8
          clear ho4 hg4 hl4 r4 K4
          go_wp2_with fail
          refine (unhide CP _ _ hm5 (unhide R5)).mono ?_
          rintro e w9 ⟨rfl, ve9, g9, t9⟩
          have C1 : Hid (chgN t x = Aq ++ bump x.z 1 u :: Bq) := hide (by rw [chgN, unhide HO, unhide NSX, ← unhide HLI, ← unhide HINS]; rfl)
          have C2 : Hid (chgS t x = t.ss) := hide (by rw [chgS, unhide HO]; rfl)
          have C3 : Hid (chgV t x = [⟨1, x.p⟩, ⟨4, dirOf x.p⟩]) := hide (by rw [chgV, unhide HO]; rfl)
          have E6 := hide (fun h => appE_six (unhide AD) hchg (unhide C1) h)
          have E0 := hide (fun h => appE_ok (unhide AD) hchg (unhide C1) h)
          have HNL : Hid ((Aq ++ bump x.z 1 u :: Bq).length ≤ 400) := hide (by rw [unhide NSX, bumpAt, List.length_map]; exact hlL)
          obtain ⟨NS, hNS⟩ : ∃ NS, Aq ++ bump x.z 1 u :: Bq = NS := ⟨_, rfl⟩
          obtain ⟨un9, hun9⟩ : ∃ un9, (Value.slice la L.length lc) = un9 := ⟨_, rfl⟩
          rw [hNS] at g9 C1 E6 E0 HNL
          rw [hun9] at g9
          obtain ⟨ua, uc, hua, _⟩ := g9.n.slice
          rw [hua] at g9
          have R9 := hide ((unhide R5).step t9 g9)
          clear g9 t9 R5 hNS hun9 hua NSX CP hchg m0 m1 m3 m5 m5' m6 m6' m7 m8 hm5
          have g9 := (unhide R9).rg
          have k1 := g9.c1
          have hNl := unhide HNL
          have KR : Hid (∀ W, Below w9.heap.size w9 W → ∀ (k : Nat) (y : Nd), NS[k]? = some y → ∃ b, ua = some ⟨b, 0, none⟩ ∧ b < W.heap.size ∧ RowAt W b 0 (cellsL NS)) := hide (fun W hW k y hy => by
            rcases (g9.n.next hW) with ⟨_, h0⟩ | ⟨q, cap, e, _, h1⟩
            · rw [h0] at hy; simp at hy
            · simp only [Value.slice.injEq] at e
              exact ⟨q, e.1, h1.lt, h1.row⟩)
          have hlo := g9.lo
          clear g9
          go_wp2_with fail
          go_loopg [406] NS.length (fun kx s406 wr => ∃ k : Nat, s406 = .int .i64 k ∧ k ≤ NS.length ∧ NS.length - k ≤ kx ∧ Hid (∀ i y, i < k → NS[i]? = some y → y.k ≤ 2147483647) ∧ Hid (Below w9.heap.size w9 wr))
          case atStart => exact ⟨0, rfl, Nat.zero_le _, Nat.le_refl _, hide (fun i y hi => absurd hi (by omega)), hide (Below.refl _ _)⟩
          case round =>
            obtain ⟨k, rfl, hk', hgk, hno, hB⟩ := hrel
            by_cases hlt : k < NS.length
            · obtain ⟨y, hy⟩ : ∃ y, NS[k]? = some y := ⟨_, List.getElem?_eq_getElem hlt⟩
              obtain ⟨b, rfl, hb, q⟩ := unhide KR wr (unhide hB) k y hy
              have d0 := q.n0 hy
              have d1 := q.n1 hy
              have d2 := q.n2 hy
              have d3 := q.n3 hy
              have d4 := q.n4 hy
              have d5 := q.n5 hy
              have d6 := q.n6 hy
              have d7 := q.n7 hy
              have d8 := q.n8 hy
              simp only [Nat.zero_add] at d0 d1 d2 d3 d4 d5 d6 d7 d8
              have HA := hide (nnext (unhide hB) (allocB wr (.cells #[.string ⟨y.p.toArray⟩, .string ⟨y.d.toArray⟩, .int .i64 y.c, .int .i64 y.m, .int .i64 y.q, .int .i64 y.v, .int .i64 y.k, .int .i64 y.o, .int .i64 y.n] 75)))
              by_cases hyk : y.k ≤ 2147483647
              · have hyn : ¬ ((2147483648 : Int) ≤ y.k) := by omega
                have HNK : Hid (∀ i z, i < k + 1 → NS[i]? = some z → z.k ≤ 2147483647) := hide (fun i z hi hz => by
                  by_cases h : i = k
                  · subst h; rw [hy] at hz; cases hz; exact hyk
                  · exact unhide hno i z (by omega) hz)
                clear q hy
                go_wp2_with fail
                go_roundg (NS.length - (k + 1))
                case measure => omega
                case rel => exact ⟨k + 1, rfl, by omega, Nat.le_refl _, HNK, HA⟩
              · have hyn : (2147483648 : Int) ≤ y.k := by omega
                have HE6 := hide (unhide E6 ⟨y, List.mem_of_getElem? hy, by omega⟩)
                have BX := hide ((unhide R9).rb.next (unhide HA))
                clear q hy
                go_wp2_with fail
                refine (rno_any 6 _).mono ?_
                rintro e wE ⟨rfl, hbE⟩
                have BE := hide ((unhide BX).next (by first | exact hbE | exact nbelow_drew hbE))
                obtain ⟨⟨r0, r1, r2⟩, f0, f1, f2⟩ := (unhide BE).rc
                have s0 := nset_same r0
                have s1 := nset_same r1
                have s2 := nset_same r2
                have hlE := (unhide BE).lt
                clear hbE
                go_wp2_with fail
                exact bodyPost_ret (v := .tuple #[.agg #[.int .i64 0, .slice none 0 0, .slice none 0 0], .slice none 0 0, .int .i64 6]) (by simp [results, Tryz.results17, go_sem, r0, r1, r2]) rfl (givesR_no (unhide HE6) (by decide) rfl (unhide BE).b)
            · obtain rfl : k = NS.length := by omega
              have HE0 := hide (unhide E0 (fun y hy => by
                obtain ⟨i, hi⟩ := List.getElem?_of_mem hy
                exact unhide hno i y (List.getElem?_eq_some_iff.1 hi).1 hi))
              have RW := (unhide R9).next (unhide hB)
              have e0 := RW.rg.c0
              have e1 := RW.rg.c1
              have e2 := RW.rg.c2
              have ee := RW.rg.ce
              obtain ⟨⟨r0, r1, r2⟩, f0, f1, f2⟩ := RW.rb.rc
              have hlr := RW.rb.lt
              have hlo2 := RW.rg.lo
              have hle2 := RW.rg.le
              have hm9 := RW.hm
              have hbo2 : bo ≠ w.heap.size + 2 := by have := RW.rg.fo.1; omega
              have hbe2 : bo + 1 ≠ w.heap.size + 2 := by have := RW.rg.fv.1; omega
              have FIN := hide (fin_ok RW (unhide HE0) (unhide C1) (unhide C2) (unhide C3))
              obtain ⟨ea, ec, rfl, _⟩ := RW.rg.e.slice

              clear RW
              go_wp2_with fail
              go_region
              all_goals go_wp2_with fail
              all_goals exact bodyPost_ret (v := .tuple #[.agg #[.int .i64 x.z, .slice ua NS.length uc, .slice usa t.ss.length usc], .slice ea 2 ec, .int .i64 0]) (by simp [results, Tryz.results17, go_sem, r0, r1, r2]) rfl (unhide FIN)

end Go.Proofs.YtfejpbkapikdiaaGreatDoor
