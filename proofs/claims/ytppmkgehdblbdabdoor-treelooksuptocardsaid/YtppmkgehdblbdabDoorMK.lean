/-
  The law TreeLooks: the walk.
  The law TreeLooks, of good trees: the walk; both cases.
-/
import Derived.Test.YtppmkgehdblbdabDoorMJ
import Derived.Test.YtppmkgehdblbdabDoorMF
namespace Go.Proofs.YtppmkgehdblbdabDoor
open Go.RowKit

theorem good_first : GoodT trNew := by
  refine ⟨by decide, ⟨List.Pairwise.nil, by simp [trNew]⟩, ⟨by decide, ⟨nroot, [], rfl, rfl, rfl⟩, List.pairwise_singleton _ _, ?_⟩, ?_⟩
  · intro n hn
    obtain rfl : n = nroot := by simpa [trNew] using hn
    refine ⟨by decide, goodB_root, fun h => absurd rfl h, by decide, by decide, by decide, by decide, by decide, by decide, by decide, by decide, ?_, .inl rfl⟩
    show (0 : Int) = kidsN [nroot] [47]
    simp [kidsN, nroot, dirOf_root]
  · intro n hn
    obtain rfl : n = nroot := by simpa [trNew] using hn
    decide
/-- what Get and Kids answer, the program's and the document's -/
structure Look (t : Tr) (p : List UInt8) (G : Nd) (E : Int) (K : List (List UInt8)) : Prop where
  get : ∀ W vn vs, SeqV W vn t.ns → Calls Tryd.prog 13 #[.agg #[.int .i64 t.z, vn, vs], .string ⟨p.toArray⟩] W fun e w' => e = .returned (.tuple #[nodeV G, .int .i64 E]) ∧ Below W.heap.size W w'
  rget : ∀ W vn vs, SeqV W vn t.ns → Calls Tryd.prog 14 #[.agg #[.int .i64 t.z, vn, vs], .string ⟨p.toArray⟩] W fun e w' => e = .returned (.tuple #[nodeV G, .int .i64 E]) ∧ Below W.heap.size W w'
  kids : ∀ W vn vs, SeqV W vn t.ns → Calls Tryd.prog 15 #[.agg #[.int .i64 t.z, vn, vs], .string ⟨p.toArray⟩] W fun e w' => ∃ v', e = .returned (.tuple #[v', .int .i64 E]) ∧ SeqV w' v' K ∧ Below W.heap.size W w'
  rkids : ∀ W vn vs, SeqV W vn t.ns → Calls Tryd.prog 16 #[.agg #[.int .i64 t.z, vn, vs], .string ⟨p.toArray⟩] W fun e w' => ∃ v', e = .returned (.tuple #[v', .int .i64 E]) ∧ SeqV w' v' K ∧ Below W.heap.size W w'
  few : K.length ≤ 400
theorem kidsP_few (ns : List Nd) (p : List UInt8) (hl : ns.length ≤ 400) : (kidsP ns p).length ≤ 400 := by
  rw [kidsP_len]
  exact Nat.le_trans List.countP_le_length hl
theorem look_any (t : Tr) (p : List UInt8) (g : GoodT t) (hw : WfT t) (hlong : ∀ n ∈ t.ns, n.p.length ≤ 1048576) : ∃ G E K, Look t p G E K := by
  have hl := g.nod.few
  rcases nwhere p t.ns g.nod.asc with ⟨A, n, B, T⟩ | ⟨A, B, T⟩
  · have hm : n ∈ t.ns := by rw [T.eq]; simp
    have hpn : p ≠ [] := by
      intro h0
      have h1 := (g.nod.ok n hm).path
      rw [T.nm, h0] at h1
      exact absurd h1 (by decide)
    refine ⟨n, 0, kidsP t.ns p, ⟨fun W vn vs hv => tget_there t.z vn vs t.ns A B n p W hv (by omega) T (hw.slim n hm).1 (hw.slim n hm).2, fun W vn vs hv => rget_at t.z vn vs t.ns p A.length n W hv (by omega) (at_there T), fun W vn vs hv => ?_, fun W vn vs hv => ?_, kidsP_few _ _ hl⟩⟩
    · refine (tkids_there t.z vn vs t.ns A B n p W hv hl T).mono ?_
      rintro e w' ⟨v', h1, h2, h3⟩
      exact ⟨v', h1, h2.seq, h3⟩
    · refine (rkids_at t.z vn vs t.ns p A.length n W hv hl (at_there T) hlong hpn).mono ?_
      rintro e w' ⟨v', h1, h2, h3⟩
      exact ⟨v', h1, h2.seq, h3⟩
  · have G : ∀ n ∈ t.ns, n.p ≠ p := by
      intro n hm
      rw [T.eq] at hm
      rcases List.mem_append.1 hm with h | h
      · exact bl_ne (T.lo n h)
      · exact (bl_ne (T.hi n h)).symm
    refine ⟨nzero, 7, [], ⟨fun W vn vs hv => tget_gap t.z vn vs t.ns A B p W hv (by omega) T, fun W vn vs hv => rget_no t.z vn vs t.ns p W hv (by omega) G, fun W vn vs hv => ?_, fun W vn vs hv => ?_, by simp⟩⟩
    · refine (tkids_gap t.z vn vs t.ns A B p W hv (by omega) T).mono ?_
      rintro e w' ⟨h1, h2⟩
      exact ⟨_, h1, SeqV.nil _, h2⟩
    · refine (rkids_no t.z vn vs t.ns p W hv (by omega) G).mono ?_
      rintro e w' ⟨h1, h2⟩
      exact ⟨_, h1, SeqV.nil _, h2⟩

set_option maxRecDepth 20000 in
set_option maxHeartbeats 4000000 in
theorem treeLooks_no (t : Tr) (vn vs : Value) (p : List UInt8) (s : Int) (w : World) (hn : SeqV w vn t.ns) (hs : SeqV w vs t.ss) (hw : WfT t) (hzb : t.z ≤ 9223372036854775807) (hlong : ∀ n ∈ t.ns, n.p.length ≤ 1048576) (hl : t.ns.length * 88 ≤ 140737488351232) (hls : t.ss.length * 8 ≤ 140737488351232) (hg : goodT t = false) :
    Calls Tryd.prog 3 #[.agg #[.int .i64 t.z, vn, vs], .string ⟨p.toArray⟩, .int .i64 s] w fun e w' => e = .returned (.bool true) ∧ Below w.heap.size w w' := by
  have CG := hide (fun W (hW : Below w.heap.size w W) => rgoodT_any t vn vs W (hn.next hW) (hs.next hW) hw hzb hlong (by omega))
  have CC := hide (fun W (hW : Below w.heap.size w W) => rcopyT_any t vn vs W (hn.next hW) (hs.next hW) (by omega) (by omega))
  have CT := hide (fun W vn' vs' (h1 : SeqV W vn' t.ns) (h2 : SeqV W vs' t.ss) => tgood_any t vn' vs' W h1 h2 hw)
  rw [hg] at CG CT
  have CN := hide (fun W vn' vs' (h1 : SeqV W vn' trNew.ns) (h2 : SeqV W vs' trNew.ss) => tgood_any trNew vn' vs' W h1 h2 ⟨by intro x hx; simp [trNew] at hx, by intro x hx; simp [trNew, nroot] at hx; subst hx; simp⟩)
  rw [goodT_true.2 good_first] at CN
  have T0 := hide (GT.new w t.z vn vs)
  obtain ⟨na, nc, rfl⟩ := seq_slice hn
  obtain ⟨sa, sc, rfl⟩ := seq_slice hs
  clear hn hs hw hlong hg
  go_enter Tryd.func3, Tryd.ntmps3
  go_wp2_with fail
  refine (unhide CG _ (unhide T0).b).mono ?_
  rintro e w1 ⟨rfl, hb1⟩
  have T1 := hide ((unhide T0).next hb1)
  obtain ⟨c0, c1, c2⟩ := (unhide T1).cells
  have hz1 := (unhide T1).lt
  clear hb1
  go_wp2_with fail
  refine (unhide CC _ (unhide T1).b).mono ?_
  rintro e w2 ⟨vn2, vs2, rfl, hn2, hs2, hb2⟩
  have T2 := hide (nnext (unhide T1).b hb2)
  have C3 := unhide CT w2 vn2 vs2 hn2.seq hs2.seq
  obtain ⟨na2, nc2, rfl, _⟩ := hn2.slice
  obtain ⟨sa2, sc2, rfl, _⟩ := hs2.slice
  clear hb2 hn2 hs2 c0 c1 c2
  go_wp2_with fail
  refine C3.mono ?_
  rintro e w3 ⟨rfl, hb3⟩
  have T3 := hide (nnext (unhide T2) hb3)
  clear C3 hb3
  go_wp2_with fail
  refine (rnew_any _).mono ?_
  rintro e w4 ⟨vn4, vs4, rfl, hn4, hs4, hb4⟩
  have T4 := hide (nnext (unhide T3) hb4)
  have C5 := unhide CN w4 vn4 vs4 hn4.seq hs4.seq
  obtain ⟨na4, nc4, rfl, _⟩ := hn4.slice
  obtain ⟨sa4, sc4, rfl, _⟩ := hs4.slice
  clear hb4 hn4 hs4
  go_wp2_with fail
  refine C5.mono ?_
  rintro e w5 ⟨rfl, hb5⟩
  have T5 := hide (nnext (unhide T4) hb5)
  clear C5 hb5
  go_wp2_with fail
  go_ret
  exact ⟨rfl, unhide T5⟩

end Go.Proofs.YtppmkgehdblbdabDoor

namespace Go.Proofs.YtppmkgehdblbdabDoor
open Go.RowKit


set_option maxRecDepth 20000 in
set_option maxHeartbeats 8000000 in
theorem treeLooks_yes (t : Tr) (vn vs : Value) (p : List UInt8) (s : Int) (w : World) (hn : SeqV w vn t.ns) (hs : SeqV w vs t.ss) (hw : WfT t) (hzb : t.z ≤ 9223372036854775807) (hlong : ∀ n ∈ t.ns, n.p.length ≤ 1048576) (hl : t.ns.length * 88 ≤ 140737488351232) (hls : t.ss.length * 8 ≤ 140737488351232) (hg : goodT t = true) :
    Calls Tryd.prog 3 #[.agg #[.int .i64 t.z, vn, vs], .string ⟨p.toArray⟩, .int .i64 s] w fun e w' => e = .returned (.bool true) ∧ Below w.heap.size w w' := by
  obtain ⟨G, E, K, LK⟩ := look_any t p (goodT_true.1 hg) hw hlong
  have g := goodT_true.1 hg
  have CG := hide (fun W (hW : Below w.heap.size w W) => rgoodT_any t vn vs W (hn.next hW) (hs.next hW) hw hzb hlong (by omega))
  have CC := hide (fun W (hW : Below w.heap.size w W) => rcopyT_any t vn vs W (hn.next hW) (hs.next hW) (by omega) (by omega))
  have CT := hide (fun W vn' vs' (h1 : SeqV W vn' t.ns) (h2 : SeqV W vs' t.ss) => tgood_any t vn' vs' W h1 h2 hw)
  rw [hg] at CG CT
  have CO := hide (fun W vn' vs' (h2 : SeqV W vs' t.ss) => topen_any t.z vn' vs' t.ss s W h2 g.ses)
  have CI := hide (fun W (hW : Below w.heap.size w W) => risopen_any t.z vn vs t.ss s W (hs.next hW) (by omega))
  have CS := hide (fun W vn' vs' un' us' (h1 : SeqV W vn' trNew.ns) (h2 : SeqV W vs' trNew.ss) (h3 : SeqV W un' trNew.ns) (h4 : SeqV W us' trNew.ss) => rsameT_any trNew vn' vs' un' us' W h1 h2 h3 h4 (by decide) (by decide))
  have L1 := hide (fun W vn' vs' h => LK.get W vn' vs' h)
  have L2 := hide (fun W (hW : Below w.heap.size w W) => LK.rget W vn vs (hn.next hW))
  have L3 := hide (fun W vn' vs' h => LK.kids W vn' vs' h)
  have L4 := hide (fun W (hW : Below w.heap.size w W) => LK.rkids W vn vs (hn.next hW))
  have hkl := LK.few
  unfold nodeV at L1 L2
  have T0 := hide (GT.new w t.z vn vs)
  obtain ⟨na, nc, rfl⟩ := seq_slice hn
  obtain ⟨sa, sc, rfl⟩ := seq_slice hs
  obtain ⟨ob, hob⟩ : ∃ b, decide (s ∈ t.ss) = b := ⟨_, rfl⟩
  rw [hob] at CO CI
  clear hn hs hw hlong hg g LK hob
  go_enter Tryd.func3, Tryd.ntmps3
  go_wp2_with fail
  refine (unhide CG _ (unhide T0).b).mono ?_
  rintro e w1 ⟨rfl, hb1⟩
  have T1 := hide ((unhide T0).next hb1)
  obtain ⟨c0, c1, c2⟩ := (unhide T1).cells
  clear hb1
  go_wp2_with fail
  refine (unhide CC _ (unhide T1).b).mono ?_
  rintro e w2 ⟨vn2, vs2, rfl, hn2, hs2, hb2⟩
  have T2 := hide ((unhide T1).next hb2)
  have C3 := unhide L1 w2 vn2 vs2 hn2.seq
  obtain ⟨na2, nc2, rfl, _⟩ := hn2.slice
  obtain ⟨sa2, sc2, rfl, _⟩ := hs2.slice
  clear hb2 hn2 hs2 c0 c1 c2
  go_wp2_with fail
  refine C3.mono ?_
  rintro e w3 ⟨rfl, hb3⟩
  have T3 := hide (((unhide T2).next hb3).next (allocB w3 (.cells #[.string ⟨G.p.toArray⟩, .string ⟨G.d.toArray⟩, .int .i64 G.c, .int .i64 G.m, .int .i64 G.q, .int .i64 G.v, .int .i64 G.k, .int .i64 G.o, .int .i64 G.n] 32)))
  have A3 := hide (one_newN w3 G)
  obtain ⟨c0, c1, c2⟩ := (unhide T3).cells
  clear C3 hb3
  go_wp2_with fail
  refine (unhide L2 _ (unhide T3).b).mono ?_
  rintro e w4 ⟨rfl, hb4⟩
  have T4 := hide (((unhide T3).next hb4).next (allocB w4 (.cells #[.string ⟨G.p.toArray⟩, .string ⟨G.d.toArray⟩, .int .i64 G.c, .int .i64 G.m, .int .i64 G.q, .int .i64 G.v, .int .i64 G.k, .int .i64 G.o, .int .i64 G.n] 32)))
  have A4 := hide (((unhide A3).keptN hb4).keptN (allocB w4 (.cells #[.string ⟨G.p.toArray⟩, .string ⟨G.d.toArray⟩, .int .i64 G.c, .int .i64 G.m, .int .i64 G.q, .int .i64 G.v, .int .i64 G.k, .int .i64 G.o, .int .i64 G.n] 32)))
  have B4 := hide (one_newN w4 G)
  obtain ⟨e0, e1, e2⟩ := (unhide T4).cells
  clear hb4 c0 c1 c2
  go_wp2_with fail
  refine (unhide CC _ (unhide T4).b).mono ?_
  rintro e w5 ⟨vn5, vs5, rfl, hn5, hs5, hb5⟩
  have T5 := hide ((unhide T4).next hb5)
  have A5 := hide ((unhide A4).keptN hb5)
  have B5 := hide ((unhide B4).keptN hb5)
  have C6 := unhide L3 w5 vn5 vs5 hn5.seq
  obtain ⟨na5, nc5, rfl, _⟩ := hn5.slice
  obtain ⟨sa5, sc5, rfl, _⟩ := hs5.slice
  clear hb5 hn5 hs5 e0 e1 e2
  go_wp2_with fail
  refine C6.mono ?_
  rintro e w6 ⟨v6, rfl, hk6, hb6⟩
  have T6 := hide ((unhide T5).next hb6)
  have A6 := hide ((unhide A5).keptN hb6)
  have B6 := hide ((unhide B5).keptN hb6)
  have HK6 := hide (fun W (hW : Below w6.heap.size w6 W) => hk6.next hW)
  obtain ⟨ka6, kc6, rfl⟩ := seq_slice hk6
  obtain ⟨c0, c1, c2⟩ := (unhide T6).cells
  clear C6 hb6 hk6
  go_wp2_with fail
  refine (unhide L4 _ (unhide T6).b).mono ?_
  rintro e w7 ⟨v7, rfl, hk7, hb7⟩
  have T7 := hide ((unhide T6).next hb7)
  have A7 := (unhide A6).keptN hb7
  have B7 := (unhide B6).keptN hb7
  have HD7 := hide hb7
  have HK7 := hide (fun W (hW : Below w7.heap.size w7 W) => hk7.next hW)
  obtain ⟨ka7, kc7, rfl⟩ := seq_slice hk7
  obtain ⟨e0, e1, e2⟩ := (unhide T7).cells
  have a0 := A7.cellN 0 _ rfl
  have b0 := B7.cellN 0 _ rfl
  have a1 := A7.cellN 1 _ rfl
  have b1 := B7.cellN 1 _ rfl
  have a2 := A7.cellN 2 _ rfl
  have b2 := B7.cellN 2 _ rfl
  have a3 := A7.cellN 3 _ rfl
  have b3 := B7.cellN 3 _ rfl
  have a4 := A7.cellN 4 _ rfl
  have b4 := B7.cellN 4 _ rfl
  have a5 := A7.cellN 5 _ rfl
  have b5 := B7.cellN 5 _ rfl
  have a6 := A7.cellN 6 _ rfl
  have b6 := B7.cellN 6 _ rfl
  have a7 := A7.cellN 7 _ rfl
  have b7 := B7.cellN 7 _ rfl
  have a8 := A7.cellN 8 _ rfl
  have b8 := B7.cellN 8 _ rfl
  clear hb7 hk7 c0 c1 c2 A7 B7
  go_wp2_with fail
  refine (unhide CC _ (unhide T7).b).mono ?_
  rintro e w8 ⟨vn8, vs8, rfl, hn8, hs8, hb8⟩
  have T8 := hide ((unhide T7).next hb8)
  have HD8 := hide hb8
  have C9 := unhide CT w8 vn8 vs8 hn8.seq hs8.seq
  obtain ⟨na8, nc8, rfl, _⟩ := hn8.slice
  obtain ⟨sa8, sc8, rfl, _⟩ := hs8.slice
  clear hb8 hn8 hs8 e0 e1 e2 a0 b0 a1 b1 a2 b2 a3 b3 a4 b4 a5 b5 a6 b6 a7 b7 a8 b8
  go_wp2_with fail
  refine C9.mono ?_
  rintro e w9 ⟨rfl, hb9⟩
  have T9 := hide ((unhide T8).next hb9)
  have HD9 := hide (nnext (unhide HD8) hb9)
  clear C9 hb9
  go_wp2_with fail
  refine (tnew_any _).mono ?_
  rintro e w10 ⟨vn10, vs10, rfl, hn10, hs10, hb10⟩
  have T10 := hide ((unhide T9).next hb10)
  have HD10 := hide (nnext (unhide HD9) hb10)
  have HN10 := hide (fun W (hW : Below w10.heap.size w10 W) => hn10.seq.next hW)
  have HS10 := hide (fun W (hW : Below w10.heap.size w10 W) => hs10.seq.next hW)
  obtain ⟨na10, nc10, rfl, _⟩ := hn10.slice
  obtain ⟨sa10, sc10, rfl, _⟩ := hs10.slice
  clear hb10 hn10 hs10
  go_wp2_with fail
  refine (rnew_any _).mono ?_
  rintro e w11 ⟨vn11, vs11, rfl, hn11, hs11, hb11⟩
  have T11 := hide ((unhide T10).next hb11)
  have HD11 := hide (nnext (unhide HD10) hb11)
  have C12 := unhide CS w11 _ _ vn11 vs11 (unhide HN10 w11 hb11) (unhide HS10 w11 hb11) hn11.seq hs11.seq
  obtain ⟨na11, nc11, rfl, _⟩ := hn11.slice
  obtain ⟨sa11, sc11, rfl, _⟩ := hs11.slice
  clear hb11 hn11 hs11
  go_wp2_with fail
  refine C12.mono ?_
  rintro e w12 ⟨rfl, hb12⟩
  have T12 := hide ((unhide T11).next hb12)
  have HD12 := hide (nnext (unhide HD11) hb12)
  have KR : ∀ (z : Option Addr) (zc : Nat), (∀ W, Below w12.heap.size w12 W → SeqV W (.slice z K.length zc) K) → ∀ W, Below w12.heap.size w12 W → ∀ (k : Nat) (x : List UInt8), K[k]? = some x → ∃ b off, z = some ⟨b, off, none⟩ ∧ RowAt W b off (cellsL K) := by
    intro z zc h W hW k x hx
    obtain ⟨b, off, cap, e, _, hr, _, _⟩ := seq_row (h W hW) (fun h0 => by obtain ⟨h1, _⟩ := List.getElem?_eq_some_iff.1 hx; rw [h0] at h1; simp at h1)
    simp only [Value.slice.injEq] at e
    exact ⟨b, off, e.1, hr⟩
  have KA := hide (KR ka6 kc6 (fun W hW => unhide HK6 W (nnext (nnext (unhide HD7) (unhide HD12)) hW)))
  have KB := hide (KR ka7 kc7 (fun W hW => unhide HK7 W (nnext (unhide HD12) hW)))
  clear C12 hb12 KR
  go_wp2_with fail
  go_loopg [15] K.length (fun kx s15 wr => ∃ k : Nat, s15 = .int .i64 k ∧ k ≤ K.length ∧ K.length - k ≤ kx ∧ Hid (Below w12.heap.size w12 wr))
  case atStart => exact ⟨0, rfl, Nat.zero_le _, Nat.le_refl _, hide (Below.refl _ _)⟩
  case round =>
    obtain ⟨k, rfl, hk, hgk, hB⟩ := hrel
    by_cases hlt : k < K.length
    · obtain ⟨x, hx⟩ : ∃ x, K[k]? = some x := ⟨_, List.getElem?_eq_getElem hlt⟩
      obtain ⟨b1, o1, rfl, q1⟩ := unhide KA wr (unhide hB) k x hx
      obtain ⟨b2, o2, rfl, q2⟩ := unhide KB wr (unhide hB) k x hx
      have d0 := q1.s0 hx
      have r0 := q2.s0 hx
      have hkk : (k : Int) < (K.length : Int) := by omega
      clear q1 q2 hx
      go_wp2_with fail
      go_region
      go_wp2_with fail
      go_roundg (K.length - (k + 1))
      case measure => omega
      case rel => exact ⟨k + 1, rfl, by omega, Nat.le_refl _, hide (nnext (unhide hB) (Below.refl _ _).drew)⟩
    · obtain rfl : k = K.length := by omega
      have T13 := hide ((unhide T12).next (unhide hB))
      obtain ⟨c0, c1, c2⟩ := (unhide T13).cells
      have HCL : Hid (∀ W, Below wr.heap.size wr W → W.cell? ⟨w.heap.size, 0, none⟩ = some (.int .i64 t.z) ∧ W.cell? ⟨w.heap.size, 1, none⟩ = some (.slice na t.ns.length nc) ∧ W.cell? ⟨w.heap.size, 2, none⟩ = some (.slice sa t.ss.length sc)) := hide (fun W hW => ((unhide T13).next hW).cells)
      have hlw := (unhide T13).lt
      go_wp2_with fail
      go_region_law (first
        | (go_simp; refine (unhide CC _ (by first | exact (unhide T13).b | exact (unhide T13).b.drew)).mono ?_; rintro e w14 ⟨vn14, vs14, rfl, hn14, hs14, hb14⟩; have HD14 : Hid (Below wr.heap.size wr w14) := (by first | exact hb14 | exact nbelow_drew hb14); obtain ⟨p0, p1, p2⟩ := unhide HCL w14 (unhide HD14); have HS14 := hide hs14.seq; obtain ⟨na14, nc14, rfl, _⟩ := hn14.slice; obtain ⟨sa14, sc14, rfl, _⟩ := hs14.slice; clear hb14 hn14 hs14)
        | (go_simp; refine (unhide CO _ _ _ (unhide HS14)).mono ?_; rintro e w15 ⟨rfl, hb15⟩; have HD15 := hide (nnext (unhide HD14) hb15); obtain ⟨q0, q1, q2⟩ := unhide HCL w15 (unhide HD15); have HB15 := hide (nnext (unhide T13).b (unhide HD15)); clear hb15)
        | (go_simp; refine (unhide CI _ (unhide HB15)).mono ?_; rintro e w16 ⟨rfl, hb16⟩; have HB16 := hide (nnext (unhide HB15) hb16); clear hb16))
      all_goals
        go_wp2_with fail
        go_ret
        exact ⟨by rfl, unhide HB16⟩

theorem treeLooks_walk (t : Tr) (vn vs : Value) (p : List UInt8) (s : Int) (w : World) (hn : SeqV w vn t.ns) (hs : SeqV w vs t.ss) (hw : WfT t) (hzb : t.z ≤ 9223372036854775807) (hlong : ∀ n ∈ t.ns, n.p.length ≤ 1048576) (hl : t.ns.length * 88 ≤ 140737488351232) (hls : t.ss.length * 8 ≤ 140737488351232) :
    Calls Tryd.prog 3 #[.agg #[.int .i64 t.z, vn, vs], .string ⟨p.toArray⟩, .int .i64 s] w fun e w' => e = .returned (.bool true) ∧ Below w.heap.size w w' := by
  cases hg : goodT t
  · exact treeLooks_no t vn vs p s w hn hs hw hzb hlong hl hls hg
  · exact treeLooks_yes t vn vs p s w hn hs hw hzb hlong hl hls hg

end Go.Proofs.YtppmkgehdblbdabDoor
