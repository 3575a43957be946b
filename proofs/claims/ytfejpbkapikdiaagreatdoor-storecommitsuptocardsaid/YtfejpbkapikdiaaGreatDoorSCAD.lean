/-
  aviaryref's Apply: opening a session: the walk.
-/
import Derived.Test.YtfejpbkapikdiaaGreatDoorSCAB
namespace Go.Proofs.YtfejpbkapikdiaaGreatDoor
open Go.RowKit

theorem flt_snoc {α : Type} {xs : List α} {k : Nat} {x : α} (f : α → Bool) (h : xs[k]? = some x) : (xs.take (k + 1)).filter f = (xs.take k).filter f ++ (if f x = true then [x] else []) := by
  rw [List.take_add_one, h]
  simp only [Option.toList_some, List.filter_append, List.filter_cons, List.filter_nil]
theorem wpList_app_i1 {w : World} {ops : Array Oper} {rest : List Oper} {o : Oper} {a : Act} {Q : Exit → Act → World → Prop} (hgd : o.guard = none) (s x : Operand)
    (ho : o.op = .call { callee := .builtin .append, args := #[s, x], argTypes := #[29, 29] })
    (v : Value) (ns : List Int) (hs : a.eval s = v) (hown : OwnS w 0 v ns) (q : Nat) (hx : a.eval x = .slice (some ⟨q, 0, none⟩) 1 1) (t : Int) (hnews : OneR w q t) (hl : ns.length ≤ 4294967296)
    (h : ∀ a' c' w', OwnS w' 0 (.slice a' (ns.length + 1) c') (ns ++ [t]) → w.grownBy w' v.ownBlock → ((Value.slice a' (ns.length + 1) c').ownBlock = v.ownBlock ∨ (Value.slice a' (ns.length + 1) c').ownBlock = some w.heap.size) → wpList Tryz.prog ops Q rest (a.put o.dst (.slice a' (ns.length + 1) c')) w') :
    wpList Tryz.prog ops Q (o :: rest) a w := by
  refine wpList_plain hgd fun K hK => ?_
  obtain ⟨i0, hi0, hz0, hz1, hz2⟩ := iinfo
  obtain ⟨v', w', hr, h2, h3, _, h5⟩ := run_append_own_at (P := Tryz.prog) w 0 29 o.type 3 i0 _ 1 8 Tryz.underlying29 hi0 hz0 hz1 hz2 rfl (by decide) v ns.length (cellsL ns) hown.row ⟨q, 0, none⟩ 1 1 [.int .i64 t] rfl (one_news hnews) (Lay.one t) (by simp only [maxLen]; omega) (by omega) (Nat.zero_le _)
  have h2' : OwnS w' 0 v' (ns ++ [t]) := OwnS.of_row (by rw [List.length_append, cellsL_snoc]; exact h2)
  obtain ⟨a', c', rfl, _⟩ := h2'.slice
  rw [List.length_append, List.length_singleton] at h2' hr h5
  unfold Oper.wp execOp
  simp only [ho, resolve, invoke, builtin, Sem.run_bind, Sem.run_pure, Result.andThen_ok, List.map_toArray, List.map_cons, List.map_nil, hs, hx, hr]
  exact hK _ _ (h a' c' w' h2' h3 h5)
set_option maxRecDepth 20000 in
set_option maxHeartbeats 4000000 in
theorem rope_ok (t : Tr) (x : WTxn) (vn vs : Value) (w : World) (hn : SeqV w vn t.ns) (hs : SeqV w vs t.ss) (ar : Args t x) (ad : Adm t x) (ho : x.o = 1)  (hls : t.ss.length * 8 ≤ 140737488351232) (hchg : chgE t x = 0) :
    Calls Tryz.prog 17 #[.agg #[.int .i64 t.z, vn, vs], txnV x] w (GivesR w t x) := by
  have g := goodT_true.1 ad.good
  have hlf := g.nod.few
  have hco : decide (x.s ∈ t.ss) = false := by rw [ad.opn, ho]; decide
  have CG := hide (fun W (hW : Below w.heap.size w W) => rgoodT_any t vn vs W (hn.next hW) (hs.next hW) ar.wf ar.z ar.long ar.ss)
  rw [ad.good] at CG
  have CX := hide (fun W => rgd_any x W ar.xz ar.xp ar.xd)
  rw [ad.txn] at CX
  have CI := hide (fun W (hW : Below w.heap.size w W) => risopen_any t.z vn vs t.ss x.s W (hs.next hW) ar.ss)
  rw [hco] at CI
  have CS := hide (fun W => rsplit_any x.p W ar.xp)
  have CN1 := hide (fun W (hW : Below w.heap.size w W) => rnode_ex t vn vs x.p W (hn.next hW) g)
  have CN2 := hide (fun W (hW : Below w.heap.size w W) => rnode_ex t vn vs (dirOf x.p) W (hn.next hW) g)
  have hzn : ¬ x.z ≤ t.z := ad.ord
  have HO := hide ho
  have hsl := sasc_len g.ses
  have HSW := hide (fun W (hW : Below w.heap.size w W) => hs.next hW)
  have CC := hide (fun W (hW : Below w.heap.size w W) => rcopyT_any t vn vs W (hn.next hW) (hs.next hW) (by omega) (by omega))
  have AD := hide ad
  have HXP := hide ar.xp
  have T0 := hide (RB.new w t.z vn vs x)
  obtain ⟨na, nc, rfl⟩ := seq_slice hn
  obtain ⟨sa, sc, rfl⟩ := seq_slice hs
  unfold txnV at CX
  unfold txnV
  rw [unhide HO] at CX
  clear hn hs ar ad g ho hco
  go_enter Tryz.func17, Tryz.ntmps17
  go_wp2_with fail
  refine (unhide CG _ (unhide T0).b).mono ?_
  rintro e w1 ⟨rfl, hb1⟩
  have B1 := hide ((unhide T0).next hb1)
  obtain ⟨t0, t1, t2⟩ := (unhide B1).tc
  obtain ⟨x0, x1, x2, x3, x4, x5, x6⟩ := (unhide B1).xc
  rw [unhide HO] at x1
  have hl1 := (unhide B1).lt
  have hm1 : w.heap.size + 1 < w1.heap.size := by omega
  have hp1 : w.heap.size < w1.heap.size := by omega
  clear hb1
  go_wp2_with fail
  refine (unhide CX _).mono ?_
  rintro e w2 ⟨rfl, hb2⟩
  have B2 := hide ((unhide B1).next hb2)
  obtain ⟨t0, t1, t2⟩ := (unhide B2).tc
  obtain ⟨x0, x1, x2, x3, x4, x5, x6⟩ := (unhide B2).xc
  rw [unhide HO] at x1
  have hl2 := (unhide B2).lt
  have hm2 : w.heap.size + 1 < w2.heap.size := by omega
  have hp2 : w.heap.size < w2.heap.size := by omega
  clear hb2
  go_wp2_with fail
  refine (unhide CI _ (unhide B2).b).mono ?_
  rintro e w3 ⟨rfl, hb3⟩
  have B3 := hide ((unhide B2).next hb3)
  obtain ⟨t0, t1, t2⟩ := (unhide B3).tc
  obtain ⟨x0, x1, x2, x3, x4, x5, x6⟩ := (unhide B3).xc
  rw [unhide HO] at x1
  have hl3 := (unhide B3).lt
  have hm3 : w.heap.size + 1 < w3.heap.size := by omega
  have hp3 : w.heap.size < w3.heap.size := by omega
  clear hb3
  go_wp2_with fail
  refine (unhide CN1 _ (unhide B3).b).mono ?_
  rintro e w4 ⟨j4, rfl, hb4⟩
  have B4 := hide ((unhide B3).next hb4)
  obtain ⟨t0, t1, t2⟩ := (unhide B4).tc
  obtain ⟨x0, x1, x2, x3, x4, x5, x6⟩ := (unhide B4).xc
  rw [unhide HO] at x1
  have hl4 := (unhide B4).lt
  have hm4 : w.heap.size + 1 < w4.heap.size := by omega
  have hp4 : w.heap.size < w4.heap.size := by omega
  clear hb4
  go_wp2_with fail
  refine (unhide CS _).mono ?_
  rintro e w5 ⟨rfl, hb5⟩
  have B5 := hide ((unhide B4).next hb5)
  obtain ⟨t0, t1, t2⟩ := (unhide B5).tc
  obtain ⟨x0, x1, x2, x3, x4, x5, x6⟩ := (unhide B5).xc
  rw [unhide HO] at x1
  have hl5 := (unhide B5).lt
  have hm5 : w.heap.size + 1 < w5.heap.size := by omega
  have hp5 : w.heap.size < w5.heap.size := by omega
  clear hb5
  go_wp2_with fail
  refine (unhide CN2 _ (unhide B5).b).mono ?_
  rintro e w6 ⟨j6, rfl, hb6⟩
  have B6 := hide ((unhide B5).next hb6)
  obtain ⟨t0, t1, t2⟩ := (unhide B6).tc
  obtain ⟨x0, x1, x2, x3, x4, x5, x6⟩ := (unhide B6).xc
  rw [unhide HO] at x1
  have hl6 := (unhide B6).lt
  have hm6 : w.heap.size + 1 < w6.heap.size := by omega
  have hp6 : w.heap.size < w6.heap.size := by omega
  clear hb6
  go_wp2_with fail
  refine (unhide CC _ (unhide B6).b).mono ?_
  rintro e w7 ⟨un, us, rfl, hn7, hs7, hb7⟩
  have B7 := hide ((unhide B6).next hb7)
  obtain ⟨t0, t1, t2⟩ := (unhide B7).tc
  obtain ⟨x0, x1, x2, x3, x4, x5, x6⟩ := (unhide B7).xc
  rw [unhide HO] at x1
  have hl7 := (unhide B7).lt
  have hm7 : w.heap.size + 1 < w7.heap.size := by omega
  have hp7 : w.heap.size < w7.heap.size := by omega
  obtain ⟨una, unc, rfl, _⟩ := hn7.slice
  obtain ⟨usa, usc, rfl, _⟩ := hs7.slice
  have q1 : w.heap.size + 1 ≠ w7.heap.size := by omega
  have q0 : w.heap.size ≠ w7.heap.size := by omega
  have q2 : w.heap.size + 2 ≠ w7.heap.size := by omega
  have h67 := hb7.size
  have R0 := hide (RS.new (unhide B6) hb7 hn7 hs7)
  clear hb7 hn7 hs7
  go_upto_region 44 with fail
  obtain ⟨W8, hW8⟩ : ∃ W8, (((w7.alloc (.cells #[.int .i64 x.z, .slice una t.ns.length unc, .slice usa t.ss.length usc] 31)).alloc (.cells #[.slice none 0 0] 46)).alloc (.cells #[.func (.func 49) #[] #[.pointer (some ⟨w7.heap.size, 0, none⟩), .pointer (some ⟨w.heap.size + 1, 0, none⟩), .pointer (some ⟨w7.heap.size + 1, 0, none⟩)]] 99)) = W8 := ⟨_, rfl⟩
  unfold parV at R0
  rw [hW8] at R0
  rw [hW8]
  have hs8 : w7.heap.size + 3 = W8.heap.size := by rw [← hW8]; simp
  have hl8 : w7.heap.size + 2 < W8.heap.size := by omega
  obtain ⟨m, hm⟩ : ∃ m, w6.heap.size = m := ⟨_, rfl⟩
  obtain ⟨bo, hbo⟩ : ∃ bo, w7.heap.size = bo := ⟨_, rfl⟩
  rw [hm, hbo] at R0
  have hmW : m ≤ W8.heap.size := by omega
  have hmw : w.heap.size + 3 ≤ m := by omega
  have hbm : m ≤ bo := by omega
  have HBO := hide hbo
  rw [hbo]
  clear hW8 hs8 hm hbo q0 q1 q2
  have R8 := hide (unhide R0)
  obtain ⟨x0, x1, x2, x3, x4, x5, x6⟩ := (unhide R8).rb.xc
  rw [unhide HO] at x1
  obtain ⟨t0, t1, t2⟩ := (unhide R8).rb.tc
  have KS : Hid (∀ W, Below W8.heap.size W8 W → ∀ (k : Nat) (y : Int), t.ss[k]? = some y → ∃ b off, sa = some ⟨b, off, none⟩ ∧ b < W.heap.size ∧ W.cell? ⟨b, off + k, none⟩ = some (.int .i64 y)) := hide (fun W hW k y hy => by
    obtain ⟨b, off, cap, he, hb, hr, _, _⟩ := seq_row (unhide HSW W (nnext (unhide R8).rb.b hW)) (by intro h0; rw [h0] at hy; simp at hy)
    simp only [Value.slice.injEq] at he
    exact ⟨b, off, he.1, hb, hr.i0 hy⟩)
  have KX : Hid (∀ W, Below W8.heap.size W8 W → W.cell? ⟨w.heap.size + 1, 2, none⟩ = some (.int .i64 x.s) ∧ w.heap.size + 1 < W.heap.size ∧ w.heap.size < W.heap.size ∧ W.cell? ⟨w.heap.size, 1, none⟩ = some (.slice na t.ns.length nc) ∧ W.cell? ⟨w.heap.size, 2, none⟩ = some (.slice sa t.ss.length sc)) := hide (fun W hW => by
    have h := (unhide R8).rb.next hW
    obtain ⟨_, _, z2, _, _, _, _⟩ := h.xc
    obtain ⟨_, u1, u2⟩ := h.tc
    have := h.lt
    exact ⟨z2, by omega, by omega, u1, u2⟩)
  go_wp2_with fail
  go_loopg [19, 228] t.ss.length (fun kx sl sk wr => ∃ (k : Nat) (L : List Int) (la : Option Addr) (lc : Nat), sk = .int .i64 k ∧ sl = .slice la L.length lc ∧ k ≤ t.ss.length ∧ t.ss.length - k ≤ kx ∧ Hid (([] : List Int) ++ (t.ss.take k).filter (fun y => decide (y < x.s)) = L) ∧ Hid (OwnS wr W8.heap.size (.slice la L.length lc) L) ∧ Hid (Below W8.heap.size W8 wr))
  case atStart => exact ⟨0, [], none, 0, rfl, rfl, Nat.zero_le _, Nat.le_refl _, hide rfl, hide (.inl ⟨rfl, rfl⟩), hide (Below.refl _ _)⟩
  case round =>
    obtain ⟨k, L, la, lc, rfl, rfl, hk', hgk, hL, hO, hB⟩ := hrel
    obtain ⟨z2, hlw, hlw0, u1, u2⟩ := unhide KX wr (unhide hB)
    have hLl : L.length ≤ 2147483647 := by
      have h1 : ((t.ss.take k).filter (fun y => decide (y < x.s))).length ≤ (t.ss.take k).length := List.length_filter_le _ _
      have h2 : (t.ss.take k).length ≤ k := by simp; omega
      rw [← unhide hL]
      simp only [List.nil_append]; omega
    by_cases hlt : k < t.ss.length
    · obtain ⟨y, hy⟩ : ∃ y, t.ss[k]? = some y := ⟨_, List.getElem?_eq_getElem hlt⟩
      obtain ⟨b, off, rfl, hb, d0⟩ := unhide KS wr (unhide hB) k y hy
      have hds := flt_snoc (fun y => decide (y < x.s)) hy
      by_cases hc : y < x.s
      · have hcb := hc
        rw [if_pos (by simpa using hc)] at hds
        have HDS : Hid (([] : List Int) ++ (t.ss.take (k + 1)).filter (fun y => decide (y < x.s)) = L ++ [y]) := hide (by rw [hds, ← List.append_assoc, unhide hL])
        have HO1 := hide ((unhide hO).next (allocB wr (.cells #[.int .i64 y] 3)))
        have HB1 := hide (nnext (unhide hB) (allocB wr (.cells #[.int .i64 y] 3)))
        clear hds hy hc
        go_wp2_with (at_builtin; refine wpList_app_i1 rfl _ _ rfl (.slice la L.length lc) L rfl ((unhide HO1).lower (Nat.zero_le _)) wr.heap.size rfl y (one_newI wr y) (by omega) ?_)
        intro a3 c3 w3 ho3 hg3 hl3
        obtain ⟨o3, b3⟩ := grows_on (unhide HO1) (unhide HB1) ho3 hg3 (by simpa using hl3)
        have HO3 := hide o3
        have HB3 := hide b3
        clear ho3 hg3 hl3 o3 b3
        go_wp2_with fail
        go_roundg (t.ss.length - (k + 1))
        case measure => omega
        case rel => exact ⟨k + 1, L ++ [y], a3, c3, rfl, by rw [List.length_append]; rfl, by omega, Nat.le_refl _, HDS, by rw [List.length_append]; exact HO3, HB3⟩
      · have hcb := hc
        rw [if_neg (by simpa using hc)] at hds
        have HDS : Hid (([] : List Int) ++ (t.ss.take (k + 1)).filter (fun y => decide (y < x.s)) = L) := hide (by rw [hds, List.append_nil, unhide hL])
        clear hds hy hc
        go_wp2_with fail
        go_roundg (t.ss.length - (k + 1))
        case measure => omega
        case rel => exact ⟨k + 1, L, la, lc, rfl, rfl, by omega, Nat.le_refl _, HDS, hO, hB⟩
    · obtain rfl : k = t.ss.length := by omega
      have hL2 := unhide hL
      rw [List.take_length] at hL2
      rw [List.nil_append] at hL2
      have HO1 := hide ((unhide hO).next (allocB wr (.cells #[.int .i64 x.s] 3)))
      have HB1 := hide (nnext (unhide hB) (allocB wr (.cells #[.int .i64 x.s] 3)))
      have HPL : Hid (t.ss.filter (fun y => decide (y < x.s)) ++ [x.s] = L ++ [x.s]) := hide (by rw [hL2])
      clear hL2 hL
      go_wp2_with (at_builtin; refine wpList_app_i1 rfl _ _ rfl (.slice la L.length lc) L rfl ((unhide HO1).lower (Nat.zero_le _)) wr.heap.size rfl x.s (one_newI wr x.s) (by omega) ?_)
      intro a3 c3 w3 ho3 hg3 hl3
      obtain ⟨o3, b3⟩ := grows_on (unhide HO1) (unhide HB1) ho3 hg3 (by simpa using hl3)
      obtain ⟨z2, hlw, hlw0, u1, u2⟩ := unhide KX w3 b3
      obtain ⟨P, hP⟩ : ∃ P, L ++ [x.s] = P := ⟨_, rfl⟩
      have hPl : P.length ≤ 2147483648 := by rw [← hP, List.length_append, List.length_singleton]; omega
      have hPe : L.length + 1 = P.length := by rw [← hP, List.length_append, List.length_singleton]
      rw [hP] at o3
      rw [hPe] at o3
      rw [hPe]
      rw [hP] at HPL
      have HP0 := hide (unhide HPL).symm
      have HO3 := hide o3
      have HB3 := hide b3
      clear ho3 hg3 hl3 o3 b3 hP hPe HPL HO1 HB1 hO hB
      go_wp2_with fail
      go_loopg [19, 249] t.ss.length (fun kx sl sk wr => ∃ (k : Nat) (L : List Int) (la : Option Addr) (lc : Nat), sk = .int .i64 k ∧ sl = .slice la L.length lc ∧ k ≤ t.ss.length ∧ t.ss.length - k ≤ kx ∧ Hid (P ++ (t.ss.take k).filter (fun y => decide (x.s < y)) = L) ∧ Hid (OwnS wr W8.heap.size (.slice la L.length lc) L) ∧ Hid (Below W8.heap.size W8 wr))
      case atStart => exact ⟨0, P, a3, c3, rfl, rfl, Nat.zero_le _, Nat.le_refl _, hide (by simp), HO3, HB3⟩
      case round =>
        obtain ⟨k, L, la, lc, rfl, rfl, hk', hgk, hL, hO, hB⟩ := hrel
        obtain ⟨z2, hlw, hlw0, u1, u2⟩ := unhide KX wr (unhide hB)
        have hLl : L.length ≤ 4294967295 := by
          have h1 : ((t.ss.take k).filter (fun y => decide (x.s < y))).length ≤ (t.ss.take k).length := List.length_filter_le _ _
          have h2 : (t.ss.take k).length ≤ k := by simp; omega
          rw [← unhide hL]
          simp only [List.length_append]; omega
        by_cases hlt : k < t.ss.length
        · obtain ⟨y, hy⟩ : ∃ y, t.ss[k]? = some y := ⟨_, List.getElem?_eq_getElem hlt⟩
          obtain ⟨b, off, rfl, hb, d0⟩ := unhide KS wr (unhide hB) k y hy
          have hds := flt_snoc (fun y => decide (x.s < y)) hy
          by_cases hc : x.s < y
          · have hcb := hc
            rw [if_pos (by simpa using hc)] at hds
            have HDS : Hid (P ++ (t.ss.take (k + 1)).filter (fun y => decide (x.s < y)) = L ++ [y]) := hide (by rw [hds, ← List.append_assoc, unhide hL])
            have HO1 := hide ((unhide hO).next (allocB wr (.cells #[.int .i64 y] 3)))
            have HB1 := hide (nnext (unhide hB) (allocB wr (.cells #[.int .i64 y] 3)))
            clear hds hy hc
            go_wp2_with (at_builtin; refine wpList_app_i1 rfl _ _ rfl (.slice la L.length lc) L rfl ((unhide HO1).lower (Nat.zero_le _)) wr.heap.size rfl y (one_newI wr y) (by omega) ?_)
            intro a3 c3 w3 ho3 hg3 hl3
            obtain ⟨o3, b3⟩ := grows_on (unhide HO1) (unhide HB1) ho3 hg3 (by simpa using hl3)
            have HO3 := hide o3
            have HB3 := hide b3
            clear ho3 hg3 hl3 o3 b3
            go_wp2_with fail
            go_roundg (t.ss.length - (k + 1))
            case measure => omega
            case rel => exact ⟨k + 1, L ++ [y], a3, c3, rfl, by rw [List.length_append]; rfl, by omega, Nat.le_refl _, HDS, by rw [List.length_append]; exact HO3, HB3⟩
          · have hcb := hc
            rw [if_neg (by simpa using hc)] at hds
            have HDS : Hid (P ++ (t.ss.take (k + 1)).filter (fun y => decide (x.s < y)) = L) := hide (by rw [hds, List.append_nil, unhide hL])
            clear hds hy hc
            go_wp2_with fail
            go_roundg (t.ss.length - (k + 1))
            case measure => omega
            case rel => exact ⟨k + 1, L, la, lc, rfl, rfl, by omega, Nat.le_refl _, HDS, hO, hB⟩
        · obtain rfl : k = t.ss.length := by omega
          have hL2 := unhide hL
          rw [List.take_length] at hL2
          rw [unhide HP0] at hL2
          have HR := hide hL2
          have C1 : Hid (chgN t x = t.ns) := hide (by rw [chgN, unhide HO]; rfl)
          have C2 : Hid (chgS t x = L) := hide (by rw [chgS, unhide HO, if_pos rfl, insS, ← hL2, List.append_assoc]; rfl)
          have C3 : Hid (chgV t x = []) := hide (by rw [chgV, unhide HO]; rfl)
          have HNL : Hid (t.ns.length ≤ 400) := hide hlf
          have E6 := hide (fun h => appE_six (unhide AD) hchg (unhide C1) h)
          have E0 := hide (fun h => appE_ok (unhide AD) hchg (unhide C1) h)
          have R4 := hide ((unhide R8).step ((Touch.of_below (F := FB m (bo + 2)) (unhide hB)).trans (Touch.set (a := ⟨bo, 2, none⟩) (unhide R8).rg.fo (.slice la L.length lc))) ((unhide R8).rg.se ((unhide R8).free hmW) (unhide hB) (unhide hO)))
          have gw := (unhide R8).rg.next (unhide hB)
          have k1 := gw.c1
          have k2 := gw.c2
          have ff2 := gw.fzo 2
          have hbw := gw.lo
          clear gw hL2 hL HP0 HR hchg
          go_wp2_with fail
          obtain ⟨w9, hw9⟩ : ∃ w9, wr.setCell ⟨bo, 2, none⟩ (.slice la L.length lc) = w9 := ⟨_, rfl⟩
          rw [hw9] at R4
          rw [hw9]
          have R9 := hide (unhide R4)
          clear hw9 R4 k1 k2 ff2 hbw
          have g9 := (unhide R9).rg
          have k1 := g9.c1
          have hNl := unhide HNL
          have KR : Hid (∀ W, Below w9.heap.size w9 W → ∀ (k : Nat) (y : Nd), t.ns[k]? = some y → ∃ b, una = some ⟨b, 0, none⟩ ∧ b < W.heap.size ∧ RowAt W b 0 (cellsL t.ns)) := hide (fun W hW k y hy => by
            rcases (g9.n.next hW) with ⟨_, h0⟩ | ⟨q, cap, e, _, h1⟩
            · rw [h0] at hy; simp at hy
            · simp only [Value.slice.injEq] at e
              exact ⟨q, e.1, h1.lt, h1.row⟩)
          have hlo := g9.lo
          clear g9
          go_loopg [406] t.ns.length (fun kx s406 wr => ∃ k : Nat, s406 = .int .i64 k ∧ k ≤ t.ns.length ∧ t.ns.length - k ≤ kx ∧ Hid (∀ i y, i < k → t.ns[i]? = some y → y.k ≤ 2147483647) ∧ Hid (Below w9.heap.size w9 wr))
          case atStart => exact ⟨0, rfl, Nat.zero_le _, Nat.le_refl _, hide (fun i y hi => absurd hi (by omega)), hide (Below.refl _ _)⟩
          case round =>
            obtain ⟨k, rfl, hk', hgk, hno, hB⟩ := hrel
            by_cases hlt : k < t.ns.length
            · obtain ⟨y, hy⟩ : ∃ y, t.ns[k]? = some y := ⟨_, List.getElem?_eq_getElem hlt⟩
              obtain ⟨b, rfl, hb, q⟩ := unhide KR wr (unhide hB) k y hy
              have d0 := q.n0 hy
              have d1 := q.n1 hy
              have d2 := q.n2 hy
              have d3 := q.n3 hy
              have d4 := q.n4 hy
              have d5 := q.n5 hy
              have d6 := q.n6 hy
              have d7 := q.n7 hy
              have d8 := q.n8 hy
              simp only [Nat.zero_add] at d0 d1 d2 d3 d4 d5 d6 d7 d8
              have HA := hide (nnext (unhide hB) (allocB wr (.cells #[.string ⟨y.p.toArray⟩, .string ⟨y.d.toArray⟩, .int .i64 y.c, .int .i64 y.m, .int .i64 y.q, .int .i64 y.v, .int .i64 y.k, .int .i64 y.o, .int .i64 y.n] 75)))
              by_cases hyk : y.k ≤ 2147483647
              · have hyn : ¬ ((2147483648 : Int) ≤ y.k) := by omega
                have HNK : Hid (∀ i z, i < k + 1 → t.ns[i]? = some z → z.k ≤ 2147483647) := hide (fun i z hi hz => by
                  by_cases h : i = k
                  · subst h; rw [hy] at hz; cases hz; exact hyk
                  · exact unhide hno i z (by omega) hz)
                clear q hy
                go_wp2_with fail
                go_roundg (t.ns.length - (k + 1))
                case measure => omega
                case rel => exact ⟨k + 1, rfl, by omega, Nat.le_refl _, HNK, HA⟩
              · have hyn : (2147483648 : Int) ≤ y.k := by omega
                have HE6 := hide (unhide E6 ⟨y, List.mem_of_getElem? hy, by omega⟩)
                have BX := hide ((unhide R9).rb.next (unhide HA))
                clear q hy
                go_wp2_with fail
                refine (rno_any 6 _).mono ?_
                rintro e wE ⟨rfl, hbE⟩
                have BE := hide ((unhide BX).next (by first | exact hbE | exact nbelow_drew hbE))
                obtain ⟨⟨r0, r1, r2⟩, f0, f1, f2⟩ := (unhide BE).rc
                have s0 := nset_same r0
                have s1 := nset_same r1
                have s2 := nset_same r2
                have hlE := (unhide BE).lt
                clear hbE
                go_wp2_with fail
                exact bodyPost_ret (v := .tuple #[.agg #[.int .i64 0, .slice none 0 0, .slice none 0 0], .slice none 0 0, .int .i64 6]) (by simp [results, Tryz.results17, go_sem, r0, r1, r2]) rfl (givesR_no (unhide HE6) (by decide) rfl (unhide BE).b)
            · obtain rfl : k = t.ns.length := by omega
              have HE0 := hide (unhide E0 (fun y hy => by
                obtain ⟨i, hi⟩ := List.getElem?_of_mem hy
                exact unhide hno i y (List.getElem?_eq_some_iff.1 hi).1 hi))
              have RW := (unhide R9).next (unhide hB)
              have e0 := RW.rg.c0
              have e1 := RW.rg.c1
              have e2 := RW.rg.c2
              have ee := RW.rg.ce
              obtain ⟨⟨r0, r1, r2⟩, f0, f1, f2⟩ := RW.rb.rc
              have hlr := RW.rb.lt
              have hlo2 := RW.rg.lo
              have hle2 := RW.rg.le
              have hm9 := RW.hm
              have hbo2 : bo ≠ w.heap.size + 2 := by have := RW.rg.fo.1; omega
              have hbe2 : bo + 1 ≠ w.heap.size + 2 := by have := RW.rg.fv.1; omega
              have FIN := hide (fin_ok RW (unhide HE0) (unhide C1) (unhide C2) (unhide C3))

              clear RW
              go_wp2_with fail
              go_region
              all_goals go_wp2_with fail
              all_goals exact bodyPost_ret (v := .tuple #[.agg #[.int .i64 x.z, .slice una t.ns.length unc, .slice la L.length lc], .slice none 0 0, .int .i64 0]) (by simp [results, Tryz.results17, go_sem, r0, r1, r2]) rfl (unhide FIN)

end Go.Proofs.YtfejpbkapikdiaaGreatDoor
