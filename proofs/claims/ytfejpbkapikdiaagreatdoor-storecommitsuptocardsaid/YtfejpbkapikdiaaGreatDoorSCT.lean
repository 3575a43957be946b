/-
  aviaryref's Apply: its closure gone: the walk.
  What aviaryref.GoodZxid answers, for every number: the walk.
-/
import Derived.Test.YtfejpbkapikdiaaGreatDoorSCS
import Derived.Test.YtfejpbkapikdiaaGreatDoorSCK
namespace Go.Proofs.YtfejpbkapikdiaaGreatDoor
open Go.RowKit

theorem wpList_app_nd1 {w : World} {ops : Array Oper} {rest : List Oper} {o : Oper} {a : Act} {Q : Exit → Act → World → Prop} (hgd : o.guard = none) (s x : Operand)
    (ho : o.op = .call { callee := .builtin .append, args := #[s, x], argTypes := #[28, 28] })
    (v : Value) (ns : List Nd) (hs : a.eval s = v) (hown : OwnS w 0 v ns) (q : Nat) (hx : a.eval x = .slice (some ⟨q, 0, none⟩) 1 1) (t : Nd) (hnews : OneR w q t) (hl : ns.length ≤ 100000)
    (h : ∀ a' c' w', OwnS w' 0 (.slice a' (ns.length + 1) c') (ns ++ [t]) → w.grownBy w' v.ownBlock → ((Value.slice a' (ns.length + 1) c').ownBlock = v.ownBlock ∨ (Value.slice a' (ns.length + 1) c').ownBlock = some w.heap.size) → wpList Tryz.prog ops Q rest (a.put o.dst (.slice a' (ns.length + 1) c')) w') :
    wpList Tryz.prog ops Q (o :: rest) a w := by
  refine wpList_plain hgd fun K hK => ?_
  obtain ⟨i0, hi0, hz0, hz1, hz2⟩ := ninfo
  obtain ⟨v', w', hr, h2, h3, _, h5⟩ := run_append_own_at (P := Tryz.prog) w 0 28 o.type 75 i0 _ 9 88 Tryz.underlying28 hi0 hz0 hz1 hz2 rfl (by decide) v ns.length (cellsL ns) hown.row ⟨q, 0, none⟩ 1 1 (ncells t) rfl (one_news hnews) (Lay.one t) (by simp only [maxLen]; omega) (by omega) (Nat.zero_le _)
  have h2' : OwnS w' 0 v' (ns ++ [t]) := OwnS.of_row (by rw [List.length_append, cellsL_snoc]; exact h2)
  obtain ⟨a', c', rfl, _⟩ := h2'.slice
  rw [List.length_append, List.length_singleton] at h2' hr h5
  unfold Oper.wp execOp
  simp only [ho, resolve, invoke, builtin, Sem.run_bind, Sem.run_pure, Result.andThen_ok, List.map_toArray, List.map_cons, List.map_nil, hs, hx, hr]
  exact hK _ _ (h a' c' w' h2' h3 h5)
theorem one_newN2 (w : World) (o : Obj) (n : Nd) : OneR ((w.alloc o).alloc (.cells #[.string ⟨n.p.toArray⟩, .string ⟨n.d.toArray⟩, .int .i64 n.c, .int .i64 n.m, .int .i64 n.q, .int .i64 n.v, .int .i64 n.k, .int .i64 n.o, .int .i64 n.n] 75)) (w.heap.size + 1) n := by
  have h := one_newN (w.alloc o) n
  rw [show (w.alloc o).heap.size = w.heap.size + 1 by simp] at h
  exact h
theorem drop_snoc {ns : List Nd} {k : Nat} {x : Nd} (p : List UInt8) (h : ns[k]? = some x) : dropN (ns.take (k + 1)) p = dropN (ns.take k) p ++ (if x.p = p then [] else [x]) := by
  rw [List.take_add_one, h]
  simp only [dropN, Option.toList_some, List.filter_append, List.filter_cons, List.filter_nil]
  by_cases e : x.p = p <;> simp [e]
theorem set_size (w : World) (a : Addr) (v : Value) : (w.setCell a v).heap.size = w.heap.size := by simp [World.setCell]
theorem one_newE2 (w : World) (a : Addr) (v : Value) (k : Int) (p : List UInt8) : OneR ((w.setCell a v).alloc (.cells #[.int .i64 k, .string ⟨p.toArray⟩] 60)) w.heap.size (⟨k, p⟩ : Ev) := by
  have h := one_newE (w.setCell a v) k p
  rw [set_size] at h
  exact h
/-- a row that grows at or behind block B -/
theorem grows_on {α : Type} [Lay α] {w W V : World} {v v' : Value} {xs ys : List α} (h : OwnS W w.heap.size v xs) (hb : Below w.heap.size w W) (ho : OwnS V 0 v' ys) (hg : W.grownBy V v.ownBlock) (hl : v'.ownBlock = v.ownBlock ∨ v'.ownBlock = some W.heap.size) : OwnS V w.heap.size v' ys ∧ Below w.heap.size w V := by
  have hab : ∀ k, v.ownBlock = some k → w.heap.size ≤ k := by
    rcases h with ⟨rfl, _⟩ | ⟨g, cap, rfl, h1, _⟩
    · intro k hk; cases hk
    · intro k hk; simp only [Value.ownBlock, Option.some.injEq] at hk; omega
  refine ⟨?_, hb.grown hg hb.size hab⟩
  have hk : ∀ k, v'.ownBlock = some k → w.heap.size ≤ k := by
    intro k hk
    rcases hl with e | e
    · rw [e] at hk; exact hab k hk
    · rw [e] at hk; cases hk; exact hb.size
  rcases ho with h0 | ⟨g, cap, rfl, _, h0⟩
  · exact .inl h0
  · exact .inr ⟨g, cap, rfl, hk g rfl, h0⟩

set_option maxRecDepth 20000 in
set_option maxHeartbeats 4000000 in
theorem rgone_any (F : Nat → Prop) (bo be bx bp : Nat) (z : Int) (vn vs ve : Value) (ns A B A' B' : List Nd) (n u : Nd) (ss : List Int) (es : List Ev) (p : List UInt8) (xz : Int) (w : World)
    (h : RG w F bo be z vn vs ve ns ss es) (hF : ∀ k, w.heap.size ≤ k → F k) (hx : w.cell? ⟨bx, 0, none⟩ = some (.int .i64 xz)) (hxl : bx < w.heap.size) (hxF : ¬ F bx)
    (hpc : w.cell? ⟨bp, 0, none⟩ = some (.func (.func 49) #[] #[.pointer (some ⟨bo, 0, none⟩), .pointer (some ⟨bx, 0, none⟩), .pointer (some ⟨be, 0, none⟩)])) (hpl : bp < w.heap.size) (hpF : ¬ F bp)
    (T : NThere ns A n B p) (U : NThere (A ++ B) A' u B' (dirOf p)) (hl : ns.length ≤ 400) (hk : 0 ≤ u.k ∧ u.k ≤ 4294967296) (hn : 0 ≤ u.n ∧ u.n ≤ 1000) (hp : p.length ≤ 1048576) (hes : es.length ≤ 99998) :
    Calls Tryz.prog 50 #[.string ⟨p.toArray⟩, .pointer (some ⟨bo, 0, none⟩), .pointer (some ⟨be, 0, none⟩), .pointer (some ⟨bp, 0, none⟩)] w fun e w' => e = .returned (.tuple #[]) ∧ ∃ vn' ve', RG w' F bo be z vn' vs ve' (rmN xz ns p) ss (es ++ [⟨2, p⟩, ⟨4, dirOf p⟩]) ∧ Touch F w w' := by
  obtain ⟨g, cap, rfl, hr, hgo, hge, hFg⟩ := h.nrow (by rw [T.eq]; simp)
  have HR := hide (fun W (hW : Below w.heap.size w W) => (hr.next hW).row)
  have hgl := hr.lt
  have HG := hide h
  have HF := hide hF
  have HX := hide (fun W (hW : Touch F w W) => (show W.cell? ⟨bx, 0, none⟩ = some (.int .i64 xz) from (World.cell?_of_block (w := w) (a := ⟨bx, 0, none⟩) (hW.block bx hxl hxF)).trans hx))
  have HP := hide (fun W (hW : Touch F w W) => (show W.cell? ⟨bp, 0, none⟩ = _ from (World.cell?_of_block (w := w) (a := ⟨bp, 0, none⟩) (hW.block bp hpl hpF)).trans hpc))
  have hd := T.drop
  have HRM : Hid (rmN xz ns p = A' ++ bump xz (-1) u :: B') := hide (by rw [rmN, hd]; exact U.bump xz (-1))
  have hlAB : (A ++ B).length ≤ 400 := by have := T.eq; rw [this] at hl; simp at hl ⊢; omega
  have CP := hide (fun W vn2 ve2 es2 (hR : RG W F bo be z vn2 vs ve2 (A ++ B) ss es2) (hW : Touch F w W) (he : es2.length ≤ 99999) => rparent_any F bo be bx z vn2 vs ve2 (A ++ B) A' B' u ss es2 p (-1) xz W hR (fun k hk => hF k (by have := hW.size; omega)) (unhide HX W hW) (by have := hW.size; omega) hxF U hlAB hk hn ⟨by omega, by omega⟩ hp he)
  have HD := hide hd
  have c1 := h.c1
  have hbo := h.lo
  have hoe := h.oe
  have hxo : bx ≠ bo := fun e => hxF (e ▸ h.fo)
  clear h hr hF hx hpc T U hd
  go_enter Tryz.func50, Tryz.ntmps50
  go_wp2_with fail
  go_loopg [5, 11] ns.length (fun kx s5 s11 wr => ∃ (k : Nat) (L : List Nd) (la : Option Addr) (lc : Nat), s11 = .int .i64 k ∧ s5 = .slice la L.length lc ∧ k ≤ ns.length ∧ ns.length - k ≤ kx ∧ Hid (dropN (ns.take k) p = L) ∧ Hid (OwnS wr w.heap.size (.slice la L.length lc) L) ∧ Hid (Below w.heap.size w wr))
  case atStart => exact ⟨0, [], none, 0, rfl, rfl, Nat.zero_le _, Nat.le_refl _, hide rfl, hide (.inl ⟨rfl, rfl⟩), hide (Below.refl _ _)⟩
  case round =>
    obtain ⟨k, L, la, lc, rfl, rfl, hk', hg, hL, hO, hB⟩ := hrel
    by_cases hlt : k < ns.length
    · obtain ⟨x, hx⟩ : ∃ x, ns[k]? = some x := ⟨_, List.getElem?_eq_getElem hlt⟩
      have q := unhide HR wr (unhide hB)
      have d0 := q.n0 hx
      have d1 := q.n1 hx
      have d2 := q.n2 hx
      have d3 := q.n3 hx
      have d4 := q.n4 hx
      have d5 := q.n5 hx
      have d6 := q.n6 hx
      have d7 := q.n7 hx
      have d8 := q.n8 hx
      simp only [Nat.zero_add] at d0 d1 d2 d3 d4 d5 d6 d7 d8
      have hgw : g < wr.heap.size := Nat.lt_of_lt_of_le hgl (unhide hB).size
      have hLl : L.length ≤ 100000 := by
        have h1 : (dropN (ns.take k) p).length ≤ (ns.take k).length := List.length_filter_le _ _
        rw [unhide hL] at h1
        have h2 : (ns.take k).length ≤ k := by simp; omega
        omega
      have hds := drop_snoc p hx
      rw [unhide hL] at hds
      by_cases hxp : x.p = p
      · have hxb : (x.p == p) = true := by simpa using hxp
        rw [if_pos hxp, List.append_nil] at hds
        have HDS := hide hds
        have HO1 := hide ((unhide hO).next (allocB wr (.cells #[.string ⟨x.p.toArray⟩, .string ⟨x.d.toArray⟩, .int .i64 x.c, .int .i64 x.m, .int .i64 x.q, .int .i64 x.v, .int .i64 x.k, .int .i64 x.o, .int .i64 x.n] 75)))
        have HB1 := hide (nnext (unhide hB) (allocB wr (.cells #[.string ⟨x.p.toArray⟩, .string ⟨x.d.toArray⟩, .int .i64 x.c, .int .i64 x.m, .int .i64 x.q, .int .i64 x.v, .int .i64 x.k, .int .i64 x.o, .int .i64 x.n] 75)))
        clear q hx hds hxp
        go_wp2_with fail
        go_roundg (ns.length - (k + 1))
        case measure => omega
        case rel => exact ⟨k + 1, L, la, lc, rfl, rfl, by omega, Nat.le_refl _, HDS, HO1, HB1⟩
      · have hxb : (x.p == p) = false := by simpa using hxp
        rw [if_neg hxp] at hds
        have HDS := hide hds
        have HO1 := hide (((unhide hO).next (allocB wr (.cells #[.string ⟨x.p.toArray⟩, .string ⟨x.d.toArray⟩, .int .i64 x.c, .int .i64 x.m, .int .i64 x.q, .int .i64 x.v, .int .i64 x.k, .int .i64 x.o, .int .i64 x.n] 75))).next (allocB _ (.cells #[.string ⟨x.p.toArray⟩, .string ⟨x.d.toArray⟩, .int .i64 x.c, .int .i64 x.m, .int .i64 x.q, .int .i64 x.v, .int .i64 x.k, .int .i64 x.o, .int .i64 x.n] 75)))
        have HB1 := hide (nnext (nnext (unhide hB) (allocB wr (.cells #[.string ⟨x.p.toArray⟩, .string ⟨x.d.toArray⟩, .int .i64 x.c, .int .i64 x.m, .int .i64 x.q, .int .i64 x.v, .int .i64 x.k, .int .i64 x.o, .int .i64 x.n] 75))) (allocB _ (.cells #[.string ⟨x.p.toArray⟩, .string ⟨x.d.toArray⟩, .int .i64 x.c, .int .i64 x.m, .int .i64 x.q, .int .i64 x.v, .int .i64 x.k, .int .i64 x.o, .int .i64 x.n] 75)))
        clear q hx hds hxp
        go_wp2_with (at_builtin; refine wpList_app_nd1 rfl _ _ rfl (.slice la L.length lc) L rfl ((unhide HO1).lower (Nat.zero_le _)) (wr.heap.size + 1) rfl x (one_newN2 wr _ x) hLl ?_)
        intro a3 c3 w3 ho3 hg3 hl3
        obtain ⟨o3, b3⟩ := grows_on (unhide HO1) (unhide HB1) ho3 hg3 (by simpa using hl3)
        have HO3 := hide o3
        have HB3 := hide b3
        clear ho3 hg3 hl3 o3 b3
        go_wp2_with fail
        go_roundg (ns.length - (k + 1))
        case measure => omega
        case rel => exact ⟨k + 1, L ++ [x], a3, c3, rfl, by rw [List.length_append]; rfl, by omega, Nat.le_refl _, HDS, by rw [List.length_append]; exact HO3, HB3⟩
    · obtain rfl : k = ns.length := by omega
      have hL2 := unhide hL
      rw [List.take_length, unhide HD] at hL2
      rw [hL2] at CP hlAB
      clear hL2 hL
      have gw := (unhide HG).next (unhide hB)
      have k1 := gw.c1
      have z1 := gw.fzo 1
      have ke := gw.ce
      have hbw : bo < wr.heap.size := gw.lo
      have hew : be < wr.heap.size := gw.le
      have hws := (unhide hB).size
      have HG1 := hide ((unhide HG).nd (unhide HF) (unhide hB) (unhide hO))
      have HT1 := hide ((Touch.of_below (F := F) (unhide hB)).trans (Touch.set (a := ⟨bo, 1, none⟩) (unhide HG).fo (.slice la L.length lc)))
      obtain ⟨ea, ec, rfl, _⟩ := (unhide HG).e.slice
      have heo : be ≠ bo := hoe.symm
      have hpe : bp ≠ be := fun e => hpF (e ▸ (unhide HG).fv)
      have K4 : Hid (∀ (w4 : World) (a4 : Option Addr) (c4 : Nat), OwnS w4 0 (.slice a4 (es.length + 1) c4) (es ++ [⟨2, p⟩]) → ((wr.setCell ⟨bo, 1, none⟩ (.slice la L.length lc)).alloc (.cells #[.int .i64 2, .string ⟨p.toArray⟩] 60)).grownBy w4 (Value.slice ea es.length ec).ownBlock → ((Value.slice a4 (es.length + 1) c4).ownBlock = (Value.slice ea es.length ec).ownBlock ∨ (Value.slice a4 (es.length + 1) c4).ownBlock = some ((wr.setCell ⟨bo, 1, none⟩ (.slice la L.length lc)).alloc (.cells #[.int .i64 2, .string ⟨p.toArray⟩] 60)).heap.size) →
          w4.cell? ⟨be, 0, none⟩ = some (.slice ea es.length ec) ∧ w4.frozen? ⟨be, 0, none⟩ = false ∧ w4.cell? ⟨bp, 0, none⟩ = some (.func (.func 49) #[] #[.pointer (some ⟨bo, 0, none⟩), .pointer (some ⟨bx, 0, none⟩), .pointer (some ⟨be, 0, none⟩)]) ∧ be < w4.heap.size ∧ bp < w4.heap.size ∧ RG (w4.setCell ⟨be, 0, none⟩ (.slice a4 (es.length + 1) c4)) F bo be z (.slice la L.length lc) vs (.slice a4 (es.length + 1) c4) L ss (es ++ [⟨2, p⟩]) ∧ Touch F w (w4.setCell ⟨be, 0, none⟩ (.slice a4 (es.length + 1) c4))) := hide (by
        intro w4 a4 c4 ho4 hg4 hl4
        have gx := (unhide HG1).next (allocB _ (.cells #[.int .i64 2, .string ⟨p.toArray⟩] 60))
        have nbe : some be ≠ (Value.slice ea es.length ec).ownBlock := fun e => (gx.ke be e.symm).2.2 rfl
        have t4 : Touch F w w4 := ((unhide HT1).trans (Touch.of_below (allocB _ (.cells #[.int .i64 2, .string ⟨p.toArray⟩] 60)))).trans (Touch.of_grown hg4 (fun k e => (gx.ke k e).1))
        refine ⟨hg4.cell gx.ce nbe, (World.frozen?_of_block (hg4.block be gx.le nbe)).trans (gx.fze 0), unhide HP w4 t4, Nat.lt_of_lt_of_le gx.le hg4.size, Nat.lt_of_lt_of_le hpl t4.size, gx.ev (fun k hk => unhide HF k (by simp [World.setCell] at hk; omega)) hg4 ho4 hl4, t4.trans (Touch.set (a := ⟨be, 0, none⟩) gx.fv _)⟩)
      clear gw
      go_wp2_with (at_builtin; refine wpList_app_ev1 rfl _ _ rfl (.slice ea es.length ec) es rfl ((unhide HG1).e.next (allocB _ _)) wr.heap.size rfl ⟨2, p⟩ (one_newE2 wr _ _ 2 p) (by omega) ?_)
      intro a4 c4 w4 ho4 hg4 hl4
      obtain ⟨m0, m1, m2, m3, m4, g4, t4⟩ := unhide K4 w4 a4 c4 ho4 hg4 (by simpa [World.setCell] using hl4)
      have HG4 := hide g4
      have HT4 := hide t4
      clear ho4 hg4 hl4 g4 t4
      go_wp2_with fail
      refine (unhide CP _ _ _ _ (unhide HG4) (unhide HT4) (by simp; omega)).mono ?_
      rintro e w5 ⟨rfl, ve5, g5, t5⟩
      have HG5 := hide g5
      have HT5 := hide ((unhide HT4).trans t5)
      clear g5 t5
      go_wp2_with fail
      go_end0
      refine ⟨rfl, .slice la L.length lc, ve5, ?_, unhide HT5⟩
      rw [unhide HRM]
      have := unhide HG5
      rw [List.append_assoc] at this
      exact this

end Go.Proofs.YtfejpbkapikdiaaGreatDoor

namespace Go.Proofs.YtfejpbkapikdiaaGreatDoor
open Go.RowKit

theorem tdq {z : Int} (h0 : 0 ≤ z) (hm : z ≤ 9223372036854775807) : wrap64 (z.tdiv 2147483648) = z / 2147483648 := by
  rw [Int.tdiv_eq_ediv_of_nonneg h0]; unfold wrap64; omega
set_option maxRecDepth 10000 in
set_option maxHeartbeats 400000 in
theorem rgood_any (z : Int) (hm : z ≤ 9223372036854775807) (w : World) : Calls Tryz.prog 71 #[.int .i64 z] w fun e w' => e = .returned (.bool (zGood z)) ∧ w' = w := by
  by_cases h0 : 0 ≤ z
  · by_cases h1 : z < 4611686018427387904
    · have H := hide (zGood_iff.2 ⟨h0, h1⟩)
      have h2 : decide (z / 2147483648 < 2147483648) = true := decide_eq_true (by omega)
      go_enter Tryz.func71, Tryz.ntmps71
      go_wp2_with fail
      go_ret
      exact ⟨zret_bool (Eq.trans (by first | rfl | exact h2 | (rw [tdq h0 hm]; exact h2)) (unhide H).symm), rfl⟩
    · have H := hide (zGood_no (z := z) (by omega))
      have h2 : decide (z / 2147483648 < 2147483648) = false := decide_eq_false (by omega)
      go_enter Tryz.func71, Tryz.ntmps71
      go_wp2_with fail
      go_ret
      exact ⟨zret_bool (Eq.trans (by first | rfl | exact h2 | (rw [tdq h0 hm]; exact h2)) (unhide H).symm), rfl⟩
  · have H := hide (zGood_no (z := z) (by omega))
    go_enter Tryz.func71, Tryz.ntmps71
    go_wp2_with fail
    go_ret
    exact ⟨zret_bool (by rw [unhide H]), rfl⟩

end Go.Proofs.YtfejpbkapikdiaaGreatDoor
