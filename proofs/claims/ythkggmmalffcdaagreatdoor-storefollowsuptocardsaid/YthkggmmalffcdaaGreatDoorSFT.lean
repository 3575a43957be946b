/-
  aviaryref.Take: the walks.
-/
import Derived.Test.YthkggmmalffcdaaGreatDoorSFP
import Derived.Test.YthkggmmalffcdaaGreatDoorSFR
import Derived.Test.YthkggmmalffcdaaGreatDoorSFS
namespace Go.Proofs.YthkggmmalffcdaaGreatDoor
open Go.RowKit

theorem wpList_app_tx {w : World} {ops : Array Oper} {rest : List Oper} {o : Oper} {a : Act} {Q : Exit → Act → World → Prop} (hgd : Region.wanted o (yielded ops a.tmps) = true) (s x : Operand)
    (ho : o.op = .call { callee := .builtin .append, args := #[s, x], argTypes := #[25, 25] })
    (B : Nat) (hB : B ≤ w.heap.size) (v : Value) (es : List WTxn) (hs : a.eval s = v) (hown : OwnS w B v es)
    (q : Nat) (hx : a.eval x = .slice (some ⟨q, 0, none⟩) 1 1) (t : WTxn) (hnews : OneR w q t) (hl : es.length ≤ 1000000000)
    (h : ∀ a' c' w', OwnS w' B (.slice a' (es.length + 1) c') (es ++ [t]) → w.grownBy w' v.ownBlock → ((Value.slice a' (es.length + 1) c').ownBlock = v.ownBlock ∨ (Value.slice a' (es.length + 1) c').ownBlock = some w.heap.size) → wpList Tryz.prog ops Q rest (a.put o.dst (.slice a' (es.length + 1) c')) w') : wpList Tryz.prog ops Q (o :: rest) a w :=
  wpList_step fun _ hK => step_app_tx hgd s x ho B hB v es hs hown q hx t hnews hl (fun a' c' w' h1 h2 h3 => hK _ _ (h a' c' w' h1 h2 h3))
theorem disk_lt {W : World} {v : Value} {fs : List DF} (h : DiskV W v fs) : fs ≠ [] → ∀ b off n c, v = .slice (some ⟨b, off, none⟩) n c → b < W.heap.size := by
  intro h0 b off n c e
  rcases h with ⟨a, cap, _, h1, _⟩ | ⟨b', off', cap, rfl, _, _, h3, _⟩
  · exact absurd h1 h0
  · simp only [Value.slice.injEq, Option.some.injEq, Addr.mk.injEq] at e
    omega
theorem disk_touch2 {F : Nat → Prop} {W V : World} {v : Value} {fs : List DF} (h : DiskV W v fs) (ht : Touch F W V) (hf : fs ≠ [] → ∀ b off n c, v = .slice (some ⟨b, off, none⟩) n c → ¬ F b) : DiskV V v fs := by
  rcases h with h | ⟨b, off, cap, rfl, h1, h2, h3, h0, h4⟩
  · exact .inl h
  · exact .inr ⟨b, off, cap, rfl, h1, h2, Nat.lt_of_lt_of_le h3 ht.size, h0, h4.touch ht h3 (hf h0 b off _ cap rfl)⟩
theorem put10_box {W : World} {k q : Nat} {v : Value} (h : BoxAt W q v) (hk : q ≠ k) (x0 x1 x2 x3 x4 x5 x6 x7 x8 x9 : Value) : BoxAt (put10 W k x0 x1 x2 x3 x4 x5 x6 x7 x8 x9) q v := by
  have one : ∀ {W : World} (j : Nat) (u : Value), BoxAt W q v → BoxAt (W.setCell ⟨k, j, none⟩ u) q v := fun j u h => (Below.heap_setCell _ ⟨k, j, none⟩ u q hk).trans h
  exact one 9 x9 (one 8 x8 (one 7 x7 (one 6 x6 (one 5 x5 (one 4 x4 (one 3 x3 (one 2 x2 (one 1 x1 (one 0 x0 h)))))))))

set_option maxRecDepth 10000 in
set_option maxHeartbeats 4000000 in
theorem rtake_order (up : Bool) (id ep dn tz : Int) (fs : List DF) (ts : List WTxn) (t : WTxn) (safe : Bool) (vd vl : Value) (an ai aw : Option Addr) (nn cn ni ci nw cw : Nat) (w : World) (hd : DiskV w vd fs) (hl : LogV w vl ts) (hz : t.z ≤ lastZ ts) :
    Calls Tryz.prog 35 #[.agg #[.bool up, vd, .int .i64 id, .int .i64 ep, vl, .int .i64 dn, .int .i64 tz, .slice an nn cn, .slice ai ni ci, .slice aw nw cw], txnV t, .bool safe] w (GivesZ w 13) := by
  have CL := hide (fun W (hW : Below w.heap.size w W) => rlast_any vl ts W (hl.next hW))
  generalize lastZ ts = lz at *
  obtain ⟨ad, nd, cd, rfl⟩ := disk_slice hd
  obtain ⟨al, cl, rfl⟩ := log_slice hl
  clear hl
  obtain ⟨z, o, s, p, d, y, u⟩ := t
  unfold txnV at *
  simp only at *
  go_enter Tryz.func35, Tryz.ntmps35
  go_upto_region 1 with fail
  have X := hide (EB.start w up id ep dn tz (.slice ad nd cd) (.slice al ts.length cl) (.slice an nn cn) (.slice ai ni ci) (.slice aw nw cw) ⟨z, o, s, p, d, y, u⟩)
  have HB0 := hide (EB.startB w (.cells #[.bool up, .slice ad nd cd, .int .i64 id, .int .i64 ep, .slice al ts.length cl, .int .i64 dn, .int .i64 tz, .slice an nn cn, .slice ai ni ci, .slice aw nw cw] 34) (.cells #[.int .i64 z, .int .i64 o, .int .i64 s, .string ⟨p.toArray⟩, .string ⟨d.toArray⟩, .int .i64 y, .int .i64 u] 48) (.cells #[.bool false, .slice none 0 0, .int .i64 0, .int .i64 0, .slice none 0 0, .int .i64 0, .int .i64 0, .slice none 0 0, .slice none 0 0, .slice none 0 0] 34))
  simp only at X
  generalize ((w.alloc (.cells #[.bool up, .slice ad nd cd, .int .i64 id, .int .i64 ep, .slice al ts.length cl, .int .i64 dn, .int .i64 tz, .slice an nn cn, .slice ai ni ci, .slice aw nw cw] 34)).alloc (.cells #[.int .i64 z, .int .i64 o, .int .i64 s, .string ⟨p.toArray⟩, .string ⟨d.toArray⟩, .int .i64 y, .int .i64 u] 48)).alloc (.cells #[.bool false, .slice none 0 0, .int .i64 0, .int .i64 0, .slice none 0 0, .int .i64 0, .int .i64 0, .slice none 0 0, .slice none 0 0, .slice none 0 0] 34) = W0 at *
  go_cut [16] from 10 (fun t16 wx => t16 = .bool true ∧ Hid (Below W0.heap.size W0 wx))
  case first =>
    obtain ⟨x0, x1, x2, x3, x4, x5, x6, x7, x8, x9⟩ := (unhide X).s.cells
    have t0 := (unhide X).x.c0
    simp only at t0
    go_region_with (first
      | (go_at_call 83; refine (unhide CL _ (by first | with_reducible exact (unhide HB0).drew | with_reducible exact unhide HB0)).mono ?_; rintro e w1 ⟨rfl, hb1⟩; have HB9 := hide (nbelow_drew hb1); have t9 := ((unhide X).next (unhide HB9)).x.c0; simp only at t9; clear hb1))
    all_goals go_wp2_with fail
    all_goals go_meet
    all_goals first
      | exact ⟨rfl, HB9⟩
      | exact ⟨by simp; omega, HB9⟩
      | exact ⟨rfl, hide (Below.refl _ _).drew⟩
      | exact ⟨rfl, hide (Below.refl _ _)⟩
      | exact ⟨by simp; omega, hide (Below.refl _ _).drew⟩
      | exact ⟨by simp; omega, hide (Below.refl _ _)⟩
  case rest =>
    obtain ⟨rfl, hbc⟩ := hcut
    have X1 := hide ((unhide X).next (unhide hbc))
    have HB1 := hide (nnext (unhide HB0) (unhide hbc))
    clear X HB0 hbc CL
    go_upto_region 2 with fail
    obtain ⟨r0, r1, r2, r3, r4, r5, r6, r7, r8, r9⟩ := (unhide X1).r.cells
    have rf0 := (unhide X1).r.froz 0
    have rf1 := (unhide X1).r.froz 1
    have rf2 := (unhide X1).r.froz 2
    have rf3 := (unhide X1).r.froz 3
    have rf4 := (unhide X1).r.froz 4
    have rf5 := (unhide X1).r.froz 5
    have rf6 := (unhide X1).r.froz 6
    have rf7 := (unhide X1).r.froz 7
    have rf8 := (unhide X1).r.froz 8
    have rf9 := (unhide X1).r.froz 9
    go_wp2_with fail
    exact bodyPost_ret (v := .tuple #[.agg #[.bool false, .slice none 0 0, .int .i64 0, .int .i64 0, .slice none 0 0, .int .i64 0, .int .i64 0, .slice none 0 0, .slice none 0 0, .slice none 0 0], .int .i64 13]) (by simp [results, Tryz.results35, go_sem, r0, r1, r2, r3, r4, r5, r6, r7, r8, r9]) rfl (givesZ_of rfl (put10_below (unhide HB1) (by omega) _ _ _ _ _ _ _ _ _ _))

set_option maxRecDepth 10000 in
set_option maxHeartbeats 4000000 in
theorem rtake_err (up : Bool) (id ep dn tz : Int) (fs : List DF) (ts : List WTxn) (t : WTxn) (safe : Bool) (vd vl : Value) (an ai aw : Option Addr) (nn cn ni ci nw cw : Nat) (w : World) (hd : DiskV w vd fs) (hl : LogV w vl ts) (hz : ¬ t.z ≤ lastZ ts) (E : Int) (d1 : List DF) (hE : E ≠ 0) (G : GivesD 84 (fun x => #[x, txnV t, .bool safe]) fs d1 E) :
    Calls Tryz.prog 35 #[.agg #[.bool up, vd, .int .i64 id, .int .i64 ep, vl, .int .i64 dn, .int .i64 tz, .slice an nn cn, .slice ai ni ci, .slice aw nw cw], txnV t, .bool safe] w (GivesZ w E) := by
  have HG := hide (fun W (hW : Below w.heap.size w W) => G _ W (hd.next hW))
  have hne : (E != 0) = true := by simpa using hE
  clear G hE
  have CL := hide (fun W (hW : Below w.heap.size w W) => rlast_any vl ts W (hl.next hW))
  generalize lastZ ts = lz at *
  obtain ⟨ad, nd, cd, rfl⟩ := disk_slice hd
  obtain ⟨al, cl, rfl⟩ := log_slice hl
  clear hl
  obtain ⟨z, o, s, p, d, y, u⟩ := t
  unfold txnV at *
  simp only at *
  go_enter Tryz.func35, Tryz.ntmps35
  go_upto_region 1 with fail
  have X := hide (EB.start w up id ep dn tz (.slice ad nd cd) (.slice al ts.length cl) (.slice an nn cn) (.slice ai ni ci) (.slice aw nw cw) ⟨z, o, s, p, d, y, u⟩)
  have HB0 := hide (EB.startB w (.cells #[.bool up, .slice ad nd cd, .int .i64 id, .int .i64 ep, .slice al ts.length cl, .int .i64 dn, .int .i64 tz, .slice an nn cn, .slice ai ni ci, .slice aw nw cw] 34) (.cells #[.int .i64 z, .int .i64 o, .int .i64 s, .string ⟨p.toArray⟩, .string ⟨d.toArray⟩, .int .i64 y, .int .i64 u] 48) (.cells #[.bool false, .slice none 0 0, .int .i64 0, .int .i64 0, .slice none 0 0, .int .i64 0, .int .i64 0, .slice none 0 0, .slice none 0 0, .slice none 0 0] 34))
  simp only at X
  generalize ((w.alloc (.cells #[.bool up, .slice ad nd cd, .int .i64 id, .int .i64 ep, .slice al ts.length cl, .int .i64 dn, .int .i64 tz, .slice an nn cn, .slice ai ni ci, .slice aw nw cw] 34)).alloc (.cells #[.int .i64 z, .int .i64 o, .int .i64 s, .string ⟨p.toArray⟩, .string ⟨d.toArray⟩, .int .i64 y, .int .i64 u] 48)).alloc (.cells #[.bool false, .slice none 0 0, .int .i64 0, .int .i64 0, .slice none 0 0, .int .i64 0, .int .i64 0, .slice none 0 0, .slice none 0 0, .slice none 0 0] 34) = W0 at *
  go_cut [16] from 10 (fun t16 wx => t16 = .bool false ∧ Hid (Below W0.heap.size W0 wx))
  case first =>
    obtain ⟨x0, x1, x2, x3, x4, x5, x6, x7, x8, x9⟩ := (unhide X).s.cells
    have t0 := (unhide X).x.c0
    simp only at t0
    go_region_with (first
      | (go_at_call 83; refine (unhide CL _ (by first | with_reducible exact (unhide HB0).drew | with_reducible exact unhide HB0)).mono ?_; rintro e w1 ⟨rfl, hb1⟩; have HB9 := hide (nbelow_drew hb1); have t9 := ((unhide X).next (unhide HB9)).x.c0; simp only at t9; clear hb1))
    all_goals go_wp2_with fail
    all_goals go_meet
    all_goals first
      | exact ⟨rfl, HB9⟩
      | exact ⟨by simp; omega, HB9⟩
      | exact ⟨rfl, hide (Below.refl _ _).drew⟩
      | exact ⟨rfl, hide (Below.refl _ _)⟩
      | exact ⟨by simp; omega, hide (Below.refl _ _).drew⟩
      | exact ⟨by simp; omega, hide (Below.refl _ _)⟩
  case rest =>
    obtain ⟨rfl, hbc⟩ := hcut
    have X1 := hide ((unhide X).next (unhide hbc))
    have HB1 := hide (nnext (unhide HB0) (unhide hbc))
    clear X HB0 hbc CL
    obtain ⟨x0, x1, x2, x3, x4, x5, x6, x7, x8, x9⟩ := (unhide X1).s.cells
    have t0 := (unhide X1).x.c0
    have t1 := (unhide X1).x.c1
    have t2 := (unhide X1).x.c2
    have t3 := (unhide X1).x.c3
    have t4 := (unhide X1).x.c4
    have t5 := (unhide X1).x.c5
    have t6 := (unhide X1).x.c6
    simp only at t0 t1 t2 t3 t4 t5 t6
    go_wp2_with fail
    refine (unhide HG _ (unhide HB1)).mono ?_
    rintro e w2 ⟨a2, n2, c2, rfl, D2, hb2⟩
    clear x0 x1 x2 x3 x4 x5 x6 x7 x8 x9 t0 t1 t2 t3 t4 t5 t6
    have hal := allocB w2 (.cells #[.slice a2 n2 c2] 24)
    have X2 := hide (((unhide X1).next hb2).next hal)
    have HB2 := hide (nnext (nnext (unhide HB1) hb2) hal)
    clear X1 HB1 hb2 hal D2 HG
    go_upto_region 5 with fail
    generalize w2.alloc (.cells #[.slice a2 n2 c2] 24) = W2 at *
    obtain ⟨r0, r1, r2, r3, r4, r5, r6, r7, r8, r9⟩ := (unhide X2).r.cells
    have rf0 := (unhide X2).r.froz 0
    have rf1 := (unhide X2).r.froz 1
    have rf2 := (unhide X2).r.froz 2
    have rf3 := (unhide X2).r.froz 3
    have rf4 := (unhide X2).r.froz 4
    have rf5 := (unhide X2).r.froz 5
    have rf6 := (unhide X2).r.froz 6
    have rf7 := (unhide X2).r.froz 7
    have rf8 := (unhide X2).r.froz 8
    have rf9 := (unhide X2).r.froz 9
    go_wp2_with fail
    exact bodyPost_ret (v := .tuple #[.agg #[.bool false, .slice none 0 0, .int .i64 0, .int .i64 0, .slice none 0 0, .int .i64 0, .int .i64 0, .slice none 0 0, .slice none 0 0, .slice none 0 0], .int .i64 E]) (by simp [results, Tryz.results35, go_sem, r0, r1, r2, r3, r4, r5, r6, r7, r8, r9]) rfl (givesZ_of rfl (put10_below (unhide HB2) (by omega) _ _ _ _ _ _ _ _ _ _))

set_option maxRecDepth 10000 in
set_option maxHeartbeats 4000000 in
theorem rtakeF_ok (s : Sv) (v : Value) (t : WTxn) (safe : Bool) (d1 : List DF) (w : World) (hv : SvV w v s) (hf : Fits s) (hz : ¬ t.z ≤ lastZ s.ts) (hn : s.ts.length ≤ 1000000000) (G : GivesD 84 (fun x => #[x, txnV t, .bool safe]) s.fs d1 0) :
    Calls Tryz.prog 35 #[v, txnV t, .bool safe] w (GivesVF w ⟨s.up, d1, s.id, s.ep, s.ts ++ [t], s.dn, s.tr, s.ws⟩ 0) := by
  have CC := hide (fun W (hW : Below w.heap.size w W) => rcopyS_any s v W (hv.next hW) hf)
  obtain ⟨ad, nd, cd, al, cl, an, cn, ai, ci, aw, cw, rfl, k1, l1, n1, s1, w1'⟩ := hv.five
  have HG := hide (fun W (hW : Below w.heap.size w W) => G _ W (k1.next hW))
  have CL := hide (fun W (hW : Below w.heap.size w W) => rlast_any _ s.ts W (l1.next hW))
  clear hv k1 l1 n1 s1 w1' hf G
  obtain ⟨up, fs, id, ep, ts, dn, ⟨tz, tns, tss⟩, ws⟩ := s
  simp only at *
  generalize lastZ ts = lz at *
  obtain ⟨z, o, s, p, d, y, u⟩ := t
  unfold txnV at *
  simp only at *
  go_enter Tryz.func35, Tryz.ntmps35
  go_upto_region 1 with fail
  have X := hide (EB.start w up id ep dn tz (.slice ad nd cd) (.slice al ts.length cl) (.slice an tns.length cn) (.slice ai tss.length ci) (.slice aw ws.length cw) ⟨z, o, s, p, d, y, u⟩)
  have HB0 := hide (EB.startB w (.cells #[.bool up, .slice ad nd cd, .int .i64 id, .int .i64 ep, .slice al ts.length cl, .int .i64 dn, .int .i64 tz, .slice an tns.length cn, .slice ai tss.length ci, .slice aw ws.length cw] 34) (.cells #[.int .i64 z, .int .i64 o, .int .i64 s, .string ⟨p.toArray⟩, .string ⟨d.toArray⟩, .int .i64 y, .int .i64 u] 48) (.cells #[.bool false, .slice none 0 0, .int .i64 0, .int .i64 0, .slice none 0 0, .int .i64 0, .int .i64 0, .slice none 0 0, .slice none 0 0, .slice none 0 0] 34))
  simp only at X
  generalize ((w.alloc (.cells #[.bool up, .slice ad nd cd, .int .i64 id, .int .i64 ep, .slice al ts.length cl, .int .i64 dn, .int .i64 tz, .slice an tns.length cn, .slice ai tss.length ci, .slice aw ws.length cw] 34)).alloc (.cells #[.int .i64 z, .int .i64 o, .int .i64 s, .string ⟨p.toArray⟩, .string ⟨d.toArray⟩, .int .i64 y, .int .i64 u] 48)).alloc (.cells #[.bool false, .slice none 0 0, .int .i64 0, .int .i64 0, .slice none 0 0, .int .i64 0, .int .i64 0, .slice none 0 0, .slice none 0 0, .slice none 0 0] 34) = W0 at *
  go_cut [16] from 10 (fun t16 wx => t16 = .bool false ∧ Hid (Below W0.heap.size W0 wx))
  case first =>
    obtain ⟨x0, x1, x2, x3, x4, x5, x6, x7, x8, x9⟩ := (unhide X).s.cells
    have t0 := (unhide X).x.c0
    simp only at t0
    go_region_with (first
      | (go_at_call 83; refine (unhide CL _ (by first | with_reducible exact (unhide HB0).drew | with_reducible exact unhide HB0)).mono ?_; rintro e w1 ⟨rfl, hb1⟩; have HB9 := hide (nbelow_drew hb1); have t9 := ((unhide X).next (unhide HB9)).x.c0; simp only at t9; clear hb1))
    all_goals go_wp2_with fail
    all_goals go_meet
    all_goals first
      | exact ⟨rfl, HB9⟩
      | exact ⟨by simp; omega, HB9⟩
      | exact ⟨rfl, hide (Below.refl _ _).drew⟩
      | exact ⟨rfl, hide (Below.refl _ _)⟩
      | exact ⟨by simp; omega, hide (Below.refl _ _).drew⟩
      | exact ⟨by simp; omega, hide (Below.refl _ _)⟩
  case rest =>
    obtain ⟨rfl, hbc⟩ := hcut
    have X1 := hide ((unhide X).next (unhide hbc))
    have HB1 := hide (nnext (unhide HB0) (unhide hbc))
    clear X HB0 hbc CL
    obtain ⟨x0, x1, x2, x3, x4, x5, x6, x7, x8, x9⟩ := (unhide X1).s.cells
    have t0 := (unhide X1).x.c0
    have t1 := (unhide X1).x.c1
    have t2 := (unhide X1).x.c2
    have t3 := (unhide X1).x.c3
    have t4 := (unhide X1).x.c4
    have t5 := (unhide X1).x.c5
    have t6 := (unhide X1).x.c6
    simp only at t0 t1 t2 t3 t4 t5 t6
    go_wp2_with fail
    refine (unhide HG _ (unhide HB1)).mono ?_
    rintro e w2 ⟨a2, n2, c2, rfl, D2, hb2⟩
    clear x0 x1 x2 x3 x4 x5 x6 x7 x8 x9 t0 t1 t2 t3 t4 t5 t6
    have hal := allocB w2 (.cells #[.slice a2 n2 c2] 24)
    have X2 := hide (((unhide X1).next hb2).next hal)
    have HB2 := hide (nnext (nnext (unhide HB1) hb2) hal)
    have A2 := hide (BoxAt.new w2 (.slice a2 n2 c2))
    have F2 := hide ((unhide D2).next hal)
    have FB := hide (disk_lt (unhide F2))
    have Q2 := hide (show w.heap.size + 3 ≤ w2.heap.size from ((unhide X1).next hb2).lt)
    clear X1 HB1 hb2 hal D2 HG
    go_upto_region 6 with fail
    generalize w2.heap.size = q2 at *
    generalize w2.alloc (.cells #[.slice a2 n2 c2] 24) = W2 at *
    obtain ⟨x0, x1, x2, x3, x4, x5, x6, x7, x8, x9⟩ := (unhide X2).s.cells
    go_wp2_with fail
    refine (unhide CC _ (unhide HB2)).mono ?_
    rintro e w3 ⟨bd, md, fd, bl, fl, bn, fn, bi, fi, bw, fw, B1, B2, rfl, h1, h2, od, hd1, ol, hl2, on, oi, ow, hb3⟩
    have X3 := (unhide X2).next hb3
    have z3 := X3.lt
    have A3 := (unhide A2).next hb3
    have F3 := (unhide F2).next hb3
    have z2 := (unhide X2).lt
    have ca3 := A3.c
    clear x0 x1 x2 x3 x4 x5 x6 x7 x8 x9
    obtain ⟨x0, x1, x2, x3, x4, x5, x6, x7, x8, x9⟩ := X3.s.cells
    have xf0 := X3.s.froz 0
    have xf1 := X3.s.froz 1
    have xf2 := X3.s.froz 2
    have xf3 := X3.s.froz 3
    have xf4 := X3.s.froz 4
    have xf5 := X3.s.froz 5
    have xf6 := X3.s.froz 6
    have xf7 := X3.s.froz 7
    have xf8 := X3.s.froz 8
    have xf9 := X3.s.froz 9
    go_upto_region 7 with fail
    obtain ⟨P3, hP3⟩ : ∃ P, P = put10 w3 w.heap.size (.bool up) (.slice bd md fd) (.int .i64 id) (.int .i64 ep) (.slice bl ts.length fl) (.int .i64 dn) (.int .i64 tz) (.slice bn tns.length fn) (.slice bi tss.length fi) (.slice bw ws.length fw) := ⟨_, rfl⟩
    rw [show ((((((((((w3).setCell ⟨w.heap.size, 0, none⟩ (.bool up)).setCell ⟨w.heap.size, 1, none⟩ (.slice bd md fd)).setCell ⟨w.heap.size, 2, none⟩ (.int .i64 id)).setCell ⟨w.heap.size, 3, none⟩ (.int .i64 ep)).setCell ⟨w.heap.size, 4, none⟩ (.slice bl ts.length fl)).setCell ⟨w.heap.size, 5, none⟩ (.int .i64 dn)).setCell ⟨w.heap.size, 6, none⟩ (.int .i64 tz)).setCell ⟨w.heap.size, 7, none⟩ (.slice bn tns.length fn)).setCell ⟨w.heap.size, 8, none⟩ (.slice bi tss.length fi)).setCell ⟨w.heap.size, 9, none⟩ (.slice bw ws.length fw) = P3 from hP3.symm]
    have X4 : EB w P3 up (.slice bd md fd) id ep (.slice bl ts.length fl) dn tz (.slice bn tns.length fn) (.slice bi tss.length fi) (.slice bw ws.length fw) ⟨z, o, s, p, d, y, u⟩ := by rw [hP3]; exact ((((((((((X3.put 0 (.bool up) rfl).put 1 (.slice bd md fd) rfl).put 2 (.int .i64 id) rfl).put 3 (.int .i64 ep) rfl).put 4 (.slice bl ts.length fl) rfl).put 5 (.int .i64 dn) rfl).put 6 (.int .i64 tz) rfl).put 7 (.slice bn tns.length fn) rfl).put 8 (.slice bi tss.length fi) rfl).put 9 (.slice bw ws.length fw) rfl)
    have F4 : DiskV P3 (.slice a2 n2 c2) d1 := by rw [hP3]; exact put10_disk X3.s.dumb F3
    have A4 : BoxAt P3 q2 (.slice a2 n2 c2) := by rw [hP3]; exact put10_box A3 (by have := unhide Q2; omega) _ _ _ _ _ _ _ _ _ _
    have B4 : Below W2.heap.size W2 P3 ∨ True := .inr trivial
    have HB4 : Below w.heap.size w P3 := by rw [hP3]; exact put10_below (nnext (unhide HB2) hb3) (Nat.le_refl _) _ _ _ _ _ _ _ _ _ _
    have o4 : ∀ {α : Type} [Lay α] {B : Nat} {v : Value} {xs : List α}, OwnS w3 B v xs → W2.heap.size ≤ B → OwnS P3 B v xs := by
      intro α _ B v xs ho hB
      rw [hP3]
      exact own_put10 ho (by omega) _ _ _ _ _ _ _ _ _ _
    have ol4 := o4 ol h1
    have on4 := o4 on (by omega)
    have oi4 := o4 oi (by omega)
    have ow4 := o4 ow (by omega)
    have s4 : w3.heap.size = P3.heap.size := by rw [hP3]; simp [put10, World.setCell]
    have hw3 := hb3.size
    clear hP3 o4 od hd1 ol on oi ow X3 A3 F3 hb3 X2 HB2 A2 F2 CC B4 ca3 x0 x1 x2 x3 x4 x5 x6 x7 x8 x9 xf0 xf1 xf2 xf3 xf4 xf5 xf6 xf7 xf8 xf9
    have ca4 := A4.c
    have y1 := X4.s.cells.2.1
    have g1 := X4.s.froz 1
    have Y5 := X4.put 1 (.slice a2 n2 c2) rfl
    have F5 := disk_dumb F4 (j := 1) X4.s.dumb (.slice a2 n2 c2)
    have HB5 := HB4.setCell (p := ⟨w.heap.size, 1, none⟩) (by simp) (.slice a2 n2 c2)
    have o5 : ∀ {α : Type} [Lay α] {B : Nat} {v : Value} {xs : List α}, OwnS P3 B v xs → W2.heap.size ≤ B → OwnS (P3.setCell ⟨w.heap.size, 1, none⟩ (.slice a2 n2 c2)) B v xs := fun ho hB => own_set ho (by omega)
    have ol5 := o5 ol4 h1
    have on5 := o5 on4 (by omega)
    have oi5 := o5 oi4 (by omega)
    have ow5 := o5 ow4 (by omega)
    have s5 : P3.heap.size = (P3.setCell ⟨w.heap.size, 1, none⟩ (.slice a2 n2 c2)).heap.size := by simp [World.setCell]
    clear o5 ol4 on4 oi4 ow4 F4 HB4 X4
    have HY5 := hide Y5
    have HF5 := hide F5
    have HBB := hide HB5
    have HOL := hide ol5
    have HON := hide on5
    have HOI := hide oi5
    have HOW := hide ow5
    clear Y5 F5 HB5 ol5 on5 oi5 ow5
    go_upto_region 8 with fail
    generalize P3.setCell ⟨w.heap.size, 1, none⟩ (.slice a2 n2 c2) = W5 at *
    clear ca4 y1 g1
    have z5 := (unhide HY5).lt
    obtain ⟨x0, x1, x2, x3, x4, x5, x6, x7, x8, x9⟩ := (unhide HY5).s.cells
    obtain ⟨e0, e1, e2, e3, e4, e5, e6⟩ : W5.cell? ⟨w.heap.size + 1, 0, none⟩ = some (.int .i64 z) ∧ W5.cell? ⟨w.heap.size + 1, 1, none⟩ = some (.int .i64 o) ∧ W5.cell? ⟨w.heap.size + 1, 2, none⟩ = some (.int .i64 s) ∧ W5.cell? ⟨w.heap.size + 1, 3, none⟩ = some (.string ⟨p.toArray⟩) ∧ W5.cell? ⟨w.heap.size + 1, 4, none⟩ = some (.string ⟨d.toArray⟩) ∧ W5.cell? ⟨w.heap.size + 1, 5, none⟩ = some (.int .i64 y) ∧ W5.cell? ⟨w.heap.size + 1, 6, none⟩ = some (.int .i64 u) := ⟨(unhide HY5).x.c0, (unhide HY5).x.c1, (unhide HY5).x.c2, (unhide HY5).x.c3, (unhide HY5).x.c4, (unhide HY5).x.c5, (unhide HY5).x.c6⟩
    go_wp2_with (at_builtin; refine wpList_app_tx (by kernel_rfl) _ _ rfl W2.heap.size (by simp; omega) (.slice bl ts.length fl) ts rfl (((unhide HOL).lower h1).next (allocB W5 (.cells #[.int .i64 z, .int .i64 o, .int .i64 s, .string ⟨p.toArray⟩, .string ⟨d.toArray⟩, .int .i64 y, .int .i64 u] 48))) W5.heap.size rfl ⟨z, o, s, p, d, y, u⟩ (one_newX W5 ⟨z, o, s, p, d, y, u⟩) hn ?_)
    intro a5 c5 w6 ho6 hg6 hl6
    have t6 : Touch (fun k => (Value.slice bl ts.length fl).ownBlock = some k) (W5.alloc (.cells #[.int .i64 z, .int .i64 o, .int .i64 s, .string ⟨p.toArray⟩, .string ⟨d.toArray⟩, .int .i64 y, .int .i64 u] 48)) w6 := Touch.of_grown hg6 (fun k e => e)
    have hll : ∀ k, (Value.slice bl ts.length fl).ownBlock = some k → W2.heap.size ≤ k ∧ k < B2 := fun k hk => ⟨by have := own_ge (unhide HOL) hk; omega, hl2 k hk⟩
    have Y6 := ((unhide HY5).next (allocB W5 (.cells #[.int .i64 z, .int .i64 o, .int .i64 s, .string ⟨p.toArray⟩, .string ⟨d.toArray⟩, .int .i64 y, .int .i64 u] 48))).touch t6 (fun k _ h4 hf => by have := (hll k hf).1; omega)
    have D6 := disk_touch2 ((unhide HF5).next (allocB W5 (.cells #[.int .i64 z, .int .i64 o, .int .i64 s, .string ⟨p.toArray⟩, .string ⟨d.toArray⟩, .int .i64 y, .int .i64 u] 48))) t6 (fun h0 b off n c e hf => by have := unhide FB h0 b off n c e; have := (hll b hf).1; omega)
    have ne : ∀ k, w.heap.size ≤ k → k < w.heap.size + 3 → (Value.slice a5 (ts.length + 1) c5).ownBlock ≠ some k := by
      intro k h3 h4 e
      rcases hl6 with h | h
      · rw [h] at e; have := (hll k e).1; omega
      · rw [h] at e; simp at e; omega
    have o6 : ∀ {α : Type} [Lay α] {v : Value} {xs : List α}, OwnS W5 B2 v xs → OwnS (w6.setCell ⟨w.heap.size, 4, none⟩ (.slice a5 (ts.length + 1) c5)) B2 v xs := fun ho => own_set (own_touch (ho.next (allocB W5 (.cells #[.int .i64 z, .int .i64 o, .int .i64 s, .string ⟨p.toArray⟩, .string ⟨d.toArray⟩, .int .i64 y, .int .i64 u] 48))) t6 (fun k hk hf => by have := own_ge ho hk; have := (hll k hf).2; omega)) (by omega)
    have HB6 := (nnext (unhide HBB) (allocB W5 (.cells #[.int .i64 z, .int .i64 o, .int .i64 s, .string ⟨p.toArray⟩, .string ⟨d.toArray⟩, .int .i64 y, .int .i64 u] 48))).trans (t6.below (B := w.heap.size) (by simp; omega) (fun k hk => by have := (hll k hk).1; omega))
    have HS := hide (And.intro (Y6.put 4 (.slice a5 (ts.length + 1) c5) rfl) (And.intro (disk_dumb D6 (j := 4) Y6.s.dumb (.slice a5 (ts.length + 1) c5)) (And.intro (ho6.other (a := ⟨w.heap.size, 4, none⟩) (ne _ (by simp) (by simp)) (.slice a5 (ts.length + 1) c5)) (And.intro (o6 (unhide HON)) (And.intro (o6 (unhide HOI)) (And.intro (o6 (unhide HOW)) (HB6.setCell (p := ⟨w.heap.size, 4, none⟩) (by simp) (.slice a5 (ts.length + 1) c5))))))))
    have m4 := Y6.s.cells.2.2.2.2.1
    have l4 := Y6.s.froz 4
    clear Y6 D6 ne o6 HB6 t6 hll ho6 hg6 hl6 HY5 HF5 HOL HON HOI HOW HBB FB x0 x1 x2 x3 x4 x5 x6 x7 x8 x9 e0 e1 e2 e3 e4 e5 e6
    go_upto_region 9 with fail
    generalize w6.setCell ⟨w.heap.size, 4, none⟩ (.slice a5 (ts.length + 1) c5) = W7 at *
    clear m4 l4
    obtain ⟨x0, x1, x2, x3, x4, x5, x6, x7, x8, x9⟩ := (unhide HS).1.s.cells
    obtain ⟨r0, r1, r2, r3, r4, r5, r6, r7, r8, r9⟩ := (unhide HS).1.r.cells
    have rf0 := (unhide HS).1.r.froz 0
    have rf1 := (unhide HS).1.r.froz 1
    have rf2 := (unhide HS).1.r.froz 2
    have rf3 := (unhide HS).1.r.froz 3
    have rf4 := (unhide HS).1.r.froz 4
    have rf5 := (unhide HS).1.r.froz 5
    have rf6 := (unhide HS).1.r.froz 6
    have rf7 := (unhide HS).1.r.froz 7
    have rf8 := (unhide HS).1.r.froz 8
    have rf9 := (unhide HS).1.r.froz 9
    go_wp2_with fail
    obtain ⟨Y7, D7, L7, N7, I7, W7', HB7⟩ := unhide HS
    refine bodyPost_ret (v := .tuple #[.agg #[.bool up, .slice a2 n2 c2, .int .i64 id, .int .i64 ep, .slice a5 (ts.length + 1) c5, .int .i64 dn, .int .i64 tz, .slice bn tns.length fn, .slice bi tss.length fi, .slice bw ws.length fw], .int .i64 0]) (by simp [results, Tryz.results35, go_sem, r0, r1, r2, r3, r4, r5, r6, r7, r8, r9]) rfl ?_
    have PN := put10_new (s := (⟨up, d1, id, ep, ts ++ [(⟨z, o, s, p, d, y, u⟩ : WTxn)], dn, ⟨tz, tns, tss⟩, ws⟩ : Sv)) Y7.r.dumb D7 (seq_log.1 L7.seq) N7.seq I7.seq (away_own I7 (by omega)) W7'.seq
    exact ⟨a2, n2, c2, a5, _, c5, bn, _, fn, bi, _, fi, bw, _, fw, rfl, hide ⟨PN, (fresh_ownS I7).lower (by omega)⟩, put10_below HB7 (by omega) _ _ _ _ _ _ _ _ _ _⟩
end Go.Proofs.YthkggmmalffcdaaGreatDoor
