/-
  aviarylaw.StoreTakes returns true: the walk.
-/
import Derived.Test.YtaoflcmeiaffjaaGreatDoorTZ
namespace Go.Proofs.YtaoflcmeiaffjaaGreatDoor
open Go.RowKit

/-- a copy of a server, its rows spelt out -/
def GivesK (w : World) (s : Sv) (e : Ending) (w' : World) : Prop :=
  ∃ ad nd cd al nl cl an nn cn ai ni ci aw nw cw, e = .returned (.agg #[.bool s.up, .slice ad nd cd, .int .i64 s.id, .int .i64 s.ep, .slice al nl cl, .int .i64 s.dn, .int .i64 s.tr.z, .slice an nn cn, .slice ai ni ci, .slice aw nw cw]) ∧
    Hid (SvV w' (.agg #[.bool s.up, .slice ad nd cd, .int .i64 s.id, .int .i64 s.ep, .slice al nl cl, .int .i64 s.dn, .int .i64 s.tr.z, .slice an nn cn, .slice ai ni ci, .slice aw nw cw]) s) ∧ Below w.heap.size w w'
theorem gives_k {w w' : World} {s : Sv} {e : Ending} (h : GivesC w s e w') : GivesK w s e w' := by
  obtain ⟨ad, nd, cd, al, cl, an, cn, ai, ci, aw, cw, B1, B2, he, _, _, od, _, ol, _, on, oi, ow, hb⟩ := h
  exact ⟨ad, nd, cd, al, _, cl, an, _, cn, ai, _, ci, aw, _, cw, he, hide ⟨_, _, _, _, _, rfl, seq_disk.1 od.seq, seq_log.1 ol.seq, on.seq, oi.seq, ow.seq⟩, hb⟩
/-- a server in a box that was made behind the world w -/
def InBox (w W : World) (k : Nat) (s : Sv) : Prop :=
  ∃ ad nd cd al nl cl an nn cn ai ni ci aw nw cw, Box10 W k s.up (.slice ad nd cd) s.id s.ep (.slice al nl cl) s.dn s.tr.z (.slice an nn cn) (.slice ai ni ci) (.slice aw nw cw) ∧
    SvV W (.agg #[.bool s.up, .slice ad nd cd, .int .i64 s.id, .int .i64 s.ep, .slice al nl cl, .int .i64 s.dn, .int .i64 s.tr.z, .slice an nn cn, .slice ai ni ci, .slice aw nw cw]) s ∧ Below w.heap.size w W
theorem InBox.next {w W V : World} {k : Nat} {s : Sv} (h : InBox w W k s) (hb : Below W.heap.size W V) : InBox w V k s := by
  obtain ⟨ad, nd, cd, al, nl, cl, an, nn, cn, ai, ni, ci, aw, nw, cw, h1, h2, h3⟩ := h
  exact ⟨ad, nd, cd, al, nl, cl, an, nn, cn, ai, ni, ci, aw, nw, cw, h1.next hb, h2.next hb, nnext h3 hb⟩
theorem inbox_new {w W : World} {s : Sv} {ad al an ai aw : Option Addr} {nd cd nl cl nn cn ni ci nw cw : Nat} (hb : Below w.heap.size w W) (h : SvV W (.agg #[.bool s.up, .slice ad nd cd, .int .i64 s.id, .int .i64 s.ep, .slice al nl cl, .int .i64 s.dn, .int .i64 s.tr.z, .slice an nn cn, .slice ai ni ci, .slice aw nw cw]) s) :
    InBox w (W.alloc (.cells #[.bool s.up, .slice ad nd cd, .int .i64 s.id, .int .i64 s.ep, .slice al nl cl, .int .i64 s.dn, .int .i64 s.tr.z, .slice an nn cn, .slice ai ni ci, .slice aw nw cw] 34)) W.heap.size s :=
  ⟨ad, nd, cd, al, nl, cl, an, nn, cn, ai, ni, ci, aw, nw, cw, Box10.new W s.up s.id s.ep s.dn s.tr.z _ _ _ _ _, h.alloc _, nnext hb (allocB _ _)⟩
theorem box10_put10 {W : World} {k : Nat} {up0 : Bool} {id0 ep0 dn0 z0 : Int} {vd0 vl0 vn0 vs0 vw0 : Value} (h : Box10 W k up0 vd0 id0 ep0 vl0 dn0 z0 vn0 vs0 vw0) (up : Bool) (id ep dn z : Int) (vd vl vn vs vw : Value) :
    Box10 (put10 W k (.bool up) vd (.int .i64 id) (.int .i64 ep) vl (.int .i64 dn) (.int .i64 z) vn vs vw) k up vd id ep vl dn z vn vs vw := by
  unfold Box10 at *
  unfold put10
  have e0 : ((W).setCell ⟨k, 0, none⟩ (.bool up)).heap[k]? = some (.cells #[.bool up, vd0, .int .i64 id0, .int .i64 ep0, vl0, .int .i64 dn0, .int .i64 z0, vn0, vs0, vw0] 34 (0, 0)) := block_set (j := 0) (.bool up) h
  have e1 : (((W).setCell ⟨k, 0, none⟩ (.bool up)).setCell ⟨k, 1, none⟩ (vd)).heap[k]? = some (.cells #[.bool up, vd, .int .i64 id0, .int .i64 ep0, vl0, .int .i64 dn0, .int .i64 z0, vn0, vs0, vw0] 34 (0, 0)) := block_set (j := 1) (vd) e0
  have e2 : ((((W).setCell ⟨k, 0, none⟩ (.bool up)).setCell ⟨k, 1, none⟩ (vd)).setCell ⟨k, 2, none⟩ (.int .i64 id)).heap[k]? = some (.cells #[.bool up, vd, .int .i64 id, .int .i64 ep0, vl0, .int .i64 dn0, .int .i64 z0, vn0, vs0, vw0] 34 (0, 0)) := block_set (j := 2) (.int .i64 id) e1
  have e3 : (((((W).setCell ⟨k, 0, none⟩ (.bool up)).setCell ⟨k, 1, none⟩ (vd)).setCell ⟨k, 2, none⟩ (.int .i64 id)).setCell ⟨k, 3, none⟩ (.int .i64 ep)).heap[k]? = some (.cells #[.bool up, vd, .int .i64 id, .int .i64 ep, vl0, .int .i64 dn0, .int .i64 z0, vn0, vs0, vw0] 34 (0, 0)) := block_set (j := 3) (.int .i64 ep) e2
  have e4 : ((((((W).setCell ⟨k, 0, none⟩ (.bool up)).setCell ⟨k, 1, none⟩ (vd)).setCell ⟨k, 2, none⟩ (.int .i64 id)).setCell ⟨k, 3, none⟩ (.int .i64 ep)).setCell ⟨k, 4, none⟩ (vl)).heap[k]? = some (.cells #[.bool up, vd, .int .i64 id, .int .i64 ep, vl, .int .i64 dn0, .int .i64 z0, vn0, vs0, vw0] 34 (0, 0)) := block_set (j := 4) (vl) e3
  have e5 : (((((((W).setCell ⟨k, 0, none⟩ (.bool up)).setCell ⟨k, 1, none⟩ (vd)).setCell ⟨k, 2, none⟩ (.int .i64 id)).setCell ⟨k, 3, none⟩ (.int .i64 ep)).setCell ⟨k, 4, none⟩ (vl)).setCell ⟨k, 5, none⟩ (.int .i64 dn)).heap[k]? = some (.cells #[.bool up, vd, .int .i64 id, .int .i64 ep, vl, .int .i64 dn, .int .i64 z0, vn0, vs0, vw0] 34 (0, 0)) := block_set (j := 5) (.int .i64 dn) e4
  have e6 : ((((((((W).setCell ⟨k, 0, none⟩ (.bool up)).setCell ⟨k, 1, none⟩ (vd)).setCell ⟨k, 2, none⟩ (.int .i64 id)).setCell ⟨k, 3, none⟩ (.int .i64 ep)).setCell ⟨k, 4, none⟩ (vl)).setCell ⟨k, 5, none⟩ (.int .i64 dn)).setCell ⟨k, 6, none⟩ (.int .i64 z)).heap[k]? = some (.cells #[.bool up, vd, .int .i64 id, .int .i64 ep, vl, .int .i64 dn, .int .i64 z, vn0, vs0, vw0] 34 (0, 0)) := block_set (j := 6) (.int .i64 z) e5
  have e7 : (((((((((W).setCell ⟨k, 0, none⟩ (.bool up)).setCell ⟨k, 1, none⟩ (vd)).setCell ⟨k, 2, none⟩ (.int .i64 id)).setCell ⟨k, 3, none⟩ (.int .i64 ep)).setCell ⟨k, 4, none⟩ (vl)).setCell ⟨k, 5, none⟩ (.int .i64 dn)).setCell ⟨k, 6, none⟩ (.int .i64 z)).setCell ⟨k, 7, none⟩ (vn)).heap[k]? = some (.cells #[.bool up, vd, .int .i64 id, .int .i64 ep, vl, .int .i64 dn, .int .i64 z, vn, vs0, vw0] 34 (0, 0)) := block_set (j := 7) (vn) e6
  have e8 : ((((((((((W).setCell ⟨k, 0, none⟩ (.bool up)).setCell ⟨k, 1, none⟩ (vd)).setCell ⟨k, 2, none⟩ (.int .i64 id)).setCell ⟨k, 3, none⟩ (.int .i64 ep)).setCell ⟨k, 4, none⟩ (vl)).setCell ⟨k, 5, none⟩ (.int .i64 dn)).setCell ⟨k, 6, none⟩ (.int .i64 z)).setCell ⟨k, 7, none⟩ (vn)).setCell ⟨k, 8, none⟩ (vs)).heap[k]? = some (.cells #[.bool up, vd, .int .i64 id, .int .i64 ep, vl, .int .i64 dn, .int .i64 z, vn, vs, vw0] 34 (0, 0)) := block_set (j := 8) (vs) e7
  have e9 : (((((((((((W).setCell ⟨k, 0, none⟩ (.bool up)).setCell ⟨k, 1, none⟩ (vd)).setCell ⟨k, 2, none⟩ (.int .i64 id)).setCell ⟨k, 3, none⟩ (.int .i64 ep)).setCell ⟨k, 4, none⟩ (vl)).setCell ⟨k, 5, none⟩ (.int .i64 dn)).setCell ⟨k, 6, none⟩ (.int .i64 z)).setCell ⟨k, 7, none⟩ (vn)).setCell ⟨k, 8, none⟩ (vs)).setCell ⟨k, 9, none⟩ (vw)).heap[k]? = some (.cells #[.bool up, vd, .int .i64 id, .int .i64 ep, vl, .int .i64 dn, .int .i64 z, vn, vs, vw] 34 (0, 0)) := block_set (j := 9) (vw) e8
  exact e9
set_option maxHeartbeats 1000000 in
theorem inbox_put {w W : World} {k : Nat} {s : Sv} {ad al an ai aw : Option Addr} {nd cd nl cl nn cn ni ci nw cw B : Nat} (hb : Below w.heap.size w W) (hk : w.heap.size ≤ k) (hk2 : k < B) (h : SvV W (.agg #[.bool s.up, .slice ad nd cd, .int .i64 s.id, .int .i64 s.ep, .slice al nl cl, .int .i64 s.dn, .int .i64 s.tr.z, .slice an nn cn, .slice ai ni ci, .slice aw nw cw]) s) (hf : Fresh B (.slice ai ni ci))
    (hz : Box10 W k false (.slice none 0 0) 0 0 (.slice none 0 0) 0 0 (.slice none 0 0) (.slice none 0 0) (.slice none 0 0)) :
    InBox w (put10 W k (.bool s.up) (.slice ad nd cd) (.int .i64 s.id) (.int .i64 s.ep) (.slice al nl cl) (.int .i64 s.dn) (.int .i64 s.tr.z) (.slice an nn cn) (.slice ai ni ci) (.slice aw nw cw)) k s := by
  refine ⟨ad, nd, cd, al, nl, cl, an, nn, cn, ai, ni, ci, aw, nw, cw, box10_put10 hz _ _ _ _ _ _ _ _ _ _, ?_, put10_below hb hk _ _ _ _ _ _ _ _ _ _⟩
  obtain ⟨vd, vl, vn, vs, vw, e, h1, h2, h3, h4, h5⟩ := h
  simp only [Value.agg.injEq, Array.mk.injEq, List.cons.injEq] at e
  obtain ⟨_, rfl, _, _, rfl, _, _, rfl, rfl, rfl, _⟩ := e
  exact put10_new (s := s) hz.dumb h1 h2 h3 h4 (hf.away hk2) h5
/-- the empty box's cells -/
theorem zcells10 {W : World} {k : Nat} (h : Box10 W k false (.slice none 0 0) 0 0 (.slice none 0 0) 0 0 (.slice none 0 0) (.slice none 0 0) (.slice none 0 0)) : W.cell? ⟨k, 0, none⟩ = some (.bool false) ∧ W.cell? ⟨k, 1, none⟩ = some (.slice none 0 0) ∧ W.cell? ⟨k, 2, none⟩ = some (.int .i64 0) ∧ W.cell? ⟨k, 3, none⟩ = some (.int .i64 0) ∧ W.cell? ⟨k, 4, none⟩ = some (.slice none 0 0) ∧ W.cell? ⟨k, 5, none⟩ = some (.int .i64 0) ∧ W.cell? ⟨k, 6, none⟩ = some (.int .i64 0) ∧ W.cell? ⟨k, 7, none⟩ = some (.slice none 0 0) ∧ W.cell? ⟨k, 8, none⟩ = some (.slice none 0 0) ∧ W.cell? ⟨k, 9, none⟩ = some (.slice none 0 0) ∧ W.frozen? ⟨k, 0, none⟩ = false ∧ W.frozen? ⟨k, 1, none⟩ = false ∧ W.frozen? ⟨k, 2, none⟩ = false ∧ W.frozen? ⟨k, 3, none⟩ = false ∧ W.frozen? ⟨k, 4, none⟩ = false ∧ W.frozen? ⟨k, 5, none⟩ = false ∧ W.frozen? ⟨k, 6, none⟩ = false ∧ W.frozen? ⟨k, 7, none⟩ = false ∧ W.frozen? ⟨k, 8, none⟩ = false ∧ W.frozen? ⟨k, 9, none⟩ = false ∧ k < W.heap.size := by
  obtain ⟨x0, x1, x2, x3, x4, x5, x6, x7, x8, x9⟩ := h.cells
  exact ⟨x0, x1, x2, x3, x4, x5, x6, x7, x8, x9, h.froz 0, h.froz 1, h.froz 2, h.froz 3, h.froz 4, h.froz 5, h.froz 6, h.froz 7, h.froz 8, h.froz 9, h.lt⟩
theorem newZ (w : World) : Box10 (w.alloc (.cells #[.bool false, .slice none 0 0, .int .i64 0, .int .i64 0, .slice none 0 0, .int .i64 0, .int .i64 0, .slice none 0 0, .slice none 0 0, .slice none 0 0] 34)) w.heap.size false (.slice none 0 0) 0 0 (.slice none 0 0) 0 0 (.slice none 0 0) (.slice none 0 0) (.slice none 0 0) := Box10.new w false 0 0 0 0 _ _ _ _ _

set_option maxRecDepth 10000 in
set_option maxHeartbeats 4000000 in
theorem storeTakes_walk (s : Sv) (v : Value) (t : WTxn) (safe : Bool) (keep : Int) (w : World) (hv : SvV w v s) (hf : Fits s) (hw : Few s) (hzb : t.z ≤ 9223372036854775807) (hp : t.p.length ≤ 1048576) (hd : t.d.length ≤ 140737488355328) (hn : s.ts.length ≤ 900000) :
    Calls Tryz.prog 4 #[v, txnV t, .bool safe, .int .i64 keep] w fun e w' => e = .returned (.bool true) ∧ Below w.heap.size w w' := by
  have CY := hide (fun W (hW : Below w.heap.size w W) => (rcopyS_any s v W (hv.next hW) hf).mono fun _ _ h => gives_k h)
  obtain ⟨E, s', h0, h0', _, G1, G2⟩ := both_take s t safe hf hzb hp hd (by omega)
  have hw' : Few s' := by
    by_cases hE : E = 0
    · obtain ⟨g, e1, e2, e3⟩ := h0 hE
      refine ⟨by have := g.few; omega, by rw [e1]; simp; omega, by rw [e2]; exact hw.n, by rw [e2]; exact hw.si, by rw [e3]; exact hw.wa⟩
    · rw [h0' hE]; exact few_zero
  obtain ⟨E2, s2, hw2, C1, C2⟩ := both_crashS s keep hf
  have HG1 := hide G1
  have HG2 := hide (fun W (hW : Below w.heap.size w W) => G2 v W (hv.next hW))
  have HC1 := hide C1
  have HC2 := hide (fun W (hW : Below w.heap.size w W) => C2 v W (hv.next hW))
  have HS1 := hide (fun v1 v2 W (h : SvV W v1 s') (h' : SvV W v2 s') => rsameS_any s' v1 v2 W hw' h h')
  have HS2 := hide (fun v1 v2 W (h : SvV W v1 s2) (h' : SvV W v2 s2) => rsameS_any s2 v1 v2 W hw2 h h')
  obtain ⟨ad, nd, cd, al, cl, an, cn, ai, ci, aw, cw, rfl, d1, l1, n1, s1, k1⟩ := hv.five
  clear hv d1 l1 n1 s1 k1 hf hw hw' hw2 hzb hp hd hn h0 h0' G1 G2 C1 C2
  obtain ⟨up, fs, id, ep, ts, dn, ⟨tz, tns, tss⟩, ws⟩ := s
  obtain ⟨z, o, s, p, d, y, u⟩ := t
  unfold txnV at *
  simp only at *
  go_enter Tryz.func4, Tryz.ntmps4
  go_upto_region 1 with fail
  have X := hide (And.intro ((Box10.new w up id ep dn tz (.slice ad nd cd) (.slice al ts.length cl) (.slice an tns.length cn) (.slice ai tss.length ci) (.slice aw ws.length cw)).next (allocB _ (.cells #[.int .i64 z, .int .i64 o, .int .i64 s, .string ⟨p.toArray⟩, .string ⟨d.toArray⟩, .int .i64 y, .int .i64 u] 47))) (TAt.new (w.alloc (.cells #[.bool up, .slice ad nd cd, .int .i64 id, .int .i64 ep, .slice al ts.length cl, .int .i64 dn, .int .i64 tz, .slice an tns.length cn, .slice ai tss.length ci, .slice aw ws.length cw] 34)) ⟨z, o, s, p, d, y, u⟩))
  have HB0 := hide (show Below w.heap.size w ((w.alloc (.cells #[.bool up, .slice ad nd cd, .int .i64 id, .int .i64 ep, .slice al ts.length cl, .int .i64 dn, .int .i64 tz, .slice an tns.length cn, .slice ai tss.length ci, .slice aw ws.length cw] 34)).alloc (.cells #[.int .i64 z, .int .i64 o, .int .i64 s, .string ⟨p.toArray⟩, .string ⟨d.toArray⟩, .int .i64 y, .int .i64 u] 47)) from nnext (allocB _ _) (allocB _ _))
  rw [show (w.alloc (.cells #[.bool up, .slice ad nd cd, .int .i64 id, .int .i64 ep, .slice al ts.length cl, .int .i64 dn, .int .i64 tz, .slice an tns.length cn, .slice ai tss.length ci, .slice aw ws.length cw] 34)).heap.size = w.heap.size + 1 by simp] at X
  simp only at X
  generalize (w.alloc (.cells #[.bool up, .slice ad nd cd, .int .i64 id, .int .i64 ep, .slice al ts.length cl, .int .i64 dn, .int .i64 tz, .slice an tns.length cn, .slice ai tss.length ci, .slice aw ws.length cw] 34)).alloc (.cells #[.int .i64 z, .int .i64 o, .int .i64 s, .string ⟨p.toArray⟩, .string ⟨d.toArray⟩, .int .i64 y, .int .i64 u] 47) = W0 at *
  have keep' : ∀ V, Below W0.heap.size W0 V → V.cell? ⟨w.heap.size, 0, none⟩ = some (.bool up) ∧ V.cell? ⟨w.heap.size, 1, none⟩ = some (.slice ad nd cd) ∧ V.cell? ⟨w.heap.size, 2, none⟩ = some (.int .i64 id) ∧ V.cell? ⟨w.heap.size, 3, none⟩ = some (.int .i64 ep) ∧ V.cell? ⟨w.heap.size, 4, none⟩ = some (.slice al ts.length cl) ∧ V.cell? ⟨w.heap.size, 5, none⟩ = some (.int .i64 dn) ∧ V.cell? ⟨w.heap.size, 6, none⟩ = some (.int .i64 tz) ∧ V.cell? ⟨w.heap.size, 7, none⟩ = some (.slice an tns.length cn) ∧ V.cell? ⟨w.heap.size, 8, none⟩ = some (.slice ai tss.length ci) ∧ V.cell? ⟨w.heap.size, 9, none⟩ = some (.slice aw ws.length cw) ∧ V.cell? ⟨w.heap.size + 1, 0, none⟩ = some (.int .i64 z) ∧ V.cell? ⟨w.heap.size + 1, 1, none⟩ = some (.int .i64 o) ∧ V.cell? ⟨w.heap.size + 1, 2, none⟩ = some (.int .i64 s) ∧ V.cell? ⟨w.heap.size + 1, 3, none⟩ = some (.string ⟨p.toArray⟩) ∧ V.cell? ⟨w.heap.size + 1, 4, none⟩ = some (.string ⟨d.toArray⟩) ∧ V.cell? ⟨w.heap.size + 1, 5, none⟩ = some (.int .i64 y) ∧ V.cell? ⟨w.heap.size + 1, 6, none⟩ = some (.int .i64 u) := by
    intro V hV
    obtain ⟨x0, x1, x2, x3, x4, x5, x6, x7, x8, x9⟩ := ((unhide X).1.next hV).cells
    have h := (unhide X).2.next hV
    exact ⟨x0, x1, x2, x3, x4, x5, x6, x7, x8, x9, h.c0, h.c1, h.c2, h.c3, h.c4, h.c5, h.c6⟩
  have HK := hide keep'
  have hlt := (unhide X).2.lt
  clear keep'
  go_cut [9, 10] from 17 (fun t9 t10 wx => ∃ k, t9 = .pointer (some ⟨k, 0, none⟩) ∧ t10 = .int .i64 E ∧ Hid (InBox W0 wx k s'))
  case first =>
    clear HG2 HC1 HC2 HS1 HS2
    have q0 := hide (Below.refl W0.heap.size W0)
    obtain ⟨i0, i1, i2, i3, i4, i5, i6, i7, i8, i9, i10, i11, i12, i13, i14, i15, i16⟩ := unhide HK _ (Below.refl _ _)
    have l0 : w.heap.size < W0.heap.size := by omega
    go_region_with (first
      | (go_at_call 18; refine (unhide CY _ (by first | with_reducible exact (unhide HB0).drew | with_reducible exact (nnext (unhide HB0) (allocB _ _)).drew)).mono ?_; rintro e w1 ⟨bad, bnd, bcd, bal, bnl, bcl, ban, bnn, bcn, bai, bni, bci, baw, bnw, bcw, rfl, S1, hb1⟩; have B1 : Hid (Below W0.heap.size W0 w1) := hide (by first | with_reducible exact nbelow_drew hb1 | with_reducible exact nnext (allocB _ _) (nbelow_drew hb1)); (try have Z1 : Hid (Box10 w1 W0.heap.size false (.slice none 0 0) 0 0 (.slice none 0 0) 0 0 (.slice none 0 0) (.slice none 0 0) (.slice none 0 0)) := hide ((newZ W0).next (nbelow_drew hb1))); obtain ⟨j0, j1, j2, j3, j4, j5, j6, j7, j8, j9, j10, j11, j12, j13, j14, j15, j16⟩ := unhide HK _ (unhide B1); have l1 := (unhide B1).size; have l2 : w.heap.size < w1.heap.size := (by omega); have l3 : w.heap.size + 1 < w1.heap.size := (by omega); clear hb1)
      | (go_at_call 17; refine (unhide HG1 _ _ (by first | with_reducible exact unhide S1 | with_reducible exact (unhide S1).alloc _)).mono ?_; rintro e w2 ⟨cad, cnd, ccd, cal, cnl, ccl, can, cnn, ccn, cai, cni, cci, caw, cnw, ccw, rfl, S2, hb2⟩; have B2 : Hid (Below W0.heap.size W0 w2) := hide (by first | with_reducible exact nnext (unhide B1) hb2 | with_reducible exact nnext (unhide B1) (nbox_then hb2)); (try (have zl := (unhide Z1).lt; have Z2 := hide ((unhide Z1).next hb2); obtain ⟨zc0, zc1, zc2, zc3, zc4, zc5, zc6, zc7, zc8, zc9, zf0, zf1, zf2, zf3, zf4, zf5, zf6, zf7, zf8, zf9, zk⟩ := zcells10 (unhide Z2))); (try (have Y2 : Hid (Box10 w2 w1.heap.size false (.slice none 0 0) 0 0 (.slice none 0 0) 0 0 (.slice none 0 0) (.slice none 0 0) (.slice none 0 0)) := hide ((newZ w1).next hb2); obtain ⟨yc0, yc1, yc2, yc3, yc4, yc5, yc6, yc7, yc8, yc9, yf0, yf1, yf2, yf3, yf4, yf5, yf6, yf7, yf8, yf9, yk⟩ := zcells10 (unhide Y2))); have s1 := (unhide B1).size; clear hb2))
    all_goals go_wp2_with fail
    all_goals go_meet
    all_goals first
      | with_reducible exact ⟨_, rfl, rfl, hide (inbox_new (unhide B2) (unhide S2).1)⟩
      | exact ⟨_, rfl, rfl, hide (inbox_put (B := w1.heap.size) (unhide B2) (Nat.le_refl _) zl (unhide S2).1 (unhide S2).2 (unhide Z2))⟩
      | exact ⟨_, rfl, rfl, hide (inbox_put (B := (w1.alloc (.cells #[.bool false, .slice none 0 0, .int .i64 0, .int .i64 0, .slice none 0 0, .int .i64 0, .int .i64 0, .slice none 0 0, .slice none 0 0, .slice none 0 0] 34)).heap.size) (unhide B2) s1 (by simp) (unhide S2).1 (unhide S2).2 (unhide Y2))⟩
  case rest =>
    obtain ⟨ka, rfl, rfl, HA⟩ := hcut
    obtain ⟨aad, and, acd, aal, anl, acl, aan, ann, acn, aai, ani, aci, aaw, anw, acw, BA, SA, hbA⟩ := unhide HA
    have HB1 := hide (nnext (unhide HB0) hbA)
    have X1 := hide ((unhide X).1.next hbA)
    have T1 := hide ((unhide X).2.next hbA)
    have A1 := hide BA
    have S1 := hide SA
    obtain ⟨i0, i1, i2, i3, i4, i5, i6, i7, i8, i9, i10, i11, i12, i13, i14, i15, i16⟩ := unhide HK _ hbA
    clear HA BA SA hbA X HB0 HK HG1
    go_upto_region 2 with fail
    go_wp2_with fail
    refine (unhide HG2 _ (unhide HB1)).mono ?_
    rintro e w2 ⟨v2, rfl, s2v, hb2⟩
    obtain ⟨bad, bnd, bcd, bal, bcl, ban, bcn, bai, bci, baw, bcw, rfl, bh1, bh2, bh3, bh4, bh5⟩ := s2v.five
    clear bh1 bh2 bh3 bh4 bh5
    have hal := allocB w2 (.cells #[.bool s'.up, .slice bad bnd bcd, .int .i64 s'.id, .int .i64 s'.ep, .slice bal s'.ts.length bcl, .int .i64 s'.dn, .int .i64 s'.tr.z, .slice ban s'.tr.ns.length bcn, .slice bai s'.tr.ss.length bci, .slice baw s'.ws.length bcw] 34)
    have HB2 := hide (nnext (nnext (unhide HB1) hb2) hal)
    have X2 := hide (((unhide X1).next hb2).next hal)
    have A2 := hide (((unhide A1).next hb2).next hal)
    have S2 := hide (((unhide S1).next hb2).next hal)
    have B2 := hide (Box10.new w2 s'.up s'.id s'.ep s'.dn s'.tr.z (.slice bad bnd bcd) (.slice bal s'.ts.length bcl) (.slice ban s'.tr.ns.length bcn) (.slice bai s'.tr.ss.length bci) (.slice baw s'.ws.length bcw))
    have R2 := hide (s2v.next hal)
    clear hb2 hal s2v HB1 X1 T1 A1 S1 HG2 i0 i1 i2 i3 i4 i5 i6 i7 i8 i9 i10 i11 i12 i13 i14 i15 i16
    obtain ⟨x0, x1, x2, x3, x4, x5, x6, x7, x8, x9⟩ := (unhide X2).cells
    go_wp2_with fail
    generalize w2.heap.size = kb at *
    generalize w2.alloc (.cells #[.bool s'.up, .slice bad bnd bcd, .int .i64 s'.id, .int .i64 s'.ep, .slice bal s'.ts.length bcl, .int .i64 s'.dn, .int .i64 s'.tr.z, .slice ban s'.tr.ns.length bcn, .slice bai s'.tr.ss.length bci, .slice baw s'.ws.length bcw] 34) = W2 at *
    refine (unhide CY _ (unhide HB2)).mono ?_
    rintro e w3 ⟨cad, cnd, ccd, cal, cnl, ccl, can, cnn, ccn, cai, cni, cci, caw, cnw, ccw, rfl, C3, hb3⟩
    have HB3 := hide (nnext (unhide HB2) hb3)
    have X3 := hide ((unhide X2).next hb3)
    have A3 := hide ((unhide A2).next hb3)
    have S3 := hide ((unhide S2).next hb3)
    have B3 := hide ((unhide B2).next hb3)
    have R3 := hide ((unhide R2).next hb3)
    clear hb3 HB2 X2 A2 S2 B2 R2 CY x0 x1 x2 x3 x4 x5 x6 x7 x8 x9
    go_wp2_with fail
    refine (unhide HC1 _ _ (unhide C3)).mono ?_
    rintro e w4 ⟨v4, rfl, s4v, hb4⟩
    obtain ⟨ead, eend, ecd, eal, ecl, ean, ecn, eai, eci, eaw, ecw, rfl, eh1, eh2, eh3, eh4, eh5⟩ := s4v.five
    clear eh1 eh2 eh3 eh4 eh5
    have hal := allocB w4 (.cells #[.bool s2.up, .slice ead eend ecd, .int .i64 s2.id, .int .i64 s2.ep, .slice eal s2.ts.length ecl, .int .i64 s2.dn, .int .i64 s2.tr.z, .slice ean s2.tr.ns.length ecn, .slice eai s2.tr.ss.length eci, .slice eaw s2.ws.length ecw] 34)
    have HB4 := hide (nnext (nnext (unhide HB3) hb4) hal)
    have X4 := hide (((unhide X3).next hb4).next hal)
    have A4 := hide (((unhide A3).next hb4).next hal)
    have S4 := hide (((unhide S3).next hb4).next hal)
    have B4 := hide (((unhide B3).next hb4).next hal)
    have R4 := hide (((unhide R3).next hb4).next hal)
    have P4 := hide (Box10.new w4 s2.up s2.id s2.ep s2.dn s2.tr.z (.slice ead eend ecd) (.slice eal s2.ts.length ecl) (.slice ean s2.tr.ns.length ecn) (.slice eai s2.tr.ss.length eci) (.slice eaw s2.ws.length ecw))
    have F4 := hide (s4v.next hal)
    clear hb4 hal s4v HB3 X3 A3 S3 B3 R3 C3 HC1
    obtain ⟨x0, x1, x2, x3, x4, x5, x6, x7, x8, x9⟩ := (unhide X4).cells
    go_wp2_with fail
    generalize w4.heap.size = kp at *
    generalize w4.alloc (.cells #[.bool s2.up, .slice ead eend ecd, .int .i64 s2.id, .int .i64 s2.ep, .slice eal s2.ts.length ecl, .int .i64 s2.dn, .int .i64 s2.tr.z, .slice ean s2.tr.ns.length ecn, .slice eai s2.tr.ss.length eci, .slice eaw s2.ws.length ecw] 34) = W4 at *
    refine (unhide HC2 _ (unhide HB4)).mono ?_
    rintro e w5 ⟨v5, rfl, s5v, hb5⟩
    obtain ⟨gad, gnd, gcd, gal, gcl, gan, gcn, gai, gci, gaw, gcw, rfl, gh1, gh2, gh3, gh4, gh5⟩ := s5v.five
    clear gh1 gh2 gh3 gh4 gh5
    have hal := allocB w5 (.cells #[.bool s2.up, .slice gad gnd gcd, .int .i64 s2.id, .int .i64 s2.ep, .slice gal s2.ts.length gcl, .int .i64 s2.dn, .int .i64 s2.tr.z, .slice gan s2.tr.ns.length gcn, .slice gai s2.tr.ss.length gci, .slice gaw s2.ws.length gcw] 34)
    have HB5 := hide (nnext (nnext (unhide HB4) hb5) hal)
    have A5 := hide (((unhide A4).next hb5).next hal)
    have S5 := hide (((unhide S4).next hb5).next hal)
    have B5 := hide (((unhide B4).next hb5).next hal)
    have R5 := hide (((unhide R4).next hb5).next hal)
    have P5 := hide (((unhide P4).next hb5).next hal)
    have F5 := hide (((unhide F4).next hb5).next hal)
    have Q5 := hide (Box10.new w5 s2.up s2.id s2.ep s2.dn s2.tr.z (.slice gad gnd gcd) (.slice gal s2.ts.length gcl) (.slice gan s2.tr.ns.length gcn) (.slice gai s2.tr.ss.length gci) (.slice gaw s2.ws.length gcw))
    have G5 := hide (s5v.next hal)
    clear hb5 hal s5v HB4 X4 A4 S4 B4 R4 P4 F4 HC2 x0 x1 x2 x3 x4 x5 x6 x7 x8 x9
    obtain ⟨x0, x1, x2, x3, x4, x5, x6, x7, x8, x9⟩ := (unhide A5).cells
    obtain ⟨y0, y1, y2, y3, y4, y5, y6, y7, y8, y9⟩ := (unhide B5).cells
    go_wp2_with fail
    generalize w5.heap.size = kq at *
    generalize w5.alloc (.cells #[.bool s2.up, .slice gad gnd gcd, .int .i64 s2.id, .int .i64 s2.ep, .slice gal s2.ts.length gcl, .int .i64 s2.dn, .int .i64 s2.tr.z, .slice gan s2.tr.ns.length gcn, .slice gai s2.tr.ss.length gci, .slice gaw s2.ws.length gcw] 34) = W5 at *
    refine (unhide HS1 _ _ _ (unhide S5) (unhide R5)).mono ?_
    rintro e w6 ⟨rfl, hb6⟩
    have HB6 := hide (nnext (unhide HB5) hb6)
    have P6 := hide ((unhide P5).next hb6)
    have Q6 := hide ((unhide Q5).next hb6)
    have F6 := hide ((unhide F5).next hb6)
    have G6 := hide ((unhide G5).next hb6)
    clear hb6 HB5 A5 S5 B5 R5 P5 Q5 F5 G5 HS1 x0 x1 x2 x3 x4 x5 x6 x7 x8 x9 y0 y1 y2 y3 y4 y5 y6 y7 y8 y9
    obtain ⟨x0, x1, x2, x3, x4, x5, x6, x7, x8, x9⟩ := (unhide P6).cells
    obtain ⟨y0, y1, y2, y3, y4, y5, y6, y7, y8, y9⟩ := (unhide Q6).cells
    go_wp2_with fail
    refine (unhide HS2 _ _ _ (unhide F6) (unhide G6)).mono ?_
    rintro e w7 ⟨rfl, hb7⟩
    have HB7 := hide (nnext (unhide HB6) hb7)
    clear hb7 HB6 P6 Q6 F6 G6 HS2 x0 x1 x2 x3 x4 x5 x6 x7 x8 x9 y0 y1 y2 y3 y4 y5 y6 y7 y8 y9
    go_wp2_with fail
    refine (boots_any _).mono ?_
    rintro e w8 ⟨rfl, hb8⟩
    have HB8 := hide (nnext (unhide HB7) hb8)
    clear hb8 HB7
    go_wp2_with fail
    go_ret
    exact ⟨rfl, unhide HB8⟩

end Go.Proofs.YtaoflcmeiaffjaaGreatDoor
