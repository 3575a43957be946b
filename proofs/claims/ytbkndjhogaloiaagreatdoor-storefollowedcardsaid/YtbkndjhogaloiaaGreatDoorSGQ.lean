/-
  A disk that Append gives lies in new memory; store.extended: the walks.
  A server in a box: what stays, what is stored over it.
  What wire.unfold answers, for every text: the walk.
  What wire.Decode answers, for every text: the walk.
-/
import Derived.Test.YtbkndjhogaloiaaGreatDoorSGP
import Derived.Test.YtbkndjhogaloiaaGreatDoorSGK
import Derived.Test.YtbkndjhogaloiaaGreatDoorSGN
import Derived.Test.YtbkndjhogaloiaaGreatDoorSGJ
namespace Go.Proofs.YtbkndjhogaloiaaGreatDoor
open Go.RowKit

/-- a row at or behind block B -/
def Fresh (B : Nat) (v : Value) : Prop := ∀ b off n c, v = .slice (some ⟨b, off, none⟩) n c → B ≤ b
theorem Fresh.lower {B C : Nat} {v : Value} (h : Fresh B v) (hc : C ≤ B) : Fresh C v := fun b off n c e => Nat.le_trans hc (h b off n c e)
theorem Fresh.away {B k : Nat} {v : Value} (h : Fresh B v) (hk : k < B) : Away v k := fun b off n c e => by have := h b off n c e; omega
theorem fresh_none (B n c : Nat) : Fresh B (.slice none n c) := fun b off n' c' e => by simp at e
theorem fresh_own {W : World} {B : Nat} {v : Value} {fs : List DF} (h : OwnV W B v fs) : Fresh B v := by
  intro b off n c e
  rcases h with ⟨rfl, _⟩ | ⟨g, cap, rfl, hB, _⟩
  · simp at e
  · simp only [Value.slice.injEq, Option.some.injEq, Addr.mk.injEq] at e
    omega
/-- as GivesD, and the disk lies in new memory -/
def GivesF (f : FuncId) (args : Value → Array Value) (fs d : List DF) (E : Int) : Prop := ∀ v W, DiskV W v fs → Calls Tryz.prog f (args (.agg #[v])) W fun e w' => ∃ a n c, e = .returned (.tuple #[.agg #[.slice a n c], .int .i64 E]) ∧ Hid (DiskV w' (.slice a n c) d ∧ Fresh W.heap.size (.slice a n c)) ∧ Below W.heap.size W w'
theorem GivesF.d {f : FuncId} {args : Value → Array Value} {fs d : List DF} {E : Int} (h : GivesF f args fs d E) : GivesD f args fs d E := fun v W hv => (h v W hv).mono fun _ _ ⟨a, n, c, he, hd, hb⟩ => ⟨a, n, c, he, (unhide hd).1, hb⟩
theorem givesF_own {f : FuncId} {args : Value → Array Value} {fs d : List DF} (h : ∀ v W, DiskV W v fs → Calls Tryz.prog f (args (.agg #[v])) W fun e w' => ∃ v', e = .returned (.tuple #[.agg #[v'], .int .i64 0]) ∧ OwnV w' W.heap.size v' d ∧ Below W.heap.size W w') : GivesF f args fs d 0 :=
  fun v W hv => (h v W hv).mono fun _ w' ⟨v', he, ho, hb⟩ => by
    obtain ⟨a, n, c, rfl⟩ := disk_slice ho.disk
    exact ⟨a, n, c, he, ⟨ho.disk, fresh_own ho⟩, hb⟩
set_option maxRecDepth 10000 in
set_option maxHeartbeats 1000000 in
theorem wappF_safe (fs d1 d2 : List DF) (t : WTxn) (E2 : Int) (hg : gdE t = 0) (W1 : GivesD 29 (fun x => #[x, .string ⟨logN.toArray⟩, .string ⟨(recL t).toArray⟩]) fs d1 0) (S1 : GivesF 30 (fun x => #[x, .string ⟨logN.toArray⟩]) d1 d2 E2) : GivesF 41 (fun x => #[x, txnV t, .bool true]) fs d2 E2 := by
  intro v w hv
  have C := fun W => encode_yes t W hg
  have CW := fun W (h : Below w.heap.size w W) => W1 v W (hv.next h)
  have HCS := hide S1
  simp only [show logN.toArray = #[108, 111, 103] from rfl] at CW
  generalize recL t = rb at *
  simp only [show logN.toArray = #[108, 111, 103] from rfl] at HCS
  obtain ⟨a, n, c, rfl⟩ := disk_slice hv
  obtain ⟨z, o, s, p, d, y, u⟩ := t
  unfold txnV at C ⊢
  clear hv hg W1 S1
  go_enter Tryz.func41, Tryz.ntmps41
  go_wp2_with fail
  have X := hide (ABox.start w (.slice a n c) (.cells #[.int .i64 z, .int .i64 o, .int .i64 s, .string ⟨p.toArray⟩, .string ⟨d.toArray⟩, .int .i64 y, .int .i64 u] 47))
  generalize ((w.alloc (.cells #[.slice a n c] 26)).alloc (.cells #[.int .i64 z, .int .i64 o, .int .i64 s, .string ⟨p.toArray⟩, .string ⟨d.toArray⟩, .int .i64 y, .int .i64 u] 47)).alloc (.cells #[.slice none 0 0] 26) = W0 at *
  refine (C _).mono ?_
  rintro e w1 ⟨rfl, hb1⟩
  have X1 := (unhide X).next hb1
  have cd := X1.d.c
  have HX1 := hide X1
  clear hb1 X C X1
  go_wp2_with fail
  refine (CW _ (unhide HX1).below).mono ?_
  rintro e w2 ⟨a2, n2, c2, rfl, HD2, hb2⟩
  have hal := (Below.refl w2.heap.size w2).alloc (Nat.le_refl _) (.cells #[.slice a2 n2 c2] 26)
  have X2 := ((unhide HX1).next hb2).next hal
  have HD3 := hide ((unhide HD2).next hal)
  have hz2 := ((unhide HX1).next hb2).r.lt
  have hnz : w.heap.size + 1 + 1 ≠ w2.heap.size := by omega
  have cr2 := X2.r.c
  have fr2 := X2.r.f
  have HX2 := hide X2
  clear hb2 hal X2 HX1 HD2 CW cd
  go_wp2_with fail
  refine (unhide HCS _ _ (unhide HD3)).mono ?_
  rintro e w4 ⟨a4, n4, c4, rfl, HF4, hb4⟩
  have HD4 := hide (unhide HF4).1
  have FR4 := hide ((unhide HF4).2.lower (unhide HX2).below.size)
  clear HF4
  have X4 := (unhide HX2).next hb4
  have cr4 := X4.r.c
  have fr4 := X4.r.f
  have HF := hide (And.intro (X4.below.setCell (p := ⟨w.heap.size + 1 + 1, 0, none⟩) (by show w.heap.size ≤ w.heap.size + 1 + 1; omega) (.slice a4 n4 c4)) (disk_box (unhide HD4) X4.r (.slice a4 n4 c4)))
  clear hb4 X4 HX2 HD3 HD4 HCS
  go_wp2_with fail
  exact bodyPost_ret (v := .tuple #[.agg #[.slice a4 n4 c4], .int .i64 E2]) (by simp [results, Tryz.results41, go_sem, cr4]) rfl ⟨_, _, _, rfl, hide ⟨(unhide HF).2, unhide FR4⟩, (unhide HF).1⟩

end Go.Proofs.YtbkndjhogaloiaaGreatDoor

namespace Go.Proofs.YtbkndjhogaloiaaGreatDoor
open Go.RowKit

/-- a server in a box that was made behind the world w -/
def InBox (w W : World) (k : Nat) (s : Sv) : Prop :=
  ∃ ad nd cd al nl cl an nn cn ai ni ci aw nw cw, Box10 W k s.up (.slice ad nd cd) s.id s.ep (.slice al nl cl) s.dn s.tr.z (.slice an nn cn) (.slice ai ni ci) (.slice aw nw cw) ∧
    SvV W (.agg #[.bool s.up, .slice ad nd cd, .int .i64 s.id, .int .i64 s.ep, .slice al nl cl, .int .i64 s.dn, .int .i64 s.tr.z, .slice an nn cn, .slice ai ni ci, .slice aw nw cw]) s ∧ Below w.heap.size w W
theorem InBox.next {w W V : World} {k : Nat} {s : Sv} (h : InBox w W k s) (hb : Below W.heap.size W V) : InBox w V k s := by
  obtain ⟨ad, nd, cd, al, nl, cl, an, nn, cn, ai, ni, ci, aw, nw, cw, h1, h2, h3⟩ := h
  exact ⟨ad, nd, cd, al, nl, cl, an, nn, cn, ai, ni, ci, aw, nw, cw, h1.next hb, h2.next hb, nnext h3 hb⟩
theorem inbox_new {w W : World} {s : Sv} {ad al an ai aw : Option Addr} {nd cd nl cl nn cn ni ci nw cw : Nat} (hb : Below w.heap.size w W) (h : SvV W (.agg #[.bool s.up, .slice ad nd cd, .int .i64 s.id, .int .i64 s.ep, .slice al nl cl, .int .i64 s.dn, .int .i64 s.tr.z, .slice an nn cn, .slice ai ni ci, .slice aw nw cw]) s) :
    InBox w (W.alloc (.cells #[.bool s.up, .slice ad nd cd, .int .i64 s.id, .int .i64 s.ep, .slice al nl cl, .int .i64 s.dn, .int .i64 s.tr.z, .slice an nn cn, .slice ai ni ci, .slice aw nw cw] 35)) W.heap.size s :=
  ⟨ad, nd, cd, al, nl, cl, an, nn, cn, ai, ni, ci, aw, nw, cw, Box10.new W s.up s.id s.ep s.dn s.tr.z _ _ _ _ _, h.alloc _, nnext hb (allocB _ _)⟩
theorem box10_put10 {W : World} {k : Nat} {up0 : Bool} {id0 ep0 dn0 z0 : Int} {vd0 vl0 vn0 vs0 vw0 : Value} (h : Box10 W k up0 vd0 id0 ep0 vl0 dn0 z0 vn0 vs0 vw0) (up : Bool) (id ep dn z : Int) (vd vl vn vs vw : Value) :
    Box10 (put10 W k (.bool up) vd (.int .i64 id) (.int .i64 ep) vl (.int .i64 dn) (.int .i64 z) vn vs vw) k up vd id ep vl dn z vn vs vw := by
  unfold Box10 at *
  unfold put10
  have e0 : ((W).setCell ⟨k, 0, none⟩ (.bool up)).heap[k]? = some (.cells #[.bool up, vd0, .int .i64 id0, .int .i64 ep0, vl0, .int .i64 dn0, .int .i64 z0, vn0, vs0, vw0] 35 (0, 0)) := block_set (j := 0) (.bool up) h
  have e1 : (((W).setCell ⟨k, 0, none⟩ (.bool up)).setCell ⟨k, 1, none⟩ (vd)).heap[k]? = some (.cells #[.bool up, vd, .int .i64 id0, .int .i64 ep0, vl0, .int .i64 dn0, .int .i64 z0, vn0, vs0, vw0] 35 (0, 0)) := block_set (j := 1) (vd) e0
  have e2 : ((((W).setCell ⟨k, 0, none⟩ (.bool up)).setCell ⟨k, 1, none⟩ (vd)).setCell ⟨k, 2, none⟩ (.int .i64 id)).heap[k]? = some (.cells #[.bool up, vd, .int .i64 id, .int .i64 ep0, vl0, .int .i64 dn0, .int .i64 z0, vn0, vs0, vw0] 35 (0, 0)) := block_set (j := 2) (.int .i64 id) e1
  have e3 : (((((W).setCell ⟨k, 0, none⟩ (.bool up)).setCell ⟨k, 1, none⟩ (vd)).setCell ⟨k, 2, none⟩ (.int .i64 id)).setCell ⟨k, 3, none⟩ (.int .i64 ep)).heap[k]? = some (.cells #[.bool up, vd, .int .i64 id, .int .i64 ep, vl0, .int .i64 dn0, .int .i64 z0, vn0, vs0, vw0] 35 (0, 0)) := block_set (j := 3) (.int .i64 ep) e2
  have e4 : ((((((W).setCell ⟨k, 0, none⟩ (.bool up)).setCell ⟨k, 1, none⟩ (vd)).setCell ⟨k, 2, none⟩ (.int .i64 id)).setCell ⟨k, 3, none⟩ (.int .i64 ep)).setCell ⟨k, 4, none⟩ (vl)).heap[k]? = some (.cells #[.bool up, vd, .int .i64 id, .int .i64 ep, vl, .int .i64 dn0, .int .i64 z0, vn0, vs0, vw0] 35 (0, 0)) := block_set (j := 4) (vl) e3
  have e5 : (((((((W).setCell ⟨k, 0, none⟩ (.bool up)).setCell ⟨k, 1, none⟩ (vd)).setCell ⟨k, 2, none⟩ (.int .i64 id)).setCell ⟨k, 3, none⟩ (.int .i64 ep)).setCell ⟨k, 4, none⟩ (vl)).setCell ⟨k, 5, none⟩ (.int .i64 dn)).heap[k]? = some (.cells #[.bool up, vd, .int .i64 id, .int .i64 ep, vl, .int .i64 dn, .int .i64 z0, vn0, vs0, vw0] 35 (0, 0)) := block_set (j := 5) (.int .i64 dn) e4
  have e6 : ((((((((W).setCell ⟨k, 0, none⟩ (.bool up)).setCell ⟨k, 1, none⟩ (vd)).setCell ⟨k, 2, none⟩ (.int .i64 id)).setCell ⟨k, 3, none⟩ (.int .i64 ep)).setCell ⟨k, 4, none⟩ (vl)).setCell ⟨k, 5, none⟩ (.int .i64 dn)).setCell ⟨k, 6, none⟩ (.int .i64 z)).heap[k]? = some (.cells #[.bool up, vd, .int .i64 id, .int .i64 ep, vl, .int .i64 dn, .int .i64 z, vn0, vs0, vw0] 35 (0, 0)) := block_set (j := 6) (.int .i64 z) e5
  have e7 : (((((((((W).setCell ⟨k, 0, none⟩ (.bool up)).setCell ⟨k, 1, none⟩ (vd)).setCell ⟨k, 2, none⟩ (.int .i64 id)).setCell ⟨k, 3, none⟩ (.int .i64 ep)).setCell ⟨k, 4, none⟩ (vl)).setCell ⟨k, 5, none⟩ (.int .i64 dn)).setCell ⟨k, 6, none⟩ (.int .i64 z)).setCell ⟨k, 7, none⟩ (vn)).heap[k]? = some (.cells #[.bool up, vd, .int .i64 id, .int .i64 ep, vl, .int .i64 dn, .int .i64 z, vn, vs0, vw0] 35 (0, 0)) := block_set (j := 7) (vn) e6
  have e8 : ((((((((((W).setCell ⟨k, 0, none⟩ (.bool up)).setCell ⟨k, 1, none⟩ (vd)).setCell ⟨k, 2, none⟩ (.int .i64 id)).setCell ⟨k, 3, none⟩ (.int .i64 ep)).setCell ⟨k, 4, none⟩ (vl)).setCell ⟨k, 5, none⟩ (.int .i64 dn)).setCell ⟨k, 6, none⟩ (.int .i64 z)).setCell ⟨k, 7, none⟩ (vn)).setCell ⟨k, 8, none⟩ (vs)).heap[k]? = some (.cells #[.bool up, vd, .int .i64 id, .int .i64 ep, vl, .int .i64 dn, .int .i64 z, vn, vs, vw0] 35 (0, 0)) := block_set (j := 8) (vs) e7
  have e9 : (((((((((((W).setCell ⟨k, 0, none⟩ (.bool up)).setCell ⟨k, 1, none⟩ (vd)).setCell ⟨k, 2, none⟩ (.int .i64 id)).setCell ⟨k, 3, none⟩ (.int .i64 ep)).setCell ⟨k, 4, none⟩ (vl)).setCell ⟨k, 5, none⟩ (.int .i64 dn)).setCell ⟨k, 6, none⟩ (.int .i64 z)).setCell ⟨k, 7, none⟩ (vn)).setCell ⟨k, 8, none⟩ (vs)).setCell ⟨k, 9, none⟩ (vw)).heap[k]? = some (.cells #[.bool up, vd, .int .i64 id, .int .i64 ep, vl, .int .i64 dn, .int .i64 z, vn, vs, vw] 35 (0, 0)) := block_set (j := 9) (vw) e8
  exact e9
/-- the empty box's cells -/
theorem zcells10 {W : World} {k : Nat} (h : Box10 W k false (.slice none 0 0) 0 0 (.slice none 0 0) 0 0 (.slice none 0 0) (.slice none 0 0) (.slice none 0 0)) : W.cell? ⟨k, 0, none⟩ = some (.bool false) ∧ W.cell? ⟨k, 1, none⟩ = some (.slice none 0 0) ∧ W.cell? ⟨k, 2, none⟩ = some (.int .i64 0) ∧ W.cell? ⟨k, 3, none⟩ = some (.int .i64 0) ∧ W.cell? ⟨k, 4, none⟩ = some (.slice none 0 0) ∧ W.cell? ⟨k, 5, none⟩ = some (.int .i64 0) ∧ W.cell? ⟨k, 6, none⟩ = some (.int .i64 0) ∧ W.cell? ⟨k, 7, none⟩ = some (.slice none 0 0) ∧ W.cell? ⟨k, 8, none⟩ = some (.slice none 0 0) ∧ W.cell? ⟨k, 9, none⟩ = some (.slice none 0 0) ∧ W.frozen? ⟨k, 0, none⟩ = false ∧ W.frozen? ⟨k, 1, none⟩ = false ∧ W.frozen? ⟨k, 2, none⟩ = false ∧ W.frozen? ⟨k, 3, none⟩ = false ∧ W.frozen? ⟨k, 4, none⟩ = false ∧ W.frozen? ⟨k, 5, none⟩ = false ∧ W.frozen? ⟨k, 6, none⟩ = false ∧ W.frozen? ⟨k, 7, none⟩ = false ∧ W.frozen? ⟨k, 8, none⟩ = false ∧ W.frozen? ⟨k, 9, none⟩ = false ∧ k < W.heap.size := by
  obtain ⟨x0, x1, x2, x3, x4, x5, x6, x7, x8, x9⟩ := h.cells
  exact ⟨x0, x1, x2, x3, x4, x5, x6, x7, x8, x9, h.froz 0, h.froz 1, h.froz 2, h.froz 3, h.froz 4, h.froz 5, h.froz 6, h.froz 7, h.froz 8, h.froz 9, h.lt⟩
theorem newZ (w : World) : Box10 (w.alloc (.cells #[.bool false, .slice none 0 0, .int .i64 0, .int .i64 0, .slice none 0 0, .int .i64 0, .int .i64 0, .slice none 0 0, .slice none 0 0, .slice none 0 0] 35)) w.heap.size false (.slice none 0 0) 0 0 (.slice none 0 0) 0 0 (.slice none 0 0) (.slice none 0 0) (.slice none 0 0) := Box10.new w false 0 0 0 0 _ _ _ _ _

theorem seq_empty {W V : World} {v : Value} {xs : List Int} (hx : xs = []) (h : SeqV W v xs) : SeqV V v xs := by
  rcases h with h | ⟨_, _, _, _, _, _, _, h0, _⟩
  · exact .inl h
  · exact absurd hx h0
theorem put10_sv0 {W : World} {k : Nat} (hk : Dumb W k) {up : Bool} {id ep dn z : Int} {ad al an ai aw : Option Addr} {nd cd nl cl nn cn ni ci nw cw : Nat} {v : Value} {s : Sv} (hs : s.tr.ss = []) (h : SvV W v s) :
    SvV (put10 W k (.bool up) (.slice ad nd cd) (.int .i64 id) (.int .i64 ep) (.slice al nl cl) (.int .i64 dn) (.int .i64 z) (.slice an nn cn) (.slice ai ni ci) (.slice aw nw cw)) v s := by
  have one : ∀ {W : World} {j : Nat} {u : Value}, (∀ t, u ≠ .string t) → Dumb W k → SvV W v s → Dumb (W.setCell ⟨k, j, none⟩ u) k ∧ SvV (W.setCell ⟨k, j, none⟩ u) v s := by
    intro W j u hu hk h
    refine ⟨hk.set hu, ?_⟩
    obtain ⟨vd, vl, vn, vs, vw, rfl, h1, h2, h3, h4, h5⟩ := h
    exact ⟨vd, vl, vn, vs, vw, rfl, disk_dumb h1 hk u, log_dumb h2 hk u, nodes_dumb h3 hk u, seq_empty hs h4, watches_dumb h5 hk u⟩
  obtain ⟨k0, h0⟩ := one (j := 0) (u := .bool up) (by simp) hk h
  obtain ⟨k1, h1⟩ := one (j := 1) (u := .slice ad nd cd) (by simp) k0 h0
  obtain ⟨k2, h2⟩ := one (j := 2) (u := .int .i64 id) (by simp) k1 h1
  obtain ⟨k3, h3⟩ := one (j := 3) (u := .int .i64 ep) (by simp) k2 h2
  obtain ⟨k4, h4⟩ := one (j := 4) (u := .slice al nl cl) (by simp) k3 h3
  obtain ⟨k5, h5⟩ := one (j := 5) (u := .int .i64 dn) (by simp) k4 h4
  obtain ⟨k6, h6⟩ := one (j := 6) (u := .int .i64 z) (by simp) k5 h5
  obtain ⟨k7, h7⟩ := one (j := 7) (u := .slice an nn cn) (by simp) k6 h6
  obtain ⟨k8, h8⟩ := one (j := 8) (u := .slice ai ni ci) (by simp) k7 h7
  exact (one (j := 9) (u := .slice aw nw cw) (by simp) k8 h8).2

set_option maxHeartbeats 1000000 in
/-- a server without sessions stored over another one -/
theorem inbox_over0 {w W : World} {k : Nat} {s : Sv} {ad al an ai aw : Option Addr} {nd cd nl cl nn cn ni ci nw cw : Nat} {up0 : Bool} {id0 ep0 dn0 z0 : Int} {ad0 al0 an0 ai0 aw0 : Option Addr} {nd0 cd0 nl0 cl0 nn0 cn0 ni0 ci0 nw0 cw0 : Nat} (hb : Below w.heap.size w W) (hk : w.heap.size ≤ k) (hss : s.tr.ss = []) (h : SvV W (.agg #[.bool s.up, .slice ad nd cd, .int .i64 s.id, .int .i64 s.ep, .slice al nl cl, .int .i64 s.dn, .int .i64 s.tr.z, .slice an nn cn, .slice ai ni ci, .slice aw nw cw]) s)
    (hz : Box10 W k up0 (.slice ad0 nd0 cd0) id0 ep0 (.slice al0 nl0 cl0) dn0 z0 (.slice an0 nn0 cn0) (.slice ai0 ni0 ci0) (.slice aw0 nw0 cw0)) :
    InBox w (put10 W k (.bool s.up) (.slice ad nd cd) (.int .i64 s.id) (.int .i64 s.ep) (.slice al nl cl) (.int .i64 s.dn) (.int .i64 s.tr.z) (.slice an nn cn) (.slice ai ni ci) (.slice aw nw cw)) k s :=
  ⟨ad, nd, cd, al, nl, cl, an, nn, cn, ai, ni, ci, aw, nw, cw, box10_put10 hz _ _ _ _ _ _ _ _ _ _, put10_sv0 hz.dumb hss h, put10_below hb hk _ _ _ _ _ _ _ _ _ _⟩
end Go.Proofs.YtbkndjhogaloiaaGreatDoor

namespace Go.Proofs.YtbkndjhogaloiaaGreatDoor
open Go.RowKit

/-- the seven cells of a transaction -/
def TxnAt (W : World) (g : Nat) (t : WTxn) : Prop := W.heap[g]? = some (.cells #[.int .i64 t.z, .int .i64 t.o, .int .i64 t.s, .string ⟨t.p.toArray⟩, .string ⟨t.d.toArray⟩, .int .i64 t.v, .int .i64 t.w] 47 (0, 0))
theorem TxnAt.c0 {W : World} {g : Nat} {t : WTxn} (h : TxnAt W g t) : W.cell? ⟨g, 0, none⟩ = some (.int .i64 t.z) := by unfold TxnAt at h; simp [World.cell?, h]
theorem TxnAt.c1 {W : World} {g : Nat} {t : WTxn} (h : TxnAt W g t) : W.cell? ⟨g, 1, none⟩ = some (.int .i64 t.o) := by unfold TxnAt at h; simp [World.cell?, h]
theorem TxnAt.c2 {W : World} {g : Nat} {t : WTxn} (h : TxnAt W g t) : W.cell? ⟨g, 2, none⟩ = some (.int .i64 t.s) := by unfold TxnAt at h; simp [World.cell?, h]
theorem TxnAt.c3 {W : World} {g : Nat} {t : WTxn} (h : TxnAt W g t) : W.cell? ⟨g, 3, none⟩ = some (.string ⟨t.p.toArray⟩) := by unfold TxnAt at h; simp [World.cell?, h]
theorem TxnAt.c4 {W : World} {g : Nat} {t : WTxn} (h : TxnAt W g t) : W.cell? ⟨g, 4, none⟩ = some (.string ⟨t.d.toArray⟩) := by unfold TxnAt at h; simp [World.cell?, h]
theorem TxnAt.c5 {W : World} {g : Nat} {t : WTxn} (h : TxnAt W g t) : W.cell? ⟨g, 5, none⟩ = some (.int .i64 t.v) := by unfold TxnAt at h; simp [World.cell?, h]
theorem TxnAt.c6 {W : World} {g : Nat} {t : WTxn} (h : TxnAt W g t) : W.cell? ⟨g, 6, none⟩ = some (.int .i64 t.w) := by unfold TxnAt at h; simp [World.cell?, h]
theorem TxnAt.f {W : World} {g : Nat} {t : WTxn} (h : TxnAt W g t) (j : Nat) : W.frozen? ⟨g, j, none⟩ = false := by unfold TxnAt at h; simp [World.frozen?, h]
theorem TxnAt.kept {W V : World} {g B : Nat} {t : WTxn} (h : TxnAt W g t) (hb : Below B W V) (hg : g < B) : TxnAt V g t := (hb.block _ hg).trans h
theorem TxnAt.other {W V : World} {g k : Nat} {t : WTxn} (h : TxnAt W g t) (ho : Only k W V) (hg : g ≠ k) : TxnAt V g t := (ho.block _ hg).trans h
theorem only_set (g : Nat) (w : World) (j : Nat) (v : Value) : Only g w (w.setCell ⟨g, j, none⟩ v) := (Only.refl g w).setCell j v

theorem heap_new (w : World) (o : Obj) : (w.alloc o).heap[w.heap.size]? = some o := by
  show (w.heap.push o)[w.heap.size]? = _
  simp
/-- how far unfold has come: the result's cells, the cursor, the transaction -/
structure Unf (w W : World) (r : List UInt8) (b : Bool) (t : WTxn) : Prop where
  res : TxnAt W w.heap.size t0
  cur : Cur W (w.heap.size + 1) r b
  txn : TxnAt W (w.heap.size + 1 + 1) t
  size : w.heap.size + 3 ≤ W.heap.size
  below : Below w.heap.size w W
theorem Unf.took {w W V : World} {r r' : List UInt8} {b b' : Bool} {t : WTxn} (h : Unf w W r b t) (hc : Cur V (w.heap.size + 1) r' b') (ho : Only (w.heap.size + 1) W V) : Unf w V r' b' t :=
  ⟨h.res.other ho (by omega), hc, h.txn.other ho (by omega), by rw [ho.size]; exact h.size, ho.below h.below (by omega)⟩
theorem Unf.kept {w W V : World} {r : List UInt8} {b : Bool} {t : WTxn} (h : Unf w W r b t) (hb : Below W.heap.size W V) : Unf w V r b t :=
  ⟨h.res.kept hb (by have := h.size; omega), h.cur.kept hb (by have := h.size; omega), h.txn.kept hb (by have := h.size; omega), Nat.le_trans h.size hb.size, h.below.trans (hb.mono h.below.size)⟩
theorem Unf.put {w W : World} {r : List UInt8} {b : Bool} {t : WTxn} (h : Unf w W r b t) (j : Nat) (v : Value) {t' : WTxn} (ht : TxnAt (W.setCell ⟨w.heap.size + 1 + 1, j, none⟩ v) (w.heap.size + 1 + 1) t') : Unf w (W.setCell ⟨w.heap.size + 1 + 1, j, none⟩ v) r b t' :=
  ⟨h.res.other (only_set _ _ _ _) (by omega), h.cur.other (only_set _ _ _ _) (by omega), ht, by rw [(only_set _ W j v).size]; exact h.size, (only_set _ _ _ _).below h.below (by omega)⟩
theorem Unf.z {w W : World} {r : List UInt8} {b : Bool} {t : WTxn} (h : Unf w W r b t) (x : Int) : Unf w (W.setCell ⟨w.heap.size + 1 + 1, 0, none⟩ (.int .i64 x)) r b { t with z := x } := h.put 0 _ (cur_set _ h.txn)
theorem Unf.o {w W : World} {r : List UInt8} {b : Bool} {t : WTxn} (h : Unf w W r b t) (x : Int) : Unf w (W.setCell ⟨w.heap.size + 1 + 1, 1, none⟩ (.int .i64 x)) r b { t with o := x } := h.put 1 _ (cur_set _ h.txn)
theorem Unf.s {w W : World} {r : List UInt8} {b : Bool} {t : WTxn} (h : Unf w W r b t) (x : Int) : Unf w (W.setCell ⟨w.heap.size + 1 + 1, 2, none⟩ (.int .i64 x)) r b { t with s := x } := h.put 2 _ (cur_set _ h.txn)
theorem Unf.p {w W : World} {r : List UInt8} {b : Bool} {t : WTxn} (h : Unf w W r b t) (x : List UInt8) : Unf w (W.setCell ⟨w.heap.size + 1 + 1, 3, none⟩ (.string ⟨x.toArray⟩)) r b { t with p := x } := h.put 3 _ (cur_set _ h.txn)
theorem Unf.d {w W : World} {r : List UInt8} {b : Bool} {t : WTxn} (h : Unf w W r b t) (x : List UInt8) : Unf w (W.setCell ⟨w.heap.size + 1 + 1, 4, none⟩ (.string ⟨x.toArray⟩)) r b { t with d := x } := h.put 4 _ (cur_set _ h.txn)
theorem Unf.v {w W : World} {r : List UInt8} {b : Bool} {t : WTxn} (h : Unf w W r b t) (x : Int) : Unf w (W.setCell ⟨w.heap.size + 1 + 1, 5, none⟩ (.int .i64 x)) r b { t with v := x } := h.put 5 _ (cur_set _ h.txn)
theorem Unf.w {w W : World} {r : List UInt8} {b : Bool} {t : WTxn} (h : Unf w W r b t) (x : Int) : Unf w (W.setCell ⟨w.heap.size + 1 + 1, 6, none⟩ (.int .i64 x)) r b { t with w := x } := h.put 6 _ (cur_set _ h.txn)

theorem wrap_un {l : List UInt8} (h : l.length ≤ 7) : wrap64 ((un l : Nat) : Int) = (un l : Nat) := by
  have := un_small h; unfold wrap64; omega
theorem un_take_le (l : List UInt8) (k : Nat) (hk : k ≤ 7) : wrap64 ((un (l.take k) : Nat) : Int) = (un (l.take k) : Nat) := wrap_un (by rw [List.length_take]; omega)
/-- a transaction stored whole -/
def putTxn (W : World) (g : Nat) (t : WTxn) : World :=
  ((((((W.setCell ⟨g, 0, none⟩ (.int .i64 t.z)).setCell ⟨g, 1, none⟩ (.int .i64 t.o)).setCell ⟨g, 2, none⟩ (.int .i64 t.s)).setCell ⟨g, 3, none⟩ (.string ⟨t.p.toArray⟩)).setCell ⟨g, 4, none⟩ (.string ⟨t.d.toArray⟩)).setCell ⟨g, 5, none⟩ (.int .i64 t.v)).setCell ⟨g, 6, none⟩ (.int .i64 t.w)
theorem TxnAt.s0 {W : World} {g : Nat} {t : WTxn} (h : TxnAt W g t) (x : Int) : TxnAt (W.setCell ⟨g, 0, none⟩ (.int .i64 x)) g { t with z := x } := cur_set _ h
theorem TxnAt.s1 {W : World} {g : Nat} {t : WTxn} (h : TxnAt W g t) (x : Int) : TxnAt (W.setCell ⟨g, 1, none⟩ (.int .i64 x)) g { t with o := x } := cur_set _ h
theorem TxnAt.s2 {W : World} {g : Nat} {t : WTxn} (h : TxnAt W g t) (x : Int) : TxnAt (W.setCell ⟨g, 2, none⟩ (.int .i64 x)) g { t with s := x } := cur_set _ h
theorem TxnAt.s3 {W : World} {g : Nat} {t : WTxn} (h : TxnAt W g t) (x : List UInt8) : TxnAt (W.setCell ⟨g, 3, none⟩ (.string ⟨x.toArray⟩)) g { t with p := x } := cur_set _ h
theorem TxnAt.s4 {W : World} {g : Nat} {t : WTxn} (h : TxnAt W g t) (x : List UInt8) : TxnAt (W.setCell ⟨g, 4, none⟩ (.string ⟨x.toArray⟩)) g { t with d := x } := cur_set _ h
theorem TxnAt.s5 {W : World} {g : Nat} {t : WTxn} (h : TxnAt W g t) (x : Int) : TxnAt (W.setCell ⟨g, 5, none⟩ (.int .i64 x)) g { t with v := x } := cur_set _ h
theorem TxnAt.s6 {W : World} {g : Nat} {t : WTxn} (h : TxnAt W g t) (x : Int) : TxnAt (W.setCell ⟨g, 6, none⟩ (.int .i64 x)) g { t with w := x } := cur_set _ h
theorem TxnAt.store {W : World} {g : Nat} {t : WTxn} (h : TxnAt W g t) (t' : WTxn) : TxnAt (putTxn W g t') g t' :=
  ((((((h.s0 t'.z).s1 t'.o).s2 t'.s).s3 t'.p).s4 t'.d).s5 t'.v).s6 t'.w
theorem only_put (W : World) (g : Nat) (t : WTxn) : Only g W (putTxn W g t) :=
  (((((((Only.refl g W).setCell 0 _).setCell 1 _).setCell 2 _).setCell 3 _).setCell 4 _).setCell 5 _).setCell 6 _
/-- was a piece wanted that is not there? -/
def lackB (b : List UInt8) : Bool :=
  false || decide (b.length < 8) || decide ((b.drop 8).length < 1) || decide ((b.drop 9).length < 4) || decide ((b.drop 13).length < 4) || decide ((b.drop 17).length < 4) || decide ((b.drop 21).length < 1) || decide ((b.drop 22).length < plOf b) || decide ((b.drop (22 + plOf b)).length < 2) || decide ((b.drop (24 + plOf b)).length < dlOf b)
theorem lackB_iff {b : List UInt8} : lackB b = false ↔ 24 + plOf b + dlOf b ≤ b.length := by
  simp only [lackB, Bool.or_eq_false_iff, decide_eq_false_iff_not, List.length_drop, true_and]
  omega
theorem plOf_le (b : List UInt8) : plOf b < 256 := by
  have h := un_lt ((b.drop 21).take 1)
  have h2 : ((b.drop 21).take 1).length ≤ 1 := List.length_take_le _ _
  have h3 : 256 ^ ((b.drop 21).take 1).length ≤ 256 ^ 1 := Nat.pow_le_pow_right (by decide) h2
  unfold plOf
  omega
theorem dlOf_le (b : List UInt8) : dlOf b < 65536 := by
  have h := un_lt ((b.drop (22 + plOf b)).take 2)
  have h2 : ((b.drop (22 + plOf b)).take 2).length ≤ 2 := List.length_take_le _ _
  have h3 : 256 ^ ((b.drop (22 + plOf b)).take 2).length ≤ 256 ^ 2 := Nat.pow_le_pow_right (by decide) h2
  unfold dlOf
  omega

/-- what the walk has laid down when it asks whether the lengths fit -/
def tIn (b : List UInt8) : WTxn :=
  ⟨wrap64 (un (b.take 8)), un ((b.drop 8).take 1), un ((b.drop 9).take 4), (b.drop 22).take (plOf b), (b.drop (24 + plOf b)).take (dlOf b), un ((b.drop 13).take 4), un ((b.drop 17).take 4)⟩
theorem tIn_fit {b : List UInt8} (h : fitB b = true) : tIn b = tOf b := by
  obtain ⟨h1, h2⟩ := fitB_iff.1 h
  rw [tIn, tOf, List.take_of_length_le (l := b.drop (24 + plOf b)) (by rw [List.length_drop]; omega)]

set_option maxRecDepth 10000 in
set_option maxHeartbeats 2000000 in
theorem unfold_any (b : List UInt8) (w : World) :
    Calls Tryz.prog 88 #[.string ⟨b.toArray⟩] w fun e w' => e = .returned (.tuple #[txnV (unfT b), .int .i64 (unfE b)]) ∧ Below w.heap.size w w' := by
  have hpl := plOf_le b
  have hdl := dlOf_le b
  go_enter Tryz.func88, Tryz.ntmps88
  go_wp2_with fail
  refine (along_any b _).mono ?_
  rintro e wA ⟨rfl, rfl⟩
  go_wp2_with fail
  generalize hW : ((w.alloc _).alloc _).alloc _ = W
  have H : Hid (Unf w W b false t0) := hide (by
    rw [← hW]
    refine ⟨?_, ?_, ?_, by simp, (((Below.refl _ _).alloc (Nat.le_refl _) _).alloc (by simp) _).alloc (by simp; omega) _⟩
    · exact (Below.heap_alloc _ _ _ (by simp; omega)).trans ((Below.heap_alloc _ _ _ (by simp)).trans (heap_new _ _))
    · exact (Below.heap_alloc _ _ _ (by simp)).trans (by have := heap_new (w.alloc (.cells #[.int .i64 0, .int .i64 0, .int .i64 0, .string ⟨#[]⟩, .string ⟨#[]⟩, .int .i64 0, .int .i64 0] 47)) (.cells #[.string ⟨b.toArray⟩, .bool false] 142); rwa [World.size_alloc] at this)
    · have := heap_new ((w.alloc (.cells #[.int .i64 0, .int .i64 0, .int .i64 0, .string ⟨#[]⟩, .string ⟨#[]⟩, .int .i64 0, .int .i64 0] 47)).alloc (.cells #[.string ⟨b.toArray⟩, .bool false] 142)) (.cells #[.int .i64 0, .int .i64 0, .int .i64 0, .string ⟨#[]⟩, .string ⟨#[]⟩, .int .i64 0, .int .i64 0] 47)
      rwa [World.size_alloc, World.size_alloc] at this)
  clear hW
  refine (cnumber_any (w.heap.size + 1) 8 _ _ _ (by decide) (unhide H).cur).mono ?_
  rintro e w1 ⟨rfl, hc1, ho1⟩
  have H1 := hide ((unhide H).took hc1 ho1)
  clear hc1 ho1 H W
  generalize w1 = W at *
  obtain ⟨x0, h0⟩ : ∃ x, wrap64 (un (b.take 8) : Nat) = x := ⟨_, rfl⟩
  rw [h0]
  have E0 := hide h0
  clear h0
  have q1 := (unhide H1).txn.c0
  have q2 := (unhide H1).txn.f 0
  go_wp2_with fail
  have H := hide ((unhide H1).z x0)
  clear q1 q2 H1
  generalize W.setCell _ _ = W at *
  refine (cnumber_any (w.heap.size + 1) 1 _ _ _ (by decide) (unhide H).cur).mono ?_
  rintro e w1 ⟨rfl, hc1, ho1⟩
  have H1 := hide ((unhide H).took hc1 ho1)
  clear hc1 ho1 H W
  generalize w1 = W at *
  simp only [List.drop_drop, Nat.reduceAdd] at H1
  rw [un_take_le _ _ (by decide)]
  obtain ⟨x1, h1⟩ : ∃ x, un ((b.drop 8).take 1) = x := ⟨_, rfl⟩
  rw [h1]
  have E1 := hide h1
  clear h1
  have q1 := (unhide H1).txn.c1
  have q2 := (unhide H1).txn.f 1
  go_wp2_with fail
  have H := hide ((unhide H1).o x1)
  clear q1 q2 H1
  generalize W.setCell _ _ = W at *
  refine (cnumber_any (w.heap.size + 1) 4 _ _ _ (by decide) (unhide H).cur).mono ?_
  rintro e w1 ⟨rfl, hc1, ho1⟩
  have H1 := hide ((unhide H).took hc1 ho1)
  clear hc1 ho1 H W
  generalize w1 = W at *
  simp only [List.drop_drop, Nat.reduceAdd] at H1
  rw [un_take_le _ _ (by decide)]
  obtain ⟨x2, h2⟩ : ∃ x, un ((b.drop 9).take 4) = x := ⟨_, rfl⟩
  rw [h2]
  have E2 := hide h2
  clear h2
  have q1 := (unhide H1).txn.c2
  have q2 := (unhide H1).txn.f 2
  go_wp2_with fail
  have H := hide ((unhide H1).s x2)
  clear q1 q2 H1
  generalize W.setCell _ _ = W at *
  refine (cnumber_any (w.heap.size + 1) 4 _ _ _ (by decide) (unhide H).cur).mono ?_
  rintro e w1 ⟨rfl, hc1, ho1⟩
  have H1 := hide ((unhide H).took hc1 ho1)
  clear hc1 ho1 H W
  generalize w1 = W at *
  simp only [List.drop_drop, Nat.reduceAdd] at H1
  rw [un_take_le _ _ (by decide)]
  obtain ⟨x3, h3⟩ : ∃ x, un ((b.drop 13).take 4) = x := ⟨_, rfl⟩
  rw [h3]
  have E3 := hide h3
  clear h3
  have q1 := (unhide H1).txn.c5
  have q2 := (unhide H1).txn.f 5
  go_wp2_with fail
  have H := hide ((unhide H1).v x3)
  clear q1 q2 H1
  generalize W.setCell _ _ = W at *
  refine (cnumber_any (w.heap.size + 1) 4 _ _ _ (by decide) (unhide H).cur).mono ?_
  rintro e w1 ⟨rfl, hc1, ho1⟩
  have H1 := hide ((unhide H).took hc1 ho1)
  clear hc1 ho1 H W
  generalize w1 = W at *
  simp only [List.drop_drop, Nat.reduceAdd] at H1
  rw [un_take_le _ _ (by decide)]
  obtain ⟨x4, h4⟩ : ∃ x, un ((b.drop 17).take 4) = x := ⟨_, rfl⟩
  rw [h4]
  have E4 := hide h4
  clear h4
  have q1 := (unhide H1).txn.c6
  have q2 := (unhide H1).txn.f 6
  go_wp2_with fail
  have H := hide ((unhide H1).w x4)
  clear q1 q2 H1
  generalize W.setCell _ _ = W at *
  refine (cnumber_any (w.heap.size + 1) 1 _ _ _ (by decide) (unhide H).cur).mono ?_
  rintro e w1 ⟨rfl, hc1, ho1⟩
  have H1 := hide ((unhide H).took hc1 ho1)
  clear hc1 ho1 H W
  generalize w1 = W at *
  simp only [List.drop_drop, Nat.reduceAdd] at H1
  rw [un_take_le _ _ (by decide)]
  rw [show un ((b.drop 21).take 1) = plOf b from rfl]
  go_wp2_with fail
  refine (text_any (w.heap.size + 1) (plOf b) _ _ _ (by omega) (unhide H1).cur).mono ?_
  rintro e w2 ⟨rfl, hc2, ho2⟩
  have H2 := hide ((unhide H1).took hc2 ho2)
  clear hc2 ho2 H1 W
  generalize w2 = W at *
  obtain ⟨P, hP⟩ : ∃ x, (b.drop 22).take (plOf b) = x := ⟨_, rfl⟩
  have lP : P.length ≤ 65536 := by rw [← hP, List.length_take]; omega
  rw [hP]
  have EP := hide hP
  clear hP
  go_wp2_with fail
  refine (clone_any ⟨P.toArray⟩ _ (by rw [Lib.size_eq]; show P.length ≤ _; omega)).mono ?_
  rintro e w3 ⟨rfl, hb3⟩
  have H1 := hide ((unhide H2).kept hb3)
  clear hb3 H2 W
  generalize w3 = W at *
  simp only [List.drop_drop] at H1
  have q1 := (unhide H1).txn.c3
  have q2 := (unhide H1).txn.f 3
  go_wp2_with fail
  have H := hide ((unhide H1).p P)
  clear q1 q2 H1
  generalize W.setCell _ _ = W at *
  refine (cnumber_any (w.heap.size + 1) 2 _ _ _ (by decide) (unhide H).cur).mono ?_
  rintro e w1 ⟨rfl, hc1, ho1⟩
  have H1 := hide ((unhide H).took hc1 ho1)
  clear hc1 ho1 H W
  generalize w1 = W at *
  simp only [List.drop_drop] at H1
  rw [un_take_le _ _ (by decide)]
  rw [show un ((b.drop (22 + plOf b)).take 2) = dlOf b from rfl]
  go_wp2_with fail
  refine (text_any (w.heap.size + 1) (dlOf b) _ _ _ (by omega) (unhide H1).cur).mono ?_
  rintro e w2 ⟨rfl, hc2, ho2⟩
  have H2 := hide ((unhide H1).took hc2 ho2)
  clear hc2 ho2 H1 W
  generalize w2 = W at *
  obtain ⟨D, hD⟩ : ∃ x, (b.drop (22 + plOf b + 2)).take (dlOf b) = x := ⟨_, rfl⟩
  have lD : D.length ≤ 65536 := by rw [← hD, List.length_take]; omega
  rw [hD]
  have ED := hide hD
  clear hD
  go_wp2_with fail
  refine (clone_any ⟨D.toArray⟩ _ (by rw [Lib.size_eq]; show D.length ≤ _; omega)).mono ?_
  rintro e w3 ⟨rfl, hb3⟩
  have H1 := hide ((unhide H2).kept hb3)
  clear hb3 H2 W
  generalize w3 = W at *
  simp only [List.drop_drop] at H1
  have hT : tIn b = ⟨x0, x1, x2, P, D, x3, x4⟩ := by
    rw [tIn, unhide E0, unhide E1, unhide E2, unhide E3, unhide E4, unhide EP, show 24 + plOf b = 22 + plOf b + 2 from by omega, unhide ED]
  have HT := hide hT
  have h24 : 22 + plOf b + 2 = 24 + plOf b := by omega
  have HL : Hid (Unf w W (b.drop (24 + plOf b + dlOf b)) (lackB b) ⟨x0, x1, x2, P, [], x3, x4⟩) := hide (by
    have h := unhide H1
    rw [h24] at h
    exact h)
  clear hT h24 H1 E0 E1 E2 E3 E4 EP ED
  have q0 : W.cell? ⟨w.heap.size + 1 + 1, 0, none⟩ = some (.int .i64 x0) := (unhide HL).txn.c0
  have q1 : W.cell? ⟨w.heap.size + 1 + 1, 1, none⟩ = some (.int .i64 x1) := (unhide HL).txn.c1
  have q2 : W.cell? ⟨w.heap.size + 1 + 1, 2, none⟩ = some (.int .i64 x2) := (unhide HL).txn.c2
  have q3 : W.cell? ⟨w.heap.size + 1 + 1, 3, none⟩ = some (.string ⟨P.toArray⟩) := (unhide HL).txn.c3
  have q4 : W.cell? ⟨w.heap.size + 1 + 1, 4, none⟩ = some (.string ⟨#[]⟩) := (unhide HL).txn.c4
  have q5 : W.cell? ⟨w.heap.size + 1 + 1, 5, none⟩ = some (.int .i64 x3) := (unhide HL).txn.c5
  have q6 : W.cell? ⟨w.heap.size + 1 + 1, 6, none⟩ = some (.int .i64 x4) := (unhide HL).txn.c6
  have qf := (unhide HL).txn.f 4
  have r0 : W.cell? ⟨w.heap.size, 0, none⟩ = some (.int .i64 0) := (unhide HL).res.c0
  have r1 : W.cell? ⟨w.heap.size, 1, none⟩ = some (.int .i64 0) := (unhide HL).res.c1
  have r2 : W.cell? ⟨w.heap.size, 2, none⟩ = some (.int .i64 0) := (unhide HL).res.c2
  have r3 : W.cell? ⟨w.heap.size, 3, none⟩ = some (.string ⟨#[]⟩) := (unhide HL).res.c3
  have r4 : W.cell? ⟨w.heap.size, 4, none⟩ = some (.string ⟨#[]⟩) := (unhide HL).res.c4
  have r5 : W.cell? ⟨w.heap.size, 5, none⟩ = some (.int .i64 0) := (unhide HL).res.c5
  have r6 : W.cell? ⟨w.heap.size, 6, none⟩ = some (.int .i64 0) := (unhide HL).res.c6
  have rf := (unhide HL).res.f
  have CSh := hide (short_any _ _ _ _ ((unhide HL).d D).cur)
  have CLf := hide (left_any _ _ _ _ ((unhide HL).d D).cur)
  cases hfit : fitB b
  · have HU := hide (unf_bad hfit)
    cases hl : lackB b
    · have hR : b.drop (24 + plOf b + dlOf b) ≠ [] := fun hh => by
        have h1 := lackB_iff.1 hl
        have h2 := congrArg List.length hh
        rw [List.length_drop, List.length_nil] at h2
        have h3 : fitB b = true := fitB_iff.2 ⟨by omega, by omega⟩
        rw [hfit] at h3
        exact absurd h3 (by decide)
      rw [hl] at CSh
      obtain ⟨R, hRR⟩ : ∃ R, b.drop (24 + plOf b + dlOf b) = R := ⟨_, rfl⟩
      rw [hRR] at CLf hR
      have hR' : (0 : Int) < (R.length : Int) := by have := List.length_pos_iff.2 hR; omega
      obtain ⟨m, hm⟩ : ∃ m, R.length = m := ⟨_, rfl⟩
      rw [hm] at CLf hR'
      clear hRR hl hfit hm hR
      go_wp2_with fail
      refine (unhide CSh).mono ?_
      rintro e wS ⟨rfl, rfl⟩
      go_wp2_with fail
      refine (unhide CLf).mono ?_
      rintro e wL ⟨rfl, rfl⟩
      clear CSh CLf
      go_wp2_with fail
      change bodyPost _ _ _ _ _ (putTxn (W.setCell ⟨w.heap.size + 1 + 1, 4, none⟩ (.string ⟨D.toArray⟩)) w.heap.size t0)
      have HV := hide ((unhide HL).d D)
      generalize W.setCell ⟨w.heap.size + 1 + 1, 4, none⟩ (.string ⟨D.toArray⟩) = V at HV ⊢
      have HP := hide ((unhide HV).res.store t0)
      have hB : Below w.heap.size w (putTxn V w.heap.size t0) := (only_put _ _ _).below (unhide HV).below (Nat.le_refl _)
      generalize putTxn V w.heap.size t0 = V2 at HP hB ⊢
      have s0 := (unhide HP).c0
      have s1 := (unhide HP).c1
      have s2 := (unhide HP).c2
      have s3 := (unhide HP).c3
      have s4 := (unhide HP).c4
      have s5 := (unhide HP).c5
      have s6 := (unhide HP).c6
      exact bodyPost_ret (v := .tuple #[txnV t0, .int .i64 2]) (by simp [results, Tryz.results88, go_sem, s0, s1, s2, s3, s4, s5, s6, txnV]) rfl ⟨by rw [(unhide HU).1, (unhide HU).2], hB⟩
    · rw [hl] at CSh
      clear hl hfit CLf
      go_wp2_with fail
      refine (unhide CSh).mono ?_
      rintro e wS ⟨rfl, rfl⟩
      clear CSh
      go_wp2_with fail
      change bodyPost _ _ _ _ _ (putTxn (W.setCell ⟨w.heap.size + 1 + 1, 4, none⟩ (.string ⟨D.toArray⟩)) w.heap.size t0)
      have HV := hide ((unhide HL).d D)
      generalize W.setCell ⟨w.heap.size + 1 + 1, 4, none⟩ (.string ⟨D.toArray⟩) = V at HV ⊢
      have HP := hide ((unhide HV).res.store t0)
      have hB : Below w.heap.size w (putTxn V w.heap.size t0) := (only_put _ _ _).below (unhide HV).below (Nat.le_refl _)
      generalize putTxn V w.heap.size t0 = V2 at HP hB ⊢
      have s0 := (unhide HP).c0
      have s1 := (unhide HP).c1
      have s2 := (unhide HP).c2
      have s3 := (unhide HP).c3
      have s4 := (unhide HP).c4
      have s5 := (unhide HP).c5
      have s6 := (unhide HP).c6
      exact bodyPost_ret (v := .tuple #[txnV t0, .int .i64 2]) (by simp [results, Tryz.results88, go_sem, s0, s1, s2, s3, s4, s5, s6, txnV]) rfl ⟨by rw [(unhide HU).1, (unhide HU).2], hB⟩
  · have hl : lackB b = false := lackB_iff.2 (by have := fitB_iff.1 hfit; omega)
    have hR : b.drop (24 + plOf b + dlOf b) = [] := List.drop_of_length_le (by have := fitB_iff.1 hfit; omega)
    rw [hl] at CSh
    rw [hR] at CLf
    rw [tIn_fit hfit] at HT
    have Hfit := hide hfit
    clear hl hR hfit
    cases hg : (gdE (tOf b) == 0)
    · have hg' : gdE (tOf b) ≠ 0 := by simpa using hg
      have HU := hide (unf_no (unhide Hfit) hg')
      obtain ⟨E, hE⟩ : ∃ E, gdE (tOf b) = E := ⟨_, rfl⟩
      have hne : (E != 0) = true := by rw [← hE]; simp [bne, hg]
      rw [unhide HT] at hE
      rw [unhide HT] at HU
      have HE := hide hE
      clear hE hg hg'
      go_wp2_with fail
      refine (unhide CSh).mono ?_
      rintro e wS ⟨rfl, rfl⟩
      go_wp2_with fail
      refine (unhide CLf).mono ?_
      rintro e wL ⟨rfl, rfl⟩
      clear CSh CLf
      go_wp2_with fail
      refine (wgood_any ⟨x0, x1, x2, P, D, x3, x4⟩ _ (by show D.length ≤ _; omega)).mono ?_
      rintro e w4 ⟨rfl, hb4⟩
      rw [unhide HE]
      have HV0 := hide ((unhide HL).d D)
      have HV := hide ((unhide HV0).kept hb4)
      clear hb4 HV0 HL q0 q1 q2 q3 q4 q5 q6 qf r0 r1 r2 r3 r4 r5 r6 rf
      generalize w4 = V at *
      have r0 : V.cell? ⟨w.heap.size, 0, none⟩ = some (.int .i64 0) := (unhide HV).res.c0
      have r1 : V.cell? ⟨w.heap.size, 1, none⟩ = some (.int .i64 0) := (unhide HV).res.c1
      have r2 : V.cell? ⟨w.heap.size, 2, none⟩ = some (.int .i64 0) := (unhide HV).res.c2
      have r3 : V.cell? ⟨w.heap.size, 3, none⟩ = some (.string ⟨#[]⟩) := (unhide HV).res.c3
      have r4 : V.cell? ⟨w.heap.size, 4, none⟩ = some (.string ⟨#[]⟩) := (unhide HV).res.c4
      have r5 : V.cell? ⟨w.heap.size, 5, none⟩ = some (.int .i64 0) := (unhide HV).res.c5
      have r6 : V.cell? ⟨w.heap.size, 6, none⟩ = some (.int .i64 0) := (unhide HV).res.c6
      have rf := (unhide HV).res.f
      go_wp2_with fail
      change bodyPost _ _ _ _ _ (putTxn V w.heap.size t0)
      have HP := hide ((unhide HV).res.store t0)
      have hB : Below w.heap.size w (putTxn V w.heap.size t0) := (only_put _ _ _).below (unhide HV).below (Nat.le_refl _)
      generalize putTxn V w.heap.size t0 = V2 at HP hB ⊢
      have s0 := (unhide HP).c0
      have s1 := (unhide HP).c1
      have s2 := (unhide HP).c2
      have s3 := (unhide HP).c3
      have s4 := (unhide HP).c4
      have s5 := (unhide HP).c5
      have s6 := (unhide HP).c6
      exact bodyPost_ret (v := .tuple #[txnV t0, .int .i64 E]) (by simp [results, Tryz.results88, go_sem, s0, s1, s2, s3, s4, s5, s6, txnV]) rfl ⟨by rw [(unhide HU).1, (unhide HU).2, unhide HE], hB⟩
    · have hg' : gdE (tOf b) = 0 := by simpa using hg
      have HU := hide (unf_ok (unhide Hfit) hg')
      rw [unhide HT] at hg' HU
      have HE := hide hg'
      clear hg hg'
      go_wp2_with fail
      refine (unhide CSh).mono ?_
      rintro e wS ⟨rfl, rfl⟩
      go_wp2_with fail
      refine (unhide CLf).mono ?_
      rintro e wL ⟨rfl, rfl⟩
      clear CSh CLf
      go_wp2_with fail
      refine (wgood_any ⟨x0, x1, x2, P, D, x3, x4⟩ _ (by show D.length ≤ _; omega)).mono ?_
      rintro e w4 ⟨rfl, hb4⟩
      rw [unhide HE]
      have HV0 := hide ((unhide HL).d D)
      have HV := hide ((unhide HV0).kept hb4)
      clear hb4 HV0 HL q0 q1 q2 q3 q4 q5 q6 qf r0 r1 r2 r3 r4 r5 r6 rf
      generalize w4 = V at *
      have q0 : V.cell? ⟨w.heap.size + 1 + 1, 0, none⟩ = some (.int .i64 x0) := (unhide HV).txn.c0
      have q1 : V.cell? ⟨w.heap.size + 1 + 1, 1, none⟩ = some (.int .i64 x1) := (unhide HV).txn.c1
      have q2 : V.cell? ⟨w.heap.size + 1 + 1, 2, none⟩ = some (.int .i64 x2) := (unhide HV).txn.c2
      have q3 : V.cell? ⟨w.heap.size + 1 + 1, 3, none⟩ = some (.string ⟨P.toArray⟩) := (unhide HV).txn.c3
      have q4 : V.cell? ⟨w.heap.size + 1 + 1, 4, none⟩ = some (.string ⟨D.toArray⟩) := (unhide HV).txn.c4
      have q5 : V.cell? ⟨w.heap.size + 1 + 1, 5, none⟩ = some (.int .i64 x3) := (unhide HV).txn.c5
      have q6 : V.cell? ⟨w.heap.size + 1 + 1, 6, none⟩ = some (.int .i64 x4) := (unhide HV).txn.c6
      have r0 : V.cell? ⟨w.heap.size, 0, none⟩ = some (.int .i64 0) := (unhide HV).res.c0
      have r1 : V.cell? ⟨w.heap.size, 1, none⟩ = some (.int .i64 0) := (unhide HV).res.c1
      have r2 : V.cell? ⟨w.heap.size, 2, none⟩ = some (.int .i64 0) := (unhide HV).res.c2
      have r3 : V.cell? ⟨w.heap.size, 3, none⟩ = some (.string ⟨#[]⟩) := (unhide HV).res.c3
      have r4 : V.cell? ⟨w.heap.size, 4, none⟩ = some (.string ⟨#[]⟩) := (unhide HV).res.c4
      have r5 : V.cell? ⟨w.heap.size, 5, none⟩ = some (.int .i64 0) := (unhide HV).res.c5
      have r6 : V.cell? ⟨w.heap.size, 6, none⟩ = some (.int .i64 0) := (unhide HV).res.c6
      have rf := (unhide HV).res.f
      go_wp2_with fail
      change bodyPost _ _ _ _ _ (putTxn V w.heap.size ⟨x0, x1, x2, P, D, x3, x4⟩)
      have HP := hide ((unhide HV).res.store ⟨x0, x1, x2, P, D, x3, x4⟩)
      have hB : Below w.heap.size w (putTxn V w.heap.size ⟨x0, x1, x2, P, D, x3, x4⟩) := (only_put _ _ _).below (unhide HV).below (Nat.le_refl _)
      generalize putTxn V w.heap.size ⟨x0, x1, x2, P, D, x3, x4⟩ = V2 at HP hB ⊢
      have s0 := (unhide HP).c0
      have s1 := (unhide HP).c1
      have s2 := (unhide HP).c2
      have s3 := (unhide HP).c3
      have s4 := (unhide HP).c4
      have s5 := (unhide HP).c5
      have s6 := (unhide HP).c6
      exact bodyPost_ret (v := .tuple #[txnV ⟨x0, x1, x2, P, D, x3, x4⟩, .int .i64 0]) (by simp [results, Tryz.results88, go_sem, s0, s1, s2, s3, s4, s5, s6, txnV]) rfl ⟨by rw [(unhide HU).1, (unhide HU).2], hB⟩

end Go.Proofs.YtbkndjhogaloiaaGreatDoor

namespace Go.Proofs.YtbkndjhogaloiaaGreatDoor
open Go.RowKit

/-- how far Decode has come: the result's cells and the cursor -/
structure Dec (w W : World) (r : List UInt8) (b : Bool) : Prop where
  res : TxnAt W w.heap.size t0
  cur : Cur W (w.heap.size + 1) r b
  size : w.heap.size + 2 ≤ W.heap.size
  below : Below w.heap.size w W
theorem Dec.took {w W V : World} {r r' : List UInt8} {b b' : Bool} (h : Dec w W r b) (hc : Cur V (w.heap.size + 1) r' b') (ho : Only (w.heap.size + 1) W V) : Dec w V r' b' :=
  ⟨h.res.other ho (by omega), hc, by rw [ho.size]; exact h.size, ho.below h.below (by omega)⟩
theorem Dec.kept {w W V : World} {r : List UInt8} {b : Bool} (h : Dec w W r b) (hb : Below W.heap.size W V) : Dec w V r b :=
  ⟨h.res.kept hb (by have := h.size; omega), h.cur.kept hb (by have := h.size; omega), Nat.le_trans h.size hb.size, h.below.trans (hb.mono h.below.size)⟩
theorem Dec.new {w : World} {s : List UInt8} : Dec w ((w.alloc (.cells #[.int .i64 0, .int .i64 0, .int .i64 0, .string ⟨#[]⟩, .string ⟨#[]⟩, .int .i64 0, .int .i64 0] 47)).alloc (.cells #[.string ⟨s.toArray⟩, .bool false] 142)) s false := by
  refine ⟨?_, ?_, by simp, ((Below.refl _ _).alloc (Nat.le_refl _) _).alloc (by simp) _⟩
  · exact (Below.heap_alloc _ _ _ (by simp)).trans (heap_new _ _)
  · have := heap_new (w.alloc (.cells #[.int .i64 0, .int .i64 0, .int .i64 0, .string ⟨#[]⟩, .string ⟨#[]⟩, .int .i64 0, .int .i64 0] 47)) (.cells #[.string ⟨s.toArray⟩, .bool false] 142)
    rwa [World.size_alloc] at this
theorem lenOf_lt (s : List UInt8) : lenOf s < 65536 := by
  have h := un_lt ((s.drop 1).take 2)
  have h2 : ((s.drop 1).take 2).length ≤ 2 := List.length_take_le _ _
  have h3 : 256 ^ ((s.drop 1).take 2).length ≤ 256 ^ 2 := Nat.pow_le_pow_right (by decide) h2
  unfold lenOf
  omega
def lackD (s : List UInt8) : Bool := false || decide (s.length < 1) || decide ((s.drop 1).length < 2) || decide ((s.drop 3).length < lenOf s) || decide ((s.drop (3 + lenOf s)).length < 4)
theorem lackD_iff {s : List UInt8} : lackD s = false ↔ lenOf s + 7 ≤ s.length := by
  simp only [lackD, Bool.or_eq_false_iff, decide_eq_false_iff_not, List.length_drop, true_and]
  omega
theorem ret_dec {a b : Value} {i j k l : Int} (h : a = b) (h1 : i = j) (h2 : k = l) : Ending.returned (.tuple #[a, .int .i64 i, .int .i64 k]) = .returned (.tuple #[b, .int .i64 j, .int .i64 l]) := by rw [h, h1, h2]

set_option maxRecDepth 10000 in
set_option maxHeartbeats 2000000 in
theorem decode_mark (s : List UInt8) (w : World) (hm : s.take 1 ≠ [84]) :
    Calls Tryz.prog 67 #[.string ⟨s.toArray⟩] w fun e w' => e = .returned (.tuple #[txnV (decT s), .int .i64 (decN s), .int .i64 (decE s)]) ∧ Below w.heap.size w w' := by
  have HU := hide (dec_bad (s := s) (wholeB_no (fun h => hm h.1)))
  have hlt := lenOf_lt s
  obtain ⟨T, hT⟩ : ∃ T, s.take 1 = T := ⟨_, rfl⟩
  rw [hT] at hm
  have hm' : (T == [84]) = false := by simpa using hm
  have ET := hide hT
  clear hT hm
  go_enter Tryz.func67, Tryz.ntmps67
  go_wp2_with fail
  refine (along_any s _).mono ?_
  rintro e wA ⟨rfl, rfl⟩
  go_wp2_with fail
  have H := hide (Dec.new (w := w) (s := s))
  generalize (w.alloc _).alloc _ = W at H ⊢
  refine (text_any (w.heap.size + 1) 1 _ _ _ (by decide) (unhide H).cur).mono ?_
  rintro e w1 ⟨rfl, hc1, ho1⟩
  replace H := hide ((unhide H).took hc1 ho1)
  clear hc1 ho1 W
  generalize w1 = W at *
  rw [unhide ET]
  go_wp2_with fail
  refine (cnumber_any (w.heap.size + 1) 2 _ _ _ (by decide) (unhide H).cur).mono ?_
  rintro e w1 ⟨rfl, hc1, ho1⟩
  replace H := hide ((unhide H).took hc1 ho1)
  clear hc1 ho1 W
  generalize w1 = W at *
  rw [un_take_le _ _ (by decide)]
  rw [show un ((s.drop 1).take 2) = lenOf s from rfl]
  simp only [List.drop_drop, Nat.reduceAdd] at H
  obtain ⟨L, hL⟩ : ∃ L, lenOf s = L := ⟨_, rfl⟩
  rw [hL] at hlt ⊢
  have EL := hide hL
  clear hL
  have r0 : W.cell? ⟨w.heap.size, 0, none⟩ = some (.int .i64 0) := (unhide H).res.c0
  have r1 : W.cell? ⟨w.heap.size, 1, none⟩ = some (.int .i64 0) := (unhide H).res.c1
  have r2 : W.cell? ⟨w.heap.size, 2, none⟩ = some (.int .i64 0) := (unhide H).res.c2
  have r3 : W.cell? ⟨w.heap.size, 3, none⟩ = some (.string ⟨#[]⟩) := (unhide H).res.c3
  have r4 : W.cell? ⟨w.heap.size, 4, none⟩ = some (.string ⟨#[]⟩) := (unhide H).res.c4
  have r5 : W.cell? ⟨w.heap.size, 5, none⟩ = some (.int .i64 0) := (unhide H).res.c5
  have r6 : W.cell? ⟨w.heap.size, 6, none⟩ = some (.int .i64 0) := (unhide H).res.c6
  have rf := (unhide H).res.f
  go_wp2_with fail
  change bodyPost _ _ _ _ _ (putTxn W w.heap.size t0)
  have HP := hide ((unhide H).res.store t0)
  have hB : Below w.heap.size w (putTxn W w.heap.size t0) := (only_put _ _ _).below (unhide H).below (Nat.le_refl _)
  generalize putTxn W w.heap.size t0 = V2 at HP hB ⊢
  have s0 := (unhide HP).c0
  have s1 := (unhide HP).c1
  have s2 := (unhide HP).c2
  have s3 := (unhide HP).c3
  have s4 := (unhide HP).c4
  have s5 := (unhide HP).c5
  have s6 := (unhide HP).c6
  exact bodyPost_ret (v := .tuple #[txnV t0, .int .i64 0, .int .i64 2]) (by simp [results, Tryz.results67, go_sem, s0, s1, s2, s3, s4, s5, s6, txnV]) rfl ⟨by rw [(unhide HU).1, (unhide HU).2.1, (unhide HU).2.2], hB⟩

set_option maxRecDepth 10000 in
set_option maxHeartbeats 2000000 in
theorem decode_long (s : List UInt8) (w : World) (hm : s.take 1 = [84]) (hl : 1024 < lenOf s) :
    Calls Tryz.prog 67 #[.string ⟨s.toArray⟩] w fun e w' => e = .returned (.tuple #[txnV (decT s), .int .i64 (decN s), .int .i64 (decE s)]) ∧ Below w.heap.size w w' := by
  have HU := hide (dec_bad (s := s) (wholeB_no (fun h => by omega)))
  have ET := hide hm
  clear hm
  go_enter Tryz.func67, Tryz.ntmps67
  go_wp2_with fail
  refine (along_any s _).mono ?_
  rintro e wA ⟨rfl, rfl⟩
  go_wp2_with fail
  have H := hide (Dec.new (w := w) (s := s))
  generalize (w.alloc _).alloc _ = W at H ⊢
  refine (text_any (w.heap.size + 1) 1 _ _ _ (by decide) (unhide H).cur).mono ?_
  rintro e w1 ⟨rfl, hc1, ho1⟩
  replace H := hide ((unhide H).took hc1 ho1)
  clear hc1 ho1 W
  generalize w1 = W at *
  rw [unhide ET]
  go_wp2_with fail
  refine (cnumber_any (w.heap.size + 1) 2 _ _ _ (by decide) (unhide H).cur).mono ?_
  rintro e w1 ⟨rfl, hc1, ho1⟩
  replace H := hide ((unhide H).took hc1 ho1)
  clear hc1 ho1 W
  generalize w1 = W at *
  rw [un_take_le _ _ (by decide)]
  rw [show un ((s.drop 1).take 2) = lenOf s from rfl]
  simp only [List.drop_drop, Nat.reduceAdd] at H
  obtain ⟨L, hL⟩ : ∃ L, lenOf s = L := ⟨_, rfl⟩
  rw [hL] at hl ⊢
  have EL := hide hL
  clear hL
  have r0 : W.cell? ⟨w.heap.size, 0, none⟩ = some (.int .i64 0) := (unhide H).res.c0
  have r1 : W.cell? ⟨w.heap.size, 1, none⟩ = some (.int .i64 0) := (unhide H).res.c1
  have r2 : W.cell? ⟨w.heap.size, 2, none⟩ = some (.int .i64 0) := (unhide H).res.c2
  have r3 : W.cell? ⟨w.heap.size, 3, none⟩ = some (.string ⟨#[]⟩) := (unhide H).res.c3
  have r4 : W.cell? ⟨w.heap.size, 4, none⟩ = some (.string ⟨#[]⟩) := (unhide H).res.c4
  have r5 : W.cell? ⟨w.heap.size, 5, none⟩ = some (.int .i64 0) := (unhide H).res.c5
  have r6 : W.cell? ⟨w.heap.size, 6, none⟩ = some (.int .i64 0) := (unhide H).res.c6
  have rf := (unhide H).res.f
  go_wp2_with fail
  change bodyPost _ _ _ _ _ (putTxn W w.heap.size t0)
  have HP := hide ((unhide H).res.store t0)
  have hB : Below w.heap.size w (putTxn W w.heap.size t0) := (only_put _ _ _).below (unhide H).below (Nat.le_refl _)
  generalize putTxn W w.heap.size t0 = V2 at HP hB ⊢
  have s0 := (unhide HP).c0
  have s1 := (unhide HP).c1
  have s2 := (unhide HP).c2
  have s3 := (unhide HP).c3
  have s4 := (unhide HP).c4
  have s5 := (unhide HP).c5
  have s6 := (unhide HP).c6
  exact bodyPost_ret (v := .tuple #[txnV t0, .int .i64 0, .int .i64 2]) (by simp [results, Tryz.results67, go_sem, s0, s1, s2, s3, s4, s5, s6, txnV]) rfl ⟨by rw [(unhide HU).1, (unhide HU).2.1, (unhide HU).2.2], hB⟩

set_option maxRecDepth 10000 in
set_option maxHeartbeats 2000000 in
theorem decode_short (s : List UInt8) (w : World) (hs : s.length ≤ 140737488355328) (hm : s.take 1 = [84]) (hl : lenOf s ≤ 1024) (hn : s.length < lenOf s + 7) :
    Calls Tryz.prog 67 #[.string ⟨s.toArray⟩] w fun e w' => e = .returned (.tuple #[txnV (decT s), .int .i64 (decN s), .int .i64 (decE s)]) ∧ Below w.heap.size w w' := by
  have HU := hide (dec_bad (s := s) (wholeB_no (fun h => by omega)))
  have hlk : lackD s = true := by
    cases h : lackD s with
    | true => rfl
    | false => have := lackD_iff.1 h; omega
  have HK := hide hlk
  have ET := hide hm
  clear hm hlk
  go_enter Tryz.func67, Tryz.ntmps67
  go_wp2_with fail
  refine (along_any s _).mono ?_
  rintro e wA ⟨rfl, rfl⟩
  go_wp2_with fail
  have H := hide (Dec.new (w := w) (s := s))
  generalize (w.alloc _).alloc _ = W at H ⊢
  refine (text_any (w.heap.size + 1) 1 _ _ _ (by decide) (unhide H).cur).mono ?_
  rintro e w1 ⟨rfl, hc1, ho1⟩
  replace H := hide ((unhide H).took hc1 ho1)
  clear hc1 ho1 W
  generalize w1 = W at *
  rw [unhide ET]
  go_wp2_with fail
  refine (cnumber_any (w.heap.size + 1) 2 _ _ _ (by decide) (unhide H).cur).mono ?_
  rintro e w1 ⟨rfl, hc1, ho1⟩
  replace H := hide ((unhide H).took hc1 ho1)
  clear hc1 ho1 W
  generalize w1 = W at *
  rw [un_take_le _ _ (by decide)]
  rw [show un ((s.drop 1).take 2) = lenOf s from rfl]
  simp only [List.drop_drop, Nat.reduceAdd] at H
  obtain ⟨L, hL⟩ : ∃ L, lenOf s = L := ⟨_, rfl⟩
  rw [hL] at hl hn ⊢
  have EL := hide hL
  clear hL
  go_wp2_with fail
  refine (text_any (w.heap.size + 1) L _ _ _ (by omega) (unhide H).cur).mono ?_
  rintro e w1 ⟨rfl, hc1, ho1⟩
  replace H := hide ((unhide H).took hc1 ho1)
  clear hc1 ho1 W
  generalize w1 = W at *
  simp only [List.drop_drop] at H
  have CL := hide (left_any (w.heap.size + 1) _ _ _ (unhide H).cur)
  rw [List.length_drop] at CL
  have hzs : (ByteArray.mk s.toArray).size = s.length := Lib.size_eq ⟨s.toArray⟩
  go_wp2_with fail
  refine (unhide CL).mono ?_
  rintro e wL ⟨rfl, hwL⟩
  rw [hwL]
  clear hwL
  clear CL
  go_wp2_with fail
  refine (cnumber_any (w.heap.size + 1) 4 _ _ _ (by decide) (unhide H).cur).mono ?_
  rintro e w1 ⟨rfl, hc1, ho1⟩
  replace H := hide ((unhide H).took hc1 ho1)
  clear hc1 ho1 W
  generalize w1 = W at *
  simp only [List.drop_drop] at H
  have cc1 := (unhide H).cur
  rw [← unhide EL] at cc1
  have cc2 : Cur W (w.heap.size + 1) _ (lackD s) := cc1
  rw [unhide HK] at cc2
  have CSh := hide (short_any _ _ _ _ cc2)
  clear cc1 cc2
  go_wp2_with fail
  refine (unhide CSh).mono ?_
  rintro e wS ⟨rfl, hwS⟩
  rw [hwS]
  clear hwS
  clear CSh
  have r0 : W.cell? ⟨w.heap.size, 0, none⟩ = some (.int .i64 0) := (unhide H).res.c0
  have r1 : W.cell? ⟨w.heap.size, 1, none⟩ = some (.int .i64 0) := (unhide H).res.c1
  have r2 : W.cell? ⟨w.heap.size, 2, none⟩ = some (.int .i64 0) := (unhide H).res.c2
  have r3 : W.cell? ⟨w.heap.size, 3, none⟩ = some (.string ⟨#[]⟩) := (unhide H).res.c3
  have r4 : W.cell? ⟨w.heap.size, 4, none⟩ = some (.string ⟨#[]⟩) := (unhide H).res.c4
  have r5 : W.cell? ⟨w.heap.size, 5, none⟩ = some (.int .i64 0) := (unhide H).res.c5
  have r6 : W.cell? ⟨w.heap.size, 6, none⟩ = some (.int .i64 0) := (unhide H).res.c6
  have rf := (unhide H).res.f
  go_wp2_with fail
  change bodyPost _ _ _ _ _ (putTxn W w.heap.size t0)
  have HP := hide ((unhide H).res.store t0)
  have hB : Below w.heap.size w (putTxn W w.heap.size t0) := (only_put _ _ _).below (unhide H).below (Nat.le_refl _)
  generalize putTxn W w.heap.size t0 = V2 at HP hB ⊢
  have s0 := (unhide HP).c0
  have s1 := (unhide HP).c1
  have s2 := (unhide HP).c2
  have s3 := (unhide HP).c3
  have s4 := (unhide HP).c4
  have s5 := (unhide HP).c5
  have s6 := (unhide HP).c6
  exact bodyPost_ret (v := .tuple #[txnV t0, .int .i64 0, .int .i64 2]) (by simp [results, Tryz.results67, go_sem, s0, s1, s2, s3, s4, s5, s6, txnV]) rfl ⟨by rw [(unhide HU).1, (unhide HU).2.1, (unhide HU).2.2], hB⟩

end Go.Proofs.YtbkndjhogaloiaaGreatDoor
