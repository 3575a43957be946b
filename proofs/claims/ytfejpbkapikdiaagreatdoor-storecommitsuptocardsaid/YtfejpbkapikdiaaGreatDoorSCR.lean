/-
  What tree.Apply answers, at every tree and transaction: the walks.
  Copies of a tree (aviarykeep.own, aviaryref.CopyTree), tree.New and tree.Get: the walks.
  tree.Get and tree.Kids: the walks.
  What the laws of trees share: the boxes of a tree and a transaction, what Apply leaves, grows.
  aviaryref's has, IsOpen, node: the walks.
  What aviaryref.Named answers, for every text: the walk.
-/
import Derived.Test.YtfejpbkapikdiaaGreatDoorSCO
import Derived.Test.YtfejpbkapikdiaaGreatDoorSCQ
import Derived.Test.YtfejpbkapikdiaaGreatDoorSCL
import Derived.Deep.CutRange
import Derived.Deep.RegionHeld3
import Derived.Test.YtfejpbkapikdiaaGreatDoorSCB
import Derived.Lib.ConvBytes
import Derived.Lib.Strings
namespace Go.Proofs.YtfejpbkapikdiaaGreatDoor
open Go.RowKit

theorem OwnS.raise {α : Type} [Lay α] {W : World} {B : Nat} {v : Value} {xs : List α} (h : OwnS W 0 v xs) (hb : ∀ k, v.ownBlock = some k → B ≤ k) : OwnS W B v xs := by
  rcases h with h | ⟨g, cap, rfl, _, h⟩
  · exact .inl h
  · exact .inr ⟨g, cap, rfl, hb g rfl, h⟩
/-- what Apply gives -/
def GivesA (w : World) (t : Tr) (x : WTxn) (e : Ending) (w' : World) : Prop :=
  ∃ vn vs ve, e = .returned (.tuple #[.agg #[.int .i64 (appT t x).z, vn, vs], ve, .int .i64 (appE t x)]) ∧ OwnS w' w.heap.size vn (appT t x).ns ∧ OwnS w' w.heap.size vs (appT t x).ss ∧ OwnS w' w.heap.size ve (appV t x) ∧ Below w.heap.size w w'
theorem gives_no {w w' : World} {t : Tr} {x : WTxn} {E : Int} {e : Ending} (hE : appE t x = E) (h0 : E ≠ 0) (he : e = .returned (.tuple #[.agg #[.int .i64 0, .slice none 0 0, .slice none 0 0], .slice none 0 0, .int .i64 E])) (hb : Below w.heap.size w w') : GivesA w t x e w' := by
  have h1 : appT t x = tr0 := by rw [appT, if_neg (by omega)]
  have h2 : appV t x = [] := by rw [appV, if_neg (by omega)]
  refine ⟨.slice none 0 0, .slice none 0 0, .slice none 0 0, ?_, ?_, ?_, ?_, hb⟩
  · rw [hE, h1]; exact he
  · rw [h1]; exact .inl ⟨rfl, rfl⟩
  · rw [h1]; exact .inl ⟨rfl, rfl⟩
  · rw [h2]; exact .inl ⟨rfl, rfl⟩

/-- the boxes of Apply -/
structure AppB (W : World) (q : Nat) (z : Int) (vn vs : Value) (x : WTxn) : Prop where
  t : W.heap[q]? = some (.cells #[.int .i64 z, vn, vs] 31 (0, 0))
  x : TAt W (q + 1) x
  r : W.heap[q + 2]? = some (.cells #[.int .i64 0, .slice none 0 0, .slice none 0 0] 31 (0, 0))
theorem AppB.new (w : World) (z : Int) (vn vs : Value) (x : WTxn) : AppB (((w.alloc (.cells #[.int .i64 z, vn, vs] 31)).alloc (.cells #[.int .i64 x.z, .int .i64 x.o, .int .i64 x.s, .string ⟨x.p.toArray⟩, .string ⟨x.d.toArray⟩, .int .i64 x.v, .int .i64 x.w] 45)).alloc (.cells #[.int .i64 0, .slice none 0 0, .slice none 0 0] 31)) w.heap.size z vn vs x := by
  refine ⟨?_, ?_, ?_⟩
  · rw [(allocB _ _).block _ (by simp; omega), (allocB _ _).block _ (by simp)]
    exact heap_alloc_new w _
  · have h := (TAt.new (w.alloc (.cells #[.int .i64 z, vn, vs] 31)) x).next (allocB _ (.cells #[.int .i64 0, .slice none 0 0, .slice none 0 0] 31))
    simpa using h
  · have h := heap_alloc_new ((w.alloc (.cells #[.int .i64 z, vn, vs] 31)).alloc (.cells #[.int .i64 x.z, .int .i64 x.o, .int .i64 x.s, .string ⟨x.p.toArray⟩, .string ⟨x.d.toArray⟩, .int .i64 x.v, .int .i64 x.w] 45)) (.cells #[.int .i64 0, .slice none 0 0, .slice none 0 0] 31)
    rw [show ((w.alloc (.cells #[.int .i64 z, vn, vs] 31)).alloc (.cells #[.int .i64 x.z, .int .i64 x.o, .int .i64 x.s, .string ⟨x.p.toArray⟩, .string ⟨x.d.toArray⟩, .int .i64 x.v, .int .i64 x.w] 45)).heap.size = w.heap.size + 2 by simp] at h
    exact h
theorem AppB.lt {W : World} {q : Nat} {z : Int} {vn vs : Value} {x : WTxn} (h : AppB W q z vn vs x) : q + 2 < W.heap.size := (Array.getElem?_eq_some_iff.1 h.r).1
theorem AppB.touch {W V : World} {q : Nat} {z : Int} {vn vs : Value} {x : WTxn} {F : Nat → Prop} (h : AppB W q z vn vs x) (ht : Touch F W V) (hf : ∀ k, F k → q + 3 ≤ k) : AppB V q z vn vs x := by
  have := h.lt
  have n0 : ∀ k, k < q + 3 → ¬ F k := fun k hk hF => by have := hf k hF; omega
  exact ⟨(ht.block _ (by omega) (n0 _ (by omega))).trans h.t, (ht.block _ (by omega) (n0 _ (by omega))).trans h.x, (ht.block _ (by omega) (n0 _ (by omega))).trans h.r⟩
theorem AppB.next {W V : World} {q : Nat} {z : Int} {vn vs : Value} {x : WTxn} (h : AppB W q z vn vs x) (hb : Below W.heap.size W V) : AppB V q z vn vs x := h.touch (F := fun _ => False) (Touch.of_below hb) (fun _ hF => hF.elim)
theorem AppB.cells {W : World} {q : Nat} {z : Int} {vn vs : Value} {x : WTxn} (h : AppB W q z vn vs x) : W.cell? ⟨q, 0, none⟩ = some (.int .i64 z) ∧ W.cell? ⟨q, 1, none⟩ = some vn ∧ W.cell? ⟨q, 2, none⟩ = some vs ∧ W.cell? ⟨q + 2, 0, none⟩ = some (.int .i64 0) ∧ W.cell? ⟨q + 2, 1, none⟩ = some (.slice none 0 0) ∧ W.cell? ⟨q + 2, 2, none⟩ = some (.slice none 0 0) ∧ W.frozen? ⟨q + 2, 0, none⟩ = false ∧ W.frozen? ⟨q + 2, 1, none⟩ = false ∧ W.frozen? ⟨q + 2, 2, none⟩ = false := by
  have h1 := h.t
  have h2 := h.r
  refine ⟨?_, ?_, ?_, ?_, ?_, ?_, ?_, ?_, ?_⟩ <;> simp [World.cell?, World.frozen?, h1, h2]

set_option maxRecDepth 20000 in
set_option maxHeartbeats 2000000 in
theorem apply_adm (t : Tr) (vn vs : Value) (x : WTxn) (w : World) (hn : SeqV w vn t.ns) (hs : SeqV w vs t.ss) (hw : WfT t) (hd : x.d.length ≤ 140737488355328) (ha : admE t x ≠ 0) :
    Calls Tryz.prog 12 #[.agg #[.int .i64 t.z, vn, vs], txnV x] w (GivesA w t x) := by
  have CA := hide (fun W (hW : Below w.heap.size w W) => admit_any t vn vs x W (hn.next hW) (hs.next hW) hw hd)
  have FIN := hide (fun w' e h hb => gives_no (w := w) (w' := w') (e := e) (appE_adm ha) ha h hb)
  have hab : (admE t x != 0) = true := by simpa using ha
  obtain ⟨na, nc, rfl⟩ := seq_slice hn
  obtain ⟨sa, sc, rfl⟩ := seq_slice hs
  clear hn hs hw ha
  generalize admE t x = E at hab CA FIN
  generalize hQ : GivesA w t x = Q at FIN ⊢
  clear hQ
  obtain ⟨xz, xo, xs, xp, xd, xv, xw⟩ := x
  unfold txnV at *
  simp only at *
  have KB : ∀ W, Below (((w.alloc (.cells #[.int .i64 t.z, .slice na t.ns.length nc, .slice sa t.ss.length sc] 31)).alloc (.cells #[.int .i64 xz, .int .i64 xo, .int .i64 xs, .string ⟨xp.toArray⟩, .string ⟨xd.toArray⟩, .int .i64 xv, .int .i64 xw] 45)).alloc (.cells #[.int .i64 0, .slice none 0 0, .slice none 0 0] 31)).heap.size (((w.alloc (.cells #[.int .i64 t.z, .slice na t.ns.length nc, .slice sa t.ss.length sc] 31)).alloc (.cells #[.int .i64 xz, .int .i64 xo, .int .i64 xs, .string ⟨xp.toArray⟩, .string ⟨xd.toArray⟩, .int .i64 xv, .int .i64 xw] 45)).alloc (.cells #[.int .i64 0, .slice none 0 0, .slice none 0 0] 31)) W → AppB W w.heap.size t.z (.slice na t.ns.length nc) (.slice sa t.ss.length sc) ⟨xz, xo, xs, xp, xd, xv, xw⟩ ∧ Below w.heap.size w W := fun W h => ⟨(AppB.new w _ _ _ ⟨xz, xo, xs, xp, xd, xv, xw⟩).next h, nbox_then (nbox_then (nbox_then h))⟩
  have HKB := hide KB
  clear KB
  go_enter Tryz.func12, Tryz.ntmps12
  go_wp2_with fail
  refine (unhide CA _ (nnext (nnext (allocB _ _) (allocB _ _)) (allocB _ _))).mono ?_
  rintro e w1 ⟨rfl, hb1⟩
  obtain ⟨b1, B1⟩ := unhide HKB w1 hb1
  obtain ⟨k0, k1, k2, k3, k4, k5, k6, k7, k8⟩ := b1.cells
  have j0 := b1.x.c0
  have j1 := b1.x.c1
  have j2 := b1.x.c2
  have j3 := b1.x.c3
  have j4 := b1.x.c4
  have j5 := b1.x.c5
  have j6 := b1.x.c6
  have HB1 := hide B1
  have HX1 := hide b1
  clear hb1 b1 B1
  go_wp2_with fail
  exact bodyPost_ret (v := .tuple #[.agg #[.int .i64 0, .slice none 0 0, .slice none 0 0], .slice none 0 0, .int .i64 E]) (by simp [results, Tryz.results12, go_sem, k3, k4, k5]) rfl (unhide FIN _ _ rfl ((((unhide HB1).setCell (by show w.heap.size ≤ w.heap.size + 1 + 1; omega) _).setCell (by show w.heap.size ≤ w.heap.size + 1 + 1; omega) _).setCell (by show w.heap.size ≤ w.heap.size + 1 + 1; omega) _))

/-- g.Tree and g.events, stored -/
theorem gives_yes {w W : World} {t : Tr} {x : WTxn} {B b : Nat} {vn vs ve : Value} {v0 v1 v2 : Value} (ha : appE t x = 0) (hg : Grow W (fun k => B ≤ k) b x.z vn vs ve (chgN t x) (chgS t x) (chgV t x)) (hq : w.heap.size + 3 ≤ B) (hb : Below w.heap.size w W) :
    GivesA w t x (.returned (.tuple #[.agg #[.int .i64 x.z, vn, vs], ve, .int .i64 0])) (((W.setCell ⟨w.heap.size + 2, 0, none⟩ v0).setCell ⟨w.heap.size + 2, 1, none⟩ v1).setCell ⟨w.heap.size + 2, 2, none⟩ v2).drew := by
  have h1 : appT t x = ⟨x.z, chgN t x, chgS t x⟩ := by rw [appT, if_pos ha]
  have h2 : appV t x = chgV t x := by rw [appV, if_pos ha]
  have nn : ∀ k, vn.ownBlock = some k → w.heap.size + 3 ≤ k := fun k hk => Nat.le_trans hq (hg.fn k hk).1
  have ns : ∀ k, vs.ownBlock = some k → w.heap.size + 3 ≤ k := fun k hk => Nat.le_trans hq (hg.fs k hk).1
  have ne : ∀ k, ve.ownBlock = some k → w.heap.size + 3 ≤ k := fun k hk => Nat.le_trans hq (hg.fe k hk).1
  have no : ∀ {v : Value}, (∀ k, v.ownBlock = some k → w.heap.size + 3 ≤ k) → v.ownBlock ≠ some (w.heap.size + 2) := fun h e => by have := h _ e; omega
  refine ⟨vn, vs, ve, by rw [h1, ha], ?_, ?_, ?_, ?_⟩
  · rw [h1]
    exact (((hg.n.raise (fun k hk => by have := nn k hk; omega)).other (no nn) _).other (no nn) _).other (no nn) _ |>.next (Below.refl _ _).drew
  · rw [h1]
    exact (((hg.s.raise (fun k hk => by have := ns k hk; omega)).other (no ns) _).other (no ns) _).other (no ns) _ |>.next (Below.refl _ _).drew
  · rw [h2]
    exact (((hg.e.raise (fun k hk => by have := ne k hk; omega)).other (no ne) _).other (no ne) _).other (no ne) _ |>.next (Below.refl _ _).drew
  · exact (((hb.setCell (by simp) _).setCell (by simp) _).setCell (by simp) _).drew

set_option maxRecDepth 20000 in
set_option maxHeartbeats 4000000 in
theorem apply_chg (t : Tr) (vn vs : Value) (x : WTxn) (w : World) (hn : SeqV w vn t.ns) (hs : SeqV w vs t.ss) (hw : WfT t) (hd : x.d.length ≤ 140737488355328) (ha : admE t x = 0) :
    Calls Tryz.prog 12 #[.agg #[.int .i64 t.z, vn, vs], txnV x] w (GivesA w t x) := by
  have CA := hide (fun W (hW : Below w.heap.size w W) => admit_any t vn vs x W (hn.next hW) (hs.next hW) hw hd)
  rw [ha] at CA
  obtain ⟨g, _⟩ := adm_zero ha
  have few := g.nod.few
  have sl := sasc_len g.ses
  have CB := hide (fun W (hW : Below w.heap.size w W) => begun_any t vn vs x.z W (hn.next hW) (hs.next hW) few sl hw.slim)
  have CC := hide (fun (F : Nat → Prop) b vn' vs' W (hG : Grow W F b x.z vn' vs' (.slice none 0 0) t.ns t.ss []) hF => change_any F b t vn' vs' x W hG hF ha)
  have hap := appE_chg ha
  have FNO := hide (fun w' e (h0 : chgF t x ≠ 0) h hb => gives_no (w := w) (w' := w') (e := e) hap h0 h hb)
  have FYE := hide (fun (W : World) (B b : Nat) (vn vs ve v0 v1 v2 : Value) (h0 : chgF t x = 0) hg hq hb => gives_yes (w := w) (W := W) (t := t) (x := x) (B := B) (b := b) (vn := vn) (vs := vs) (ve := ve) (v0 := v0) (v1 := v1) (v2 := v2) (hap.trans h0) hg hq hb)
  obtain ⟨na, nc, rfl⟩ := seq_slice hn
  obtain ⟨sa, sc, rfl⟩ := seq_slice hs
  clear hn hs hw ha hap g few sl
  generalize hQ : GivesA w t x = Q at FNO FYE ⊢
  clear hQ
  obtain ⟨E, hE⟩ : ∃ E, chgF t x = E := ⟨_, rfl⟩
  unfold Chg at CC
  rw [hE] at CC FNO FYE
  clear hE
  obtain ⟨xz, xo, xs, xp, xd, xv, xw⟩ := x
  unfold txnV at *
  simp only at *
  have KB : ∀ W, Below (((w.alloc (.cells #[.int .i64 t.z, .slice na t.ns.length nc, .slice sa t.ss.length sc] 31)).alloc (.cells #[.int .i64 xz, .int .i64 xo, .int .i64 xs, .string ⟨xp.toArray⟩, .string ⟨xd.toArray⟩, .int .i64 xv, .int .i64 xw] 45)).alloc (.cells #[.int .i64 0, .slice none 0 0, .slice none 0 0] 31)).heap.size (((w.alloc (.cells #[.int .i64 t.z, .slice na t.ns.length nc, .slice sa t.ss.length sc] 31)).alloc (.cells #[.int .i64 xz, .int .i64 xo, .int .i64 xs, .string ⟨xp.toArray⟩, .string ⟨xd.toArray⟩, .int .i64 xv, .int .i64 xw] 45)).alloc (.cells #[.int .i64 0, .slice none 0 0, .slice none 0 0] 31)) W → AppB W w.heap.size t.z (.slice na t.ns.length nc) (.slice sa t.ss.length sc) ⟨xz, xo, xs, xp, xd, xv, xw⟩ ∧ Below w.heap.size w W := fun W h => ⟨(AppB.new w _ _ _ ⟨xz, xo, xs, xp, xd, xv, xw⟩).next h, nbox_then (nbox_then (nbox_then h))⟩
  have HKB := hide KB
  clear KB
  go_enter Tryz.func12, Tryz.ntmps12
  go_wp2_with fail
  refine (unhide CA _ (nnext (nnext (allocB _ _) (allocB _ _)) (allocB _ _))).mono ?_
  rintro e w1 ⟨rfl, hb1⟩
  obtain ⟨b1, B1⟩ := unhide HKB w1 hb1
  obtain ⟨k0, k1, k2, k3, k4, k5, k6, k7, k8⟩ := b1.cells
  have j0 := b1.x.c0
  have j1 := b1.x.c1
  have j2 := b1.x.c2
  have j3 := b1.x.c3
  have j4 := b1.x.c4
  have j5 := b1.x.c5
  have j6 := b1.x.c6
  have HB1 := hide B1
  have HX1 := hide b1
  clear hb1 b1 B1
  go_wp2_with fail
  refine (unhide CB _ (unhide HB1)).mono ?_
  rintro e w2 ⟨b, vn2, vs2, rfl, g2, hb2⟩
  have b2 := (unhide HX1).next hb2
  obtain ⟨m0, m1, m2, m3, m4, m5, m6, m7, m8⟩ := b2.cells
  have i0 := b2.x.c0
  have i1 := b2.x.c1
  have i2 := b2.x.c2
  have i3 := b2.x.c3
  have i4 := b2.x.c4
  have i5 := b2.x.c5
  have i6 := b2.x.c6
  have HB2 := hide (nnext (unhide HB1) hb2)
  have HX2 := hide b2
  have HG2 := hide g2
  have hsz2 := hb2.size
  clear hb2 g2 b2 k0 k1 k2 k3 k4 k5 k6 k7 k8 j0 j1 j2 j3 j4 j5 j6 CB CA
  go_wp2_with fail
  refine (unhide CC _ _ _ _ _ (unhide HG2) (fun k hk => Nat.le_trans hsz2 hk)).mono ?_
  rintro e w3 ⟨rfl, t3, g3⟩
  have q1 := (unhide HX1).lt
  have b3 := (unhide HX2).touch t3 (fun k hk => by omega)
  obtain ⟨n0, n1, n2, n3, n4, n5, n6, n7, n8⟩ := b3.cells
  have B3 : Below w.heap.size w w3 := (unhide HB2).trans (t3.below (by omega) (fun k hk => by omega))
  have HB3 := hide B3
  clear CC b3 B3 t3 m0 m1 m2 m3 m4 m5 m6 m7 m8 i0 i1 i2 i3 i4 i5 i6
  by_cases h0 : E = 0
  · obtain ⟨vn3, vs3, ve3, g3⟩ := g3 h0
    have d0 := g3.c0
    have d1 := g3.c1
    have d2 := g3.c2
    have d3 := g3.c3
    obtain ⟨na3, nc3, hn3, _⟩ := g3.n.slice
    obtain ⟨sa3, sc3, hs3, _⟩ := g3.s.slice
    obtain ⟨ea3, ec3, he3, _⟩ := g3.e.slice
    have HG3 := hide g3
    have hbl := g3.lt
    have hbq : w1.heap.size ≤ b := g3.fb
    have hne : b ≠ w.heap.size + 2 := by omega
    have FY := hide (fun (v0 v1 v2 : Value) => unhide FYE w3 w1.heap.size b vn3 vs3 ve3 v0 v1 v2 h0 (unhide HG3) (by omega) (unhide HB3))
    subst hn3 hs3 he3 h0
    clear g3 FYE FNO HG3
    go_wp2_with fail
    go_region
    go_wp2_with fail
    exact bodyPost_ret (v := .tuple #[.agg #[.int .i64 xz, .slice na3 (chgN t ⟨xz, xo, xs, xp, xd, xv, xw⟩).length nc3, .slice sa3 (chgS t ⟨xz, xo, xs, xp, xd, xv, xw⟩).length sc3], .slice ea3 (chgV t ⟨xz, xo, xs, xp, xd, xv, xw⟩).length ec3, .int .i64 0]) (by simp [results, Tryz.results12, go_sem, n3, n4, n5]) rfl (unhide FY _ _ _)
  · have h0b : (E != 0) = true := by simpa using h0
    have FN := hide (fun w' e h hb => unhide FNO w' e h0 h hb)
    clear g3 FYE FNO h0
    go_wp2_with fail
    exact bodyPost_ret (v := .tuple #[.agg #[.int .i64 0, .slice none 0 0, .slice none 0 0], .slice none 0 0, .int .i64 E]) (by simp [results, Tryz.results12, go_sem, n3, n4, n5]) rfl (unhide FN _ _ rfl ((((unhide HB3).setCell (by show w.heap.size ≤ w.heap.size + 1 + 1; omega) _).setCell (by show w.heap.size ≤ w.heap.size + 1 + 1; omega) _).setCell (by show w.heap.size ≤ w.heap.size + 1 + 1; omega) _))

theorem apply_any (t : Tr) (vn vs : Value) (x : WTxn) (w : World) (hn : SeqV w vn t.ns) (hs : SeqV w vs t.ss) (hw : WfT t) (hd : x.d.length ≤ 140737488355328) :
    Calls Tryz.prog 12 #[.agg #[.int .i64 t.z, vn, vs], txnV x] w (GivesA w t x) := by
  by_cases ha : admE t x = 0
  · exact apply_chg t vn vs x w hn hs hw hd ha
  · exact apply_adm t vn vs x w hn hs hw hd ha

end Go.Proofs.YtfejpbkapikdiaaGreatDoor

namespace Go.Proofs.YtfejpbkapikdiaaGreatDoor
open Go.RowKit

/- append(nil, l...) -/
theorem run_copyN (W : World) (ty : TypeId) (v : Value) (xs : List Nd) (hv : SeqV W v xs) (hl : xs.length * 88 ≤ 140737488355328) :
    ∃ v' w', (Builtin.append_ #[28, 28] ty #[.slice none 0 0, v]).run Tryz.prog W = .ok v' w' ∧ OwnS w' W.heap.size v' xs ∧ W.grownBy w' none := by
  obtain ⟨i0, hi0, hz0, hz1, hz2⟩ := ninfo
  have main : ∀ (a : Addr) (cap : Nat), v = .slice (some a) xs.length cap → (∀ j u, (cellsL xs)[j]? = some u → W.cell? (a.add j) = some u) →
      ∃ v' w', (Builtin.append_ #[28, 28] ty #[.slice none 0 0, v]).run Tryz.prog W = .ok v' w' ∧ OwnS w' W.heap.size v' xs ∧ W.grownBy w' none := by
    intro a cap e hc
    subst e
    obtain ⟨v', w', h1, h2, h3, _⟩ := run_append_own (P := Tryz.prog) W W.heap.size 28 ty 75 i0 _ 9 88 Tryz.underlying28 hi0 hz0 hz1 hz2 rfl (by decide) (.slice none 0 0) 0 [] (World.ownsRow_nil _ _ _ _) a xs.length cap (cellsL xs) (cellsL_length xs) hc (cellsL_one xs)
      (by simp only [maxLen]; omega) (by omega) (Nat.le_refl _)
    refine ⟨v', w', h1, OwnS.of_row (by simp only [List.nil_append, Nat.zero_add] at h2; exact h2), h3⟩
  rcases hv with ⟨a, cap, rfl, rfl, _⟩ | ⟨b, off, cap, rfl, _, _, _, _, hr⟩
  · cases a with
    | none =>
      refine ⟨.slice none 0 0, W, ?_, .inl ⟨rfl, rfl⟩, ⟨rfl, rfl, rfl, Nat.le_refl _, fun _ _ _ => rfl⟩⟩
      simp [Builtin.append_, run_underlying Tryz.underlying28, sizeOf, typeInfo, hi0, Builtin.lenOf, Builtin.firstCells]
    | some a => exact main a cap rfl (fun j u h => by simp [cellsL] at h)
  · exact main ⟨b, off, none⟩ cap rfl (fun j u h => by rw [Addr.add_lit]; exact hr j u h)
theorem wpList_copyN {w : World} {ops : Array Oper} {rest : List Oper} {o : Oper} {a : Act} {Q : Exit → Act → World → Prop} (hgd : Region.wanted o (yielded ops a.tmps) = true) (s x : Operand)
    (ho : o.op = .call { callee := .builtin .append, args := #[s, x], argTypes := #[28, 28] })
    (hs : a.eval s = .slice none 0 0) (v : Value) (hx : a.eval x = v) (xs : List Nd) (hv : SeqV w v xs) (hl : xs.length * 88 ≤ 140737488355328)
    (h : ∀ v' w', OwnS w' w.heap.size v' xs → w.grownBy w' none → wpList Tryz.prog ops Q rest (a.put o.dst v') w') : wpList Tryz.prog ops Q (o :: rest) a w := by
  obtain ⟨v', w', hr, h2, h3⟩ := run_copyN w o.type v xs hv hl
  refine wpList_step fun K hK => ?_
  rw [if_pos hgd]
  unfold Oper.wp execOp
  simp only [ho, resolve, invoke, builtin, Sem.run_bind, Sem.run_pure, Result.andThen_ok, List.map_toArray, List.map_cons, List.map_nil, hs, hx, hr]
  exact hK _ _ (h v' w' h2 h3)
theorem run_copyI (W : World) (ty : TypeId) (v : Value) (xs : List Int) (hv : SeqV W v xs) (hl : xs.length * 8 ≤ 140737488355328) :
    ∃ v' w', (Builtin.append_ #[29, 29] ty #[.slice none 0 0, v]).run Tryz.prog W = .ok v' w' ∧ OwnS w' W.heap.size v' xs ∧ W.grownBy w' none := by
  obtain ⟨i0, hi0, hz0, hz1, hz2⟩ := iinfo
  have main : ∀ (a : Addr) (cap : Nat), v = .slice (some a) xs.length cap → (∀ j u, (cellsL xs)[j]? = some u → W.cell? (a.add j) = some u) →
      ∃ v' w', (Builtin.append_ #[29, 29] ty #[.slice none 0 0, v]).run Tryz.prog W = .ok v' w' ∧ OwnS w' W.heap.size v' xs ∧ W.grownBy w' none := by
    intro a cap e hc
    subst e
    obtain ⟨v', w', h1, h2, h3, _⟩ := run_append_own (P := Tryz.prog) W W.heap.size 29 ty 3 i0 _ 1 8 Tryz.underlying29 hi0 hz0 hz1 hz2 rfl (by decide) (.slice none 0 0) 0 [] (World.ownsRow_nil _ _ _ _) a xs.length cap (cellsL xs) (cellsL_length xs) hc (cellsL_one xs)
      (by simp only [maxLen]; omega) (by omega) (Nat.le_refl _)
    refine ⟨v', w', h1, OwnS.of_row (by simp only [List.nil_append, Nat.zero_add] at h2; exact h2), h3⟩
  rcases hv with ⟨a, cap, rfl, rfl, _⟩ | ⟨b, off, cap, rfl, _, _, _, _, hr⟩
  · cases a with
    | none =>
      refine ⟨.slice none 0 0, W, ?_, .inl ⟨rfl, rfl⟩, ⟨rfl, rfl, rfl, Nat.le_refl _, fun _ _ _ => rfl⟩⟩
      simp [Builtin.append_, run_underlying Tryz.underlying29, sizeOf, typeInfo, hi0, Builtin.lenOf, Builtin.firstCells]
    | some a => exact main a cap rfl (fun j u h => by simp [cellsL] at h)
  · exact main ⟨b, off, none⟩ cap rfl (fun j u h => by rw [Addr.add_lit]; exact hr j u h)
theorem wpList_copyI {w : World} {ops : Array Oper} {rest : List Oper} {o : Oper} {a : Act} {Q : Exit → Act → World → Prop} (hgd : Region.wanted o (yielded ops a.tmps) = true) (s x : Operand)
    (ho : o.op = .call { callee := .builtin .append, args := #[s, x], argTypes := #[29, 29] })
    (hs : a.eval s = .slice none 0 0) (v : Value) (hx : a.eval x = v) (xs : List Int) (hv : SeqV w v xs) (hl : xs.length * 8 ≤ 140737488355328)
    (h : ∀ v' w', OwnS w' w.heap.size v' xs → w.grownBy w' none → wpList Tryz.prog ops Q rest (a.put o.dst v') w') : wpList Tryz.prog ops Q (o :: rest) a w := by
  obtain ⟨v', w', hr, h2, h3⟩ := run_copyI w o.type v xs hv hl
  refine wpList_step fun K hK => ?_
  rw [if_pos hgd]
  unfold Oper.wp execOp
  simp only [ho, resolve, invoke, builtin, Sem.run_bind, Sem.run_pure, Result.andThen_ok, List.map_toArray, List.map_cons, List.map_nil, hs, hx, hr]
  exact hK _ _ (h v' w' h2 h3)
/-- a tree's box at q, a box for the answer behind it -/
structure OB (w W : World) (z : Int) (vn vs : Value) : Prop where
  t : W.heap[w.heap.size]? = some (.cells #[.int .i64 z, vn, vs] 31 (0, 0))
  r : W.heap[w.heap.size + 1]? = some (.cells #[.int .i64 0, .slice none 0 0, .slice none 0 0] 31 (0, 0))
  b : Below w.heap.size w W
theorem OB.new (w : World) (z : Int) (vn vs : Value) : OB w ((w.alloc (.cells #[.int .i64 z, vn, vs] 31)).alloc (.cells #[.int .i64 0, .slice none 0 0, .slice none 0 0] 31)) z vn vs := by
  refine ⟨?_, ?_, nnext (allocB _ _) (allocB _ _)⟩
  · rw [(allocB _ _).block _ (by simp)]
    exact heap_alloc_new w _
  · have h := heap_alloc_new (w.alloc (.cells #[.int .i64 z, vn, vs] 31)) (.cells #[.int .i64 0, .slice none 0 0, .slice none 0 0] 31)
    rw [show (w.alloc (.cells #[.int .i64 z, vn, vs] 31)).heap.size = w.heap.size + 1 by simp] at h
    exact h
theorem OB.lt {w W : World} {z : Int} {vn vs : Value} (h : OB w W z vn vs) : w.heap.size + 1 < W.heap.size := (Array.getElem?_eq_some_iff.1 h.r).1
theorem OB.next {w W V : World} {z : Int} {vn vs : Value} (h : OB w W z vn vs) (hb : Below W.heap.size W V) : OB w V z vn vs := by
  have := h.lt
  exact ⟨(hb.block _ (by omega)).trans h.t, (hb.block _ (by omega)).trans h.r, nnext h.b hb⟩
theorem OB.drew {w W : World} {z : Int} {vn vs : Value} (h : OB w W z vn vs) : OB w W.drew z vn vs := h.next (Below.refl _ _).drew
theorem grown_below {W V : World} (h : W.grownBy V none) : Below W.heap.size W V := ⟨h.os, h.tape, h.output, h.size, fun k hk => h.block k hk (by simp)⟩
theorem OB.grown {w W V : World} {z : Int} {vn vs : Value} (h : OB w W z vn vs) (hg : W.grownBy V none) : OB w V z vn vs := h.next (grown_below hg)
theorem OB.cells {w W : World} {z : Int} {vn vs : Value} (h : OB w W z vn vs) : W.cell? ⟨w.heap.size, 0, none⟩ = some (.int .i64 z) ∧ W.cell? ⟨w.heap.size, 1, none⟩ = some vn ∧ W.cell? ⟨w.heap.size, 2, none⟩ = some vs ∧ W.frozen? ⟨w.heap.size, 1, none⟩ = false ∧ W.frozen? ⟨w.heap.size, 2, none⟩ = false := by
  have h1 := h.t
  refine ⟨?_, ?_, ?_, ?_, ?_⟩ <;> simp [World.cell?, World.frozen?, h1]
theorem OB.res {w W : World} {z : Int} {vn vs : Value} (h : OB w W z vn vs) : W.cell? ⟨w.heap.size + 1, 0, none⟩ = some (.int .i64 0) ∧ W.cell? ⟨w.heap.size + 1, 1, none⟩ = some (.slice none 0 0) ∧ W.cell? ⟨w.heap.size + 1, 2, none⟩ = some (.slice none 0 0) ∧ W.frozen? ⟨w.heap.size + 1, 0, none⟩ = false ∧ W.frozen? ⟨w.heap.size + 1, 1, none⟩ = false ∧ W.frozen? ⟨w.heap.size + 1, 2, none⟩ = false := by
  have h1 := h.r
  refine ⟨?_, ?_, ?_, ?_, ?_, ?_⟩ <;> simp [World.cell?, World.frozen?, h1]
theorem OB.put {w W : World} {z : Int} {vn vs : Value} (h : OB w W z vn vs) (v : Value) (c : Nat) (vn' vs' : Value) (hc : (#[.int .i64 z, vn, vs] : Array Value).set! c v = #[.int .i64 z, vn', vs']) : OB w (W.setCell ⟨w.heap.size, c, none⟩ v) z vn' vs' := by
  refine ⟨?_, (Below.heap_setCell _ _ _ _ (by simp)).trans h.r, h.b.setCell (by simp) _⟩
  rw [block_set v h.t, ← hc]
  simp
/-- copied, but for the answer -/
def OwnQ (w : World) (z : Int) (ns : List Nd) (ss : List Int) (wx : World) : Prop :=
  ∃ an cn ai ci, OB w wx z (.slice an ns.length cn) (.slice ai ss.length ci) ∧ OwnS wx (w.heap.size + 2) (.slice an ns.length cn) ns ∧ OwnS wx (w.heap.size + 2) (.slice ai ss.length ci) ss
theorem OwnQ.next {w W V : World} {z : Int} {ns : List Nd} {ss : List Int} (h : OwnQ w z ns ss W) (hb : Below W.heap.size W V) : OwnQ w z ns ss V := by
  obtain ⟨an, cn, ai, ci, h1, h2, h3⟩ := h
  exact ⟨an, cn, ai, ci, h1.next hb, h2.next hb, h3.next hb⟩
/-- what a copy gives -/
def GivesT (w : World) (t : Tr) (e : Ending) (w' : World) : Prop :=
  ∃ vn vs, e = .returned (.agg #[.int .i64 t.z, vn, vs]) ∧ OwnS w' w.heap.size vn t.ns ∧ OwnS w' w.heap.size vs t.ss ∧ Below w.heap.size w w'
theorem gives_copy {w W : World} {t : Tr} {an ai : Option Addr} {cn ci : Nat} {v0 v1 v2 : Value} (h : OB w W t.z (.slice an t.ns.length cn) (.slice ai t.ss.length ci)) (hn : OwnS W (w.heap.size + 2) (.slice an t.ns.length cn) t.ns) (hs : OwnS W (w.heap.size + 2) (.slice ai t.ss.length ci) t.ss) :
    GivesT w t (.returned (.agg #[.int .i64 t.z, .slice an t.ns.length cn, .slice ai t.ss.length ci])) (((W.setCell ⟨w.heap.size + 1, 0, none⟩ v0).setCell ⟨w.heap.size + 1, 1, none⟩ v1).setCell ⟨w.heap.size + 1, 2, none⟩ v2) := by
  have no : ∀ {α : Type} [Lay α] {v : Value} {xs : List α}, OwnS W (w.heap.size + 2) v xs → v.ownBlock ≠ some (w.heap.size + 1) := by
    intro α _ v xs ho e
    rcases ho with ⟨rfl, _⟩ | ⟨g, cap, rfl, hB, _⟩
    · cases e
    · simp [Value.ownBlock] at e; omega
  exact ⟨_, _, rfl, (((hn.lower (by omega)).other (no hn) _).other (no hn) _).other (no hn) _, (((hs.lower (by omega)).other (no hs) _).other (no hs) _).other (no hs) _, ((h.b.setCell (by simp) _).setCell (by simp) _).setCell (by simp) _⟩

set_option maxRecDepth 20000 in
set_option maxHeartbeats 2000000 in
theorem rcopyT_any (t : Tr) (vn vs : Value) (w : World) (hn : SeqV w vn t.ns) (hs : SeqV w vs t.ss) (hl : t.ns.length * 88 ≤ 140737488355328) (hls : t.ss.length * 8 ≤ 140737488355328) :
    Calls Tryz.prog 16 #[.agg #[.int .i64 t.z, vn, vs]] w (GivesT w t) := by
  have HN := hide (fun W (hW : Below w.heap.size w W) => hn.next hW)
  have HS := hide (fun W (hW : Below w.heap.size w W) => hs.next hW)
  obtain ⟨na, nc, rfl⟩ := seq_slice hn
  obtain ⟨sa, sc, rfl⟩ := seq_slice hs
  have O0 := hide (OB.new w t.z (.slice na t.ns.length nc) (.slice sa t.ss.length sc))
  clear hn hs
  go_enter Tryz.func16, Tryz.ntmps16
  go_wp2_with (at_builtin; refine wpList_copyN (by kernel_rfl) _ _ rfl rfl (.slice na t.ns.length nc) rfl t.ns (unhide HN _ (unhide O0).b) hl ?_)
  intro vN wN ho hg
  have ON := hide ((unhide O0).grown hg)
  have GN := hide (ho.lower (C := w.heap.size + 2) (by simp))
  obtain ⟨an, cn, rfl, _⟩ := ho.slice
  have q1 := (unhide ON).put (.slice an t.ns.length cn) 1 _ _ rfl
  have GN1 := hide ((unhide GN).other (a := ⟨w.heap.size, 1, none⟩) (by
    intro e
    rcases unhide GN with ⟨h, _⟩ | ⟨g, cap, h, hB, _⟩
    · rw [h] at e; cases e
    · rw [h] at e; simp [Value.ownBlock] at e; omega) (.slice an t.ns.length cn))
  have HO1 := hide q1
  obtain ⟨n0, n1, n2, n3, n4⟩ := (unhide ON).cells
  obtain ⟨m0, m1, m2, m3, m4⟩ := q1.cells
  clear ho hg q1
  go_wp2_with (at_builtin; refine wpList_copyI (by kernel_rfl) _ _ rfl rfl (.slice sa t.ss.length sc) rfl t.ss (unhide HS _ (unhide HO1).b) hls ?_)
  intro vI wI ho hg
  have OI := (unhide HO1).grown hg
  have SI := (unhide ON).lt
  have GI := ho.lower (C := w.heap.size + 2) SI
  have GN2 := (unhide GN1).next (grown_below hg)
  obtain ⟨ai, ci, rfl, _⟩ := ho.slice
  have nI : (Value.slice ai t.ss.length ci).ownBlock ≠ some w.heap.size := by
    intro e
    rcases GI with ⟨h, _⟩ | ⟨g, cap, h, hB, _⟩
    · rw [h] at e; cases e
    · rw [h] at e; simp [Value.ownBlock] at e; omega
  have nN : (Value.slice an t.ns.length cn).ownBlock ≠ some w.heap.size := by
    intro e
    rcases GN2 with ⟨h, _⟩ | ⟨g, cap, h, hB, _⟩
    · rw [h] at e; cases e
    · rw [h] at e; simp [Value.ownBlock] at e; omega
  have Q : Hid (OwnQ w t.z t.ns t.ss (wI.setCell ⟨w.heap.size, 2, none⟩ (.slice ai t.ss.length ci))) := ⟨an, cn, ai, ci, OI.put _ 2 _ _ rfl, GN2.other nN _, GI.other nI _⟩
  obtain ⟨i0, i1, i2, i3, i4⟩ := OI.cells
  clear ho hg GI GN2 nI nN OI HN HS O0 ON GN GN1 HO1
  go_upto_region 3 with fail
  generalize hwq : wI.setCell ⟨w.heap.size, 2, none⟩ (.slice ai t.ss.length ci) = wq at *
  · have hq := Q
    clear hwq Q
    obtain ⟨an, cn, ai, ci, q, qn, qs⟩ := unhide hq
    obtain ⟨c0, c1, c2, _, _⟩ := q.cells
    obtain ⟨r0, r1, r2, f0, f1, f2⟩ := q.res
    have FIN := hide (fun (v0 v1 v2 : Value) => gives_copy (v0 := v0) (v1 := v1) (v2 := v2) (t := t) q qn qs)
    have hne : w.heap.size ≠ w.heap.size + 1 := by omega
    clear q qn qs hq
    go_wp2_with fail
    exact bodyPost_ret (v := .agg #[.int .i64 t.z, .slice an t.ns.length cn, .slice ai t.ss.length ci]) (by simp [results, Tryz.results16, go_sem, r0, r1, r2]) rfl (unhide FIN _ _ _)

/- New, Get -/
theorem one_root (w : World) : OwnS (w.alloc (.cells #[.string ⟨#[47]⟩, .string ⟨#[]⟩, .int .i64 0, .int .i64 0, .int .i64 0, .int .i64 0, .int .i64 0, .int .i64 0, .int .i64 0] 75)) w.heap.size (.slice (some ⟨w.heap.size, 0, none⟩) 1 1) [nroot] :=
  .inr ⟨w.heap.size, 1, rfl, Nat.le_refl _, [], by rw [heap_alloc_new]; rfl, by decide, by decide, by decide⟩
set_option maxRecDepth 20000 in
set_option maxHeartbeats 1000000 in
theorem tnew_any (w : World) : Calls Tryz.prog 54 #[] w (GivesT w trNew) := by
  have H : Hid (GivesT w trNew (.returned (.agg #[.int .i64 0, .slice (some ⟨w.heap.size + 1, 0, none⟩) 1 1, .slice none 0 0])) ((w.alloc (.cells #[.int .i64 0, .slice (some ⟨w.heap.size + 1, 0, none⟩) 1 1, .slice none 0 0] 31)).alloc (.cells #[.string ⟨#[47]⟩, .string ⟨#[]⟩, .int .i64 0, .int .i64 0, .int .i64 0, .int .i64 0, .int .i64 0, .int .i64 0, .int .i64 0] 75))) := by
    have h := one_root (w.alloc (.cells #[.int .i64 0, .slice (some ⟨w.heap.size + 1, 0, none⟩) 1 1, .slice none 0 0] 31))
    rw [show (w.alloc (.cells #[.int .i64 0, .slice (some ⟨w.heap.size + 1, 0, none⟩) 1 1, .slice none 0 0] 31)).heap.size = w.heap.size + 1 by simp] at h
    exact ⟨_, _, rfl, h.lower (by omega), .inl ⟨rfl, rfl⟩, nnext (allocB _ _) (allocB _ _)⟩
  go_enter Tryz.func54, Tryz.ntmps54
  go_wp2_with fail
  exact bodyPost_ret (v := .agg #[.int .i64 0, .slice (some ⟨w.heap.size + 1, 0, none⟩) 1 1, .slice none 0 0]) (by simp [results, Tryz.results54, go_sem]) rfl (unhide H)
end Go.Proofs.YtfejpbkapikdiaaGreatDoor

namespace Go.Proofs.YtfejpbkapikdiaaGreatDoor
open Go.RowKit

/-- a tree's box, and a node's for the answer -/
structure GB (w W : World) (z : Int) (vn vs : Value) : Prop where
  t : W.heap[w.heap.size]? = some (.cells #[.int .i64 z, vn, vs] 31 (0, 0))
  r : W.heap[w.heap.size + 1]? = some (.cells #[.string ⟨#[]⟩, .string ⟨#[]⟩, .int .i64 0, .int .i64 0, .int .i64 0, .int .i64 0, .int .i64 0, .int .i64 0, .int .i64 0] 75 (0, 0))
  b : Below w.heap.size w W
theorem GB.new (w : World) (z : Int) (vn vs : Value) : GB w ((w.alloc (.cells #[.int .i64 z, vn, vs] 31)).alloc (.cells #[.string ⟨#[]⟩, .string ⟨#[]⟩, .int .i64 0, .int .i64 0, .int .i64 0, .int .i64 0, .int .i64 0, .int .i64 0, .int .i64 0] 75)) z vn vs := by
  refine ⟨?_, ?_, nnext (allocB _ _) (allocB _ _)⟩
  · rw [(allocB _ _).block _ (by simp)]
    exact heap_alloc_new w _
  · have h := heap_alloc_new (w.alloc (.cells #[.int .i64 z, vn, vs] 31)) (.cells #[.string ⟨#[]⟩, .string ⟨#[]⟩, .int .i64 0, .int .i64 0, .int .i64 0, .int .i64 0, .int .i64 0, .int .i64 0, .int .i64 0] 75)
    rw [show (w.alloc (.cells #[.int .i64 z, vn, vs] 31)).heap.size = w.heap.size + 1 by simp] at h
    exact h
theorem GB.lt {w W : World} {z : Int} {vn vs : Value} (h : GB w W z vn vs) : w.heap.size + 1 < W.heap.size := (Array.getElem?_eq_some_iff.1 h.r).1
theorem GB.next {w W V : World} {z : Int} {vn vs : Value} (h : GB w W z vn vs) (hb : Below W.heap.size W V) : GB w V z vn vs := by
  have := h.lt
  exact ⟨(hb.block _ (by omega)).trans h.t, (hb.block _ (by omega)).trans h.r, nnext h.b hb⟩
theorem GB.c1 {w W : World} {z : Int} {vn vs : Value} (h : GB w W z vn vs) : W.cell? ⟨w.heap.size, 1, none⟩ = some vn := by simp [World.cell?, h.t]
theorem GB.one {w W : World} {z : Int} {vn vs : Value} (h : GB w W z vn vs) : OneR W (w.heap.size + 1) nzero := h.r

/- Kids -/
end Go.Proofs.YtfejpbkapikdiaaGreatDoor

namespace Go.Proofs.YtfejpbkapikdiaaGreatDoor
open Go.RowKit

/-- the boxes of a tree and of a transaction -/
structure TX (W : World) (qt qx : Nat) (z : Int) (vn vs : Value) (x : WTxn) : Prop where
  t : W.heap[qt]? = some (.cells #[.int .i64 z, vn, vs] 31 (0, 0))
  x : TAt W qx x
theorem TX.lt {W : World} {qt qx : Nat} {z : Int} {vn vs : Value} {x : WTxn} (h : TX W qt qx z vn vs x) : qt < W.heap.size ∧ qx < W.heap.size := ⟨(Array.getElem?_eq_some_iff.1 h.t).1, h.x.lt⟩
theorem TX.next {W V : World} {qt qx : Nat} {z : Int} {vn vs : Value} {x : WTxn} (h : TX W qt qx z vn vs x) (hb : Below W.heap.size W V) : TX V qt qx z vn vs x := ⟨(hb.block _ h.lt.1).trans h.t, h.x.next hb⟩
theorem TX.drew {W : World} {qt qx : Nat} {z : Int} {vn vs : Value} {x : WTxn} (h : TX W qt qx z vn vs x) : TX W.drew qt qx z vn vs x := h.next (Below.refl _ _).drew
theorem TX.other {W : World} {qt qx : Nat} {z : Int} {vn vs : Value} {x : WTxn} (h : TX W qt qx z vn vs x) {a : Addr} (v : Value) (h1 : qt ≠ a.block) (h2 : qx ≠ a.block) : TX (W.setCell a v) qt qx z vn vs x :=
  ⟨(Below.heap_setCell W a v qt h1).trans h.t, (Below.heap_setCell W a v qx h2).trans h.x⟩
theorem TX.ten {W : World} {qt qx : Nat} {z : Int} {vn vs : Value} {x : WTxn} (h : TX W qt qx z vn vs x) : W.cell? ⟨qt, 0, none⟩ = some (.int .i64 z) ∧ W.cell? ⟨qt, 1, none⟩ = some vn ∧ W.cell? ⟨qt, 2, none⟩ = some vs ∧ W.cell? ⟨qx, 0, none⟩ = some (.int .i64 x.z) ∧ W.cell? ⟨qx, 1, none⟩ = some (.int .i64 x.o) ∧ W.cell? ⟨qx, 2, none⟩ = some (.int .i64 x.s) ∧ W.cell? ⟨qx, 3, none⟩ = some (.string ⟨x.p.toArray⟩) ∧ W.cell? ⟨qx, 4, none⟩ = some (.string ⟨x.d.toArray⟩) ∧ W.cell? ⟨qx, 5, none⟩ = some (.int .i64 x.v) ∧ W.cell? ⟨qx, 6, none⟩ = some (.int .i64 x.w) := by
  have h1 := h.t
  refine ⟨?_, ?_, ?_, h.x.c0, h.x.c1, h.x.c2, h.x.c3, h.x.c4, h.x.c5, h.x.c6⟩ <;> simp [World.cell?, h1]
theorem TX.new (w : World) (z : Int) (vn vs : Value) (x : WTxn) : TX ((w.alloc (.cells #[.int .i64 z, vn, vs] 31)).alloc (.cells #[.int .i64 x.z, .int .i64 x.o, .int .i64 x.s, .string ⟨x.p.toArray⟩, .string ⟨x.d.toArray⟩, .int .i64 x.v, .int .i64 x.w] 45)) w.heap.size (w.heap.size + 1) z vn vs x := by
  refine ⟨?_, ?_⟩
  · rw [(allocB _ _).block _ (by simp)]
    exact heap_alloc_new w _
  · have h := TAt.new (w.alloc (.cells #[.int .i64 z, vn, vs] 31)) x
    simpa using h
/-- a tree in a box q, with its events: all of the call's own -/
structure AppX (W wx : World) (q : Nat) (t : Tr) (es : List Ev) (vn vs ve : Value) : Prop where
  box : wx.heap[q]? = some (.cells #[.int .i64 t.z, vn, vs] 31 (0, 0))
  n : OwnS wx W.heap.size vn t.ns
  s : OwnS wx W.heap.size vs t.ss
  e : OwnS wx W.heap.size ve es
  qb : W.heap.size ≤ q
  b : Below W.heap.size W wx
theorem AppX.lt {W wx : World} {q : Nat} {t : Tr} {es : List Ev} {vn vs ve : Value} (h : AppX W wx q t es vn vs ve) : q < wx.heap.size := (Array.getElem?_eq_some_iff.1 h.box).1
theorem AppX.next {W wx wy : World} {q : Nat} {t : Tr} {es : List Ev} {vn vs ve : Value} (h : AppX W wx q t es vn vs ve) (hb : Below wx.heap.size wx wy) : AppX W wy q t es vn vs ve :=
  ⟨(hb.block _ h.lt).trans h.box, h.n.next hb, h.s.next hb, h.e.next hb, h.qb, nnext h.b hb⟩
theorem AppX.cells {W wx : World} {q : Nat} {t : Tr} {es : List Ev} {vn vs ve : Value} (h : AppX W wx q t es vn vs ve) : wx.cell? ⟨q, 0, none⟩ = some (.int .i64 t.z) ∧ wx.cell? ⟨q, 1, none⟩ = some vn ∧ wx.cell? ⟨q, 2, none⟩ = some vs := by
  have h1 := h.box
  refine ⟨?_, ?_, ?_⟩ <;> simp [World.cell?, h1]
theorem GoodT.wf {t : Tr} (g : GoodT t) : WfT t := by
  refine ⟨fun s hs => by have := g.ses.2 s hs; omega, fun n hn => ?_⟩
  have k := g.nod.ok n hn
  have := goodB_le k.path
  have := k.data
  omega
end Go.Proofs.YtfejpbkapikdiaaGreatDoor

namespace Go.Proofs.YtfejpbkapikdiaaGreatDoor
open Go.RowKit

theorem rret {a b : Bool} (h : a = b) : Ending.returned (.bool a) = .returned (.bool b) := by rw [h]
set_option maxRecDepth 10000 in
set_option maxHeartbeats 1000000 in
theorem rhas_any (v : Value) (ss : List Int) (s : Int) (w : World) (hv : SeqV w v ss) (hl : ss.length ≤ 140737488355328) :
    Calls Tryz.prog 74 #[v, .int .i64 s] w fun e w' => e = .returned (.bool (decide (s ∈ ss))) ∧ w' = w := by
  have KR : ∀ (i : Nat) (x : Int), ss[i]? = some x → ∃ b off c, v = .slice (some ⟨b, off, none⟩) ss.length c ∧ w.cell? ⟨b, off + i, none⟩ = some (.int .i64 x) := by
    intro i x hx
    obtain ⟨b, off, c, e, _, hr, _, _⟩ := seq_row hv (by intro h0; rw [h0] at hx; simp at hx)
    exact ⟨b, off, c, e, hr.i0 hx⟩
  have HKR := hide KR
  obtain ⟨va, vc, rfl⟩ := seq_slice hv
  clear hv KR
  go_enter Tryz.func74, Tryz.ntmps74
  go_wp2_with fail
  go_loopg [9] ss.length (fun kx s9 wr => ∃ k : Nat, s9 = .int .i64 k ∧ k ≤ ss.length ∧ ss.length - k ≤ kx ∧ Hid (∀ x ∈ ss.take k, ¬ s = x) ∧ w = wr)
  case atStart => exact ⟨0, rfl, Nat.zero_le _, Nat.le_refl _, hide (by simp), rfl⟩
  case round =>
    obtain ⟨k, rfl, hk, hg, hN, hwr⟩ := hrel
    subst hwr
    by_cases hlt : k < ss.length
    · obtain ⟨x, hx⟩ : ∃ x, ss[k]? = some x := ⟨_, List.getElem?_eq_getElem hlt⟩
      obtain ⟨b, off, c, he, hc⟩ := unhide HKR k x hx
      simp only [Value.slice.injEq] at he
      obtain ⟨rfl, _, rfl⟩ := he
      have HX := hide hx
      clear hx
      by_cases hs : s = x
      · have hb : (s == x) = true := by simpa using hs
        have HS := hide hs
        clear hs
        go_wp2_with fail
        go_ret
        exact ⟨rret (decide_eq_true (by rw [unhide HS]; exact List.mem_of_getElem? (unhide HX))).symm, rfl⟩
      · have hb : (s == x) = false := by simpa using hs
        have HS := hide hs
        clear hs
        go_wp2_with fail
        go_roundg (ss.length - (k + 1))
        case measure => omega
        case rel =>
          refine ⟨k + 1, rfl, by omega, Nat.le_refl _, hide ?_, rfl⟩
          intro y hy
          rw [List.take_add_one, unhide HX] at hy
          rcases List.mem_append.1 hy with h | h
          · exact unhide hN y h
          · obtain rfl : y = x := by simpa using h
            exact unhide HS
    · obtain rfl : k = ss.length := by omega
      have hno : s ∉ ss := fun h => by
        have := unhide hN s (by rw [List.take_length]; exact h)
        exact this rfl
      have HNO := hide hno
      clear hno
      go_wp2_with fail
      go_ret
      exact ⟨rret (decide_eq_false (unhide HNO)).symm, rfl⟩

set_option maxRecDepth 10000 in
set_option maxHeartbeats 400000 in
theorem risopen_any (z : Int) (vn vs : Value) (ss : List Int) (s : Int) (w : World) (hv : SeqV w vs ss) (hl : ss.length ≤ 140737488355328) :
    Calls Tryz.prog 46 #[.agg #[.int .i64 z, vn, vs], .int .i64 s] w fun e w' => e = .returned (.bool (decide (s ∈ ss))) ∧ Below w.heap.size w w' := by
  have C := hide (fun W (hW : Below w.heap.size w W) => rhas_any vs ss s W (hv.next hW) hl)
  obtain ⟨a, c, rfl⟩ := seq_slice hv
  clear hv
  generalize decide (s ∈ ss) = hd at C ⊢
  generalize ss.length = n at C ⊢
  go_enter Tryz.func46, Tryz.ntmps46
  go_wp2_with fail
  refine (unhide C _ (allocB _ _)).mono ?_
  rintro e w1 ⟨rfl, rfl⟩
  go_wp2_with fail
  go_ret
  exact ⟨rfl, allocB _ _⟩

/-- the first place of a path -/
structure At (ns : List Nd) (p : List UInt8) (k : Nat) (n : Nd) : Prop where
  at' : ns[k]? = some n
  nm : n.p = p
  no : ∀ i m, i < k → ns[i]? = some m → m.p ≠ p
theorem at_there {ns A B : List Nd} {n : Nd} {p : List UInt8} (T : NThere ns A n B p) : At ns p A.length n := by
  refine ⟨by rw [T.eq]; exact nat_at A n B, T.nm, fun i m hi hm => ?_⟩
  rw [T.eq, List.getElem?_append_left hi] at hm
  exact bl_ne (T.lo m (List.mem_of_getElem? hm))

set_option maxRecDepth 20000 in
set_option maxHeartbeats 2000000 in
theorem rnode_at (z : Int) (vn vs : Value) (ns : List Nd) (p : List UInt8) (j : Nat) (n : Nd) (w : World) (hv : SeqV w vn ns) (hl : ns.length ≤ 140737488355328) (T : At ns p j n) :
    Calls Tryz.prog 47 #[.agg #[.int .i64 z, vn, vs], .string ⟨p.toArray⟩] w fun e w' => e = .returned (.int .i64 j) ∧ Below w.heap.size w w' := by
  have hjl : j < ns.length := (List.getElem?_eq_some_iff.1 T.at').1
  obtain ⟨b, off, cap, rfl, hb, hr, _, _⟩ := seq_row hv (by intro h0; rw [h0] at hjl; simp at hjl)
  have HR := hide (fun W (hW : Below w.heap.size w W) => hr.kept hW hb)
  have HT := hide T
  clear hv hr T
  go_enter Tryz.func47, Tryz.ntmps47
  go_wp2_with fail
  go_loopg [10] ns.length (fun kx s10 wr => ∃ k : Nat, s10 = .int .i64 k ∧ k ≤ j ∧ ns.length - k ≤ kx ∧ Hid (Below w.heap.size w wr))
  case atStart => exact ⟨0, rfl, Nat.zero_le _, Nat.le_refl _, hide (allocB _ _)⟩
  case round =>
    obtain ⟨k, rfl, hk, hg, hB⟩ := hrel
    obtain ⟨x, hx⟩ : ∃ x, ns[k]? = some x := ⟨_, List.getElem?_eq_getElem (by omega)⟩
    have hlt : k < ns.length := by omega
    have q := unhide HR wr (unhide hB)
    have d0 := q.n0 hx
    have d1 := q.n1 hx
    have d2 := q.n2 hx
    have d3 := q.n3 hx
    have d4 := q.n4 hx
    have d5 := q.n5 hx
    have d6 := q.n6 hx
    have d7 := q.n7 hx
    have d8 := q.n8 hx
    have hbw : b < wr.heap.size := Nat.lt_of_lt_of_le hb (unhide hB).size
    have HB1 := hide (nnext (unhide hB) (allocB wr (.cells #[.string ⟨x.p.toArray⟩, .string ⟨x.d.toArray⟩, .int .i64 x.c, .int .i64 x.m, .int .i64 x.q, .int .i64 x.v, .int .i64 x.k, .int .i64 x.o, .int .i64 x.n] 75)))
    clear q
    by_cases hkj : k = j
    · have hxn : x.p = p := by
        have := (unhide HT).at'
        rw [← hkj, hx] at this
        cases this
        exact (unhide HT).nm
      have hpb : (x.p == p) = true := by simpa using hxn
      have HKJ := hide hkj
      clear hxn hx hkj
      go_wp2_with fail
      go_ret
      exact ⟨by have h := unhide HKJ; subst h; rfl, unhide HB1⟩
    · have hxn : x.p ≠ p := (unhide HT).no k x (by omega) hx
      have hpb : (x.p == p) = false := by simpa using hxn
      clear hxn hx
      go_wp2_with fail
      go_roundg (ns.length - (k + 1))
      case measure => omega
      case rel => exact ⟨k + 1, rfl, by omega, Nat.le_refl _, HB1⟩

set_option maxRecDepth 20000 in
set_option maxHeartbeats 2000000 in
theorem rnode_no (z : Int) (vn vs : Value) (ns : List Nd) (p : List UInt8) (w : World) (hv : SeqV w vn ns) (hl : ns.length ≤ 140737488355328) (G : ∀ n ∈ ns, n.p ≠ p) :
    Calls Tryz.prog 47 #[.agg #[.int .i64 z, vn, vs], .string ⟨p.toArray⟩] w fun e w' => e = .returned (.int .i64 (-1)) ∧ Below w.heap.size w w' := by
  have KR : ∀ W, Below w.heap.size w W → ∀ (i : Nat) (x : Nd), ns[i]? = some x → ∃ b off c, vn = .slice (some ⟨b, off, none⟩) ns.length c ∧ b < w.heap.size ∧ RowAt W b off (cellsL ns) := by
    intro W hW i x hx
    obtain ⟨b, off, c, e, hb, hr, _, _⟩ := seq_row hv (by intro h0; rw [h0] at hx; simp at hx)
    exact ⟨b, off, c, e, hb, hr.kept hW hb⟩
  have HKR := hide KR
  obtain ⟨va, vc, rfl⟩ := seq_slice hv
  have HG := hide G
  clear hv KR G
  go_enter Tryz.func47, Tryz.ntmps47
  go_wp2_with fail
  go_loopg [10] ns.length (fun kx s10 wr => ∃ k : Nat, s10 = .int .i64 k ∧ k ≤ ns.length ∧ ns.length - k ≤ kx ∧ Hid (Below w.heap.size w wr))
  case atStart => exact ⟨0, rfl, Nat.zero_le _, Nat.le_refl _, hide (allocB _ _)⟩
  case round =>
    obtain ⟨k, rfl, hk, hg, hB⟩ := hrel
    by_cases hlt : k < ns.length
    · obtain ⟨x, hx⟩ : ∃ x, ns[k]? = some x := ⟨_, List.getElem?_eq_getElem hlt⟩
      obtain ⟨b, off, c, he, hb, q⟩ := unhide HKR wr (unhide hB) k x hx
      simp only [Value.slice.injEq] at he
      obtain ⟨rfl, _, rfl⟩ := he
      have d0 := q.n0 hx
      have d1 := q.n1 hx
      have d2 := q.n2 hx
      have d3 := q.n3 hx
      have d4 := q.n4 hx
      have d5 := q.n5 hx
      have d6 := q.n6 hx
      have d7 := q.n7 hx
      have d8 := q.n8 hx
      have hbw : b < wr.heap.size := Nat.lt_of_lt_of_le hb (unhide hB).size
      have HB1 := hide (nnext (unhide hB) (allocB wr (.cells #[.string ⟨x.p.toArray⟩, .string ⟨x.d.toArray⟩, .int .i64 x.c, .int .i64 x.m, .int .i64 x.q, .int .i64 x.v, .int .i64 x.k, .int .i64 x.o, .int .i64 x.n] 75)))
      have hxn : x.p ≠ p := unhide HG x (List.mem_of_getElem? hx)
      have hpb : (x.p == p) = false := by simpa using hxn
      clear hxn hx q
      go_wp2_with fail
      go_roundg (ns.length - (k + 1))
      case measure => omega
      case rel => exact ⟨k + 1, rfl, by omega, Nat.le_refl _, HB1⟩
    · obtain rfl : k = ns.length := by omega
      go_wp2_with fail
      go_ret
      exact ⟨rfl, unhide hB⟩

end Go.Proofs.YtfejpbkapikdiaaGreatDoor

namespace Go.Proofs.YtfejpbkapikdiaaGreatDoor
open Go.RowKit

def okL : List UInt8 := [97, 98, 99, 100, 101, 102, 103, 104, 105, 106, 107, 108, 109, 110, 111, 112, 113, 114, 115, 116, 117, 118, 119, 120, 121, 122, 48, 49, 50, 51, 52, 53, 54, 55, 56, 57, 45, 95]
theorem ok_fin : ∀ n : Fin 256, okL.any (fun d => d == UInt8.ofNat n.val) = letterB (UInt8.ofNat n.val) := by decide +kernel
theorem ok_letter (c : UInt8) : okL.any (fun d => d == c) = letterB c := by
  have h := ok_fin ⟨c.toNat, c.toNat_lt⟩
  rwa [show UInt8.ofNat (⟨c.toNat, c.toNat_lt⟩ : Fin 256).val = c from by simp] at h

theorem any_take_succ (l : List UInt8) (j : Nat) (h : j < l.length) (c : UInt8) : (l.take (j + 1)).any (fun d => d == c) = ((l.take j).any (fun d => d == c) || l[j] == c) := by
  rw [List.take_succ_eq_append_getElem h, List.any_append]; simp

theorem val_bool {a b : Bool} (h : a = b) : Value.bool a = .bool b := by rw [h]
theorem u8_beq (c d : UInt8) : ((c.toNat : Int) == (d.toNat : Int)) = (d == c) := by
  rw [Bool.eq_iff_iff, beq_iff_eq, beq_iff_eq]
  constructor
  · intro h; exact (UInt8.toNat_inj.1 (by omega)).symm
  · rintro rfl; rfl
theorem ok_all (c : UInt8) : (okL.take 38).any (fun d => d == c) = okL.any (fun d => d == c) := rfl
theorem namedB_all {l : List UInt8} (h : l.all letterB = true) : namedB l = (decide (1 ≤ l.length) && decide (l.length ≤ 40)) := by
  rw [namedB, h, Bool.and_true]
theorem nm_true {n : Nat} (h : 0 < n) (h1 : n ≤ 40) : (decide (1 ≤ n) && decide (n ≤ 40)) = true := by
  rw [decide_eq_true (show 1 ≤ n from h), decide_eq_true h1]; rfl
theorem nm_long {n : Nat} (h1 : ¬ n ≤ 40) : (decide (1 ≤ n) && decide (n ≤ 40)) = false := by
  rw [decide_eq_false h1, Bool.and_false]
theorem nm_none {n : Nat} (h : ¬ 0 < n) : (decide (1 ≤ n) && decide (n ≤ 40)) = false := by
  rw [decide_eq_false (show ¬ 1 ≤ n from h), Bool.false_and]
theorem bytes_below (w : World) (e : TypeId) (s : ByteArray) : Below w.heap.size w (Lib.bytesWorld w e s) :=
  ⟨rfl, rfl, rfl, by rw [Lib.bytesWorld_size]; omega, fun k hk => Lib.bytesWorld_at_old w e s k hk⟩
theorem bytes_cell (w : World) (e : TypeId) (s : ByteArray) (l : List UInt8) (h : s.data.toList = l) (j : Nat) (hj : j < l.length) : (Lib.bytesWorld w e s).cell? ⟨w.heap.size, j, none⟩ = some (.int .u8 (l[j].toNat : Int)) := by
  subst h
  rw [Lib.bytesWorld_cell _ _ _ _ (by rw [Lib.size_eq]; exact hj), List.getD_eq_getElem?_getD, List.getElem?_eq_getElem hj]; rfl
theorem all_take_next {l : List UInt8} {k : Nat} (h : k < l.length) (p : UInt8 → Bool) (h1 : (l.take k).all p = true) (h2 : p l[k] = true) : (l.take (k + 1)).all p = true := by
  rw [List.take_succ_eq_append_getElem h, List.all_append, h1]; simpa using h2
theorem named_of_not {l : List UInt8} {k : Nat} (h : k < l.length) (h2 : letterB l[k] = false) : namedB l = false := by
  have : l.all letterB = false := by
    rw [List.all_eq_false]
    exact ⟨l[k], List.getElem_mem h, by simp [h2]⟩
  rw [namedB, this, Bool.and_false]

set_option maxRecDepth 10000 in
set_option maxHeartbeats 1000000 in
theorem refNamed_any (l : List UInt8) (w : World) (hl : l.length ≤ 140737488355328) :
    Calls Tryz.prog 101 #[.string ⟨l.toArray⟩] w fun e w' => e = .returned (.bool (namedB l)) ∧ Below w.heap.size w w' := by
  have hz : (ByteArray.mk l.toArray).size = l.length := Lib.size_eq ⟨l.toArray⟩
  have hconv : ∀ W s, (convert 9 148 (.string s)).run Tryz.prog W = .ok (.slice (some ⟨W.heap.size, 0, none⟩) s.size (grownCap W s.size 0 5)) (Lib.bytesWorld W 5 s) := fun W s =>
    Lib.run_convert_string_bytes W 9 148 5 s Tryz.underlying9 Tryz.underlying148 Tryz.underlying5
  go_enter Tryz.func101, Tryz.ntmps101
  go_wp2
  generalize hOK : (ByteArray.mk #[97, 98, 99, 100, 101, 102, 103, 104, 105, 106, 107, 108, 109, 110, 111, 112, 113, 114, 115, 116, 117, 118, 119, 120, 121, 122, 48, 49, 50, 51, 52, 53, 54, 55, 56, 57, 45, 95]) = OK
  have HOK : Hid (OK.data.toList = okL) := hide (by rw [← hOK]; rfl)
  have hOs : OK.size = 38 := by rw [← hOK]; rfl
  clear hOK
  generalize hW1 : Lib.bytesWorld w 5 ⟨l.toArray⟩ = W1
  have hs1 : W1.heap.size = w.heap.size + 1 := by rw [← hW1]; exact Lib.bytesWorld_size _ _ _
  have Hcell : Hid (∀ j (hj : j < l.length), W1.cell? ⟨w.heap.size, j, none⟩ = some (.int .u8 (l[j].toNat : Int))) := hide (fun j hj => by
    rw [← hW1]; exact bytes_cell w 5 ⟨l.toArray⟩ l rfl j hj)
  have hB1 : Below w.heap.size w W1 := by rw [← hW1]; exact bytes_below _ _ _
  clear hW1
  go_loopw [12] (fun i wr => ∃ k : Nat, k ≤ l.length ∧ i = .int .i64 k ∧ (l.take k).all letterB = true ∧ Below (w.heap.size + 1) W1 wr) (fun i _ => l.length - (intOf i).toNat)
  case atStart => exact ⟨0, Nat.zero_le _, rfl, by simp, Below.refl _ _⟩
  case round =>
    obtain ⟨k, hk, rfl, hall, hBr⟩ := hrel
    have Hall := hide hall
    clear hall
    by_cases hlt : k < l.length
    · have hc : wr.cell? ⟨w.heap.size, k, none⟩ = some (.int .u8 (l[k].toNat : Int)) := (hBr.cell (p := ⟨w.heap.size, k, none⟩) (by simp)).trans (unhide Hcell k hlt)
      generalize hcc : l[k] = c at hc
      have Hcc := hide hcc
      clear hcc
      have hcb := c.toNat_lt
      go_wp2
      generalize hW2 : Lib.bytesWorld wr 5 OK = W2
      have HW2 : Hid (∀ j (hj : j < okL.length), W2.cell? ⟨wr.heap.size, j, none⟩ = some (.int .u8 (okL[j].toNat : Int))) := hide (fun j hj => by
        rw [← hW2]; exact bytes_cell wr 5 OK okL (unhide HOK) j hj)
      have hB2 : Below (w.heap.size + 1) W1 W2 := by
        rw [← hW2]; exact hBr.trans ((bytes_below wr 5 OK).mono (by have := hBr.size; omega))
      clear hW2
      go_loop [6, 19] (fun t i => ∃ j : Nat, j ≤ 38 ∧ i = .int .i64 j ∧ t = .bool ((okL.take j).any (fun d => d == c))) (fun _ i => 38 - (intOf i).toNat)
      case atStart => exact ⟨0, Nat.zero_le _, rfl, by simp⟩
      case round =>
        obtain ⟨j, hj, rfl, rfl⟩ := hrel
        by_cases hjl : j < 38
        · have hd : W2.cell? ⟨wr.heap.size, j, none⟩ = some (.int .u8 ((okL[j]'hjl).toNat : Int)) := unhide HW2 j hjl
          have HS := hide (any_take_succ okL j hjl c)
          generalize hdd : okL[j]'hjl = d at hd
          have Hdd := hide hdd
          clear hdd
          cases hin : (okL.take j).any (fun d => d == c)
          · have Hin := hide hin
            clear hin
            go_wp2
            exact ⟨⟨j + 1, by omega, by go_num, val_bool (by rw [unhide HS, unhide Hin, unhide Hdd, Bool.false_or]; exact u8_beq c d)⟩, by simp [intOf]; omega⟩
          · have Hin := hide hin
            clear hin
            go_wp2
            exact ⟨⟨j + 1, by omega, by go_num, val_bool (by rw [unhide HS, unhide Hin, Bool.true_or])⟩, by simp [intOf]; omega⟩
        · have hj38 : j = 38 := by omega
          subst hj38
          rw [ok_all, ok_letter c]
          cases hlc : letterB c
          · have Hlc := hide hlc
            clear hlc
            go_wp2
            go_ret
            exact ⟨ret_bool (named_of_not hlt (by rw [unhide Hcc]; exact unhide Hlc)).symm, hB1.trans (hB2.mono (by omega))⟩
          · have Hlc := hide hlc
            clear hlc
            go_wp2
            exact ⟨⟨k + 1, by omega, by go_num, all_take_next hlt letterB (unhide Hall) (by rw [unhide Hcc]; exact unhide Hlc), hB2⟩, by simp [intOf]; omega⟩
    · have hke : k = l.length := by omega
      subst hke
      have hall' : l.all letterB = true := by
        have := unhide Hall
        rwa [List.take_length] at this
      have Hn := hide (namedB_all hall')
      clear hall' Hall
      have hfin : Below w.heap.size w wr := hB1.trans (hBr.mono (by omega))
      by_cases h0 : 0 < l.length
      · by_cases h40 : l.length ≤ 40
        · go_wp2
          go_ret
          exact ⟨ret_bool (by rw [unhide Hn]; first | exact (nm_true h0 h40).symm | exact (decide_eq_true (by omega)).trans (nm_true h0 h40).symm), hfin⟩
        · go_wp2
          go_ret
          exact ⟨ret_bool (by rw [unhide Hn]; first | exact (nm_long h40).symm | exact (decide_eq_false (by omega)).trans (nm_long h40).symm), hfin⟩
      · go_wp2
        go_ret
        exact ⟨ret_bool (by rw [unhide Hn]; first | exact (nm_none h0).symm | exact (decide_eq_false (by omega)).trans (nm_none h0).symm), hfin⟩

end Go.Proofs.YtfejpbkapikdiaaGreatDoor
