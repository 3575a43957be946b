/-
  What tree.Apply answers, at every tree and transaction: the walks.
  What the laws of trees share: the boxes of a tree and a transaction, what Apply leaves, grows.
  What the laws that hold Apply against the document's own share: how long its answers are, the law's opened.
-/
import Derived.Test.YtoacignhobchbaaGreatDoorSUAV
import Derived.Test.YtoacignhobchbaaGreatDoorSUAB
import Derived.Test.YtoacignhobchbaaGreatDoorSUN
import Derived.Test.YtoacignhobchbaaGreatDoorSUAC
import Derived.Deep.CutRange
import Derived.Deep.RegionHeld3
import Derived.Test.YtoacignhobchbaaGreatDoorSUAE
namespace Go.Proofs.YtoacignhobchbaaGreatDoor
open Go.RowKit

theorem OwnS.raise {α : Type} [Lay α] {W : World} {B : Nat} {v : Value} {xs : List α} (h : OwnS W 0 v xs) (hb : ∀ k, v.ownBlock = some k → B ≤ k) : OwnS W B v xs := by
  rcases h with h | ⟨g, cap, rfl, _, h⟩
  · exact .inl h
  · exact .inr ⟨g, cap, rfl, hb g rfl, h⟩
/-- what Apply gives -/
def GivesA (w : World) (t : Tr) (x : WTxn) (e : Ending) (w' : World) : Prop :=
  ∃ vn vs ve, e = .returned (.tuple #[.agg #[.int .i64 (appT t x).z, vn, vs], ve, .int .i64 (appE t x)]) ∧ OwnS w' w.heap.size vn (appT t x).ns ∧ OwnS w' w.heap.size vs (appT t x).ss ∧ OwnS w' w.heap.size ve (appV t x) ∧ Below w.heap.size w w'
theorem gives_no {w w' : World} {t : Tr} {x : WTxn} {E : Int} {e : Ending} (hE : appE t x = E) (h0 : E ≠ 0) (he : e = .returned (.tuple #[.agg #[.int .i64 0, .slice none 0 0, .slice none 0 0], .slice none 0 0, .int .i64 E])) (hb : Below w.heap.size w w') : GivesA w t x e w' := by
  have h1 : appT t x = tr0 := by rw [appT, if_neg (by omega)]
  have h2 : appV t x = [] := by rw [appV, if_neg (by omega)]
  refine ⟨.slice none 0 0, .slice none 0 0, .slice none 0 0, ?_, ?_, ?_, ?_, hb⟩
  · rw [hE, h1]; exact he
  · rw [h1]; exact .inl ⟨rfl, rfl⟩
  · rw [h1]; exact .inl ⟨rfl, rfl⟩
  · rw [h2]; exact .inl ⟨rfl, rfl⟩

/-- the boxes of Apply -/
structure AppB (W : World) (q : Nat) (z : Int) (vn vs : Value) (x : WTxn) : Prop where
  t : W.heap[q]? = some (.cells #[.int .i64 z, vn, vs] 34 (0, 0))
  x : TAt W (q + 1) x
  r : W.heap[q + 2]? = some (.cells #[.int .i64 0, .slice none 0 0, .slice none 0 0] 34 (0, 0))
theorem AppB.new (w : World) (z : Int) (vn vs : Value) (x : WTxn) : AppB (((w.alloc (.cells #[.int .i64 z, vn, vs] 34)).alloc (.cells #[.int .i64 x.z, .int .i64 x.o, .int .i64 x.s, .string ⟨x.p.toArray⟩, .string ⟨x.d.toArray⟩, .int .i64 x.v, .int .i64 x.w] 53)).alloc (.cells #[.int .i64 0, .slice none 0 0, .slice none 0 0] 34)) w.heap.size z vn vs x := by
  refine ⟨?_, ?_, ?_⟩
  · rw [(allocB _ _).block _ (by simp; omega), (allocB _ _).block _ (by simp)]
    exact heap_alloc_new w _
  · have h := (TAt.new (w.alloc (.cells #[.int .i64 z, vn, vs] 34)) x).next (allocB _ (.cells #[.int .i64 0, .slice none 0 0, .slice none 0 0] 34))
    simpa using h
  · have h := heap_alloc_new ((w.alloc (.cells #[.int .i64 z, vn, vs] 34)).alloc (.cells #[.int .i64 x.z, .int .i64 x.o, .int .i64 x.s, .string ⟨x.p.toArray⟩, .string ⟨x.d.toArray⟩, .int .i64 x.v, .int .i64 x.w] 53)) (.cells #[.int .i64 0, .slice none 0 0, .slice none 0 0] 34)
    rw [show ((w.alloc (.cells #[.int .i64 z, vn, vs] 34)).alloc (.cells #[.int .i64 x.z, .int .i64 x.o, .int .i64 x.s, .string ⟨x.p.toArray⟩, .string ⟨x.d.toArray⟩, .int .i64 x.v, .int .i64 x.w] 53)).heap.size = w.heap.size + 2 by simp] at h
    exact h
theorem AppB.lt {W : World} {q : Nat} {z : Int} {vn vs : Value} {x : WTxn} (h : AppB W q z vn vs x) : q + 2 < W.heap.size := (Array.getElem?_eq_some_iff.1 h.r).1
theorem AppB.touch {W V : World} {q : Nat} {z : Int} {vn vs : Value} {x : WTxn} {F : Nat → Prop} (h : AppB W q z vn vs x) (ht : Touch F W V) (hf : ∀ k, F k → q + 3 ≤ k) : AppB V q z vn vs x := by
  have := h.lt
  have n0 : ∀ k, k < q + 3 → ¬ F k := fun k hk hF => by have := hf k hF; omega
  exact ⟨(ht.block _ (by omega) (n0 _ (by omega))).trans h.t, (ht.block _ (by omega) (n0 _ (by omega))).trans h.x, (ht.block _ (by omega) (n0 _ (by omega))).trans h.r⟩
theorem AppB.next {W V : World} {q : Nat} {z : Int} {vn vs : Value} {x : WTxn} (h : AppB W q z vn vs x) (hb : Below W.heap.size W V) : AppB V q z vn vs x := h.touch (F := fun _ => False) (Touch.of_below hb) (fun _ hF => hF.elim)
theorem AppB.cells {W : World} {q : Nat} {z : Int} {vn vs : Value} {x : WTxn} (h : AppB W q z vn vs x) : W.cell? ⟨q, 0, none⟩ = some (.int .i64 z) ∧ W.cell? ⟨q, 1, none⟩ = some vn ∧ W.cell? ⟨q, 2, none⟩ = some vs ∧ W.cell? ⟨q + 2, 0, none⟩ = some (.int .i64 0) ∧ W.cell? ⟨q + 2, 1, none⟩ = some (.slice none 0 0) ∧ W.cell? ⟨q + 2, 2, none⟩ = some (.slice none 0 0) ∧ W.frozen? ⟨q + 2, 0, none⟩ = false ∧ W.frozen? ⟨q + 2, 1, none⟩ = false ∧ W.frozen? ⟨q + 2, 2, none⟩ = false := by
  have h1 := h.t
  have h2 := h.r
  refine ⟨?_, ?_, ?_, ?_, ?_, ?_, ?_, ?_, ?_⟩ <;> simp [World.cell?, World.frozen?, h1, h2]

set_option maxRecDepth 20000 in
set_option maxHeartbeats 2000000 in
theorem apply_adm (t : Tr) (vn vs : Value) (x : WTxn) (w : World) (hn : SeqV w vn t.ns) (hs : SeqV w vs t.ss) (hw : WfT t) (hd : x.d.length ≤ 140737488355328) (ha : admE t x ≠ 0) :
    Calls Tryz.prog 13 #[.agg #[.int .i64 t.z, vn, vs], txnV x] w (GivesA w t x) := by
  have CA := hide (fun W (hW : Below w.heap.size w W) => admit_any t vn vs x W (hn.next hW) (hs.next hW) hw hd)
  have FIN := hide (fun w' e h hb => gives_no (w := w) (w' := w') (e := e) (appE_adm ha) ha h hb)
  have hab : (admE t x != 0) = true := by simpa using ha
  obtain ⟨na, nc, rfl⟩ := seq_slice hn
  obtain ⟨sa, sc, rfl⟩ := seq_slice hs
  clear hn hs hw ha
  generalize admE t x = E at hab CA FIN
  generalize hQ : GivesA w t x = Q at FIN ⊢
  clear hQ
  obtain ⟨xz, xo, xs, xp, xd, xv, xw⟩ := x
  unfold txnV at *
  simp only at *
  have KB : ∀ W, Below (((w.alloc (.cells #[.int .i64 t.z, .slice na t.ns.length nc, .slice sa t.ss.length sc] 34)).alloc (.cells #[.int .i64 xz, .int .i64 xo, .int .i64 xs, .string ⟨xp.toArray⟩, .string ⟨xd.toArray⟩, .int .i64 xv, .int .i64 xw] 53)).alloc (.cells #[.int .i64 0, .slice none 0 0, .slice none 0 0] 34)).heap.size (((w.alloc (.cells #[.int .i64 t.z, .slice na t.ns.length nc, .slice sa t.ss.length sc] 34)).alloc (.cells #[.int .i64 xz, .int .i64 xo, .int .i64 xs, .string ⟨xp.toArray⟩, .string ⟨xd.toArray⟩, .int .i64 xv, .int .i64 xw] 53)).alloc (.cells #[.int .i64 0, .slice none 0 0, .slice none 0 0] 34)) W → AppB W w.heap.size t.z (.slice na t.ns.length nc) (.slice sa t.ss.length sc) ⟨xz, xo, xs, xp, xd, xv, xw⟩ ∧ Below w.heap.size w W := fun W h => ⟨(AppB.new w _ _ _ ⟨xz, xo, xs, xp, xd, xv, xw⟩).next h, nbox_then (nbox_then (nbox_then h))⟩
  have HKB := hide KB
  clear KB
  go_enter Tryz.func13, Tryz.ntmps13
  go_wp2_with fail
  refine (unhide CA _ (nnext (nnext (allocB _ _) (allocB _ _)) (allocB _ _))).mono ?_
  rintro e w1 ⟨rfl, hb1⟩
  obtain ⟨b1, B1⟩ := unhide HKB w1 hb1
  obtain ⟨k0, k1, k2, k3, k4, k5, k6, k7, k8⟩ := b1.cells
  have j0 := b1.x.c0
  have j1 := b1.x.c1
  have j2 := b1.x.c2
  have j3 := b1.x.c3
  have j4 := b1.x.c4
  have j5 := b1.x.c5
  have j6 := b1.x.c6
  have HB1 := hide B1
  have HX1 := hide b1
  clear hb1 b1 B1
  go_wp2_with fail
  exact bodyPost_ret (v := .tuple #[.agg #[.int .i64 0, .slice none 0 0, .slice none 0 0], .slice none 0 0, .int .i64 E]) (by simp [results, Tryz.results13, go_sem, k3, k4, k5]) rfl (unhide FIN _ _ rfl ((((unhide HB1).setCell (by show w.heap.size ≤ w.heap.size + 1 + 1; omega) _).setCell (by show w.heap.size ≤ w.heap.size + 1 + 1; omega) _).setCell (by show w.heap.size ≤ w.heap.size + 1 + 1; omega) _))

/-- g.Tree and g.events, stored -/
theorem gives_yes {w W : World} {t : Tr} {x : WTxn} {B b : Nat} {vn vs ve : Value} {v0 v1 v2 : Value} (ha : appE t x = 0) (hg : Grow W (fun k => B ≤ k) b x.z vn vs ve (chgN t x) (chgS t x) (chgV t x)) (hq : w.heap.size + 3 ≤ B) (hb : Below w.heap.size w W) :
    GivesA w t x (.returned (.tuple #[.agg #[.int .i64 x.z, vn, vs], ve, .int .i64 0])) (((W.setCell ⟨w.heap.size + 2, 0, none⟩ v0).setCell ⟨w.heap.size + 2, 1, none⟩ v1).setCell ⟨w.heap.size + 2, 2, none⟩ v2).drew := by
  have h1 : appT t x = ⟨x.z, chgN t x, chgS t x⟩ := by rw [appT, if_pos ha]
  have h2 : appV t x = chgV t x := by rw [appV, if_pos ha]
  have nn : ∀ k, vn.ownBlock = some k → w.heap.size + 3 ≤ k := fun k hk => Nat.le_trans hq (hg.fn k hk).1
  have ns : ∀ k, vs.ownBlock = some k → w.heap.size + 3 ≤ k := fun k hk => Nat.le_trans hq (hg.fs k hk).1
  have ne : ∀ k, ve.ownBlock = some k → w.heap.size + 3 ≤ k := fun k hk => Nat.le_trans hq (hg.fe k hk).1
  have no : ∀ {v : Value}, (∀ k, v.ownBlock = some k → w.heap.size + 3 ≤ k) → v.ownBlock ≠ some (w.heap.size + 2) := fun h e => by have := h _ e; omega
  refine ⟨vn, vs, ve, by rw [h1, ha], ?_, ?_, ?_, ?_⟩
  · rw [h1]
    exact (((hg.n.raise (fun k hk => by have := nn k hk; omega)).other (no nn) _).other (no nn) _).other (no nn) _ |>.next (Below.refl _ _).drew
  · rw [h1]
    exact (((hg.s.raise (fun k hk => by have := ns k hk; omega)).other (no ns) _).other (no ns) _).other (no ns) _ |>.next (Below.refl _ _).drew
  · rw [h2]
    exact (((hg.e.raise (fun k hk => by have := ne k hk; omega)).other (no ne) _).other (no ne) _).other (no ne) _ |>.next (Below.refl _ _).drew
  · exact (((hb.setCell (by simp) _).setCell (by simp) _).setCell (by simp) _).drew

set_option maxRecDepth 20000 in
set_option maxHeartbeats 4000000 in
theorem apply_chg (t : Tr) (vn vs : Value) (x : WTxn) (w : World) (hn : SeqV w vn t.ns) (hs : SeqV w vs t.ss) (hw : WfT t) (hd : x.d.length ≤ 140737488355328) (ha : admE t x = 0) :
    Calls Tryz.prog 13 #[.agg #[.int .i64 t.z, vn, vs], txnV x] w (GivesA w t x) := by
  have CA := hide (fun W (hW : Below w.heap.size w W) => admit_any t vn vs x W (hn.next hW) (hs.next hW) hw hd)
  rw [ha] at CA
  obtain ⟨g, _⟩ := adm_zero ha
  have few := g.nod.few
  have sl := sasc_len g.ses
  have CB := hide (fun W (hW : Below w.heap.size w W) => begun_any t vn vs x.z W (hn.next hW) (hs.next hW) few sl hw.slim)
  have CC := hide (fun (F : Nat → Prop) b vn' vs' W (hG : Grow W F b x.z vn' vs' (.slice none 0 0) t.ns t.ss []) hF => change_any F b t vn' vs' x W hG hF ha)
  have hap := appE_chg ha
  have FNO := hide (fun w' e (h0 : chgF t x ≠ 0) h hb => gives_no (w := w) (w' := w') (e := e) hap h0 h hb)
  have FYE := hide (fun (W : World) (B b : Nat) (vn vs ve v0 v1 v2 : Value) (h0 : chgF t x = 0) hg hq hb => gives_yes (w := w) (W := W) (t := t) (x := x) (B := B) (b := b) (vn := vn) (vs := vs) (ve := ve) (v0 := v0) (v1 := v1) (v2 := v2) (hap.trans h0) hg hq hb)
  obtain ⟨na, nc, rfl⟩ := seq_slice hn
  obtain ⟨sa, sc, rfl⟩ := seq_slice hs
  clear hn hs hw ha hap g few sl
  generalize hQ : GivesA w t x = Q at FNO FYE ⊢
  clear hQ
  obtain ⟨E, hE⟩ : ∃ E, chgF t x = E := ⟨_, rfl⟩
  unfold Chg at CC
  rw [hE] at CC FNO FYE
  clear hE
  obtain ⟨xz, xo, xs, xp, xd, xv, xw⟩ := x
  unfold txnV at *
  simp only at *
  have KB : ∀ W, Below (((w.alloc (.cells #[.int .i64 t.z, .slice na t.ns.length nc, .slice sa t.ss.length sc] 34)).alloc (.cells #[.int .i64 xz, .int .i64 xo, .int .i64 xs, .string ⟨xp.toArray⟩, .string ⟨xd.toArray⟩, .int .i64 xv, .int .i64 xw] 53)).alloc (.cells #[.int .i64 0, .slice none 0 0, .slice none 0 0] 34)).heap.size (((w.alloc (.cells #[.int .i64 t.z, .slice na t.ns.length nc, .slice sa t.ss.length sc] 34)).alloc (.cells #[.int .i64 xz, .int .i64 xo, .int .i64 xs, .string ⟨xp.toArray⟩, .string ⟨xd.toArray⟩, .int .i64 xv, .int .i64 xw] 53)).alloc (.cells #[.int .i64 0, .slice none 0 0, .slice none 0 0] 34)) W → AppB W w.heap.size t.z (.slice na t.ns.length nc) (.slice sa t.ss.length sc) ⟨xz, xo, xs, xp, xd, xv, xw⟩ ∧ Below w.heap.size w W := fun W h => ⟨(AppB.new w _ _ _ ⟨xz, xo, xs, xp, xd, xv, xw⟩).next h, nbox_then (nbox_then (nbox_then h))⟩
  have HKB := hide KB
  clear KB
  go_enter Tryz.func13, Tryz.ntmps13
  go_wp2_with fail
  refine (unhide CA _ (nnext (nnext (allocB _ _) (allocB _ _)) (allocB _ _))).mono ?_
  rintro e w1 ⟨rfl, hb1⟩
  obtain ⟨b1, B1⟩ := unhide HKB w1 hb1
  obtain ⟨k0, k1, k2, k3, k4, k5, k6, k7, k8⟩ := b1.cells
  have j0 := b1.x.c0
  have j1 := b1.x.c1
  have j2 := b1.x.c2
  have j3 := b1.x.c3
  have j4 := b1.x.c4
  have j5 := b1.x.c5
  have j6 := b1.x.c6
  have HB1 := hide B1
  have HX1 := hide b1
  clear hb1 b1 B1
  go_wp2_with fail
  refine (unhide CB _ (unhide HB1)).mono ?_
  rintro e w2 ⟨b, vn2, vs2, rfl, g2, hb2⟩
  have b2 := (unhide HX1).next hb2
  obtain ⟨m0, m1, m2, m3, m4, m5, m6, m7, m8⟩ := b2.cells
  have i0 := b2.x.c0
  have i1 := b2.x.c1
  have i2 := b2.x.c2
  have i3 := b2.x.c3
  have i4 := b2.x.c4
  have i5 := b2.x.c5
  have i6 := b2.x.c6
  have HB2 := hide (nnext (unhide HB1) hb2)
  have HX2 := hide b2
  have HG2 := hide g2
  have hsz2 := hb2.size
  clear hb2 g2 b2 k0 k1 k2 k3 k4 k5 k6 k7 k8 j0 j1 j2 j3 j4 j5 j6 CB CA
  go_wp2_with fail
  refine (unhide CC _ _ _ _ _ (unhide HG2) (fun k hk => Nat.le_trans hsz2 hk)).mono ?_
  rintro e w3 ⟨rfl, t3, g3⟩
  have q1 := (unhide HX1).lt
  have b3 := (unhide HX2).touch t3 (fun k hk => by omega)
  obtain ⟨n0, n1, n2, n3, n4, n5, n6, n7, n8⟩ := b3.cells
  have B3 : Below w.heap.size w w3 := (unhide HB2).trans (t3.below (by omega) (fun k hk => by omega))
  have HB3 := hide B3
  clear CC b3 B3 t3 m0 m1 m2 m3 m4 m5 m6 m7 m8 i0 i1 i2 i3 i4 i5 i6
  by_cases h0 : E = 0
  · obtain ⟨vn3, vs3, ve3, g3⟩ := g3 h0
    have d0 := g3.c0
    have d1 := g3.c1
    have d2 := g3.c2
    have d3 := g3.c3
    obtain ⟨na3, nc3, hn3, _⟩ := g3.n.slice
    obtain ⟨sa3, sc3, hs3, _⟩ := g3.s.slice
    obtain ⟨ea3, ec3, he3, _⟩ := g3.e.slice
    have HG3 := hide g3
    have hbl := g3.lt
    have hbq : w1.heap.size ≤ b := g3.fb
    have hne : b ≠ w.heap.size + 2 := by omega
    have FY := hide (fun (v0 v1 v2 : Value) => unhide FYE w3 w1.heap.size b vn3 vs3 ve3 v0 v1 v2 h0 (unhide HG3) (by omega) (unhide HB3))
    subst hn3 hs3 he3 h0
    clear g3 FYE FNO HG3
    go_wp2_with fail
    go_region
    go_wp2_with fail
    exact bodyPost_ret (v := .tuple #[.agg #[.int .i64 xz, .slice na3 (chgN t ⟨xz, xo, xs, xp, xd, xv, xw⟩).length nc3, .slice sa3 (chgS t ⟨xz, xo, xs, xp, xd, xv, xw⟩).length sc3], .slice ea3 (chgV t ⟨xz, xo, xs, xp, xd, xv, xw⟩).length ec3, .int .i64 0]) (by simp [results, Tryz.results13, go_sem, n3, n4, n5]) rfl (unhide FY _ _ _)
  · have h0b : (E != 0) = true := by simpa using h0
    have FN := hide (fun w' e h hb => unhide FNO w' e h0 h hb)
    clear g3 FYE FNO h0
    go_wp2_with fail
    exact bodyPost_ret (v := .tuple #[.agg #[.int .i64 0, .slice none 0 0, .slice none 0 0], .slice none 0 0, .int .i64 E]) (by simp [results, Tryz.results13, go_sem, n3, n4, n5]) rfl (unhide FN _ _ rfl ((((unhide HB3).setCell (by show w.heap.size ≤ w.heap.size + 1 + 1; omega) _).setCell (by show w.heap.size ≤ w.heap.size + 1 + 1; omega) _).setCell (by show w.heap.size ≤ w.heap.size + 1 + 1; omega) _))

theorem apply_any (t : Tr) (vn vs : Value) (x : WTxn) (w : World) (hn : SeqV w vn t.ns) (hs : SeqV w vs t.ss) (hw : WfT t) (hd : x.d.length ≤ 140737488355328) :
    Calls Tryz.prog 13 #[.agg #[.int .i64 t.z, vn, vs], txnV x] w (GivesA w t x) := by
  by_cases ha : admE t x = 0
  · exact apply_chg t vn vs x w hn hs hw hd ha
  · exact apply_adm t vn vs x w hn hs hw hd ha

end Go.Proofs.YtoacignhobchbaaGreatDoor

namespace Go.Proofs.YtoacignhobchbaaGreatDoor
open Go.RowKit

/-- the boxes of a tree and of a transaction -/
structure TX (W : World) (qt qx : Nat) (z : Int) (vn vs : Value) (x : WTxn) : Prop where
  t : W.heap[qt]? = some (.cells #[.int .i64 z, vn, vs] 34 (0, 0))
  x : TAt W qx x
theorem TX.lt {W : World} {qt qx : Nat} {z : Int} {vn vs : Value} {x : WTxn} (h : TX W qt qx z vn vs x) : qt < W.heap.size ∧ qx < W.heap.size := ⟨(Array.getElem?_eq_some_iff.1 h.t).1, h.x.lt⟩
theorem TX.next {W V : World} {qt qx : Nat} {z : Int} {vn vs : Value} {x : WTxn} (h : TX W qt qx z vn vs x) (hb : Below W.heap.size W V) : TX V qt qx z vn vs x := ⟨(hb.block _ h.lt.1).trans h.t, h.x.next hb⟩
theorem TX.drew {W : World} {qt qx : Nat} {z : Int} {vn vs : Value} {x : WTxn} (h : TX W qt qx z vn vs x) : TX W.drew qt qx z vn vs x := h.next (Below.refl _ _).drew
theorem TX.other {W : World} {qt qx : Nat} {z : Int} {vn vs : Value} {x : WTxn} (h : TX W qt qx z vn vs x) {a : Addr} (v : Value) (h1 : qt ≠ a.block) (h2 : qx ≠ a.block) : TX (W.setCell a v) qt qx z vn vs x :=
  ⟨(Below.heap_setCell W a v qt h1).trans h.t, (Below.heap_setCell W a v qx h2).trans h.x⟩
theorem TX.ten {W : World} {qt qx : Nat} {z : Int} {vn vs : Value} {x : WTxn} (h : TX W qt qx z vn vs x) : W.cell? ⟨qt, 0, none⟩ = some (.int .i64 z) ∧ W.cell? ⟨qt, 1, none⟩ = some vn ∧ W.cell? ⟨qt, 2, none⟩ = some vs ∧ W.cell? ⟨qx, 0, none⟩ = some (.int .i64 x.z) ∧ W.cell? ⟨qx, 1, none⟩ = some (.int .i64 x.o) ∧ W.cell? ⟨qx, 2, none⟩ = some (.int .i64 x.s) ∧ W.cell? ⟨qx, 3, none⟩ = some (.string ⟨x.p.toArray⟩) ∧ W.cell? ⟨qx, 4, none⟩ = some (.string ⟨x.d.toArray⟩) ∧ W.cell? ⟨qx, 5, none⟩ = some (.int .i64 x.v) ∧ W.cell? ⟨qx, 6, none⟩ = some (.int .i64 x.w) := by
  have h1 := h.t
  refine ⟨?_, ?_, ?_, h.x.c0, h.x.c1, h.x.c2, h.x.c3, h.x.c4, h.x.c5, h.x.c6⟩ <;> simp [World.cell?, h1]
theorem TX.new (w : World) (z : Int) (vn vs : Value) (x : WTxn) : TX ((w.alloc (.cells #[.int .i64 z, vn, vs] 34)).alloc (.cells #[.int .i64 x.z, .int .i64 x.o, .int .i64 x.s, .string ⟨x.p.toArray⟩, .string ⟨x.d.toArray⟩, .int .i64 x.v, .int .i64 x.w] 53)) w.heap.size (w.heap.size + 1) z vn vs x := by
  refine ⟨?_, ?_⟩
  · rw [(allocB _ _).block _ (by simp)]
    exact heap_alloc_new w _
  · have h := TAt.new (w.alloc (.cells #[.int .i64 z, vn, vs] 34)) x
    simpa using h
/-- a tree in a box q, with its events: all of the call's own -/
structure AppX (W wx : World) (q : Nat) (t : Tr) (es : List Ev) (vn vs ve : Value) : Prop where
  box : wx.heap[q]? = some (.cells #[.int .i64 t.z, vn, vs] 34 (0, 0))
  n : OwnS wx W.heap.size vn t.ns
  s : OwnS wx W.heap.size vs t.ss
  e : OwnS wx W.heap.size ve es
  qb : W.heap.size ≤ q
  b : Below W.heap.size W wx
theorem AppX.lt {W wx : World} {q : Nat} {t : Tr} {es : List Ev} {vn vs ve : Value} (h : AppX W wx q t es vn vs ve) : q < wx.heap.size := (Array.getElem?_eq_some_iff.1 h.box).1
theorem AppX.next {W wx wy : World} {q : Nat} {t : Tr} {es : List Ev} {vn vs ve : Value} (h : AppX W wx q t es vn vs ve) (hb : Below wx.heap.size wx wy) : AppX W wy q t es vn vs ve :=
  ⟨(hb.block _ h.lt).trans h.box, h.n.next hb, h.s.next hb, h.e.next hb, h.qb, nnext h.b hb⟩
theorem AppX.cells {W wx : World} {q : Nat} {t : Tr} {es : List Ev} {vn vs ve : Value} (h : AppX W wx q t es vn vs ve) : wx.cell? ⟨q, 0, none⟩ = some (.int .i64 t.z) ∧ wx.cell? ⟨q, 1, none⟩ = some vn ∧ wx.cell? ⟨q, 2, none⟩ = some vs := by
  have h1 := h.box
  refine ⟨?_, ?_, ?_⟩ <;> simp [World.cell?, h1]
theorem app_new {W w2 : World} {B : Nat} {t : Tr} {es : List Ev} {vn vs ve : Value} (hb : Below W.heap.size W w2) (hB : W.heap.size ≤ B) (n : OwnS w2 B vn t.ns) (s : OwnS w2 B vs t.ss) (e : OwnS w2 B ve es) : AppX W (w2.alloc (.cells #[.int .i64 t.z, vn, vs] 34)) w2.heap.size t es vn vs ve :=
  ⟨heap_alloc_new w2 _, (n.lower hB).next (allocB _ _), (s.lower hB).next (allocB _ _), (e.lower hB).next (allocB _ _), hb.size, nnext hb (allocB _ _)⟩
theorem app_put {W w2 : World} {q B : Nat} {t : Tr} {es : List Ev} {vn vs ve : Value} (hb : Below W.heap.size W w2) (hB : W.heap.size ≤ q) (hq : q < B) (hz : w2.heap[q]? = some (.cells #[.int .i64 0, .slice none 0 0, .slice none 0 0] 34 (0, 0))) (n : OwnS w2 B vn t.ns) (s : OwnS w2 B vs t.ss) (e : OwnS w2 B ve es) :
    AppX W (((w2.setCell ⟨q, 0, none⟩ (.int .i64 t.z)).setCell ⟨q, 1, none⟩ vn).setCell ⟨q, 2, none⟩ vs) q t es vn vs ve := by
  have no : ∀ {α : Type} [Lay α] {v : Value} {xs : List α}, OwnS w2 B v xs → v.ownBlock ≠ some q := by
    intro α _ v xs ho e
    rcases ho with ⟨rfl, _⟩ | ⟨g, cap, rfl, hB, _⟩
    · cases e
    · simp [Value.ownBlock] at e; omega
  have hl : W.heap.size ≤ B := by omega
  refine ⟨?_, (((n.lower hl).other (no n) _).other (no n) _).other (no n) _, (((s.lower hl).other (no s) _).other (no s) _).other (no s) _, (((e.lower hl).other (no e) _).other (no e) _).other (no e) _, hB, ((hb.setCell hB _).setCell hB _).setCell hB _⟩
  rw [block_set vs (block_set vn (block_set (.int .i64 t.z) hz))]
  simp

theorem zcells {W : World} {q : Nat} (h : W.heap[q]? = some (.cells #[.int .i64 0, .slice none 0 0, .slice none 0 0] 34 (0, 0))) : W.cell? ⟨q, 0, none⟩ = some (.int .i64 0) ∧ W.cell? ⟨q, 1, none⟩ = some (.slice none 0 0) ∧ W.cell? ⟨q, 2, none⟩ = some (.slice none 0 0) ∧ W.frozen? ⟨q, 0, none⟩ = false ∧ W.frozen? ⟨q, 1, none⟩ = false ∧ W.frozen? ⟨q, 2, none⟩ = false := by
  refine ⟨?_, ?_, ?_, ?_, ?_, ?_⟩ <;> simp [World.cell?, World.frozen?, h]

theorem good_new : GoodT trNew := by
  refine ⟨by decide, ⟨List.Pairwise.nil, by simp [trNew]⟩, ⟨by decide, ⟨nroot, [], rfl, rfl, rfl⟩, List.pairwise_singleton _ _, ?_⟩, ?_⟩
  · intro n hn
    obtain rfl : n = nroot := by simpa [trNew] using hn
    refine ⟨by decide, goodB_root, fun h => absurd rfl h, by decide, by decide, by decide, by decide, by decide, by decide, by decide, by decide, ?_, .inl rfl⟩
    show (0 : Int) = kidsN [nroot] [47]
    simp [kidsN, nroot, dirOf_root]
  · intro n hn
    obtain rfl : n = nroot := by simpa [trNew] using hn
    decide
theorem GoodT.wf {t : Tr} (g : GoodT t) : WfT t := by
  refine ⟨fun s hs => by have := g.ses.2 s hs; omega, fun n hn => ?_⟩
  have k := g.nod.ok n hn
  have := goodB_le k.path
  have := k.data
  omega
end Go.Proofs.YtoacignhobchbaaGreatDoor

namespace Go.Proofs.YtoacignhobchbaaGreatDoor
open Go.RowKit

/-- what Apply answers is short -/
theorem app_short (t : Tr) (x : WTxn) : (appT t x).ns.length ≤ 140737488355328 ∧ (appT t x).ss.length ≤ 140737488355328 ∧ (appV t x).length ≤ 140737488355328 := by
  by_cases h : appE t x = 0
  · obtain ⟨g2, _, _⟩ := app_good h
    obtain ⟨ha, _⟩ := app_zero h
    obtain ⟨g, _, _⟩ := adm_zero ha
    have few := g.nod.few
    refine ⟨by have := g2.nod.few; omega, by have := sasc_len g2.ses; omega, ?_⟩
    rw [appV, if_pos h, chgV]
    split
    · rw [rmEv_len]
      have : (ownedP t.ns x.s).length ≤ t.ns.length := by
        rw [ownedP, List.length_map]
        exact List.length_filter_le _ _
      omega
    · split
      · simp
      · split
        · simp
        · split <;> simp
  · rw [appT, if_neg h, appV, if_neg h]
    exact ⟨by decide, by decide, by decide⟩

end Go.Proofs.YtoacignhobchbaaGreatDoor
