/-
  What tree.Apply answers, at every tree and transaction: the walks.
  Copies of a tree (aviarykeep.own, aviaryref.CopyTree), tree.New and tree.Get: the walks.
  tree.Get and tree.Kids: the walks.
  What the laws of trees share: the boxes of a tree and a transaction, what Apply leaves, grows.
  aviaryref's SameTree and SameEvents, of alike ones: the walks.
  aviaryref's Apply: how what it makes lies in memory; its closures no and parent: the walks.
-/
import Derived.Test.YtoacignhobchbaaGreatDoorSRO
import Derived.Test.YtoacignhobchbaaGreatDoorSRQ
import Derived.Test.YtoacignhobchbaaGreatDoorSRL
import Derived.Deep.CutRange
import Derived.Deep.RegionHeld3
import Derived.Test.YtoacignhobchbaaGreatDoorSRA
import Derived.Test.YtoacignhobchbaaGreatDoorSRB
import Derived.Lib.ConvBytes
import Derived.Lib.Strings
import Derived.OwnWalk
import Derived.WalkSmall
import Derived.Maps.AppendAt
import Derived.RegionTactic
import Derived.Test.YtoacignhobchbaaGreatDoorSRG
import Derived.ChangeAlike
import Derived.Deep.QuietTactic
import Derived.BigQuiet
import Derived.BigRegion
namespace Go.Proofs.YtoacignhobchbaaGreatDoor
open Go.RowKit

theorem OwnS.raise {α : Type} [Lay α] {W : World} {B : Nat} {v : Value} {xs : List α} (h : OwnS W 0 v xs) (hb : ∀ k, v.ownBlock = some k → B ≤ k) : OwnS W B v xs := by
  rcases h with h | ⟨g, cap, rfl, _, h⟩
  · exact .inl h
  · exact .inr ⟨g, cap, rfl, hb g rfl, h⟩
/-- what Apply gives -/
def GivesA (w : World) (t : Tr) (x : WTxn) (e : Ending) (w' : World) : Prop :=
  ∃ vn vs ve, e = .returned (.tuple #[.agg #[.int .i64 (appT t x).z, vn, vs], ve, .int .i64 (appE t x)]) ∧ OwnS w' w.heap.size vn (appT t x).ns ∧ OwnS w' w.heap.size vs (appT t x).ss ∧ OwnS w' w.heap.size ve (appV t x) ∧ Below w.heap.size w w'
theorem gives_no {w w' : World} {t : Tr} {x : WTxn} {E : Int} {e : Ending} (hE : appE t x = E) (h0 : E ≠ 0) (he : e = .returned (.tuple #[.agg #[.int .i64 0, .slice none 0 0, .slice none 0 0], .slice none 0 0, .int .i64 E])) (hb : Below w.heap.size w w') : GivesA w t x e w' := by
  have h1 : appT t x = tr0 := by rw [appT, if_neg (by omega)]
  have h2 : appV t x = [] := by rw [appV, if_neg (by omega)]
  refine ⟨.slice none 0 0, .slice none 0 0, .slice none 0 0, ?_, ?_, ?_, ?_, hb⟩
  · rw [hE, h1]; exact he
  · rw [h1]; exact .inl ⟨rfl, rfl⟩
  · rw [h1]; exact .inl ⟨rfl, rfl⟩
  · rw [h2]; exact .inl ⟨rfl, rfl⟩

/-- the boxes of Apply -/
structure AppB (W : World) (q : Nat) (z : Int) (vn vs : Value) (x : WTxn) : Prop where
  t : W.heap[q]? = some (.cells #[.int .i64 z, vn, vs] 34 (0, 0))
  x : TAt W (q + 1) x
  r : W.heap[q + 2]? = some (.cells #[.int .i64 0, .slice none 0 0, .slice none 0 0] 34 (0, 0))
theorem AppB.new (w : World) (z : Int) (vn vs : Value) (x : WTxn) : AppB (((w.alloc (.cells #[.int .i64 z, vn, vs] 34)).alloc (.cells #[.int .i64 x.z, .int .i64 x.o, .int .i64 x.s, .string ⟨x.p.toArray⟩, .string ⟨x.d.toArray⟩, .int .i64 x.v, .int .i64 x.w] 53)).alloc (.cells #[.int .i64 0, .slice none 0 0, .slice none 0 0] 34)) w.heap.size z vn vs x := by
  refine ⟨?_, ?_, ?_⟩
  · rw [(allocB _ _).block _ (by simp; omega), (allocB _ _).block _ (by simp)]
    exact heap_alloc_new w _
  · have h := (TAt.new (w.alloc (.cells #[.int .i64 z, vn, vs] 34)) x).next (allocB _ (.cells #[.int .i64 0, .slice none 0 0, .slice none 0 0] 34))
    simpa using h
  · have h := heap_alloc_new ((w.alloc (.cells #[.int .i64 z, vn, vs] 34)).alloc (.cells #[.int .i64 x.z, .int .i64 x.o, .int .i64 x.s, .string ⟨x.p.toArray⟩, .string ⟨x.d.toArray⟩, .int .i64 x.v, .int .i64 x.w] 53)) (.cells #[.int .i64 0, .slice none 0 0, .slice none 0 0] 34)
    rw [show ((w.alloc (.cells #[.int .i64 z, vn, vs] 34)).alloc (.cells #[.int .i64 x.z, .int .i64 x.o, .int .i64 x.s, .string ⟨x.p.toArray⟩, .string ⟨x.d.toArray⟩, .int .i64 x.v, .int .i64 x.w] 53)).heap.size = w.heap.size + 2 by simp] at h
    exact h
theorem AppB.lt {W : World} {q : Nat} {z : Int} {vn vs : Value} {x : WTxn} (h : AppB W q z vn vs x) : q + 2 < W.heap.size := (Array.getElem?_eq_some_iff.1 h.r).1
theorem AppB.touch {W V : World} {q : Nat} {z : Int} {vn vs : Value} {x : WTxn} {F : Nat → Prop} (h : AppB W q z vn vs x) (ht : Touch F W V) (hf : ∀ k, F k → q + 3 ≤ k) : AppB V q z vn vs x := by
  have := h.lt
  have n0 : ∀ k, k < q + 3 → ¬ F k := fun k hk hF => by have := hf k hF; omega
  exact ⟨(ht.block _ (by omega) (n0 _ (by omega))).trans h.t, (ht.block _ (by omega) (n0 _ (by omega))).trans h.x, (ht.block _ (by omega) (n0 _ (by omega))).trans h.r⟩
theorem AppB.next {W V : World} {q : Nat} {z : Int} {vn vs : Value} {x : WTxn} (h : AppB W q z vn vs x) (hb : Below W.heap.size W V) : AppB V q z vn vs x := h.touch (F := fun _ => False) (Touch.of_below hb) (fun _ hF => hF.elim)
theorem AppB.cells {W : World} {q : Nat} {z : Int} {vn vs : Value} {x : WTxn} (h : AppB W q z vn vs x) : W.cell? ⟨q, 0, none⟩ = some (.int .i64 z) ∧ W.cell? ⟨q, 1, none⟩ = some vn ∧ W.cell? ⟨q, 2, none⟩ = some vs ∧ W.cell? ⟨q + 2, 0, none⟩ = some (.int .i64 0) ∧ W.cell? ⟨q + 2, 1, none⟩ = some (.slice none 0 0) ∧ W.cell? ⟨q + 2, 2, none⟩ = some (.slice none 0 0) ∧ W.frozen? ⟨q + 2, 0, none⟩ = false ∧ W.frozen? ⟨q + 2, 1, none⟩ = false ∧ W.frozen? ⟨q + 2, 2, none⟩ = false := by
  have h1 := h.t
  have h2 := h.r
  refine ⟨?_, ?_, ?_, ?_, ?_, ?_, ?_, ?_, ?_⟩ <;> simp [World.cell?, World.frozen?, h1, h2]

set_option maxRecDepth 20000 in
set_option maxHeartbeats 2000000 in
theorem apply_adm (t : Tr) (vn vs : Value) (x : WTxn) (w : World) (hn : SeqV w vn t.ns) (hs : SeqV w vs t.ss) (hw : WfT t) (hd : x.d.length ≤ 140737488355328) (ha : admE t x ≠ 0) :
    Calls Tryz.prog 13 #[.agg #[.int .i64 t.z, vn, vs], txnV x] w (GivesA w t x) := by
  have CA := hide (fun W (hW : Below w.heap.size w W) => admit_any t vn vs x W (hn.next hW) (hs.next hW) hw hd)
  have FIN := hide (fun w' e h hb => gives_no (w := w) (w' := w') (e := e) (appE_adm ha) ha h hb)
  have hab : (admE t x != 0) = true := by simpa using ha
  obtain ⟨na, nc, rfl⟩ := seq_slice hn
  obtain ⟨sa, sc, rfl⟩ := seq_slice hs
  clear hn hs hw ha
  generalize admE t x = E at hab CA FIN
  generalize hQ : GivesA w t x = Q at FIN ⊢
  clear hQ
  obtain ⟨xz, xo, xs, xp, xd, xv, xw⟩ := x
  unfold txnV at *
  simp only at *
  have KB : ∀ W, Below (((w.alloc (.cells #[.int .i64 t.z, .slice na t.ns.length nc, .slice sa t.ss.length sc] 34)).alloc (.cells #[.int .i64 xz, .int .i64 xo, .int .i64 xs, .string ⟨xp.toArray⟩, .string ⟨xd.toArray⟩, .int .i64 xv, .int .i64 xw] 53)).alloc (.cells #[.int .i64 0, .slice none 0 0, .slice none 0 0] 34)).heap.size (((w.alloc (.cells #[.int .i64 t.z, .slice na t.ns.length nc, .slice sa t.ss.length sc] 34)).alloc (.cells #[.int .i64 xz, .int .i64 xo, .int .i64 xs, .string ⟨xp.toArray⟩, .string ⟨xd.toArray⟩, .int .i64 xv, .int .i64 xw] 53)).alloc (.cells #[.int .i64 0, .slice none 0 0, .slice none 0 0] 34)) W → AppB W w.heap.size t.z (.slice na t.ns.length nc) (.slice sa t.ss.length sc) ⟨xz, xo, xs, xp, xd, xv, xw⟩ ∧ Below w.heap.size w W := fun W h => ⟨(AppB.new w _ _ _ ⟨xz, xo, xs, xp, xd, xv, xw⟩).next h, nbox_then (nbox_then (nbox_then h))⟩
  have HKB := hide KB
  clear KB
  go_enter Tryz.func13, Tryz.ntmps13
  go_wp2_with fail
  refine (unhide CA _ (nnext (nnext (allocB _ _) (allocB _ _)) (allocB _ _))).mono ?_
  rintro e w1 ⟨rfl, hb1⟩
  obtain ⟨b1, B1⟩ := unhide HKB w1 hb1
  obtain ⟨k0, k1, k2, k3, k4, k5, k6, k7, k8⟩ := b1.cells
  have j0 := b1.x.c0
  have j1 := b1.x.c1
  have j2 := b1.x.c2
  have j3 := b1.x.c3
  have j4 := b1.x.c4
  have j5 := b1.x.c5
  have j6 := b1.x.c6
  have HB1 := hide B1
  have HX1 := hide b1
  clear hb1 b1 B1
  go_wp2_with fail
  exact bodyPost_ret (v := .tuple #[.agg #[.int .i64 0, .slice none 0 0, .slice none 0 0], .slice none 0 0, .int .i64 E]) (by simp [results, Tryz.results13, go_sem, k3, k4, k5]) rfl (unhide FIN _ _ rfl ((((unhide HB1).setCell (by show w.heap.size ≤ w.heap.size + 1 + 1; omega) _).setCell (by show w.heap.size ≤ w.heap.size + 1 + 1; omega) _).setCell (by show w.heap.size ≤ w.heap.size + 1 + 1; omega) _))

/-- g.Tree and g.events, stored -/
theorem gives_yes {w W : World} {t : Tr} {x : WTxn} {B b : Nat} {vn vs ve : Value} {v0 v1 v2 : Value} (ha : appE t x = 0) (hg : Grow W (fun k => B ≤ k) b x.z vn vs ve (chgN t x) (chgS t x) (chgV t x)) (hq : w.heap.size + 3 ≤ B) (hb : Below w.heap.size w W) :
    GivesA w t x (.returned (.tuple #[.agg #[.int .i64 x.z, vn, vs], ve, .int .i64 0])) (((W.setCell ⟨w.heap.size + 2, 0, none⟩ v0).setCell ⟨w.heap.size + 2, 1, none⟩ v1).setCell ⟨w.heap.size + 2, 2, none⟩ v2).drew := by
  have h1 : appT t x = ⟨x.z, chgN t x, chgS t x⟩ := by rw [appT, if_pos ha]
  have h2 : appV t x = chgV t x := by rw [appV, if_pos ha]
  have nn : ∀ k, vn.ownBlock = some k → w.heap.size + 3 ≤ k := fun k hk => Nat.le_trans hq (hg.fn k hk).1
  have ns : ∀ k, vs.ownBlock = some k → w.heap.size + 3 ≤ k := fun k hk => Nat.le_trans hq (hg.fs k hk).1
  have ne : ∀ k, ve.ownBlock = some k → w.heap.size + 3 ≤ k := fun k hk => Nat.le_trans hq (hg.fe k hk).1
  have no : ∀ {v : Value}, (∀ k, v.ownBlock = some k → w.heap.size + 3 ≤ k) → v.ownBlock ≠ some (w.heap.size + 2) := fun h e => by have := h _ e; omega
  refine ⟨vn, vs, ve, by rw [h1, ha], ?_, ?_, ?_, ?_⟩
  · rw [h1]
    exact (((hg.n.raise (fun k hk => by have := nn k hk; omega)).other (no nn) _).other (no nn) _).other (no nn) _ |>.next (Below.refl _ _).drew
  · rw [h1]
    exact (((hg.s.raise (fun k hk => by have := ns k hk; omega)).other (no ns) _).other (no ns) _).other (no ns) _ |>.next (Below.refl _ _).drew
  · rw [h2]
    exact (((hg.e.raise (fun k hk => by have := ne k hk; omega)).other (no ne) _).other (no ne) _).other (no ne) _ |>.next (Below.refl _ _).drew
  · exact (((hb.setCell (by simp) _).setCell (by simp) _).setCell (by simp) _).drew

set_option maxRecDepth 20000 in
set_option maxHeartbeats 4000000 in
theorem apply_chg (t : Tr) (vn vs : Value) (x : WTxn) (w : World) (hn : SeqV w vn t.ns) (hs : SeqV w vs t.ss) (hw : WfT t) (hd : x.d.length ≤ 140737488355328) (ha : admE t x = 0) :
    Calls Tryz.prog 13 #[.agg #[.int .i64 t.z, vn, vs], txnV x] w (GivesA w t x) := by
  have CA := hide (fun W (hW : Below w.heap.size w W) => admit_any t vn vs x W (hn.next hW) (hs.next hW) hw hd)
  rw [ha] at CA
  obtain ⟨g, _⟩ := adm_zero ha
  have few := g.nod.few
  have sl := sasc_len g.ses
  have CB := hide (fun W (hW : Below w.heap.size w W) => begun_any t vn vs x.z W (hn.next hW) (hs.next hW) few sl hw.slim)
  have CC := hide (fun (F : Nat → Prop) b vn' vs' W (hG : Grow W F b x.z vn' vs' (.slice none 0 0) t.ns t.ss []) hF => change_any F b t vn' vs' x W hG hF ha)
  have hap := appE_chg ha
  have FNO := hide (fun w' e (h0 : chgF t x ≠ 0) h hb => gives_no (w := w) (w' := w') (e := e) hap h0 h hb)
  have FYE := hide (fun (W : World) (B b : Nat) (vn vs ve v0 v1 v2 : Value) (h0 : chgF t x = 0) hg hq hb => gives_yes (w := w) (W := W) (t := t) (x := x) (B := B) (b := b) (vn := vn) (vs := vs) (ve := ve) (v0 := v0) (v1 := v1) (v2 := v2) (hap.trans h0) hg hq hb)
  obtain ⟨na, nc, rfl⟩ := seq_slice hn
  obtain ⟨sa, sc, rfl⟩ := seq_slice hs
  clear hn hs hw ha hap g few sl
  generalize hQ : GivesA w t x = Q at FNO FYE ⊢
  clear hQ
  obtain ⟨E, hE⟩ : ∃ E, chgF t x = E := ⟨_, rfl⟩
  unfold Chg at CC
  rw [hE] at CC FNO FYE
  clear hE
  obtain ⟨xz, xo, xs, xp, xd, xv, xw⟩ := x
  unfold txnV at *
  simp only at *
  have KB : ∀ W, Below (((w.alloc (.cells #[.int .i64 t.z, .slice na t.ns.length nc, .slice sa t.ss.length sc] 34)).alloc (.cells #[.int .i64 xz, .int .i64 xo, .int .i64 xs, .string ⟨xp.toArray⟩, .string ⟨xd.toArray⟩, .int .i64 xv, .int .i64 xw] 53)).alloc (.cells #[.int .i64 0, .slice none 0 0, .slice none 0 0] 34)).heap.size (((w.alloc (.cells #[.int .i64 t.z, .slice na t.ns.length nc, .slice sa t.ss.length sc] 34)).alloc (.cells #[.int .i64 xz, .int .i64 xo, .int .i64 xs, .string ⟨xp.toArray⟩, .string ⟨xd.toArray⟩, .int .i64 xv, .int .i64 xw] 53)).alloc (.cells #[.int .i64 0, .slice none 0 0, .slice none 0 0] 34)) W → AppB W w.heap.size t.z (.slice na t.ns.length nc) (.slice sa t.ss.length sc) ⟨xz, xo, xs, xp, xd, xv, xw⟩ ∧ Below w.heap.size w W := fun W h => ⟨(AppB.new w _ _ _ ⟨xz, xo, xs, xp, xd, xv, xw⟩).next h, nbox_then (nbox_then (nbox_then h))⟩
  have HKB := hide KB
  clear KB
  go_enter Tryz.func13, Tryz.ntmps13
  go_wp2_with fail
  refine (unhide CA _ (nnext (nnext (allocB _ _) (allocB _ _)) (allocB _ _))).mono ?_
  rintro e w1 ⟨rfl, hb1⟩
  obtain ⟨b1, B1⟩ := unhide HKB w1 hb1
  obtain ⟨k0, k1, k2, k3, k4, k5, k6, k7, k8⟩ := b1.cells
  have j0 := b1.x.c0
  have j1 := b1.x.c1
  have j2 := b1.x.c2
  have j3 := b1.x.c3
  have j4 := b1.x.c4
  have j5 := b1.x.c5
  have j6 := b1.x.c6
  have HB1 := hide B1
  have HX1 := hide b1
  clear hb1 b1 B1
  go_wp2_with fail
  refine (unhide CB _ (unhide HB1)).mono ?_
  rintro e w2 ⟨b, vn2, vs2, rfl, g2, hb2⟩
  have b2 := (unhide HX1).next hb2
  obtain ⟨m0, m1, m2, m3, m4, m5, m6, m7, m8⟩ := b2.cells
  have i0 := b2.x.c0
  have i1 := b2.x.c1
  have i2 := b2.x.c2
  have i3 := b2.x.c3
  have i4 := b2.x.c4
  have i5 := b2.x.c5
  have i6 := b2.x.c6
  have HB2 := hide (nnext (unhide HB1) hb2)
  have HX2 := hide b2
  have HG2 := hide g2
  have hsz2 := hb2.size
  clear hb2 g2 b2 k0 k1 k2 k3 k4 k5 k6 k7 k8 j0 j1 j2 j3 j4 j5 j6 CB CA
  go_wp2_with fail
  refine (unhide CC _ _ _ _ _ (unhide HG2) (fun k hk => Nat.le_trans hsz2 hk)).mono ?_
  rintro e w3 ⟨rfl, t3, g3⟩
  have q1 := (unhide HX1).lt
  have b3 := (unhide HX2).touch t3 (fun k hk => by omega)
  obtain ⟨n0, n1, n2, n3, n4, n5, n6, n7, n8⟩ := b3.cells
  have B3 : Below w.heap.size w w3 := (unhide HB2).trans (t3.below (by omega) (fun k hk => by omega))
  have HB3 := hide B3
  clear CC b3 B3 t3 m0 m1 m2 m3 m4 m5 m6 m7 m8 i0 i1 i2 i3 i4 i5 i6
  by_cases h0 : E = 0
  · obtain ⟨vn3, vs3, ve3, g3⟩ := g3 h0
    have d0 := g3.c0
    have d1 := g3.c1
    have d2 := g3.c2
    have d3 := g3.c3
    obtain ⟨na3, nc3, hn3, _⟩ := g3.n.slice
    obtain ⟨sa3, sc3, hs3, _⟩ := g3.s.slice
    obtain ⟨ea3, ec3, he3, _⟩ := g3.e.slice
    have HG3 := hide g3
    have hbl := g3.lt
    have hbq : w1.heap.size ≤ b := g3.fb
    have hne : b ≠ w.heap.size + 2 := by omega
    have FY := hide (fun (v0 v1 v2 : Value) => unhide FYE w3 w1.heap.size b vn3 vs3 ve3 v0 v1 v2 h0 (unhide HG3) (by omega) (unhide HB3))
    subst hn3 hs3 he3 h0
    clear g3 FYE FNO HG3
    go_wp2_with fail
    go_region
    go_wp2_with fail
    exact bodyPost_ret (v := .tuple #[.agg #[.int .i64 xz, .slice na3 (chgN t ⟨xz, xo, xs, xp, xd, xv, xw⟩).length nc3, .slice sa3 (chgS t ⟨xz, xo, xs, xp, xd, xv, xw⟩).length sc3], .slice ea3 (chgV t ⟨xz, xo, xs, xp, xd, xv, xw⟩).length ec3, .int .i64 0]) (by simp [results, Tryz.results13, go_sem, n3, n4, n5]) rfl (unhide FY _ _ _)
  · have h0b : (E != 0) = true := by simpa using h0
    have FN := hide (fun w' e h hb => unhide FNO w' e h0 h hb)
    clear g3 FYE FNO h0
    go_wp2_with fail
    exact bodyPost_ret (v := .tuple #[.agg #[.int .i64 0, .slice none 0 0, .slice none 0 0], .slice none 0 0, .int .i64 E]) (by simp [results, Tryz.results13, go_sem, n3, n4, n5]) rfl (unhide FN _ _ rfl ((((unhide HB3).setCell (by show w.heap.size ≤ w.heap.size + 1 + 1; omega) _).setCell (by show w.heap.size ≤ w.heap.size + 1 + 1; omega) _).setCell (by show w.heap.size ≤ w.heap.size + 1 + 1; omega) _))

theorem apply_any (t : Tr) (vn vs : Value) (x : WTxn) (w : World) (hn : SeqV w vn t.ns) (hs : SeqV w vs t.ss) (hw : WfT t) (hd : x.d.length ≤ 140737488355328) :
    Calls Tryz.prog 13 #[.agg #[.int .i64 t.z, vn, vs], txnV x] w (GivesA w t x) := by
  by_cases ha : admE t x = 0
  · exact apply_chg t vn vs x w hn hs hw hd ha
  · exact apply_adm t vn vs x w hn hs hw hd ha

end Go.Proofs.YtoacignhobchbaaGreatDoor

namespace Go.Proofs.YtoacignhobchbaaGreatDoor
open Go.RowKit

/- append(nil, l...) -/
/-- a tree's box at q, a box for the answer behind it -/
structure OB (w W : World) (z : Int) (vn vs : Value) : Prop where
  t : W.heap[w.heap.size]? = some (.cells #[.int .i64 z, vn, vs] 34 (0, 0))
  r : W.heap[w.heap.size + 1]? = some (.cells #[.int .i64 0, .slice none 0 0, .slice none 0 0] 34 (0, 0))
  b : Below w.heap.size w W
theorem OB.new (w : World) (z : Int) (vn vs : Value) : OB w ((w.alloc (.cells #[.int .i64 z, vn, vs] 34)).alloc (.cells #[.int .i64 0, .slice none 0 0, .slice none 0 0] 34)) z vn vs := by
  refine ⟨?_, ?_, nnext (allocB _ _) (allocB _ _)⟩
  · rw [(allocB _ _).block _ (by simp)]
    exact heap_alloc_new w _
  · have h := heap_alloc_new (w.alloc (.cells #[.int .i64 z, vn, vs] 34)) (.cells #[.int .i64 0, .slice none 0 0, .slice none 0 0] 34)
    rw [show (w.alloc (.cells #[.int .i64 z, vn, vs] 34)).heap.size = w.heap.size + 1 by simp] at h
    exact h
theorem OB.lt {w W : World} {z : Int} {vn vs : Value} (h : OB w W z vn vs) : w.heap.size + 1 < W.heap.size := (Array.getElem?_eq_some_iff.1 h.r).1
theorem OB.next {w W V : World} {z : Int} {vn vs : Value} (h : OB w W z vn vs) (hb : Below W.heap.size W V) : OB w V z vn vs := by
  have := h.lt
  exact ⟨(hb.block _ (by omega)).trans h.t, (hb.block _ (by omega)).trans h.r, nnext h.b hb⟩
theorem OB.drew {w W : World} {z : Int} {vn vs : Value} (h : OB w W z vn vs) : OB w W.drew z vn vs := h.next (Below.refl _ _).drew
theorem grown_below {W V : World} (h : W.grownBy V none) : Below W.heap.size W V := ⟨h.os, h.tape, h.output, h.size, fun k hk => h.block k hk (by simp)⟩
theorem OB.grown {w W V : World} {z : Int} {vn vs : Value} (h : OB w W z vn vs) (hg : W.grownBy V none) : OB w V z vn vs := h.next (grown_below hg)
theorem OB.cells {w W : World} {z : Int} {vn vs : Value} (h : OB w W z vn vs) : W.cell? ⟨w.heap.size, 0, none⟩ = some (.int .i64 z) ∧ W.cell? ⟨w.heap.size, 1, none⟩ = some vn ∧ W.cell? ⟨w.heap.size, 2, none⟩ = some vs ∧ W.frozen? ⟨w.heap.size, 1, none⟩ = false ∧ W.frozen? ⟨w.heap.size, 2, none⟩ = false := by
  have h1 := h.t
  refine ⟨?_, ?_, ?_, ?_, ?_⟩ <;> simp [World.cell?, World.frozen?, h1]
theorem OB.res {w W : World} {z : Int} {vn vs : Value} (h : OB w W z vn vs) : W.cell? ⟨w.heap.size + 1, 0, none⟩ = some (.int .i64 0) ∧ W.cell? ⟨w.heap.size + 1, 1, none⟩ = some (.slice none 0 0) ∧ W.cell? ⟨w.heap.size + 1, 2, none⟩ = some (.slice none 0 0) ∧ W.frozen? ⟨w.heap.size + 1, 0, none⟩ = false ∧ W.frozen? ⟨w.heap.size + 1, 1, none⟩ = false ∧ W.frozen? ⟨w.heap.size + 1, 2, none⟩ = false := by
  have h1 := h.r
  refine ⟨?_, ?_, ?_, ?_, ?_, ?_⟩ <;> simp [World.cell?, World.frozen?, h1]
theorem OB.put {w W : World} {z : Int} {vn vs : Value} (h : OB w W z vn vs) (v : Value) (c : Nat) (vn' vs' : Value) (hc : (#[.int .i64 z, vn, vs] : Array Value).set! c v = #[.int .i64 z, vn', vs']) : OB w (W.setCell ⟨w.heap.size, c, none⟩ v) z vn' vs' := by
  refine ⟨?_, (Below.heap_setCell _ _ _ _ (by simp)).trans h.r, h.b.setCell (by simp) _⟩
  rw [block_set v h.t, ← hc]
  simp
/-- copied, but for the answer -/
def OwnQ (w : World) (z : Int) (ns : List Nd) (ss : List Int) (wx : World) : Prop :=
  ∃ an cn ai ci, OB w wx z (.slice an ns.length cn) (.slice ai ss.length ci) ∧ OwnS wx (w.heap.size + 2) (.slice an ns.length cn) ns ∧ OwnS wx (w.heap.size + 2) (.slice ai ss.length ci) ss
theorem OwnQ.next {w W V : World} {z : Int} {ns : List Nd} {ss : List Int} (h : OwnQ w z ns ss W) (hb : Below W.heap.size W V) : OwnQ w z ns ss V := by
  obtain ⟨an, cn, ai, ci, h1, h2, h3⟩ := h
  exact ⟨an, cn, ai, ci, h1.next hb, h2.next hb, h3.next hb⟩
/-- what a copy gives -/
def GivesT (w : World) (t : Tr) (e : Ending) (w' : World) : Prop :=
  ∃ vn vs, e = .returned (.agg #[.int .i64 t.z, vn, vs]) ∧ OwnS w' w.heap.size vn t.ns ∧ OwnS w' w.heap.size vs t.ss ∧ Below w.heap.size w w'
/- New, Get -/
theorem one_root (w : World) : OwnS (w.alloc (.cells #[.string ⟨#[47]⟩, .string ⟨#[]⟩, .int .i64 0, .int .i64 0, .int .i64 0, .int .i64 0, .int .i64 0, .int .i64 0, .int .i64 0] 70)) w.heap.size (.slice (some ⟨w.heap.size, 0, none⟩) 1 1) [nroot] :=
  .inr ⟨w.heap.size, 1, rfl, Nat.le_refl _, [], by rw [heap_alloc_new]; rfl, by decide, by decide, by decide⟩
set_option maxRecDepth 20000 in
set_option maxHeartbeats 1000000 in
theorem tnew_any (w : World) : Calls Tryz.prog 12 #[] w (GivesT w trNew) := by
  have H : Hid (GivesT w trNew (.returned (.agg #[.int .i64 0, .slice (some ⟨w.heap.size + 1, 0, none⟩) 1 1, .slice none 0 0])) ((w.alloc (.cells #[.int .i64 0, .slice (some ⟨w.heap.size + 1, 0, none⟩) 1 1, .slice none 0 0] 34)).alloc (.cells #[.string ⟨#[47]⟩, .string ⟨#[]⟩, .int .i64 0, .int .i64 0, .int .i64 0, .int .i64 0, .int .i64 0, .int .i64 0, .int .i64 0] 70))) := by
    have h := one_root (w.alloc (.cells #[.int .i64 0, .slice (some ⟨w.heap.size + 1, 0, none⟩) 1 1, .slice none 0 0] 34))
    rw [show (w.alloc (.cells #[.int .i64 0, .slice (some ⟨w.heap.size + 1, 0, none⟩) 1 1, .slice none 0 0] 34)).heap.size = w.heap.size + 1 by simp] at h
    exact ⟨_, _, rfl, h.lower (by omega), .inl ⟨rfl, rfl⟩, nnext (allocB _ _) (allocB _ _)⟩
  go_enter Tryz.func12, Tryz.ntmps12
  go_wp2_with fail
  exact bodyPost_ret (v := .agg #[.int .i64 0, .slice (some ⟨w.heap.size + 1, 0, none⟩) 1 1, .slice none 0 0]) (by simp [results, Tryz.results12, go_sem]) rfl (unhide H)
end Go.Proofs.YtoacignhobchbaaGreatDoor

namespace Go.Proofs.YtoacignhobchbaaGreatDoor
open Go.RowKit

/-- a tree's box, and a node's for the answer -/
structure GB (w W : World) (z : Int) (vn vs : Value) : Prop where
  t : W.heap[w.heap.size]? = some (.cells #[.int .i64 z, vn, vs] 34 (0, 0))
  r : W.heap[w.heap.size + 1]? = some (.cells #[.string ⟨#[]⟩, .string ⟨#[]⟩, .int .i64 0, .int .i64 0, .int .i64 0, .int .i64 0, .int .i64 0, .int .i64 0, .int .i64 0] 70 (0, 0))
  b : Below w.heap.size w W
theorem GB.new (w : World) (z : Int) (vn vs : Value) : GB w ((w.alloc (.cells #[.int .i64 z, vn, vs] 34)).alloc (.cells #[.string ⟨#[]⟩, .string ⟨#[]⟩, .int .i64 0, .int .i64 0, .int .i64 0, .int .i64 0, .int .i64 0, .int .i64 0, .int .i64 0] 70)) z vn vs := by
  refine ⟨?_, ?_, nnext (allocB _ _) (allocB _ _)⟩
  · rw [(allocB _ _).block _ (by simp)]
    exact heap_alloc_new w _
  · have h := heap_alloc_new (w.alloc (.cells #[.int .i64 z, vn, vs] 34)) (.cells #[.string ⟨#[]⟩, .string ⟨#[]⟩, .int .i64 0, .int .i64 0, .int .i64 0, .int .i64 0, .int .i64 0, .int .i64 0, .int .i64 0] 70)
    rw [show (w.alloc (.cells #[.int .i64 z, vn, vs] 34)).heap.size = w.heap.size + 1 by simp] at h
    exact h
theorem GB.lt {w W : World} {z : Int} {vn vs : Value} (h : GB w W z vn vs) : w.heap.size + 1 < W.heap.size := (Array.getElem?_eq_some_iff.1 h.r).1
theorem GB.next {w W V : World} {z : Int} {vn vs : Value} (h : GB w W z vn vs) (hb : Below W.heap.size W V) : GB w V z vn vs := by
  have := h.lt
  exact ⟨(hb.block _ (by omega)).trans h.t, (hb.block _ (by omega)).trans h.r, nnext h.b hb⟩
theorem GB.c1 {w W : World} {z : Int} {vn vs : Value} (h : GB w W z vn vs) : W.cell? ⟨w.heap.size, 1, none⟩ = some vn := by simp [World.cell?, h.t]
theorem GB.one {w W : World} {z : Int} {vn vs : Value} (h : GB w W z vn vs) : OneR W (w.heap.size + 1) nzero := h.r

set_option maxRecDepth 20000 in
set_option maxHeartbeats 2000000 in
theorem tget_gap (z : Int) (vn vs : Value) (ns A B : List Nd) (p : List UInt8) (w : World) (hn : SeqV w vn ns) (hl : ns.length ≤ 100000) (G : NGap ns A B p) :
    Calls Tryz.prog 89 #[.agg #[.int .i64 z, vn, vs], .string ⟨p.toArray⟩] w fun e w' => e = .returned (.tuple #[nodeV nzero, .int .i64 7]) ∧ Below w.heap.size w w' := by
  have CF := hide (fun W (hW : Below w.heap.size w W) => nfind_gap vn ns A B p W (hn.next hW) hl G)
  have B0 := hide (GB.new w z vn vs)
  obtain ⟨na, nc, rfl⟩ := seq_slice hn
  clear hn G
  go_enter Tryz.func89, Tryz.ntmps89
  go_wp2_with fail
  refine (unhide CF _ (unhide B0).b).mono ?_
  rintro e w1 ⟨rfl, hb1⟩
  have b1 := (unhide B0).next hb1
  have o1 := b1.one
  have c0 := o1.cellN 0 _ rfl
  have c1 := o1.cellN 1 _ rfl
  have c2 := o1.cellN 2 _ rfl
  have c3 := o1.cellN 3 _ rfl
  have c4 := o1.cellN 4 _ rfl
  have c5 := o1.cellN 5 _ rfl
  have c6 := o1.cellN 6 _ rfl
  have c7 := o1.cellN 7 _ rfl
  have c8 := o1.cellN 8 _ rfl
  have f0 := o1.frozenN 0
  have f1 := o1.frozenN 1
  have f2 := o1.frozenN 2
  have f3 := o1.frozenN 3
  have f4 := o1.frozenN 4
  have f5 := o1.frozenN 5
  have f6 := o1.frozenN 6
  have f7 := o1.frozenN 7
  have f8 := o1.frozenN 8
  have BB := b1.b
  have HBB := hide BB
  clear CF B0 hb1 b1 o1 BB
  go_wp2_with fail
  have BB := unhide HBB
  exact bodyPost_ret (v := .tuple #[nodeV nzero, .int .i64 7]) (by simp [results, Tryz.results89, go_sem, nodeV, nzero, c0, c1, c2, c3, c4, c5, c6, c7, c8]) rfl
    ⟨rfl, ((((((((BB.setCell (by simp) _).setCell (by simp) _).setCell (by simp) _).setCell (by simp) _).setCell (by simp) _).setCell (by simp) _).setCell (by simp) _).setCell (by simp) _).setCell (by simp) _⟩

set_option maxRecDepth 20000 in
set_option maxHeartbeats 2000000 in
theorem tget_there (z : Int) (vn vs : Value) (ns A B : List Nd) (n : Nd) (p : List UInt8) (w : World) (hn : SeqV w vn ns) (hl : ns.length ≤ 100000) (T : NThere ns A n B p) (hp : n.p.length ≤ 140737488355328) (hd : n.d.length ≤ 140737488355328) :
    Calls Tryz.prog 89 #[.agg #[.int .i64 z, vn, vs], .string ⟨p.toArray⟩] w fun e w' => e = .returned (.tuple #[nodeV n, .int .i64 0]) ∧ Below w.heap.size w w' := by
  have CF := hide (fun W (hW : Below w.heap.size w W) => nfind_there vn ns A B n p W (hn.next hW) hl T)
  have CC := hide (fun W => tcopied_any n W hp hd)
  unfold nodeV at CC
  have hlt : A.length < ns.length := by rw [T.eq]; simp
  have hat : ns[A.length]? = some n := by rw [T.eq]; exact nat_at A n B
  obtain ⟨b, off, cap, rfl, hb, hr, _, _⟩ := seq_row hn (by rw [T.eq]; simp)
  have HR := hide (fun W (hW : Below w.heap.size w W) => hr.kept hW hb)
  have B0 := hide (GB.new w z (.slice (some ⟨b, off, none⟩) ns.length cap) vs)
  clear hn T hr
  have HAT := hide hat
  clear hat
  go_enter Tryz.func89, Tryz.ntmps89
  go_wp2_with fail
  refine (unhide CF _ (unhide B0).b).mono ?_
  rintro e w1 ⟨rfl, hb1⟩
  have b1 := (unhide B0).next hb1
  have HB1 := hide b1
  have e1 := b1.c1
  have q := unhide HR w1 b1.b
  have d0 := q.n0 (unhide HAT)
  have d1 := q.n1 (unhide HAT)
  have d2 := q.n2 (unhide HAT)
  have d3 := q.n3 (unhide HAT)
  have d4 := q.n4 (unhide HAT)
  have d5 := q.n5 (unhide HAT)
  have d6 := q.n6 (unhide HAT)
  have d7 := q.n7 (unhide HAT)
  have d8 := q.n8 (unhide HAT)
  clear q CF b1 hb1
  go_wp2_with fail
  refine (unhide CC _).mono ?_
  rintro e w2 ⟨rfl, hb2⟩
  have b2 := (unhide HB1).next hb2
  have o1 := b2.one
  have c0 := o1.cellN 0 _ rfl
  have c1 := o1.cellN 1 _ rfl
  have c2 := o1.cellN 2 _ rfl
  have c3 := o1.cellN 3 _ rfl
  have c4 := o1.cellN 4 _ rfl
  have c5 := o1.cellN 5 _ rfl
  have c6 := o1.cellN 6 _ rfl
  have c7 := o1.cellN 7 _ rfl
  have c8 := o1.cellN 8 _ rfl
  have f0 := o1.frozenN 0
  have f1 := o1.frozenN 1
  have f2 := o1.frozenN 2
  have f3 := o1.frozenN 3
  have f4 := o1.frozenN 4
  have f5 := o1.frozenN 5
  have f6 := o1.frozenN 6
  have f7 := o1.frozenN 7
  have f8 := o1.frozenN 8
  have HBB := hide b2.b
  clear b2 hb2 o1 CC d0 d1 d2 d3 d4 d5 d6 d7 d8 e1
  go_wp2_with fail
  have BB := unhide HBB
  exact bodyPost_ret (v := .tuple #[nodeV n, .int .i64 0]) (by simp [results, Tryz.results89, go_sem, nodeV, c0, c1, c2, c3, c4, c5, c6, c7, c8]) rfl
    ⟨rfl, ((((((((BB.setCell (by simp) _).setCell (by simp) _).setCell (by simp) _).setCell (by simp) _).setCell (by simp) _).setCell (by simp) _).setCell (by simp) _).setCell (by simp) _).setCell (by simp) _⟩

/- Kids -/
end Go.Proofs.YtoacignhobchbaaGreatDoor

namespace Go.Proofs.YtoacignhobchbaaGreatDoor
open Go.RowKit

/-- the boxes of a tree and of a transaction -/
structure TX (W : World) (qt qx : Nat) (z : Int) (vn vs : Value) (x : WTxn) : Prop where
  t : W.heap[qt]? = some (.cells #[.int .i64 z, vn, vs] 34 (0, 0))
  x : TAt W qx x
theorem TX.lt {W : World} {qt qx : Nat} {z : Int} {vn vs : Value} {x : WTxn} (h : TX W qt qx z vn vs x) : qt < W.heap.size ∧ qx < W.heap.size := ⟨(Array.getElem?_eq_some_iff.1 h.t).1, h.x.lt⟩
theorem TX.next {W V : World} {qt qx : Nat} {z : Int} {vn vs : Value} {x : WTxn} (h : TX W qt qx z vn vs x) (hb : Below W.heap.size W V) : TX V qt qx z vn vs x := ⟨(hb.block _ h.lt.1).trans h.t, h.x.next hb⟩
theorem TX.drew {W : World} {qt qx : Nat} {z : Int} {vn vs : Value} {x : WTxn} (h : TX W qt qx z vn vs x) : TX W.drew qt qx z vn vs x := h.next (Below.refl _ _).drew
theorem TX.other {W : World} {qt qx : Nat} {z : Int} {vn vs : Value} {x : WTxn} (h : TX W qt qx z vn vs x) {a : Addr} (v : Value) (h1 : qt ≠ a.block) (h2 : qx ≠ a.block) : TX (W.setCell a v) qt qx z vn vs x :=
  ⟨(Below.heap_setCell W a v qt h1).trans h.t, (Below.heap_setCell W a v qx h2).trans h.x⟩
theorem TX.ten {W : World} {qt qx : Nat} {z : Int} {vn vs : Value} {x : WTxn} (h : TX W qt qx z vn vs x) : W.cell? ⟨qt, 0, none⟩ = some (.int .i64 z) ∧ W.cell? ⟨qt, 1, none⟩ = some vn ∧ W.cell? ⟨qt, 2, none⟩ = some vs ∧ W.cell? ⟨qx, 0, none⟩ = some (.int .i64 x.z) ∧ W.cell? ⟨qx, 1, none⟩ = some (.int .i64 x.o) ∧ W.cell? ⟨qx, 2, none⟩ = some (.int .i64 x.s) ∧ W.cell? ⟨qx, 3, none⟩ = some (.string ⟨x.p.toArray⟩) ∧ W.cell? ⟨qx, 4, none⟩ = some (.string ⟨x.d.toArray⟩) ∧ W.cell? ⟨qx, 5, none⟩ = some (.int .i64 x.v) ∧ W.cell? ⟨qx, 6, none⟩ = some (.int .i64 x.w) := by
  have h1 := h.t
  refine ⟨?_, ?_, ?_, h.x.c0, h.x.c1, h.x.c2, h.x.c3, h.x.c4, h.x.c5, h.x.c6⟩ <;> simp [World.cell?, h1]
theorem TX.new (w : World) (z : Int) (vn vs : Value) (x : WTxn) : TX ((w.alloc (.cells #[.int .i64 z, vn, vs] 34)).alloc (.cells #[.int .i64 x.z, .int .i64 x.o, .int .i64 x.s, .string ⟨x.p.toArray⟩, .string ⟨x.d.toArray⟩, .int .i64 x.v, .int .i64 x.w] 53)) w.heap.size (w.heap.size + 1) z vn vs x := by
  refine ⟨?_, ?_⟩
  · rw [(allocB _ _).block _ (by simp)]
    exact heap_alloc_new w _
  · have h := TAt.new (w.alloc (.cells #[.int .i64 z, vn, vs] 34)) x
    simpa using h
/-- a tree in a box q, with its events: all of the call's own -/
structure AppX (W wx : World) (q : Nat) (t : Tr) (es : List Ev) (vn vs ve : Value) : Prop where
  box : wx.heap[q]? = some (.cells #[.int .i64 t.z, vn, vs] 34 (0, 0))
  n : OwnS wx W.heap.size vn t.ns
  s : OwnS wx W.heap.size vs t.ss
  e : OwnS wx W.heap.size ve es
  qb : W.heap.size ≤ q
  b : Below W.heap.size W wx
theorem AppX.lt {W wx : World} {q : Nat} {t : Tr} {es : List Ev} {vn vs ve : Value} (h : AppX W wx q t es vn vs ve) : q < wx.heap.size := (Array.getElem?_eq_some_iff.1 h.box).1
theorem AppX.next {W wx wy : World} {q : Nat} {t : Tr} {es : List Ev} {vn vs ve : Value} (h : AppX W wx q t es vn vs ve) (hb : Below wx.heap.size wx wy) : AppX W wy q t es vn vs ve :=
  ⟨(hb.block _ h.lt).trans h.box, h.n.next hb, h.s.next hb, h.e.next hb, h.qb, nnext h.b hb⟩
theorem AppX.cells {W wx : World} {q : Nat} {t : Tr} {es : List Ev} {vn vs ve : Value} (h : AppX W wx q t es vn vs ve) : wx.cell? ⟨q, 0, none⟩ = some (.int .i64 t.z) ∧ wx.cell? ⟨q, 1, none⟩ = some vn ∧ wx.cell? ⟨q, 2, none⟩ = some vs := by
  have h1 := h.box
  refine ⟨?_, ?_, ?_⟩ <;> simp [World.cell?, h1]
theorem app_new {W w2 : World} {B : Nat} {t : Tr} {es : List Ev} {vn vs ve : Value} (hb : Below W.heap.size W w2) (hB : W.heap.size ≤ B) (n : OwnS w2 B vn t.ns) (s : OwnS w2 B vs t.ss) (e : OwnS w2 B ve es) : AppX W (w2.alloc (.cells #[.int .i64 t.z, vn, vs] 34)) w2.heap.size t es vn vs ve :=
  ⟨heap_alloc_new w2 _, (n.lower hB).next (allocB _ _), (s.lower hB).next (allocB _ _), (e.lower hB).next (allocB _ _), hb.size, nnext hb (allocB _ _)⟩
theorem app_put {W w2 : World} {q B : Nat} {t : Tr} {es : List Ev} {vn vs ve : Value} (hb : Below W.heap.size W w2) (hB : W.heap.size ≤ q) (hq : q < B) (hz : w2.heap[q]? = some (.cells #[.int .i64 0, .slice none 0 0, .slice none 0 0] 34 (0, 0))) (n : OwnS w2 B vn t.ns) (s : OwnS w2 B vs t.ss) (e : OwnS w2 B ve es) :
    AppX W (((w2.setCell ⟨q, 0, none⟩ (.int .i64 t.z)).setCell ⟨q, 1, none⟩ vn).setCell ⟨q, 2, none⟩ vs) q t es vn vs ve := by
  have no : ∀ {α : Type} [Lay α] {v : Value} {xs : List α}, OwnS w2 B v xs → v.ownBlock ≠ some q := by
    intro α _ v xs ho e
    rcases ho with ⟨rfl, _⟩ | ⟨g, cap, rfl, hB, _⟩
    · cases e
    · simp [Value.ownBlock] at e; omega
  have hl : W.heap.size ≤ B := by omega
  refine ⟨?_, (((n.lower hl).other (no n) _).other (no n) _).other (no n) _, (((s.lower hl).other (no s) _).other (no s) _).other (no s) _, (((e.lower hl).other (no e) _).other (no e) _).other (no e) _, hB, ((hb.setCell hB _).setCell hB _).setCell hB _⟩
  rw [block_set vs (block_set vn (block_set (.int .i64 t.z) hz))]
  simp

theorem zcells {W : World} {q : Nat} (h : W.heap[q]? = some (.cells #[.int .i64 0, .slice none 0 0, .slice none 0 0] 34 (0, 0))) : W.cell? ⟨q, 0, none⟩ = some (.int .i64 0) ∧ W.cell? ⟨q, 1, none⟩ = some (.slice none 0 0) ∧ W.cell? ⟨q, 2, none⟩ = some (.slice none 0 0) ∧ W.frozen? ⟨q, 0, none⟩ = false ∧ W.frozen? ⟨q, 1, none⟩ = false ∧ W.frozen? ⟨q, 2, none⟩ = false := by
  refine ⟨?_, ?_, ?_, ?_, ?_, ?_⟩ <;> simp [World.cell?, World.frozen?, h]

theorem good_new : GoodT trNew := by
  refine ⟨by decide, ⟨List.Pairwise.nil, by simp [trNew]⟩, ⟨by decide, ⟨nroot, [], rfl, rfl, rfl⟩, List.pairwise_singleton _ _, ?_⟩, ?_⟩
  · intro n hn
    obtain rfl : n = nroot := by simpa [trNew] using hn
    refine ⟨by decide, goodB_root, fun h => absurd rfl h, by decide, by decide, by decide, by decide, by decide, by decide, by decide, by decide, ?_, .inl rfl⟩
    show (0 : Int) = kidsN [nroot] [47]
    simp [kidsN, nroot, dirOf_root]
  · intro n hn
    obtain rfl : n = nroot := by simpa [trNew] using hn
    decide
theorem GoodT.wf {t : Tr} (g : GoodT t) : WfT t := by
  refine ⟨fun s hs => by have := g.ses.2 s hs; omega, fun n hn => ?_⟩
  have k := g.nod.ok n hn
  have := goodB_le k.path
  have := k.data
  omega
end Go.Proofs.YtoacignhobchbaaGreatDoor

namespace Go.Proofs.YtoacignhobchbaaGreatDoor
open Go.RowKit

/-- two boxes of trees -/
structure TT (w W : World) (z : Int) (vn vs un us : Value) : Prop where
  a : W.heap[w.heap.size]? = some (.cells #[.int .i64 z, vn, vs] 34 (0, 0))
  b : W.heap[w.heap.size + 1]? = some (.cells #[.int .i64 z, un, us] 34 (0, 0))
  bl : Below w.heap.size w W
theorem TT.new (w : World) (z : Int) (vn vs un us : Value) : TT w ((w.alloc (.cells #[.int .i64 z, vn, vs] 34)).alloc (.cells #[.int .i64 z, un, us] 34)) z vn vs un us := by
  refine ⟨?_, ?_, nnext (allocB _ _) (allocB _ _)⟩
  · rw [(allocB _ _).block _ (by simp)]
    exact heap_alloc_new w _
  · have h := heap_alloc_new (w.alloc (.cells #[.int .i64 z, vn, vs] 34)) (.cells #[.int .i64 z, un, us] 34)
    rw [show (w.alloc (.cells #[.int .i64 z, vn, vs] 34)).heap.size = w.heap.size + 1 by simp] at h
    exact h
theorem TT.next {w W V : World} {z : Int} {vn vs un us : Value} (h : TT w W z vn vs un us) (hb : Below W.heap.size W V) : TT w V z vn vs un us :=
  ⟨(hb.block _ (Array.getElem?_eq_some_iff.1 h.a).1).trans h.a, (hb.block _ (Array.getElem?_eq_some_iff.1 h.b).1).trans h.b, nnext h.bl hb⟩
theorem TT.six {w W : World} {z : Int} {vn vs un us : Value} (h : TT w W z vn vs un us) : W.cell? ⟨w.heap.size, 0, none⟩ = some (.int .i64 z) ∧ W.cell? ⟨w.heap.size, 1, none⟩ = some vn ∧ W.cell? ⟨w.heap.size, 2, none⟩ = some vs ∧ W.cell? ⟨w.heap.size + 1, 0, none⟩ = some (.int .i64 z) ∧ W.cell? ⟨w.heap.size + 1, 1, none⟩ = some un ∧ W.cell? ⟨w.heap.size + 1, 2, none⟩ = some us := by
  have h1 := h.a
  have h2 := h.b
  refine ⟨?_, ?_, ?_, ?_, ?_, ?_⟩ <;> simp [World.cell?, h1, h2]

end Go.Proofs.YtoacignhobchbaaGreatDoor

namespace Go.Proofs.YtoacignhobchbaaGreatDoor
open Go.RowKit

/-- the tree and the events under way: two boxes, three rows of the call's own -/
structure RG (W : World) (F : Nat → Prop) (bo be : Nat) (z : Int) (vn vs ve : Value) (ns : List Nd) (ss : List Int) (es : List Ev) : Prop where
  o : W.heap[bo]? = some (.cells #[.int .i64 z, vn, vs] 34 (0, 0))
  v : W.heap[be]? = some (.cells #[ve] 49 (0, 0))
  oe : bo ≠ be
  fo : F bo
  fv : F be
  n : OwnS W 0 vn ns
  s : OwnS W 0 vs ss
  e : OwnS W 0 ve es
  kn : ∀ k, vn.ownBlock = some k → F k ∧ k ≠ bo ∧ k ≠ be ∧ vs.ownBlock ≠ some k ∧ ve.ownBlock ≠ some k
  ks : ∀ k, vs.ownBlock = some k → F k ∧ k ≠ bo ∧ k ≠ be ∧ ve.ownBlock ≠ some k
  ke : ∀ k, ve.ownBlock = some k → F k ∧ k ≠ bo ∧ k ≠ be
section
variable {W V : World} {F : Nat → Prop} {bo be : Nat} {z : Int} {vn vs ve : Value} {ns : List Nd} {ss : List Int} {es : List Ev}
theorem RG.lo (h : RG W F bo be z vn vs ve ns ss es) : bo < W.heap.size := (Array.getElem?_eq_some_iff.1 h.o).1
theorem RG.le (h : RG W F bo be z vn vs ve ns ss es) : be < W.heap.size := (Array.getElem?_eq_some_iff.1 h.v).1
theorem RG.next (h : RG W F bo be z vn vs ve ns ss es) (hb : Below W.heap.size W V) : RG V F bo be z vn vs ve ns ss es :=
  ⟨(hb.block _ h.lo).trans h.o, (hb.block _ h.le).trans h.v, h.oe, h.fo, h.fv, h.n.next hb, h.s.next hb, h.e.next hb, h.kn, h.ks, h.ke⟩
theorem RG.c0 (h : RG W F bo be z vn vs ve ns ss es) : W.cell? ⟨bo, 0, none⟩ = some (.int .i64 z) := by simp [World.cell?, h.o]
theorem RG.c1 (h : RG W F bo be z vn vs ve ns ss es) : W.cell? ⟨bo, 1, none⟩ = some vn := by simp [World.cell?, h.o]
theorem RG.c2 (h : RG W F bo be z vn vs ve ns ss es) : W.cell? ⟨bo, 2, none⟩ = some vs := by simp [World.cell?, h.o]
theorem RG.ce (h : RG W F bo be z vn vs ve ns ss es) : W.cell? ⟨be, 0, none⟩ = some ve := by simp [World.cell?, h.v]
/-- new events -/
theorem RG.ev {ve' : Value} {es' : List Ev} (h : RG W F bo be z vn vs ve ns ss es) (hF : ∀ k, W.heap.size ≤ k → F k) (hg : W.grownBy V ve.ownBlock) (he : OwnS V 0 ve' es') (hl : ve'.ownBlock = ve.ownBlock ∨ ve'.ownBlock = some W.heap.size) :
    RG (V.setCell ⟨be, 0, none⟩ ve') F bo be z vn vs ve' ns ss es' := by
  have hlo := h.lo
  have hle := h.le
  have nbe : some be ≠ ve.ownBlock := fun e => (h.ke be e.symm).2.2 rfl
  have nbo : some bo ≠ ve.ownBlock := fun e => (h.ke bo e.symm).2.1 rfl
  have hk : ∀ k, ve'.ownBlock = some k → F k ∧ k ≠ bo ∧ k ≠ be ∧ vn.ownBlock ≠ some k ∧ vs.ownBlock ≠ some k := by
    intro k hk
    rcases hl with e | e
    · rw [e] at hk
      obtain ⟨h1, h2, h3⟩ := h.ke k hk
      exact ⟨h1, h2, h3, fun hn => (h.kn k hn).2.2.2.2 hk, fun hs => (h.ks k hs).2.2.2 hk⟩
    · rw [e] at hk
      cases hk
      exact ⟨hF _ (Nat.le_refl _), by omega, by omega, fun hn => by have := h.n.low _ hn; omega, fun hs => by have := h.s.low _ hs; omega⟩
  refine ⟨?_, ?_, h.oe, h.fo, h.fv, ?_, ?_, ?_, fun k hn => ⟨(h.kn k hn).1, (h.kn k hn).2.1, (h.kn k hn).2.2.1, (h.kn k hn).2.2.2.1, fun e => (hk k e).2.2.2.1 hn⟩, fun k hs => ⟨(h.ks k hs).1, (h.ks k hs).2.1, (h.ks k hs).2.2.1, fun e => (hk k e).2.2.2.2 hs⟩, fun k he => ⟨(hk k he).1, (hk k he).2.1, (hk k he).2.2.1⟩⟩
  · exact (Below.heap_setCell V ⟨be, 0, none⟩ ve' bo h.oe).trans ((hg.block bo hlo nbo).trans h.o)
  · rw [block_set ve' ((hg.block be hle nbe).trans h.v)]
    rfl
  · exact (h.n.grown hg (fun k hn e => (h.kn k hn).2.2.2.2 e.symm)).other (fun e => (h.kn be e).2.2.1 rfl) _
  · exact (h.s.grown hg (fun k hs e => (h.ks k hs).2.2.2 e.symm)).other (fun e => (h.ks be e).2.2.1 rfl) _
  · exact he.other (fun e => (hk be e).2.2.1 rfl) _
/-- new nodes, in a new row -/
theorem RG.nd {vn' : Value} {ns' : List Nd} (h : RG W F bo be z vn vs ve ns ss es) (hF : ∀ k, W.heap.size ≤ k → F k) (hb : Below W.heap.size W V) (hn : OwnS V W.heap.size vn' ns') : RG (V.setCell ⟨bo, 1, none⟩ vn') F bo be z vn' vs ve ns' ss es := by
  have hlo := h.lo
  have hle := h.le
  have g := h.next hb
  have ha := fun k (hk : vn'.ownBlock = some k) => (show W.heap.size ≤ k by
    rcases hn with ⟨rfl, _⟩ | ⟨q, cap, rfl, h1, _⟩
    · cases hk
    · simp only [Value.ownBlock, Option.some.injEq] at hk; omega)
  refine ⟨?_, (Below.heap_setCell V ⟨bo, 1, none⟩ vn' be (fun e => h.oe e.symm)).trans g.v, h.oe, h.fo, h.fv, (hn.lower (Nat.zero_le _)).other (fun e => by have := ha bo e; omega) _, g.s.other (fun e => (h.ks bo e).2.1 rfl) _, g.e.other (fun e => (h.ke bo e).2.1 rfl) _, fun k hk => ?_, h.ks, h.ke⟩
  · rw [block_set vn' g.o]
    rfl
  · have := ha k hk
    exact ⟨hF k this, by omega, by omega, fun e => by have := h.s.low _ e; omega, fun e => by have := h.e.low _ e; omega⟩
/-- new sessions, in a new row -/
theorem RG.se {vs' : Value} {ss' : List Int} (h : RG W F bo be z vn vs ve ns ss es) (hF : ∀ k, W.heap.size ≤ k → F k) (hb : Below W.heap.size W V) (hs : OwnS V W.heap.size vs' ss') : RG (V.setCell ⟨bo, 2, none⟩ vs') F bo be z vn vs' ve ns ss' es := by
  have hlo := h.lo
  have hle := h.le
  have g := h.next hb
  have ha := fun k (hk : vs'.ownBlock = some k) => (show W.heap.size ≤ k by
    rcases hs with ⟨rfl, _⟩ | ⟨q, cap, rfl, h1, _⟩
    · cases hk
    · simp only [Value.ownBlock, Option.some.injEq] at hk; omega)
  refine ⟨?_, (Below.heap_setCell V ⟨bo, 2, none⟩ vs' be (fun e => h.oe e.symm)).trans g.v, h.oe, h.fo, h.fv, g.n.other (fun e => (h.kn bo e).2.1 rfl) _, (hs.lower (Nat.zero_le _)).other (fun e => by have := ha bo e; omega) _, g.e.other (fun e => (h.ke bo e).2.1 rfl) _, fun k hk => ⟨(h.kn k hk).1, (h.kn k hk).2.1, (h.kn k hk).2.2.1, fun e => by have := ha k e; have := h.n.low k hk; omega, (h.kn k hk).2.2.2.2⟩, fun k hk => ?_, h.ke⟩
  · rw [block_set vs' g.o]
    rfl
  · have := ha k hk
    exact ⟨hF k this, by omega, by omega, fun e => by have := h.e.low _ e; omega⟩
/-- a cell of a node -/
theorem RG.put {g cap l : Nat} {A B : List Nd} {n m : Nd} (h : RG W F bo be z (.slice (some ⟨g, 0, none⟩) l cap) vs ve (A ++ n :: B) ss es) {c : Nat} (hc : c < 9) {v : Value} (hm : ncells m = (ncells n).set c v) :
    RG (W.setCell ⟨g, A.length * 9 + c, none⟩ v) F bo be z (.slice (some ⟨g, 0, none⟩) l cap) vs ve (A ++ m :: B) ss es := by
  obtain ⟨_, hgo, hge, hgs, hgv⟩ := h.kn g rfl
  refine ⟨(Below.heap_setCell W ⟨g, _, none⟩ v bo (fun e => hgo e.symm)).trans h.o, (Below.heap_setCell W ⟨g, _, none⟩ v be (fun e => hge e.symm)).trans h.v, h.oe, h.fo, h.fv, ?_, h.s.other (fun e => hgs e) _, h.e.other (fun e => hgv e) _, h.kn, h.ks, h.ke⟩
  rcases h.n with ⟨h1, _⟩ | ⟨g', cap', h1, h2, h3⟩
  · cases h1
  · simp only [Value.slice.injEq, Option.some.injEq, Addr.mk.injEq, and_true] at h1
    obtain ⟨rfl, rfl, rfl⟩ := h1
    exact .inr ⟨g, cap, by simp, h2, h3.set (c := c) (by exact hc) hm⟩
theorem RG.nrow (h : RG W F bo be z vn vs ve ns ss es) (h0 : ns ≠ []) : ∃ g cap, vn = .slice (some ⟨g, 0, none⟩) ns.length cap ∧ OwnR W g cap ns ∧ g ≠ bo ∧ g ≠ be ∧ F g := by
  rcases h.n with ⟨_, h1⟩ | ⟨g, cap, rfl, _, h3⟩
  · exact absurd h1 h0
  · exact ⟨g, cap, rfl, h3, (h.kn g rfl).2.1, (h.kn g rfl).2.2.1, (h.kn g rfl).1⟩
end
end Go.Proofs.YtoacignhobchbaaGreatDoor
