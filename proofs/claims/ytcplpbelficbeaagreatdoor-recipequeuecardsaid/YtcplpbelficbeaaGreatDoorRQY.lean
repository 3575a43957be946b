/-
  What tree.Apply answers, at every tree and transaction: the walks.
  prep.Prepare: the walk.
-/
import Derived.Test.YtcplpbelficbeaaGreatDoorRQX
import Derived.Test.YtcplpbelficbeaaGreatDoorRQT
import Derived.Test.YtcplpbelficbeaaGreatDoorRQJ
import Derived.Test.YtcplpbelficbeaaGreatDoorRQS
import Derived.Test.YtcplpbelficbeaaGreatDoorRQH
namespace Go.Proofs.YtcplpbelficbeaaGreatDoor
open Go.RowKit

theorem OwnS.raise {α : Type} [Lay α] {W : World} {B : Nat} {v : Value} {xs : List α} (h : OwnS W 0 v xs) (hb : ∀ k, v.ownBlock = some k → B ≤ k) : OwnS W B v xs := by
  rcases h with h | ⟨g, cap, rfl, _, h⟩
  · exact .inl h
  · exact .inr ⟨g, cap, rfl, hb g rfl, h⟩
/-- what Apply gives -/
def GivesA (w : World) (t : Tr) (x : WTxn) (e : Ending) (w' : World) : Prop :=
  ∃ vn vs ve, e = .returned (.tuple #[.agg #[.int .i64 (appT t x).z, vn, vs], ve, .int .i64 (appE t x)]) ∧ OwnS w' w.heap.size vn (appT t x).ns ∧ OwnS w' w.heap.size vs (appT t x).ss ∧ OwnS w' w.heap.size ve (appV t x) ∧ Below w.heap.size w w'
theorem gives_no {w w' : World} {t : Tr} {x : WTxn} {E : Int} {e : Ending} (hE : appE t x = E) (h0 : E ≠ 0) (he : e = .returned (.tuple #[.agg #[.int .i64 0, .slice none 0 0, .slice none 0 0], .slice none 0 0, .int .i64 E])) (hb : Below w.heap.size w w') : GivesA w t x e w' := by
  have h1 : appT t x = tr0 := by rw [appT, if_neg (by omega)]
  have h2 : appV t x = [] := by rw [appV, if_neg (by omega)]
  refine ⟨.slice none 0 0, .slice none 0 0, .slice none 0 0, ?_, ?_, ?_, ?_, hb⟩
  · rw [hE, h1]; exact he
  · rw [h1]; exact .inl ⟨rfl, rfl⟩
  · rw [h1]; exact .inl ⟨rfl, rfl⟩
  · rw [h2]; exact .inl ⟨rfl, rfl⟩

/-- the boxes of Apply -/
structure AppB (W : World) (q : Nat) (z : Int) (vn vs : Value) (x : WTxn) : Prop where
  t : W.heap[q]? = some (.cells #[.int .i64 z, vn, vs] 26 (0, 0))
  x : TAt W (q + 1) x
  r : W.heap[q + 2]? = some (.cells #[.int .i64 0, .slice none 0 0, .slice none 0 0] 26 (0, 0))
theorem AppB.new (w : World) (z : Int) (vn vs : Value) (x : WTxn) : AppB (((w.alloc (.cells #[.int .i64 z, vn, vs] 26)).alloc (.cells #[.int .i64 x.z, .int .i64 x.o, .int .i64 x.s, .string ⟨x.p.toArray⟩, .string ⟨x.d.toArray⟩, .int .i64 x.v, .int .i64 x.w] 32)).alloc (.cells #[.int .i64 0, .slice none 0 0, .slice none 0 0] 26)) w.heap.size z vn vs x := by
  refine ⟨?_, ?_, ?_⟩
  · rw [(allocB _ _).block _ (by simp; omega), (allocB _ _).block _ (by simp)]
    exact heap_alloc_new w _
  · have h := (TAt.new (w.alloc (.cells #[.int .i64 z, vn, vs] 26)) x).next (allocB _ (.cells #[.int .i64 0, .slice none 0 0, .slice none 0 0] 26))
    simpa using h
  · have h := heap_alloc_new ((w.alloc (.cells #[.int .i64 z, vn, vs] 26)).alloc (.cells #[.int .i64 x.z, .int .i64 x.o, .int .i64 x.s, .string ⟨x.p.toArray⟩, .string ⟨x.d.toArray⟩, .int .i64 x.v, .int .i64 x.w] 32)) (.cells #[.int .i64 0, .slice none 0 0, .slice none 0 0] 26)
    rw [show ((w.alloc (.cells #[.int .i64 z, vn, vs] 26)).alloc (.cells #[.int .i64 x.z, .int .i64 x.o, .int .i64 x.s, .string ⟨x.p.toArray⟩, .string ⟨x.d.toArray⟩, .int .i64 x.v, .int .i64 x.w] 32)).heap.size = w.heap.size + 2 by simp] at h
    exact h
theorem AppB.lt {W : World} {q : Nat} {z : Int} {vn vs : Value} {x : WTxn} (h : AppB W q z vn vs x) : q + 2 < W.heap.size := (Array.getElem?_eq_some_iff.1 h.r).1
theorem AppB.touch {W V : World} {q : Nat} {z : Int} {vn vs : Value} {x : WTxn} {F : Nat → Prop} (h : AppB W q z vn vs x) (ht : Touch F W V) (hf : ∀ k, F k → q + 3 ≤ k) : AppB V q z vn vs x := by
  have := h.lt
  have n0 : ∀ k, k < q + 3 → ¬ F k := fun k hk hF => by have := hf k hF; omega
  exact ⟨(ht.block _ (by omega) (n0 _ (by omega))).trans h.t, (ht.block _ (by omega) (n0 _ (by omega))).trans h.x, (ht.block _ (by omega) (n0 _ (by omega))).trans h.r⟩
theorem AppB.next {W V : World} {q : Nat} {z : Int} {vn vs : Value} {x : WTxn} (h : AppB W q z vn vs x) (hb : Below W.heap.size W V) : AppB V q z vn vs x := h.touch (F := fun _ => False) (Touch.of_below hb) (fun _ hF => hF.elim)
theorem AppB.cells {W : World} {q : Nat} {z : Int} {vn vs : Value} {x : WTxn} (h : AppB W q z vn vs x) : W.cell? ⟨q, 0, none⟩ = some (.int .i64 z) ∧ W.cell? ⟨q, 1, none⟩ = some vn ∧ W.cell? ⟨q, 2, none⟩ = some vs ∧ W.cell? ⟨q + 2, 0, none⟩ = some (.int .i64 0) ∧ W.cell? ⟨q + 2, 1, none⟩ = some (.slice none 0 0) ∧ W.cell? ⟨q + 2, 2, none⟩ = some (.slice none 0 0) ∧ W.frozen? ⟨q + 2, 0, none⟩ = false ∧ W.frozen? ⟨q + 2, 1, none⟩ = false ∧ W.frozen? ⟨q + 2, 2, none⟩ = false := by
  have h1 := h.t
  have h2 := h.r
  refine ⟨?_, ?_, ?_, ?_, ?_, ?_, ?_, ?_, ?_⟩ <;> simp [World.cell?, World.frozen?, h1, h2]

set_option maxRecDepth 20000 in
set_option maxHeartbeats 2000000 in
theorem apply_adm (t : Tr) (vn vs : Value) (x : WTxn) (w : World) (hn : SeqV w vn t.ns) (hs : SeqV w vs t.ss) (hw : WfT t) (hd : x.d.length ≤ 140737488355328) (ha : admE t x ≠ 0) :
    Calls Tryz.prog 8 #[.agg #[.int .i64 t.z, vn, vs], txnV x] w (GivesA w t x) := by
  have CA := hide (fun W (hW : Below w.heap.size w W) => admit_any t vn vs x W (hn.next hW) (hs.next hW) hw hd)
  have FIN := hide (fun w' e h hb => gives_no (w := w) (w' := w') (e := e) (appE_adm ha) ha h hb)
  have hab : (admE t x != 0) = true := by simpa using ha
  obtain ⟨na, nc, rfl⟩ := seq_slice hn
  obtain ⟨sa, sc, rfl⟩ := seq_slice hs
  clear hn hs hw ha
  generalize admE t x = E at hab CA FIN
  generalize hQ : GivesA w t x = Q at FIN ⊢
  clear hQ
  obtain ⟨xz, xo, xs, xp, xd, xv, xw⟩ := x
  unfold txnV at *
  simp only at *
  have KB : ∀ W, Below (((w.alloc (.cells #[.int .i64 t.z, .slice na t.ns.length nc, .slice sa t.ss.length sc] 26)).alloc (.cells #[.int .i64 xz, .int .i64 xo, .int .i64 xs, .string ⟨xp.toArray⟩, .string ⟨xd.toArray⟩, .int .i64 xv, .int .i64 xw] 32)).alloc (.cells #[.int .i64 0, .slice none 0 0, .slice none 0 0] 26)).heap.size (((w.alloc (.cells #[.int .i64 t.z, .slice na t.ns.length nc, .slice sa t.ss.length sc] 26)).alloc (.cells #[.int .i64 xz, .int .i64 xo, .int .i64 xs, .string ⟨xp.toArray⟩, .string ⟨xd.toArray⟩, .int .i64 xv, .int .i64 xw] 32)).alloc (.cells #[.int .i64 0, .slice none 0 0, .slice none 0 0] 26)) W → AppB W w.heap.size t.z (.slice na t.ns.length nc) (.slice sa t.ss.length sc) ⟨xz, xo, xs, xp, xd, xv, xw⟩ ∧ Below w.heap.size w W := fun W h => ⟨(AppB.new w _ _ _ ⟨xz, xo, xs, xp, xd, xv, xw⟩).next h, nbox_then (nbox_then (nbox_then h))⟩
  have HKB := hide KB
  clear KB
  go_enter Tryz.func8, Tryz.ntmps8
  go_wp2_with fail
  refine (unhide CA _ (nnext (nnext (allocB _ _) (allocB _ _)) (allocB _ _))).mono ?_
  rintro e w1 ⟨rfl, hb1⟩
  obtain ⟨b1, B1⟩ := unhide HKB w1 hb1
  obtain ⟨k0, k1, k2, k3, k4, k5, k6, k7, k8⟩ := b1.cells
  have j0 := b1.x.c0
  have j1 := b1.x.c1
  have j2 := b1.x.c2
  have j3 := b1.x.c3
  have j4 := b1.x.c4
  have j5 := b1.x.c5
  have j6 := b1.x.c6
  have HB1 := hide B1
  have HX1 := hide b1
  clear hb1 b1 B1
  go_wp2_with fail
  exact bodyPost_ret (v := .tuple #[.agg #[.int .i64 0, .slice none 0 0, .slice none 0 0], .slice none 0 0, .int .i64 E]) (by simp [results, Tryz.results8, go_sem, k3, k4, k5]) rfl (unhide FIN _ _ rfl ((((unhide HB1).setCell (by show w.heap.size ≤ w.heap.size + 1 + 1; omega) _).setCell (by show w.heap.size ≤ w.heap.size + 1 + 1; omega) _).setCell (by show w.heap.size ≤ w.heap.size + 1 + 1; omega) _))

/-- g.Tree and g.events, stored -/
theorem gives_yes {w W : World} {t : Tr} {x : WTxn} {B b : Nat} {vn vs ve : Value} {v0 v1 v2 : Value} (ha : appE t x = 0) (hg : Grow W (fun k => B ≤ k) b x.z vn vs ve (chgN t x) (chgS t x) (chgV t x)) (hq : w.heap.size + 3 ≤ B) (hb : Below w.heap.size w W) :
    GivesA w t x (.returned (.tuple #[.agg #[.int .i64 x.z, vn, vs], ve, .int .i64 0])) (((W.setCell ⟨w.heap.size + 2, 0, none⟩ v0).setCell ⟨w.heap.size + 2, 1, none⟩ v1).setCell ⟨w.heap.size + 2, 2, none⟩ v2).drew := by
  have h1 : appT t x = ⟨x.z, chgN t x, chgS t x⟩ := by rw [appT, if_pos ha]
  have h2 : appV t x = chgV t x := by rw [appV, if_pos ha]
  have nn : ∀ k, vn.ownBlock = some k → w.heap.size + 3 ≤ k := fun k hk => Nat.le_trans hq (hg.fn k hk).1
  have ns : ∀ k, vs.ownBlock = some k → w.heap.size + 3 ≤ k := fun k hk => Nat.le_trans hq (hg.fs k hk).1
  have ne : ∀ k, ve.ownBlock = some k → w.heap.size + 3 ≤ k := fun k hk => Nat.le_trans hq (hg.fe k hk).1
  have no : ∀ {v : Value}, (∀ k, v.ownBlock = some k → w.heap.size + 3 ≤ k) → v.ownBlock ≠ some (w.heap.size + 2) := fun h e => by have := h _ e; omega
  refine ⟨vn, vs, ve, by rw [h1, ha], ?_, ?_, ?_, ?_⟩
  · rw [h1]
    exact (((hg.n.raise (fun k hk => by have := nn k hk; omega)).other (no nn) _).other (no nn) _).other (no nn) _ |>.next (Below.refl _ _).drew
  · rw [h1]
    exact (((hg.s.raise (fun k hk => by have := ns k hk; omega)).other (no ns) _).other (no ns) _).other (no ns) _ |>.next (Below.refl _ _).drew
  · rw [h2]
    exact (((hg.e.raise (fun k hk => by have := ne k hk; omega)).other (no ne) _).other (no ne) _).other (no ne) _ |>.next (Below.refl _ _).drew
  · exact (((hb.setCell (by simp) _).setCell (by simp) _).setCell (by simp) _).drew

set_option maxRecDepth 20000 in
set_option maxHeartbeats 4000000 in
theorem apply_chg (t : Tr) (vn vs : Value) (x : WTxn) (w : World) (hn : SeqV w vn t.ns) (hs : SeqV w vs t.ss) (hw : WfT t) (hd : x.d.length ≤ 140737488355328) (ha : admE t x = 0) :
    Calls Tryz.prog 8 #[.agg #[.int .i64 t.z, vn, vs], txnV x] w (GivesA w t x) := by
  have CA := hide (fun W (hW : Below w.heap.size w W) => admit_any t vn vs x W (hn.next hW) (hs.next hW) hw hd)
  rw [ha] at CA
  obtain ⟨g, _⟩ := adm_zero ha
  have few := g.nod.few
  have sl := sasc_len g.ses
  have CB := hide (fun W (hW : Below w.heap.size w W) => begun_any t vn vs x.z W (hn.next hW) (hs.next hW) few sl hw.slim)
  have CC := hide (fun (F : Nat → Prop) b vn' vs' W (hG : Grow W F b x.z vn' vs' (.slice none 0 0) t.ns t.ss []) hF => change_any F b t vn' vs' x W hG hF ha)
  have hap := appE_chg ha
  have FNO := hide (fun w' e (h0 : chgF t x ≠ 0) h hb => gives_no (w := w) (w' := w') (e := e) hap h0 h hb)
  have FYE := hide (fun (W : World) (B b : Nat) (vn vs ve v0 v1 v2 : Value) (h0 : chgF t x = 0) hg hq hb => gives_yes (w := w) (W := W) (t := t) (x := x) (B := B) (b := b) (vn := vn) (vs := vs) (ve := ve) (v0 := v0) (v1 := v1) (v2 := v2) (hap.trans h0) hg hq hb)
  obtain ⟨na, nc, rfl⟩ := seq_slice hn
  obtain ⟨sa, sc, rfl⟩ := seq_slice hs
  clear hn hs hw ha hap g few sl
  generalize hQ : GivesA w t x = Q at FNO FYE ⊢
  clear hQ
  obtain ⟨E, hE⟩ : ∃ E, chgF t x = E := ⟨_, rfl⟩
  unfold Chg at CC
  rw [hE] at CC FNO FYE
  clear hE
  obtain ⟨xz, xo, xs, xp, xd, xv, xw⟩ := x
  unfold txnV at *
  simp only at *
  have KB : ∀ W, Below (((w.alloc (.cells #[.int .i64 t.z, .slice na t.ns.length nc, .slice sa t.ss.length sc] 26)).alloc (.cells #[.int .i64 xz, .int .i64 xo, .int .i64 xs, .string ⟨xp.toArray⟩, .string ⟨xd.toArray⟩, .int .i64 xv, .int .i64 xw] 32)).alloc (.cells #[.int .i64 0, .slice none 0 0, .slice none 0 0] 26)).heap.size (((w.alloc (.cells #[.int .i64 t.z, .slice na t.ns.length nc, .slice sa t.ss.length sc] 26)).alloc (.cells #[.int .i64 xz, .int .i64 xo, .int .i64 xs, .string ⟨xp.toArray⟩, .string ⟨xd.toArray⟩, .int .i64 xv, .int .i64 xw] 32)).alloc (.cells #[.int .i64 0, .slice none 0 0, .slice none 0 0] 26)) W → AppB W w.heap.size t.z (.slice na t.ns.length nc) (.slice sa t.ss.length sc) ⟨xz, xo, xs, xp, xd, xv, xw⟩ ∧ Below w.heap.size w W := fun W h => ⟨(AppB.new w _ _ _ ⟨xz, xo, xs, xp, xd, xv, xw⟩).next h, nbox_then (nbox_then (nbox_then h))⟩
  have HKB := hide KB
  clear KB
  go_enter Tryz.func8, Tryz.ntmps8
  go_wp2_with fail
  refine (unhide CA _ (nnext (nnext (allocB _ _) (allocB _ _)) (allocB _ _))).mono ?_
  rintro e w1 ⟨rfl, hb1⟩
  obtain ⟨b1, B1⟩ := unhide HKB w1 hb1
  obtain ⟨k0, k1, k2, k3, k4, k5, k6, k7, k8⟩ := b1.cells
  have j0 := b1.x.c0
  have j1 := b1.x.c1
  have j2 := b1.x.c2
  have j3 := b1.x.c3
  have j4 := b1.x.c4
  have j5 := b1.x.c5
  have j6 := b1.x.c6
  have HB1 := hide B1
  have HX1 := hide b1
  clear hb1 b1 B1
  go_wp2_with fail
  refine (unhide CB _ (unhide HB1)).mono ?_
  rintro e w2 ⟨b, vn2, vs2, rfl, g2, hb2⟩
  have b2 := (unhide HX1).next hb2
  obtain ⟨m0, m1, m2, m3, m4, m5, m6, m7, m8⟩ := b2.cells
  have i0 := b2.x.c0
  have i1 := b2.x.c1
  have i2 := b2.x.c2
  have i3 := b2.x.c3
  have i4 := b2.x.c4
  have i5 := b2.x.c5
  have i6 := b2.x.c6
  have HB2 := hide (nnext (unhide HB1) hb2)
  have HX2 := hide b2
  have HG2 := hide g2
  have hsz2 := hb2.size
  clear hb2 g2 b2 k0 k1 k2 k3 k4 k5 k6 k7 k8 j0 j1 j2 j3 j4 j5 j6 CB CA
  go_wp2_with fail
  refine (unhide CC _ _ _ _ _ (unhide HG2) (fun k hk => Nat.le_trans hsz2 hk)).mono ?_
  rintro e w3 ⟨rfl, t3, g3⟩
  have q1 := (unhide HX1).lt
  have b3 := (unhide HX2).touch t3 (fun k hk => by omega)
  obtain ⟨n0, n1, n2, n3, n4, n5, n6, n7, n8⟩ := b3.cells
  have B3 : Below w.heap.size w w3 := (unhide HB2).trans (t3.below (by omega) (fun k hk => by omega))
  have HB3 := hide B3
  clear CC b3 B3 t3 m0 m1 m2 m3 m4 m5 m6 m7 m8 i0 i1 i2 i3 i4 i5 i6
  by_cases h0 : E = 0
  · obtain ⟨vn3, vs3, ve3, g3⟩ := g3 h0
    have d0 := g3.c0
    have d1 := g3.c1
    have d2 := g3.c2
    have d3 := g3.c3
    obtain ⟨na3, nc3, hn3, _⟩ := g3.n.slice
    obtain ⟨sa3, sc3, hs3, _⟩ := g3.s.slice
    obtain ⟨ea3, ec3, he3, _⟩ := g3.e.slice
    have HG3 := hide g3
    have hbl := g3.lt
    have hbq : w1.heap.size ≤ b := g3.fb
    have hne : b ≠ w.heap.size + 2 := by omega
    have FY := hide (fun (v0 v1 v2 : Value) => unhide FYE w3 w1.heap.size b vn3 vs3 ve3 v0 v1 v2 h0 (unhide HG3) (by omega) (unhide HB3))
    subst hn3 hs3 he3 h0
    clear g3 FYE FNO HG3
    go_wp2_with fail
    go_region
    go_wp2_with fail
    exact bodyPost_ret (v := .tuple #[.agg #[.int .i64 xz, .slice na3 (chgN t ⟨xz, xo, xs, xp, xd, xv, xw⟩).length nc3, .slice sa3 (chgS t ⟨xz, xo, xs, xp, xd, xv, xw⟩).length sc3], .slice ea3 (chgV t ⟨xz, xo, xs, xp, xd, xv, xw⟩).length ec3, .int .i64 0]) (by simp [results, Tryz.results8, go_sem, n3, n4, n5]) rfl (unhide FY _ _ _)
  · have h0b : (E != 0) = true := by simpa using h0
    have FN := hide (fun w' e h hb => unhide FNO w' e h0 h hb)
    clear g3 FYE FNO h0
    go_wp2_with fail
    exact bodyPost_ret (v := .tuple #[.agg #[.int .i64 0, .slice none 0 0, .slice none 0 0], .slice none 0 0, .int .i64 E]) (by simp [results, Tryz.results8, go_sem, n3, n4, n5]) rfl (unhide FN _ _ rfl ((((unhide HB3).setCell (by show w.heap.size ≤ w.heap.size + 1 + 1; omega) _).setCell (by show w.heap.size ≤ w.heap.size + 1 + 1; omega) _).setCell (by show w.heap.size ≤ w.heap.size + 1 + 1; omega) _))

theorem apply_any (t : Tr) (vn vs : Value) (x : WTxn) (w : World) (hn : SeqV w vn t.ns) (hs : SeqV w vs t.ss) (hw : WfT t) (hd : x.d.length ≤ 140737488355328) :
    Calls Tryz.prog 8 #[.agg #[.int .i64 t.z, vn, vs], txnV x] w (GivesA w t x) := by
  by_cases ha : admE t x = 0
  · exact apply_chg t vn vs x w hn hs hw hd ha
  · exact apply_adm t vn vs x w hn hs hw hd ha

end Go.Proofs.YtcplpbelficbeaaGreatDoor

namespace Go.Proofs.YtcplpbelficbeaaGreatDoor
open Go.RowKit

/-- what Prepare gives -/
def GivesP (w : World) (t : Tr) (z : Int) (r : Rq) (e : Ending) (w' : World) : Prop :=
  e = .returned (.tuple #[txnV (prpX t z r), .int .i64 (prpE t z r)]) ∧ Below w.heap.size w w'
theorem givesP_no {w w' : World} {t : Tr} {z : Int} {r : Rq} {E : Int} {e : Ending} (hE : prpE t z r = E) (h0 : E ≠ 0) (he : e = .returned (.tuple #[txnV t0, .int .i64 E])) (hb : Below w.heap.size w w') : GivesP w t z r e w' := by
  refine ⟨?_, hb⟩
  rw [prpX_no (by rw [hE]; exact h0), hE]
  exact he

theorem givesP_ok {w w' : World} {t : Tr} {z : Int} {r : Rq} {x : WTxn} {e : Ending} (hE : prpE t z r = 0) (hX : prpX t z r = x) (he : e = .returned (.tuple #[txnV x, .int .i64 0])) (hb : Below w.heap.size w w') : GivesP w t z r e w' := by
  refine ⟨?_, hb⟩
  rw [hE, hX]
  exact he

/-- the boxes of the tree, of the request, of the answer -/
structure PB (w W : World) (z : Int) (vn vs : Value) (r : Rq) : Prop where
  t : TR W w.heap.size z vn vs r
  a : TAt W (w.heap.size + 2) t0
  b : Below w.heap.size w W
section
variable {w W V : World} {z : Int} {vn vs : Value} {r : Rq}
theorem PB.next (h : PB w W z vn vs r) (hb : Below W.heap.size W V) : PB w V z vn vs r := ⟨h.t.next hb, h.a.next hb, nnext h.b hb⟩
theorem PB.new (w : World) (z : Int) (vn vs : Value) (r : Rq) : PB w (((w.alloc (.cells #[.int .i64 z, vn, vs] 26)).alloc (.cells #[.int .i64 r.o, .int .i64 r.s, .string ⟨r.p.toArray⟩, .string ⟨r.d.toArray⟩, .int .i64 r.v, .int .i64 r.f] 30)).alloc (.cells #[.int .i64 0, .int .i64 0, .int .i64 0, .string ⟨#[]⟩, .string ⟨#[]⟩, .int .i64 0, .int .i64 0] 32)) z vn vs r := by
  refine ⟨(TR.new w z vn vs r).next (allocB _ _), ?_, nnext (nnext (allocB _ _) (allocB _ _)) (allocB _ _)⟩
  have h := TAt.new ((w.alloc (.cells #[.int .i64 z, vn, vs] 26)).alloc (.cells #[.int .i64 r.o, .int .i64 r.s, .string ⟨r.p.toArray⟩, .string ⟨r.d.toArray⟩, .int .i64 r.v, .int .i64 r.f] 30)) t0
  rw [show ((w.alloc (.cells #[.int .i64 z, vn, vs] 26)).alloc (.cells #[.int .i64 r.o, .int .i64 r.s, .string ⟨r.p.toArray⟩, .string ⟨r.d.toArray⟩, .int .i64 r.v, .int .i64 r.f] 30)).heap.size = w.heap.size + 2 by simp] at h
  exact h
theorem PB.cells (h : PB w W z vn vs r) : (W.cell? ⟨w.heap.size + 2, 0, none⟩ = some (.int .i64 0) ∧ W.cell? ⟨w.heap.size + 2, 1, none⟩ = some (.int .i64 0) ∧ W.cell? ⟨w.heap.size + 2, 2, none⟩ = some (.int .i64 0) ∧ W.cell? ⟨w.heap.size + 2, 3, none⟩ = some (.string ⟨#[]⟩) ∧ W.cell? ⟨w.heap.size + 2, 4, none⟩ = some (.string ⟨#[]⟩) ∧ W.cell? ⟨w.heap.size + 2, 5, none⟩ = some (.int .i64 0) ∧ W.cell? ⟨w.heap.size + 2, 6, none⟩ = some (.int .i64 0)) := ⟨h.a.c0, h.a.c1, h.a.c2, h.a.c3, h.a.c4, h.a.c5, h.a.c6⟩
end
/-- a transaction stored whole -/
def put7 (W : World) (g : Nat) (t : WTxn) : World :=
  ((((((W.setCell ⟨g, 0, none⟩ (.int .i64 t.z)).setCell ⟨g, 1, none⟩ (.int .i64 t.o)).setCell ⟨g, 2, none⟩ (.int .i64 t.s)).setCell ⟨g, 3, none⟩ (.string ⟨t.p.toArray⟩)).setCell ⟨g, 4, none⟩ (.string ⟨t.d.toArray⟩)).setCell ⟨g, 5, none⟩ (.int .i64 t.v)).setCell ⟨g, 6, none⟩ (.int .i64 t.w)
theorem put7_below {w W : World} {g : Nat} (t : WTxn) (hb : Below w.heap.size w W) (hg : w.heap.size ≤ g) : Below w.heap.size w (put7 W g t) :=
  ((((((hb.setCell hg _).setCell hg _).setCell hg _).setCell hg _).setCell hg _).setCell hg _).setCell hg _

set_option maxRecDepth 20000 in
set_option maxHeartbeats 4000000 in
theorem prepare_any (t : Tr) (z : Int) (vn vs : Value) (r : Rq) (w : World) (hn : SeqV w vn t.ns) (hs : SeqV w vs t.ss) (hw : WfT t) (hp : r.p.length ≤ 140737488355328) (hd : r.d.length ≤ 140737488355328) (htab : Lib.TabIs Tryz.prog w "internal/strconv.uint64pow10" .u64 Lib.pow10Tab) :
    Calls Tryz.prog 7 #[.agg #[.int .i64 t.z, vn, vs], .int .i64 z, rqV r] w (GivesP w t z r) := by
  have CG := hide (fun W (hW : Below w.heap.size w W) => tgood_any t vn vs W (hn.next hW) (hs.next hW) hw)
  have CZ := hide (fun W => zgood_any z W)
  have CF := hide (fun (gt : GoodT t) g u (hu : Below w.heap.size w u) W hW hg hx => pfill_any t z vn vs r g u W gt (hn.next hu) (hs.next hu) hW hg hx hp hd (tab_kept htab hu))
  have CA := hide (fun W (hW : Below w.heap.size w W) => apply_any t vn vs (filX t z r) W (hn.next hW) (hs.next hW) hw (by have := filX_d t z r; omega))
  obtain ⟨na, nc, rfl⟩ := seq_slice hn
  obtain ⟨sa, sc, rfl⟩ := seq_slice hs
  obtain ⟨ro, rs, rp, rd, rv, rf⟩ := r
  unfold rqV at *
  simp only at *
  have P0 := hide (PB.new w t.z (.slice na t.ns.length nc) (.slice sa t.ss.length sc) ⟨ro, rs, rp, rd, rv, rf⟩)
  simp only at P0
  clear hn hs htab
  go_enter Tryz.func7, Tryz.ntmps7
  go_wp2_with fail
  refine (unhide CG _ (unhide P0).b).mono ?_
  rintro e w1 ⟨rfl, hb1⟩
  have P1 := hide ((unhide P0).next hb1)
  obtain ⟨b0, b1, b2, b3, b4, b5, b6, b7, b8⟩ := (unhide P1).t.nine
  obtain ⟨c0, c1, c2, c3, c4, c5, c6⟩ := (unhide P1).cells
  have f := (unhide P1).a.f
  have f0 := f 0
  have f1 := f 1
  have f2 := f 2
  have f3 := f 3
  have f4 := f 4
  have f5 := f 5
  have f6 := f 6
  simp only at b0 b1 b2 b3 b4 b5 b6 b7 b8
  clear hb1 P0 CG f
  cases hgd : goodT t with
  | false =>
    have HE : Hid (prpE t z ⟨ro, rs, rp, rd, rv, rf⟩ = 3) := hide (prp_head (by simp [headB, hgd]))
    clear hgd
    go_wp2_with fail
    exact bodyPost_ret (v := .tuple #[txnV t0, .int .i64 3]) (by simp [results, Tryz.results7, go_sem, txnV, t0, c0, c1, c2, c3, c4, c5, c6]) rfl (givesP_no (unhide HE) (by decide) rfl (put7_below t0 (unhide P1).b (by omega)))
  | true =>
    have HG := hide (goodT_true.1 hgd)
    have HGB := hide hgd
    clear hgd
    go_wp2_with fail
    refine (unhide CZ _).mono ?_
    rintro e w2 ⟨rfl, rfl⟩
    clear CZ
    cases hzd : zGood z with
    | false =>
      have HE : Hid (prpE t z ⟨ro, rs, rp, rd, rv, rf⟩ = 3) := hide (prp_head (by simp [headB, hzd]))
      clear hzd
      go_wp2_with fail
      exact bodyPost_ret (v := .tuple #[txnV t0, .int .i64 3]) (by simp [results, Tryz.results7, go_sem, txnV, t0, c0, c1, c2, c3, c4, c5, c6]) rfl (givesP_no (unhide HE) (by decide) rfl (put7_below t0 (unhide P1).b (by omega)))
    | true =>
      by_cases h1 : rs < 1
      · have HE : Hid (prpE t z ⟨ro, rs, rp, rd, rv, rf⟩ = 3) := hide (prp_head (by simp [headB]; intros; omega))
        have hd1 : decide (rs < 1) = true := decide_eq_true h1
        clear hzd h1
        go_wp2_with fail
        exact bodyPost_ret (v := .tuple #[txnV t0, .int .i64 3]) (by simp [results, Tryz.results7, go_sem, txnV, t0, c0, c1, c2, c3, c4, c5, c6]) rfl (givesP_no (unhide HE) (by decide) rfl (put7_below t0 (unhide P1).b (by omega)))
      · by_cases h2 : 2147483647 < rs
        · have HE : Hid (prpE t z ⟨ro, rs, rp, rd, rv, rf⟩ = 3) := hide (prp_head (by simp [headB]; intros; omega))
          have hd1 : decide (rs < 1) = false := decide_eq_false h1
          have hd2 : decide (2147483647 < rs) = true := decide_eq_true h2
          clear hzd h1 h2
          go_wp2_with fail
          exact bodyPost_ret (v := .tuple #[txnV t0, .int .i64 3]) (by simp [results, Tryz.results7, go_sem, txnV, t0, c0, c1, c2, c3, c4, c5, c6]) rfl (givesP_no (unhide HE) (by decide) rfl (put7_below t0 (unhide P1).b (by omega)))
        · have HH : Hid (headB t z ⟨ro, rs, rp, rd, rv, rf⟩ = true) := hide (headB_true.2 ⟨unhide HG, hzd, by simp only; omega, by simp only; omega⟩)
          have hd1 : decide (rs < 1) = false := decide_eq_false h1
          have hd2 : decide (2147483647 < rs) = false := decide_eq_false h2
          clear hzd h1 h2
          have X2 := hide (TAt.new w2 ⟨z, ro, rs, [], [], 0, 0⟩)
          have P2 := hide ((unhide P1).next (allocB w2 (.cells #[.int .i64 z, .int .i64 ro, .int .i64 rs, .string ⟨#[]⟩, .string ⟨#[]⟩, .int .i64 0, .int .i64 0] 32)))
          obtain ⟨d0, d1, d2, d3, d4, d5, d6, d7, d8⟩ := (unhide P2).t.nine
          simp only at d0 d1 d2 d3 d4 d5 d6 d7 d8
          clear c0 c1 c2 c3 c4 c5 c6 f0 f1 f2 f3 f4 f5 f6
          go_wp2_with fail
          refine (unhide CF (unhide HG) w2.heap.size w2 (unhide P1).b _ (allocB _ _) (Nat.le_refl _) (unhide X2)).mono ?_
          rintro e w3 ⟨rfl, hb3, hx3⟩
          have P3 := hide ((unhide P1).next hb3)
          have HX3 := hide hx3
          have PF : Hid (filE t ⟨ro, rs, rp, rd, rv, rf⟩ ≠ 0 → prpE t z ⟨ro, rs, rp, rd, rv, rf⟩ = filE t ⟨ro, rs, rp, rd, rv, rf⟩) := hide (fun h => prp_fill (unhide HH) h)
          have PA : Hid (filE t ⟨ro, rs, rp, rd, rv, rf⟩ = 0 → prpE t z ⟨ro, rs, rp, rd, rv, rf⟩ = appE t (filX t z ⟨ro, rs, rp, rd, rv, rf⟩)) := hide (fun h => prp_app (unhide HH) h)
          clear d0 d1 d2 d3 d4 d5 d6 d7 d8 b0 b1 b2 b3 b4 b5 b6 b7 b8 P2 X2 CF HG HGB HH hb3 hx3
          generalize filE t ⟨ro, rs, rp, rd, rv, rf⟩ = F at *
          by_cases hF : F = 0
          · have PE := hide (unhide PA hF)
            have X3 := hide (unhide HX3 hF)
            subst hF
            have KX : Hid (prpE t z ⟨ro, rs, rp, rd, rv, rf⟩ = 0 → prpX t z ⟨ro, rs, rp, rd, rv, rf⟩ = filX t z ⟨ro, rs, rp, rd, rv, rf⟩) := hide (fun h => prpX_ok h)
            unfold GivesA at CA
            clear PF PA HX3
            generalize appT t (filX t z ⟨ro, rs, rp, rd, rv, rf⟩) = T at *
            generalize appV t (filX t z ⟨ro, rs, rp, rd, rv, rf⟩) = V at *
            generalize appE t (filX t z ⟨ro, rs, rp, rd, rv, rf⟩) = E at *
            generalize filX t z ⟨ro, rs, rp, rd, rv, rf⟩ = x at *
            obtain ⟨xz, xo, xs, xp, xd, xv, xw⟩ := x
            unfold txnV at CA
            simp only at CA
            have x0 := (unhide X3).c0
            have x1 := (unhide X3).c1
            have x2 := (unhide X3).c2
            have x3 := (unhide X3).c3
            have x4 := (unhide X3).c4
            have x5 := (unhide X3).c5
            have x6 := (unhide X3).c6
            simp only at x0 x1 x2 x3 x4 x5 x6
            obtain ⟨e0, e1, e2, e3, e4, e5, e6, e7, e8⟩ := (unhide P3).t.nine
            obtain ⟨c0, c1, c2, c3, c4, c5, c6⟩ := (unhide P3).cells
            have f := (unhide P3).a.f
            have f0 := f 0
            have f1 := f 1
            have f2 := f 2
            have f3 := f 3
            have f4 := f 4
            have f5 := f 5
            have f6 := f 6
            simp only at e0 e1 e2 e3 e4 e5 e6 e7 e8
            clear f
            go_wp2_with fail
            refine (unhide CA _ (unhide P3).b).mono ?_
            rintro e w4 ⟨vn4, vs4, ve4, rfl, n4, s4, e4, hb4⟩
            obtain ⟨an, cn, rfl, _⟩ := n4.slice
            obtain ⟨ai, ci, rfl, _⟩ := s4.slice
            obtain ⟨ae, ce, rfl, _⟩ := e4.slice
            have P5 := hide ((unhide P3).next (nnext hb4 (allocB w4 (.cells #[.int .i64 T.z, .slice an T.ns.length cn, .slice ai T.ss.length ci] 26))))
            have X5 := hide ((unhide X3).next (nnext hb4 (allocB w4 (.cells #[.int .i64 T.z, .slice an T.ns.length cn, .slice ai T.ss.length ci] 26))))
            clear c0 c1 c2 c3 c4 c5 c6 f0 f1 f2 f3 f4 f5 f6 x0 x1 x2 x3 x4 x5 x6 e0 e1 e2 e3 e5 e6 e7 e8 hb4 n4 s4 e4 P3 X3 CA
            obtain ⟨c0, c1, c2, c3, c4, c5, c6⟩ := (unhide P5).cells
            have f := (unhide P5).a.f
            have f0 := f 0
            have f1 := f 1
            have f2 := f 2
            have f3 := f 3
            have f4 := f 4
            have f5 := f 5
            have f6 := f 6
            have x0 := (unhide X5).c0
            have x1 := (unhide X5).c1
            have x2 := (unhide X5).c2
            have x3 := (unhide X5).c3
            have x4 := (unhide X5).c4
            have x5 := (unhide X5).c5
            have x6 := (unhide X5).c6
            simp only at x0 x1 x2 x3 x4 x5 x6
            clear f
            by_cases hE : E = 0
            · subst hE
              have HX := hide (unhide KX (unhide PE))
              go_wp2_with fail
              exact bodyPost_ret (v := .tuple #[txnV ⟨xz, xo, xs, xp, xd, xv, xw⟩, .int .i64 0]) (by simp [results, Tryz.results7, go_sem, txnV, c0, c1, c2, c3, c4, c5, c6]) rfl (givesP_ok (unhide PE) (unhide HX) rfl (put7_below ⟨xz, xo, xs, xp, xd, xv, xw⟩ (unhide P5).b (by omega)))
            · have hEb : (E != 0) = true := by simpa using hE
              have HE := hide hE
              clear hE
              go_wp2_with fail
              exact bodyPost_ret (v := .tuple #[txnV t0, .int .i64 E]) (by simp [results, Tryz.results7, go_sem, txnV, t0, c0, c1, c2, c3, c4, c5, c6]) rfl (givesP_no (unhide PE) (unhide HE) rfl (put7_below t0 (unhide P5).b (by omega)))
          · have PE := hide (unhide PF hF)
            have hFb : (F != 0) = true := by simpa using hF
            have HF := hide hF
            clear PF PA HX3 hF CA
            obtain ⟨e0, e1, e2, e3, e4, e5, e6, e7, e8⟩ := (unhide P3).t.nine
            obtain ⟨c0, c1, c2, c3, c4, c5, c6⟩ := (unhide P3).cells
            have f := (unhide P3).a.f
            have f0 := f 0
            have f1 := f 1
            have f2 := f 2
            have f3 := f 3
            have f4 := f 4
            have f5 := f 5
            have f6 := f 6
            simp only at e0 e1 e2 e3 e4 e5 e6 e7 e8
            clear f
            go_wp2_with fail
            exact bodyPost_ret (v := .tuple #[txnV t0, .int .i64 F]) (by simp [results, Tryz.results7, go_sem, txnV, t0, c0, c1, c2, c3, c4, c5, c6]) rfl (givesP_no (unhide PE) (unhide HF) rfl (put7_below t0 (unhide P3).b (by omega)))

end Go.Proofs.YtcplpbelficbeaaGreatDoor
