/-
  What wire.Good answers, for every transaction: the walk.
  A tree under change: what tree.copied and growth's tell and parentChanges do: the walks.
  A tree under change: how a growth lies in memory, which blocks a step may touch; what tell and parentChanges do: the walks.
-/
import Derived.Test.YtcplpbelficbeaaGreatDoorRQH
import Derived.Test.YtcplpbelficbeaaGreatDoorRQG
import Derived.Test.YtcplpbelficbeaaGreatDoorRQD
import Derived.Deep.RegionHeld3
namespace Go.Proofs.YtcplpbelficbeaaGreatDoor
open Go.RowKit
set_option maxRecDepth 10000 in

set_option maxHeartbeats 1000000 in
theorem formed_5 (z s : Int) (p d : List UInt8) (v u : Int) (w : World) :
    Calls Tryz.prog 54 #[.agg #[.int .i64 z, .int .i64 5, .int .i64 s, .string ⟨p.toArray⟩, .string ⟨d.toArray⟩, .int .i64 v, .int .i64 u]] w fun e w' => e = .returned (.bool (fmB ⟨z, 5, s, p, d, v, u⟩)) ∧ Below w.heap.size w w' := by
  rw [fm_5]
  cases hg : goodB p
  all_goals
    have Hg := hide hg
    clear hg
    go_enter Tryz.func54, Tryz.ntmps54
    go_wp2_with fail
    refine (good_any _ _).mono ?_
    rintro e w1 ⟨rfl, hb1⟩
    have hbz := box_then hb1
    have hz1 : w.heap.size < w1.heap.size := by have := hb1.size; simp at this; omega
    obtain ⟨hc, hf⟩ := bcell hb1
    rw [show (ByteArray.mk p.toArray).data.toList = p from rfl, unhide Hg]
    go_wp2_with fail
    all_goals
      refine (good_any _ _).mono ?_
      rintro e w2 ⟨rfl, hb2⟩
      have hbz2 := below_next hbz hb2
      obtain ⟨hc2, hf2⟩ := bcell hb2
      rw [show (ByteArray.mk p.toArray).data.toList = p from rfl, unhide Hg]
      go_wp2_with fail
    all_goals go_ret
    all_goals (clear hc hf hb1 hc2 hf2 hb2 hbz)
    all_goals (refine ⟨zret_bool ?_, hbz2⟩; clear hbz2 Hg; simp [*])

theorem formed_any (t : WTxn) (w : World) (ht : opB t.o = true) :
    Calls Tryz.prog 54 #[txnV t] w fun e w' => e = .returned (.bool (fmB t)) ∧ Below w.heap.size w w' := by
  obtain ⟨z, o, s, p, d, v, u⟩ := t
  rcases op_cases ht with h | h | h | h | h <;> (replace h : o = _ := h; subst h)
  · exact formed_1 z s p d v u w
  · exact formed_2 z s p d v u w
  · exact formed_3 z s p d v u w
  · exact formed_4 z s p d v u w
  · exact formed_5 z s p d v u w

theorem opB_no {o : Int} (h : opB o = false) : o < 1 ∨ 5 < o := by
  by_cases h1 : 1 ≤ o ∧ o ≤ 5
  · rw [opB_iff.2 h1] at h; exact absurd h (by decide)
  · omega
theorem ret_gd {a b : Int} (h : a = b) : Ending.returned (.int .i64 a) = .returned (.int .i64 b) := by rw [h]

theorem num_no {t : WTxn} (h : zGood t.z = false ∨ cntB t.s 1 = false ∨ cntB t.v 0 = false ∨ cntB t.w 0 = false) : numB t = false := by
  rcases h with h | h | h | h <;> simp [numB, h]

set_option maxRecDepth 10000 in
set_option maxHeartbeats 2000000 in
theorem wgood_any (t : WTxn) (w : World) (hd : t.d.length ≤ 140737488355328) :
    Calls Tryz.prog 34 #[txnV t] w fun e w' => e = .returned (.int .i64 (gdE t)) ∧ Below w.heap.size w w' := by
  cases ho : opB t.o
  · have H := hide (gdE_kind ho)
    have hor := opB_no ho
    clear ho
    obtain ⟨z, o, s, p, d, v, u⟩ := t
    unfold txnV
    replace hor : o < 1 ∨ 5 < o := hor
    rcases hor with hor | hor
    all_goals
      go_enter Tryz.func34, Tryz.ntmps34
      go_wp2_with fail
      go_ret
      exact ⟨ret_gd (unhide H).symm, (Below.refl _ _).alloc (Nat.le_refl _) _⟩
  have hor := opB_iff.1 ho
  have ho1 := hor.1
  have ho2 := hor.2
  have Ho := hide ho
  clear ho hor
  cases hz : zGood t.z
  · have H := hide (gdE_range (unhide Ho) (num_no (.inl hz)))
    have Hz := hide hz
    clear hz
    · obtain ⟨z, o, s, p, d, v, u⟩ := t
      unfold txnV
      have hzd : (ByteArray.mk d.toArray).size = d.length := Lib.size_eq ⟨d.toArray⟩
      replace ho1 : 1 ≤ o := ho1
      replace ho2 : o ≤ 5 := ho2
      replace hd : d.length ≤ 140737488355328 := hd
      go_enter Tryz.func34, Tryz.ntmps34
      go_wp2_with fail
      refine (zgood_any _ _).mono ?_
      rintro e w1 ⟨rfl, rfl⟩
      rw [unhide Hz]
      go_wp2_with fail
      go_ret
      exact ⟨ret_gd (unhide H).symm, (Below.refl _ _).alloc (Nat.le_refl _) _⟩
  cases hs : cntB t.s 1
  · have H := hide (gdE_range (unhide Ho) (num_no (.inr (.inl hs))))
    have Hz := hide hz
    have Hs := hide hs
    clear hz hs
    · obtain ⟨z, o, s, p, d, v, u⟩ := t
      unfold txnV
      have hzd : (ByteArray.mk d.toArray).size = d.length := Lib.size_eq ⟨d.toArray⟩
      replace ho1 : 1 ≤ o := ho1
      replace ho2 : o ≤ 5 := ho2
      replace hd : d.length ≤ 140737488355328 := hd
      go_enter Tryz.func34, Tryz.ntmps34
      go_wp2_with fail
      refine (zgood_any _ _).mono ?_
      rintro e w1 ⟨rfl, rfl⟩
      rw [unhide Hz]
      go_wp2_with fail
      refine (counted_any _ _ _).mono ?_
      rintro e w1 ⟨rfl, rfl⟩
      rw [unhide Hs]
      go_wp2_with fail
      go_ret
      exact ⟨ret_gd (unhide H).symm, (Below.refl _ _).alloc (Nat.le_refl _) _⟩
  cases hv : cntB t.v 0
  · have H := hide (gdE_range (unhide Ho) (num_no (.inr (.inr (.inl hv)))))
    have Hz := hide hz
    have Hs := hide hs
    have Hv := hide hv
    clear hz hs hv
    · obtain ⟨z, o, s, p, d, v, u⟩ := t
      unfold txnV
      have hzd : (ByteArray.mk d.toArray).size = d.length := Lib.size_eq ⟨d.toArray⟩
      replace ho1 : 1 ≤ o := ho1
      replace ho2 : o ≤ 5 := ho2
      replace hd : d.length ≤ 140737488355328 := hd
      go_enter Tryz.func34, Tryz.ntmps34
      go_wp2_with fail
      refine (zgood_any _ _).mono ?_
      rintro e w1 ⟨rfl, rfl⟩
      rw [unhide Hz]
      go_wp2_with fail
      refine (counted_any _ _ _).mono ?_
      rintro e w1 ⟨rfl, rfl⟩
      rw [unhide Hs]
      go_wp2_with fail
      refine (counted_any _ _ _).mono ?_
      rintro e w1 ⟨rfl, rfl⟩
      rw [unhide Hv]
      go_wp2_with fail
      go_ret
      exact ⟨ret_gd (unhide H).symm, (Below.refl _ _).alloc (Nat.le_refl _) _⟩
  cases hu : cntB t.w 0
  · have H := hide (gdE_range (unhide Ho) (num_no (.inr (.inr (.inr hu)))))
    have Hz := hide hz
    have Hs := hide hs
    have Hv := hide hv
    have Hu := hide hu
    clear hz hs hv hu
    · obtain ⟨z, o, s, p, d, v, u⟩ := t
      unfold txnV
      have hzd : (ByteArray.mk d.toArray).size = d.length := Lib.size_eq ⟨d.toArray⟩
      replace ho1 : 1 ≤ o := ho1
      replace ho2 : o ≤ 5 := ho2
      replace hd : d.length ≤ 140737488355328 := hd
      go_enter Tryz.func34, Tryz.ntmps34
      go_wp2_with fail
      refine (zgood_any _ _).mono ?_
      rintro e w1 ⟨rfl, rfl⟩
      rw [unhide Hz]
      go_wp2_with fail
      refine (counted_any _ _ _).mono ?_
      rintro e w1 ⟨rfl, rfl⟩
      rw [unhide Hs]
      go_wp2_with fail
      refine (counted_any _ _ _).mono ?_
      rintro e w1 ⟨rfl, rfl⟩
      rw [unhide Hv]
      go_wp2_with fail
      refine (counted_any _ _ _).mono ?_
      rintro e w1 ⟨rfl, rfl⟩
      rw [unhide Hu]
      go_wp2_with fail
      go_ret
      exact ⟨ret_gd (unhide H).symm, (Below.refl _ _).alloc (Nat.le_refl _) _⟩
  have HN := hide (numB_iff.2 ⟨hz, hs, hv, hu⟩)
  have Hz := hide hz
  have Hs := hide hs
  have Hv := hide hv
  have Hu := hide hu
  clear hz hs hv hu
  by_cases hl : 256 < t.d.length
  · have H := hide (gdE_long (unhide Ho) (unhide HN) hl)
    · obtain ⟨z, o, s, p, d, v, u⟩ := t
      unfold txnV
      replace hl : 256 < d.length := hl
      have hzd : (ByteArray.mk d.toArray).size = d.length := Lib.size_eq ⟨d.toArray⟩
      replace ho1 : 1 ≤ o := ho1
      replace ho2 : o ≤ 5 := ho2
      replace hd : d.length ≤ 140737488355328 := hd
      go_enter Tryz.func34, Tryz.ntmps34
      go_wp2_with fail
      refine (zgood_any _ _).mono ?_
      rintro e w1 ⟨rfl, rfl⟩
      rw [unhide Hz]
      go_wp2_with fail
      refine (counted_any _ _ _).mono ?_
      rintro e w1 ⟨rfl, rfl⟩
      rw [unhide Hs]
      go_wp2_with fail
      refine (counted_any _ _ _).mono ?_
      rintro e w1 ⟨rfl, rfl⟩
      rw [unhide Hv]
      go_wp2_with fail
      refine (counted_any _ _ _).mono ?_
      rintro e w1 ⟨rfl, rfl⟩
      rw [unhide Hu]
      go_wp2_with fail
      go_ret
      exact ⟨ret_gd (unhide H).symm, (Below.refl _ _).alloc (Nat.le_refl _) _⟩
  cases hfm : fmB t
  · have H := hide (gdE_form (unhide Ho) (unhide HN) (by omega) hfm)
    have Hf := hide hfm
    clear hfm
    · obtain ⟨z, o, s, p, d, v, u⟩ := t
      unfold txnV
      replace hl : ¬ 256 < d.length := hl
      have hzd : (ByteArray.mk d.toArray).size = d.length := Lib.size_eq ⟨d.toArray⟩
      replace ho1 : 1 ≤ o := ho1
      replace ho2 : o ≤ 5 := ho2
      replace hd : d.length ≤ 140737488355328 := hd
      go_enter Tryz.func34, Tryz.ntmps34
      go_wp2_with fail
      refine (zgood_any _ _).mono ?_
      rintro e w1 ⟨rfl, rfl⟩
      rw [unhide Hz]
      go_wp2_with fail
      refine (counted_any _ _ _).mono ?_
      rintro e w1 ⟨rfl, rfl⟩
      rw [unhide Hs]
      go_wp2_with fail
      refine (counted_any _ _ _).mono ?_
      rintro e w1 ⟨rfl, rfl⟩
      rw [unhide Hv]
      go_wp2_with fail
      refine (counted_any _ _ _).mono ?_
      rintro e w1 ⟨rfl, rfl⟩
      rw [unhide Hu]
      go_wp2_with fail
      refine (formed_any ⟨z, o, s, p, d, v, u⟩ _ (unhide Ho)).mono ?_
      rintro e w2 ⟨rfl, hb2⟩
      have hbz := box_then hb2
      rw [unhide Hf]
      go_wp2_with fail
      go_ret
      exact ⟨ret_gd (unhide H).symm, hbz⟩
  · have H := hide (gdE_ok (unhide Ho) (unhide HN) (by omega) hfm)
    have Hf := hide hfm
    clear hfm
    · obtain ⟨z, o, s, p, d, v, u⟩ := t
      unfold txnV
      replace hl : ¬ 256 < d.length := hl
      have hzd : (ByteArray.mk d.toArray).size = d.length := Lib.size_eq ⟨d.toArray⟩
      replace ho1 : 1 ≤ o := ho1
      replace ho2 : o ≤ 5 := ho2
      replace hd : d.length ≤ 140737488355328 := hd
      go_enter Tryz.func34, Tryz.ntmps34
      go_wp2_with fail
      refine (zgood_any _ _).mono ?_
      rintro e w1 ⟨rfl, rfl⟩
      rw [unhide Hz]
      go_wp2_with fail
      refine (counted_any _ _ _).mono ?_
      rintro e w1 ⟨rfl, rfl⟩
      rw [unhide Hs]
      go_wp2_with fail
      refine (counted_any _ _ _).mono ?_
      rintro e w1 ⟨rfl, rfl⟩
      rw [unhide Hv]
      go_wp2_with fail
      refine (counted_any _ _ _).mono ?_
      rintro e w1 ⟨rfl, rfl⟩
      rw [unhide Hu]
      go_wp2_with fail
      refine (formed_any ⟨z, o, s, p, d, v, u⟩ _ (unhide Ho)).mono ?_
      rintro e w2 ⟨rfl, hb2⟩
      have hbz := box_then hb2
      rw [unhide Hf]
      go_wp2_with fail
      go_ret
      exact ⟨ret_gd (unhide H).symm, hbz⟩

end Go.Proofs.YtcplpbelficbeaaGreatDoor

namespace Go.Proofs.YtcplpbelficbeaaGreatDoor
open Go.RowKit

theorem nclone_any (s : List UInt8) (w : World) (hs : s.length ≤ 281474976710656) :
    Calls Tryz.prog 51 #[.string ⟨s.toArray⟩] w fun e w' => e = .returned (.string ⟨s.toArray⟩) ∧ Below w.heap.size w w' := clone_any ⟨s.toArray⟩ w hs
theorem OneR.cellN {W : World} {b : Nat} {n : Nd} (h : OneR W b n) (j : Nat) (v : Value) (hj : (ncells n)[j]? = some v) : W.cell? ⟨b, j, none⟩ = some v := by
  have := h.row j v hj
  rwa [Nat.zero_add] at this
theorem OneR.frozenN {W : World} {b : Nat} {n : Nd} (h : OneR W b n) (j : Nat) : W.frozen? ⟨b, j, none⟩ = false := by
  unfold OneR at h
  simp [World.frozen?, h]
theorem OneR.keptN {W V : World} {b : Nat} {n : Nd} (h : OneR W b n) (hb : Below W.heap.size W V) : OneR V b n := by
  unfold OneR at h ⊢
  exact (hb.block _ (Array.getElem?_eq_some_iff.1 h).1).trans h
def nzero : Nd := ⟨[], [], 0, 0, 0, 0, 0, 0, 0⟩

set_option maxRecDepth 20000 in
set_option maxHeartbeats 1000000 in
theorem tcopied_any (n : Nd) (w : World) (hp : n.p.length ≤ 140737488355328) (hd : n.d.length ≤ 140737488355328) :
    Calls Tryz.prog 36 #[nodeV n] w fun e w' => e = .returned (nodeV n) ∧ Below w.heap.size w w' := by
  have C1 := fun W => nclone_any n.p W (by omega)
  have C2 := fun W => nclone_any n.d W (by omega)
  have X0 : ∀ W, W = (w.alloc (.cells (ncells n).toArray 52)).alloc (.cells (ncells nzero).toArray 52) → OneR W w.heap.size n ∧ OneR W (w.heap.size + 1) nzero ∧ Below w.heap.size w W := by
    rintro W rfl
    refine ⟨?_, ?_, ((Below.refl _ _).alloc (Nat.le_refl _) _).alloc (by simp) _⟩
    · unfold OneR
      exact (((Below.refl (w.heap.size + 1) (w.alloc (.cells (ncells n).toArray 52))).alloc (by simp) (.cells (ncells nzero).toArray 52)).block _ (by omega)).trans (heap_alloc_new w _)
    · have := heap_alloc_new (w.alloc (.cells (ncells n).toArray 52)) (.cells (ncells nzero).toArray 52)
      rw [show (w.alloc (.cells (ncells n).toArray 52)).heap.size = w.heap.size + 1 by simp] at this
      exact this
  have X := hide X0
  clear X0
  unfold nodeV
  go_enter Tryz.func36, Tryz.ntmps36
  go_wp2_with fail
  generalize hW0 : (w.alloc _).alloc _ = W0
  obtain ⟨x1, x2, x3⟩ := unhide X W0 hW0.symm
  clear hW0 X
  refine (C1 _).mono ?_
  rintro e w1 ⟨rfl, hb1⟩
  have y1 := x1.keptN hb1
  have e0 := y1.cellN 0 _ rfl
  have e1 := y1.cellN 1 _ rfl
  have f0 := y1.frozenN 0
  have hs0 := nset_same e0
  have Y1 := hide y1
  have Y2 := hide (x2.keptN hb1)
  have B1 := hide (nnext x3 hb1)
  clear y1 x1 x2 x3 hb1 C1
  go_wp2_with fail
  refine (C2 _).mono ?_
  rintro e w2 ⟨rfl, hb2⟩
  have y1 := (unhide Y1).keptN hb2
  have y2 := (unhide Y2).keptN hb2
  have B2 := hide (nnext (unhide B1) hb2)
  clear e0 e1 f0 hs0 C2 hb2 Y1 Y2
  have c0 := y1.cellN 0 _ rfl
  have c1 := y1.cellN 1 _ rfl
  have c2 := y1.cellN 2 _ rfl
  have c3 := y1.cellN 3 _ rfl
  have c4 := y1.cellN 4 _ rfl
  have c5 := y1.cellN 5 _ rfl
  have c6 := y1.cellN 6 _ rfl
  have c7 := y1.cellN 7 _ rfl
  have c8 := y1.cellN 8 _ rfl
  have d0 := y2.cellN 0 _ rfl
  have d1 := y2.cellN 1 _ rfl
  have d2 := y2.cellN 2 _ rfl
  have d3 := y2.cellN 3 _ rfl
  have d4 := y2.cellN 4 _ rfl
  have d5 := y2.cellN 5 _ rfl
  have d6 := y2.cellN 6 _ rfl
  have d7 := y2.cellN 7 _ rfl
  have d8 := y2.cellN 8 _ rfl
  have f1 := y1.frozenN 1
  have g0 := y2.frozenN 0
  have g1 := y2.frozenN 1
  have g2 := y2.frozenN 2
  have g3 := y2.frozenN 3
  have g4 := y2.frozenN 4
  have g5 := y2.frozenN 5
  have g6 := y2.frozenN 6
  have g7 := y2.frozenN 7
  have g8 := y2.frozenN 8
  have hs1 := nset_same c1
  have hne : w.heap.size ≠ w.heap.size + 1 := by omega
  clear y1 y2
  go_wp2_with fail
  have BB := unhide B2
  exact bodyPost_ret (v := nodeV n) (by simp [results, Tryz.results36, go_sem, nodeV, d0, d1, d2, d3, d4, d5, d6, d7, d8]) rfl
    ⟨rfl, ((((((((BB.setCell (by simp) _).setCell (by simp) _).setCell (by simp) _).setCell (by simp) _).setCell (by simp) _).setCell (by simp) _).setCell (by simp) _).setCell (by simp) _).setCell (by simp) _⟩

end Go.Proofs.YtcplpbelficbeaaGreatDoor

namespace Go.Proofs.YtcplpbelficbeaaGreatDoor
open Go.RowKit

/-- block b is a growth -/
structure Grow (W : World) (F : Nat → Prop) (b : Nat) (z : Int) (vn vs ve : Value) (ns : List Nd) (ss : List Int) (es : List Ev) : Prop where
  blk : W.heap[b]? = some (.cells #[.int .i64 z, vn, vs, ve] 62 (0, 0))
  fb : F b
  n : OwnS W 0 vn ns
  s : OwnS W 0 vs ss
  e : OwnS W 0 ve es
  fn : ∀ k, vn.ownBlock = some k → F k ∧ k ≠ b
  fs : ∀ k, vs.ownBlock = some k → F k ∧ k ≠ b
  fe : ∀ k, ve.ownBlock = some k → F k ∧ k ≠ b
  an : ∀ k, vn.ownBlock = some k → vs.ownBlock ≠ some k ∧ ve.ownBlock ≠ some k
  asn : ∀ k, vs.ownBlock = some k → ve.ownBlock ≠ some k
theorem Grow.lt {W : World} {F : Nat → Prop} {b : Nat} {z : Int} {vn vs ve : Value} {ns : List Nd} {ss : List Int} {es : List Ev} (h : Grow W F b z vn vs ve ns ss es) : b < W.heap.size := (Array.getElem?_eq_some_iff.1 h.blk).1
theorem Grow.next {W V : World} {F : Nat → Prop} {b : Nat} {z : Int} {vn vs ve : Value} {ns : List Nd} {ss : List Int} {es : List Ev} (h : Grow W F b z vn vs ve ns ss es) (hb : Below W.heap.size W V) : Grow V F b z vn vs ve ns ss es :=
  ⟨(hb.block _ h.lt).trans h.blk, h.fb, h.n.next hb, h.s.next hb, h.e.next hb, h.fn, h.fs, h.fe, h.an, h.asn⟩
theorem Grow.drew {W : World} {F : Nat → Prop} {b : Nat} {z : Int} {vn vs ve : Value} {ns : List Nd} {ss : List Int} {es : List Ev} (h : Grow W F b z vn vs ve ns ss es) : Grow W.drew F b z vn vs ve ns ss es := h.next (Below.refl _ _).drew
theorem Grow.cut {W : World} {F G : Nat → Prop} {b : Nat} {z : Int} {vn vs ve : Value} {ns : List Nd} {ss : List Int} {es : List Ev} (h : Grow W F b z vn vs ve ns ss es) (hg : ∀ k, k < W.heap.size → F k → G k) : Grow W G b z vn vs ve ns ss es :=
  ⟨h.blk, hg b h.lt h.fb, h.n, h.s, h.e, fun k hk => ⟨hg k (h.n.low k hk) (h.fn k hk).1, (h.fn k hk).2⟩, fun k hk => ⟨hg k (h.s.low k hk) (h.fs k hk).1, (h.fs k hk).2⟩, fun k hk => ⟨hg k (h.e.low k hk) (h.fe k hk).1, (h.fe k hk).2⟩, h.an, h.asn⟩
theorem Grow.c0 {W : World} {F : Nat → Prop} {b : Nat} {z : Int} {vn vs ve : Value} {ns : List Nd} {ss : List Int} {es : List Ev} (h : Grow W F b z vn vs ve ns ss es) : W.cell? ⟨b, 0, none⟩ = some (.int .i64 z) := by simp [World.cell?, h.blk]
theorem Grow.c1 {W : World} {F : Nat → Prop} {b : Nat} {z : Int} {vn vs ve : Value} {ns : List Nd} {ss : List Int} {es : List Ev} (h : Grow W F b z vn vs ve ns ss es) : W.cell? ⟨b, 1, none⟩ = some vn := by simp [World.cell?, h.blk]
theorem Grow.c2 {W : World} {F : Nat → Prop} {b : Nat} {z : Int} {vn vs ve : Value} {ns : List Nd} {ss : List Int} {es : List Ev} (h : Grow W F b z vn vs ve ns ss es) : W.cell? ⟨b, 2, none⟩ = some vs := by simp [World.cell?, h.blk]
theorem Grow.c3 {W : World} {F : Nat → Prop} {b : Nat} {z : Int} {vn vs ve : Value} {ns : List Nd} {ss : List Int} {es : List Ev} (h : Grow W F b z vn vs ve ns ss es) : W.cell? ⟨b, 3, none⟩ = some ve := by simp [World.cell?, h.blk]
theorem Grow.fz {W : World} {F : Nat → Prop} {b : Nat} {z : Int} {vn vs ve : Value} {ns : List Nd} {ss : List Int} {es : List Ev} (h : Grow W F b z vn vs ve ns ss es) (j : Nat) : W.frozen? ⟨b, j, none⟩ = false := by simp [World.frozen?, h.blk]
/-- new events -/
theorem Grow.ev {W V : World} {F : Nat → Prop} {b : Nat} {z : Int} {vn vs ve ve' : Value} {ns : List Nd} {ss : List Int} {es es' : List Ev} (h : Grow W F b z vn vs ve ns ss es) (hF : ∀ k, W.heap.size ≤ k → F k) (hg : W.grownBy V ve.ownBlock) (he : OwnS V 0 ve' es') (hl : ve'.ownBlock = ve.ownBlock ∨ ve'.ownBlock = some W.heap.size) :
    Grow (V.setCell ⟨b, 3, none⟩ ve') F b z vn vs ve' ns ss es' := by
  have hbe : some b ≠ ve.ownBlock := fun e => (h.fe b e.symm).2 rfl
  have hb := h.lt
  have hne : ∀ k, ve'.ownBlock = some k → F k ∧ k ≠ b ∧ vn.ownBlock ≠ some k ∧ vs.ownBlock ≠ some k := by
    intro k hk
    rcases hl with e | e
    · rw [e] at hk
      exact ⟨(h.fe k hk).1, (h.fe k hk).2, fun hn => (h.an k hn).2 hk, fun hs => h.asn k hs hk⟩
    · rw [e] at hk
      cases hk
      exact ⟨hF _ (Nat.le_refl _), by omega, fun hn => by have := h.n.low _ hn; omega, fun hs => by have := h.s.low _ hs; omega⟩
  refine ⟨?_, h.fb, ?_, ?_, ?_, h.fn, h.fs, fun k hk => ⟨(hne k hk).1, (hne k hk).2.1⟩, fun k hk => ⟨(h.an k hk).1, fun e => (hne k e).2.2.1 hk⟩, fun k hk e => (hne k e).2.2.2 hk⟩
  · rw [block_set ve' ((hg.block b hb hbe).trans h.blk)]
    rfl
  · exact (h.n.grown hg (fun k hk e => (h.an k hk).2 e.symm)).other (fun e => (h.fn b e).2 rfl) _
  · exact (h.s.grown hg (fun k hk e => h.asn k hk e.symm)).other (fun e => (h.fs b e).2 rfl) _
  · exact he.other (fun e => (hne b e).2.1 rfl) _
/-- new nodes -/
theorem Grow.nd {W V : World} {F : Nat → Prop} {b : Nat} {z : Int} {vn vs ve vn' : Value} {ns ns' : List Nd} {ss : List Int} {es : List Ev} (h : Grow W F b z vn vs ve ns ss es) (hF : ∀ k, W.heap.size ≤ k → F k) (hg : W.grownBy V vn.ownBlock) (hn' : OwnS V 0 vn' ns') (hl : vn'.ownBlock = vn.ownBlock ∨ ∃ k, W.heap.size ≤ k ∧ vn'.ownBlock = some k) :
    Grow (V.setCell ⟨b, 1, none⟩ vn') F b z vn' vs ve ns' ss es := by
  have hbn : some b ≠ vn.ownBlock := fun e => (h.fn b e.symm).2 rfl
  have hb := h.lt
  have hne : ∀ k, vn'.ownBlock = some k → F k ∧ k ≠ b ∧ vs.ownBlock ≠ some k ∧ ve.ownBlock ≠ some k := by
    intro k hk
    rcases hl with e | ⟨j, hj, e⟩
    · rw [e] at hk
      exact ⟨(h.fn k hk).1, (h.fn k hk).2, (h.an k hk).1, (h.an k hk).2⟩
    · rw [e] at hk
      cases hk
      exact ⟨hF _ hj, by omega, fun hs => by have := h.s.low _ hs; omega, fun hs => by have := h.e.low _ hs; omega⟩
  refine ⟨?_, h.fb, ?_, ?_, ?_, fun k hk => ⟨(hne k hk).1, (hne k hk).2.1⟩, h.fs, h.fe, fun k hk => (hne k hk).2.2, h.asn⟩
  · rw [block_set vn' ((hg.block b hb hbn).trans h.blk)]
    rfl
  · exact hn'.other (fun e => (hne b e).2.1 rfl) _
  · exact (h.s.grown hg (fun k hk e => (h.an k e.symm).1 hk)).other (fun e => (h.fs b e).2 rfl) _
  · exact (h.e.grown hg (fun k hk e => (h.an k e.symm).2 hk)).other (fun e => (h.fe b e).2 rfl) _
/-- new sessions -/
theorem Grow.se {W V : World} {F : Nat → Prop} {b : Nat} {z : Int} {vn vs ve vs' : Value} {ns : List Nd} {ss ss' : List Int} {es : List Ev} (h : Grow W F b z vn vs ve ns ss es) (hF : ∀ k, W.heap.size ≤ k → F k) (hg : W.grownBy V vs.ownBlock) (hn' : OwnS V 0 vs' ss') (hl : vs'.ownBlock = vs.ownBlock ∨ ∃ k, W.heap.size ≤ k ∧ vs'.ownBlock = some k) :
    Grow (V.setCell ⟨b, 2, none⟩ vs') F b z vn vs' ve ns ss' es := by
  have hbn : some b ≠ vs.ownBlock := fun e => (h.fs b e.symm).2 rfl
  have hb := h.lt
  have hne : ∀ k, vs'.ownBlock = some k → F k ∧ k ≠ b ∧ vn.ownBlock ≠ some k ∧ ve.ownBlock ≠ some k := by
    intro k hk
    rcases hl with e | ⟨j, hj, e⟩
    · rw [e] at hk
      exact ⟨(h.fs k hk).1, (h.fs k hk).2, fun hn => (h.an k hn).1 hk, h.asn k hk⟩
    · rw [e] at hk
      cases hk
      exact ⟨hF _ hj, by omega, fun hs => by have := h.n.low _ hs; omega, fun hs => by have := h.e.low _ hs; omega⟩
  refine ⟨?_, h.fb, ?_, ?_, ?_, h.fn, fun k hk => ⟨(hne k hk).1, (hne k hk).2.1⟩, h.fe, fun k hk => ⟨fun e => (hne k e).2.2.1 hk, (h.an k hk).2⟩, fun k hk => (hne k hk).2.2.2⟩
  · rw [block_set vs' ((hg.block b hb hbn).trans h.blk)]
    rfl
  · exact (h.n.grown hg (fun k hk e => (h.an k hk).1 e.symm)).other (fun e => (h.fn b e).2 rfl) _
  · exact hn'.other (fun e => (hne b e).2.1 rfl) _
  · exact (h.e.grown hg (fun k hk e => h.asn k e.symm hk)).other (fun e => (h.fe b e).2 rfl) _
/-- a cell of a node -/
theorem Grow.put {W : World} {F : Nat → Prop} {b : Nat} {z : Int} {g cap : Nat} {vs ve : Value} {A B : List Nd} {n m : Nd} {ss : List Int} {es : List Ev} {l : Nat} (h : Grow W F b z (.slice (some ⟨g, 0, none⟩) l cap) vs ve (A ++ n :: B) ss es) {c : Nat} (hc : c < 9) {v : Value} (hm : ncells m = (ncells n).set c v) :
    Grow (W.setCell ⟨g, A.length * 9 + c, none⟩ v) F b z (.slice (some ⟨g, 0, none⟩) l cap) vs ve (A ++ m :: B) ss es := by
  have hgb := (h.fn g rfl).2
  refine ⟨(Below.heap_setCell W ⟨g, _, none⟩ v b (fun e => hgb e.symm)).trans h.blk, h.fb, ?_, ?_, ?_, h.fn, h.fs, h.fe, h.an, h.asn⟩
  · rcases h.n with ⟨h1, _⟩ | ⟨g', cap', h1, h2, h3⟩
    · cases h1
    · simp only [Value.slice.injEq, Option.some.injEq, Addr.mk.injEq, and_true] at h1
      obtain ⟨rfl, rfl, rfl⟩ := h1
      refine .inr ⟨g, cap, by simp, h2, ?_⟩
      exact h3.set (c := c) (by exact hc) hm
  · exact h.s.other (fun e => (h.an g rfl).1 e) _
  · exact h.e.other (fun e => (h.an g rfl).2 e) _
theorem Grow.nrow {W : World} {F : Nat → Prop} {b : Nat} {z : Int} {vn vs ve : Value} {ns : List Nd} {ss : List Int} {es : List Ev} (h : Grow W F b z vn vs ve ns ss es) (h0 : ns ≠ []) : ∃ g cap, vn = .slice (some ⟨g, 0, none⟩) ns.length cap ∧ OwnR W g cap ns ∧ g ≠ b ∧ F g := by
  rcases h.n with ⟨_, h1⟩ | ⟨g, cap, rfl, _, h3⟩
  · exact absurd h1 h0
  · exact ⟨g, cap, rfl, h3, (h.fn g rfl).2, (h.fn g rfl).1⟩

/- tell -/
theorem step_app_ev {w : World} {ops : Array Oper} {o : Oper} {a : Act} {K : Act → World → Prop} {Q : Exit → Act → World → Prop} {E : Prop} (hgd : Region.wanted o (yielded ops a.tmps) = true) (s x : Operand)
    (ho : o.op = .call { callee := .builtin .append, args := #[s, x], argTypes := #[35, 35] })
    (v : Value) (es : List Ev) (hs : a.eval s = v) (hown : OwnS w 0 v es)
    (q : Nat) (hx : a.eval x = .slice (some ⟨q, 0, none⟩) 1 1) (t : Ev) (hnews : OneR w q t) (hl : es.length ≤ 100000)
    (h : ∀ a' c' w', OwnS w' 0 (.slice a' (es.length + 1) c') (es ++ [t]) → w.grownBy w' v.ownBlock → ((Value.slice a' (es.length + 1) c').ownBlock = v.ownBlock ∨ (Value.slice a' (es.length + 1) c').ownBlock = some w.heap.size) → K (a.put o.dst (.slice a' (es.length + 1) c')) w') :
    if Region.wanted o (yielded ops a.tmps) = true then Oper.wp Tryz.prog o a w K Q else E := by
  rw [if_pos hgd]
  obtain ⟨i0, hi0, hz0, hz1, hz2⟩ := einfo
  obtain ⟨v', w', hr, h2, h3, _, h5⟩ := run_append_own_at (P := Tryz.prog) w 0 35 o.type 120 i0 _ 2 24 Tryz.underlying35 hi0 hz0 hz1 hz2 rfl (by decide) v es.length (cellsL es) hown.row ⟨q, 0, none⟩ 1 1 (ecells t) rfl (one_news hnews) (Lay.one t) (by simp only [maxLen]; omega) (by omega) (Nat.zero_le _)
  have h2' : OwnS w' 0 v' (es ++ [t]) := OwnS.of_row (by rw [List.length_append, cellsL_snoc]; exact h2)
  obtain ⟨a', c', rfl, _⟩ := h2'.slice
  have hlen : (es ++ [t]).length = es.length + 1 := by simp
  rw [hlen] at h2' hr h5
  unfold Oper.wp execOp
  simp only [ho, resolve, invoke, builtin, Sem.run_bind, Sem.run_pure, Result.andThen_ok, List.map_toArray, List.map_cons, List.map_nil, hs, hx, hr]
  exact h a' c' w' h2' h3 h5

set_option maxRecDepth 20000 in
set_option maxHeartbeats 2000000 in
theorem tell_any (F : Nat → Prop) (b : Nat) (z : Int) (vn vs ve : Value) (ns : List Nd) (ss : List Int) (es : List Ev) (kind : Int) (p : List UInt8) (w : World)
    (h : Grow w F b z vn vs ve ns ss es) (hF : ∀ k, w.heap.size ≤ k → F k) (hp : p.length ≤ 140737488355328) (hl : es.length ≤ 100000) :
    Calls Tryz.prog 60 #[.pointer (some ⟨b, 0, none⟩), .int .i64 kind, .string ⟨p.toArray⟩] w fun e w' =>
      e = .returned (.tuple #[]) ∧ ∃ ve', Grow w' F b z vn vs ve' ns ss (es ++ [⟨kind, p⟩]) ∧ Touch F w w' := by
  have C := fun W => nclone_any p W (by omega)
  have c3 := h.c3
  have f3 := h.fz 3
  have HG := hide h
  have HF := hide hF
  obtain ⟨ea, ec, rfl, _⟩ := h.e.slice
  have K1 := hide (fun w1 (hb1 : Below w.heap.size w w1) => (⟨(h.next hb1).c3, (h.next hb1).fz 3, (h.next hb1).lt, ((h.next hb1).next (allocB _ _)).c3⟩ : w1.cell? ⟨b, 3, none⟩ = some (.slice ea es.length ec) ∧ w1.frozen? ⟨b, 3, none⟩ = false ∧ b < w1.heap.size ∧ (w1.alloc (.cells #[.int .i64 kind, .string ⟨p.toArray⟩] 120)).cell? ⟨b, 3, none⟩ = some (.slice ea es.length ec)))
  have KE := hide (fun w1 (hb1 : Below w.heap.size w w1) => (h.next hb1).e.next (allocB w1 (.cells #[.int .i64 kind, .string ⟨p.toArray⟩] 120)))
  have K2 : ∀ (w1 w2 : World) (a2 : Option Addr) (c2 : Nat), Below w.heap.size w w1 → OwnS w2 0 (.slice a2 (es.length + 1) c2) (es ++ [⟨kind, p⟩]) → (w1.alloc (.cells #[.int .i64 kind, .string ⟨p.toArray⟩] 120)).grownBy w2 (Value.slice ea es.length ec).ownBlock →
      ((Value.slice a2 (es.length + 1) c2).ownBlock = (Value.slice ea es.length ec).ownBlock ∨ (Value.slice a2 (es.length + 1) c2).ownBlock = some (w1.alloc (.cells #[.int .i64 kind, .string ⟨p.toArray⟩] 120)).heap.size) →
      w2.cell? ⟨b, 3, none⟩ = some (.slice ea es.length ec) ∧ w2.frozen? ⟨b, 3, none⟩ = false ∧ Grow (w2.setCell ⟨b, 3, none⟩ (.slice a2 (es.length + 1) c2)) F b z vn vs (.slice a2 (es.length + 1) c2) ns ss (es ++ [⟨kind, p⟩]) ∧ Touch F w (w2.setCell ⟨b, 3, none⟩ (.slice a2 (es.length + 1) c2)) := by
    intro w1 w2 a2 c2 hb1 ho2 hg2 hl2
    have g1 := (h.next hb1).next (allocB w1 (.cells #[.int .i64 kind, .string ⟨p.toArray⟩] 120))
    have n3 : ¬ (Value.slice ea es.length ec).ownBlock = some b := fun e => (h.fe b e).2 rfl
    refine ⟨hg2.cell g1.c3 (fun e => n3 e.symm), (World.frozen?_of_block (hg2.block b g1.lt (fun e => n3 e.symm))).trans (g1.fz 3), g1.ev (fun k hk => hF k (by have := hb1.size; simp at hk; omega)) hg2 ho2 hl2, ?_⟩
    exact (((Touch.of_below hb1).trans (Touch.of_below (allocB _ _))).trans (Touch.of_grown hg2 (fun k e => (h.fe k e).1))).trans (Touch.set h.fb _)
  have HK2 := hide K2
  clear h hF hp K2
  go_enter Tryz.func60, Tryz.ntmps60
  go_wp2_with fail
  go_region_law (first
    | (refine step_app_ev (by kernel_rfl) _ _ (by rfl) (.slice ea es.length ec) es (by rfl) (unhide KE w1 (unhide HB1)) w1.heap.size (by rfl) ⟨kind, p⟩ (one_new w1 kind p) hl ?_; intro a2 c2 w2 ho2 hg2 hl2; obtain ⟨m3, l3, g2, t2⟩ := unhide HK2 w1 w2 a2 c2 (unhide HB1) ho2 hg2 hl2; have HG2 := hide g2; have HT2 := hide t2; clear ho2 hg2 hl2 g2 t2)
    | (go_simp; refine (C _).mono ?_; rintro e w1 ⟨rfl, hb1⟩; have HB1 : Hid (Below w.heap.size w w1) := (by first | exact hb1 | exact nbelow_drew hb1); obtain ⟨d3, k3, hbn, d3a⟩ := unhide K1 w1 (unhide HB1); clear hb1))
  all_goals go_wp2_with fail
  all_goals go_end0
  all_goals exact ⟨rfl, _, unhide HG2, unhide HT2⟩
end Go.Proofs.YtcplpbelficbeaaGreatDoor
