/-
  What aviaryref.Split, Depth, Under and Join answer, for all texts up to a bound: the walks.
  aviaryref's GetNode and KidsOf: the walks.
  aviaryref's SameTree and SameEvents, of alike ones: the walks.
  What watch.own, copied, setOff and its closures answer: the walks.
  What watch.setOff and the closures of Fire and Drop answer: the walks.
  What slices.IndexFunc answers at watches, with the closures of Fire and Drop: the walks.
  What watch.told answers: the walk.
  What slices.DeleteFunc answers at watches, with the closures of Fire and Drop: the walk.
  What watch.Fire and watch.Drop answer: the walks.
  What aviarykeep's kept, sameWatches (of alike ones) and tells answer: the walks.
  What aviaryref's Fire, SameNotes, SameWatches (of alike ones) and aviarylaw's watches answer; the law WatchFires: the walks.
  What aviarylaw's watches and aviaryref's SameWatches, SameNotes (of alike ones) answer: the walks.
-/
import Derived.Test.YtaoflcmeiaffjaaGreatDoorTV
import Derived.Test.YtaoflcmeiaffjaaGreatDoorTX
import Derived.ChangeAlike
import Derived.Test.YtaoflcmeiaffjaaGreatDoorTD
import Derived.Test.YtaoflcmeiaffjaaGreatDoorShelf
import Derived.Deep.RegionHeld3
import Derived.BigQuiet
import Derived.Laws.MakeOwn
import Derived.Lib.SliceRun
import Derived.Lib.AppendZerosOnto
import Derived.Deep.RegionLaw
import Derived.Maps.AppendAt
import Derived.Laws.AppendOwnNone
import Derived.Laws.StructEq
import Derived.Deep.QuietTactic
namespace Go.Proofs.YtaoflcmeiaffjaaGreatDoor
open Go.RowKit

def flat (ps : List (List UInt8)) : List UInt8 := ps.flatMap (fun p => 47 :: p)
theorem flat_split : ∀ l : List UInt8, flat (splitL l) = 47 :: l
  | [] => rfl
  | c :: l => by
    have ih := flat_split l
    by_cases hc : c = 47
    · subst hc; rw [splitL_slash]; simp only [flat, List.flatMap_cons] at ih ⊢; rw [ih]; rfl
    · cases hl : splitL l with
      | nil => exact absurd hl (splitL_ne l)
      | cons p ps =>
        rw [splitL_other hc hl]
        rw [hl] at ih
        simp only [flat, List.flatMap_cons, List.cons_append, List.cons.injEq, true_and] at ih ⊢
        exact ih
theorem flat_snoc (ps : List (List UInt8)) (x : List UInt8) : flat (ps ++ [x]) = flat ps ++ ([47] ++ x) := by simp [flat]
theorem flat_take_le (qs : List (List UInt8)) (j : Nat) : (flat (qs.take j)).length ≤ (flat qs).length := by
  have h : flat qs = flat (qs.take j) ++ flat (qs.drop j) := by
    unfold flat
    rw [← List.flatMap_append, List.take_append_drop]
  rw [h]; simp
/-- the pieces of a path: nothing ahead of its first slash, what its parent is made of, its last step -/
theorem path_pieces {a b : List UInt8} (hb : 47 ∉ b) (hg : goodB (a ++ 47 :: b) = true) : ∃ qs, splitL (a ++ 47 :: b) = [] :: (qs ++ [b]) ∧ flat qs = a := by
  rw [splitL_tail a b hb]
  cases a with
  | nil => exact ⟨[], rfl, rfl⟩
  | cons c a =>
    obtain ⟨t, ht⟩ := goodB_slash hg
    simp only [List.cons_append, List.nil_append, List.cons.injEq] at ht
    obtain ⟨rfl, _⟩ := ht
    rw [splitL_slash]
    exact ⟨splitL a, rfl, flat_split a⟩

theorem val_cat (f x : List UInt8) : Value.string ((ByteArray.mk f.toArray) ++ ((ByteArray.mk #[47]) ++ (ByteArray.mk x.toArray))) = .string ⟨(f ++ ([47] ++ x)).toArray⟩ := by
  rw [show (ByteArray.mk #[47]) ++ (ByteArray.mk x.toArray) = ⟨([47] ++ x).toArray⟩ from cat_one [47] x, cat_one]

set_option maxRecDepth 10000 in
set_option maxHeartbeats 400000 in
theorem refSplit_bad (l : List UInt8) (w : World) (hl : l.length ≤ 1048576) (hg : goodB l = false) :
    Calls Tryz.prog 122 #[.string ⟨l.toArray⟩] w fun e w' => e = .returned (.tuple #[.string ⟨#[]⟩, .string ⟨#[]⟩, .int .i64 2]) ∧ Below w.heap.size w w' := by
  have Hg := hide hg
  clear hg
  go_enter Tryz.func122, Tryz.ntmps122
  go_wp2_with fail
  refine (refGood_any l _ hl).mono ?_
  rintro e w1 ⟨rfl, hb1⟩
  rw [unhide Hg]
  go_wp2_with fail
  go_ret3
  exact ⟨rfl, hb1⟩

set_option maxRecDepth 10000 in
set_option maxHeartbeats 400000 in
theorem refSplit_root (w : World) :
    Calls Tryz.prog 122 #[.string ⟨#[47]⟩] w fun e w' => e = .returned (.tuple #[.string ⟨#[]⟩, .string ⟨#[]⟩, .int .i64 7]) ∧ Below w.heap.size w w' := by
  go_enter Tryz.func122, Tryz.ntmps122
  go_wp2_with fail
  refine (refGood_any [47] _ (by decide)).mono ?_
  rintro e w1 ⟨rfl, hb1⟩
  rw [goodB_root]
  go_wp2_with fail
  go_ret3
  exact ⟨rfl, hb1⟩

set_option maxRecDepth 100000 in
set_option maxHeartbeats 1000000 in
theorem refSplit_main (a b : List UInt8) (w : World) (hb : 47 ∉ b) (hg : goodB (a ++ 47 :: b) = true) (hne : a ++ 47 :: b ≠ [47]) :
    Calls Tryz.prog 122 #[.string ⟨(a ++ 47 :: b).toArray⟩] w fun e w' =>
      e = .returned (.tuple #[.string ⟨(dirL a).toArray⟩, .string ⟨b.toArray⟩, .int .i64 0]) ∧ Below w.heap.size w w' := by
  obtain ⟨qs, hsp, hfl⟩ := path_pieces hb hg
  have hl : (a ++ 47 :: b).length ≤ 200 := goodB_le hg
  have hal : (flat qs).length ≤ 200 := by rw [hfl]; simp at hl; omega
  have hne1 : (a ++ 47 :: b == [47]) = false := by simpa using hne
  have hst : ∀ W : World, Calls Tryz.prog 160 #[.string ⟨(a ++ 47 :: b).toArray⟩] W fun e w' =>
      ∃ v, e = .returned v ∧ w'.ownsRow W.heap.size 9 1 v (qs.length + 1 + 1) (([] :: (qs ++ [b])).map strV) ∧ Below W.heap.size W w' := by
    intro W
    have h := refSteps_any (a ++ 47 :: b) W (by omega)
    rw [hsp, show ([] :: (qs ++ [b])).length = qs.length + 1 + 1 from by simp] at h
    exact h
  have Hst := hide hst
  have Hg := hide hg
  have Hfl := hide hfl
  have hql : qs.length ≤ 200 := by
    have h := splitL_count' (a ++ 47 :: b)
    rw [hsp] at h
    simp at h hl
    omega
  clear hst hg hne hb hsp hfl
  generalize a ++ 47 :: b = l at *
  go_enter Tryz.func122, Tryz.ntmps122
  go_wp2_with fail
  refine (refGood_any l _ (by omega)).mono ?_
  rintro e w1 ⟨rfl, hb1⟩
  rw [unhide Hg]
  go_wp2_with fail
  refine (unhide Hst _).mono ?_
  clear Hst
  rintro e w2 ⟨v, rfl, hown, hb2⟩
  replace hb2 := below_next hb1 hb2
  clear hb1
  obtain ⟨g, cap, rfl, hcap, hcm, hgl, hgb, hcell⟩ := row_form hown (by omega)
  have Hcell : Hid (∀ j (hj : j < qs.length), w2.cell? ⟨g, 1 + j, none⟩ = some (.string ⟨qs[j].toArray⟩)) := hide (fun j hj => by
    rw [hcell (1 + j) (by simp; omega)]
    simp [Nat.add_comm 1 j, List.getElem_append_left hj])
  have hlast : w2.cell? ⟨g, qs.length + 1, none⟩ = some (.string ⟨b.toArray⟩) := by
    rw [hcell (qs.length + 1) (by simp)]; simp
  clear hown hcell
  unfold maxLen at hcm
  have hq0 : (0 : Int) ≤ (qs.length : Int) := by omega
  have hq1 : (qs.length : Int) ≤ 200 := by omega
  have hq2 : (qs.length : Int) + 1 < (qs.length : Int) + 1 + 1 := by omega
  go_wp2_with fail
  go_loop [7, 24] (fun t i => ∃ j : Nat, j ≤ qs.length ∧ i = .int .i64 j ∧ t = .string ⟨(flat (qs.take j)).toArray⟩) (fun _ i => qs.length - (intOf i).toNat)
  case atStart => exact ⟨0, Nat.zero_le _, rfl, rfl⟩
  case round =>
    obtain ⟨j, hj, rfl, rfl⟩ := hrel
    have hft := flat_take_le qs j
    by_cases hjl : j < qs.length
    · have hc := unhide Hcell j hjl
      have Htk : Hid (flat (qs.take (j + 1)) = flat (qs.take j) ++ ([47] ++ qs[j])) := hide (by rw [List.take_succ_eq_append_getElem hjl, flat_snoc])
      have hxl : qs[j].length ≤ 200 := by
        have h := flat_take_le qs (j + 1)
        rw [unhide Htk] at h
        simp at h
        omega
      generalize qs[j] = x at hc Htk hxl
      generalize flat (qs.take j) = f at hft Htk ⊢
      have hz1 : (ByteArray.mk x.toArray).size = x.length := Lib.size_eq ⟨x.toArray⟩
      have hz2 : (ByteArray.mk f.toArray).size = f.length := Lib.size_eq ⟨f.toArray⟩
      go_wp2
      go_round
      case rel => exact ⟨j + 1, by omega, by go_num, by rw [unhide Htk]; exact val_cat f x⟩
      case measure => simp [intOf]; omega
    · have hje : j = qs.length := by omega
      subst hje
      rw [List.take_length, unhide Hfl]
      cases he : a.isEmpty
      · have Hd : Hid (dirL a = a) := hide (dirL_other (by rintro rfl; simp at he))
        go_wp2
        go_region
        all_goals go_wp2
        all_goals go_ret3
        all_goals exact ⟨ret_three (by rw [unhide Hd]) rfl rfl, by repeat (first | exact hb2 | apply Below.drew)⟩
      · obtain rfl : a = [] := by simpa using he
        go_wp2
        go_region
        all_goals go_wp2
        all_goals go_ret3
        all_goals exact ⟨ret_three (by rw [dirL_nil]) rfl rfl, by repeat (first | exact hb2 | apply Below.drew)⟩

end Go.Proofs.YtaoflcmeiaffjaaGreatDoor

namespace Go.Proofs.YtaoflcmeiaffjaaGreatDoor
open Go.RowKit

/-- aviaryref.Split, at every text that is not too long -/
theorem rsplit_any (p : List UInt8) (w : World) (hl : p.length ≤ 1048576) :
    Calls Tryz.prog 122 #[.string ⟨p.toArray⟩] w fun e w' =>
      e = .returned (.tuple #[.string ⟨(dirOf p).toArray⟩, .string ⟨(stepOf p).toArray⟩, .int .i64 (splE p)]) ∧ Below w.heap.size w w' := by
  cases hg : goodB p with
  | false =>
    rw [dirOf_bad hg, stepOf_bad hg, splE_bad hg]
    exact refSplit_bad p w hl hg
  | true =>
    by_cases hr : p = [47]
    · subst hr
      rw [dirOf_root, stepOf_root, splE_root]
      exact refSplit_root w
    · obtain ⟨a, b, rfl, hb⟩ := good_cut hg
      rw [dirOf_cut hg hr hb, stepOf_cut hg hr hb, splE_ok hg hr]
      exact refSplit_main a b w hb hg hr

end Go.Proofs.YtaoflcmeiaffjaaGreatDoor

namespace Go.Proofs.YtaoflcmeiaffjaaGreatDoor
open Go.RowKit

/-- two boxes of trees -/
structure TT (w W : World) (z : Int) (vn vs un us : Value) : Prop where
  a : W.heap[w.heap.size]? = some (.cells #[.int .i64 z, vn, vs] 31 (0, 0))
  b : W.heap[w.heap.size + 1]? = some (.cells #[.int .i64 z, un, us] 31 (0, 0))
  bl : Below w.heap.size w W
theorem TT.new (w : World) (z : Int) (vn vs un us : Value) : TT w ((w.alloc (.cells #[.int .i64 z, vn, vs] 31)).alloc (.cells #[.int .i64 z, un, us] 31)) z vn vs un us := by
  refine ⟨?_, ?_, nnext (allocB _ _) (allocB _ _)⟩
  · rw [(allocB _ _).block _ (by simp)]
    exact heap_alloc_new w _
  · have h := heap_alloc_new (w.alloc (.cells #[.int .i64 z, vn, vs] 31)) (.cells #[.int .i64 z, un, us] 31)
    rw [show (w.alloc (.cells #[.int .i64 z, vn, vs] 31)).heap.size = w.heap.size + 1 by simp] at h
    exact h
theorem TT.next {w W V : World} {z : Int} {vn vs un us : Value} (h : TT w W z vn vs un us) (hb : Below W.heap.size W V) : TT w V z vn vs un us :=
  ⟨(hb.block _ (Array.getElem?_eq_some_iff.1 h.a).1).trans h.a, (hb.block _ (Array.getElem?_eq_some_iff.1 h.b).1).trans h.b, nnext h.bl hb⟩
theorem TT.six {w W : World} {z : Int} {vn vs un us : Value} (h : TT w W z vn vs un us) : W.cell? ⟨w.heap.size, 0, none⟩ = some (.int .i64 z) ∧ W.cell? ⟨w.heap.size, 1, none⟩ = some vn ∧ W.cell? ⟨w.heap.size, 2, none⟩ = some vs ∧ W.cell? ⟨w.heap.size + 1, 0, none⟩ = some (.int .i64 z) ∧ W.cell? ⟨w.heap.size + 1, 1, none⟩ = some un ∧ W.cell? ⟨w.heap.size + 1, 2, none⟩ = some us := by
  have h1 := h.a
  have h2 := h.b
  refine ⟨?_, ?_, ?_, ?_, ?_, ?_⟩ <;> simp [World.cell?, h1, h2]

set_option maxRecDepth 20000 in
set_option maxHeartbeats 4000000 in
theorem rsameT_any (t : Tr) (vn vs un us : Value) (w : World) (hn : SeqV w vn t.ns) (hs : SeqV w vs t.ss) (gn : SeqV w un t.ns) (gs : SeqV w us t.ss) (hl : t.ns.length ≤ 140737488355328) (hls : t.ss.length ≤ 140737488355328) :
    Calls Tryz.prog 42 #[.agg #[.int .i64 t.z, vn, vs], .agg #[.int .i64 t.z, un, us]] w fun e w' => e = .returned (.bool true) ∧ Below w.heap.size w w' := by
  have K : ∀ {α : Type} [Lay α] (v : Value) (xs : List α), SeqV w v xs → ∀ W, Below w.heap.size w W → ∀ (i : Nat) (x : α), xs[i]? = some x → ∃ b off c, v = .slice (some ⟨b, off, none⟩) xs.length c ∧ b < w.heap.size ∧ RowAt W b off (cellsL xs) := by
    intro α _ v xs hv W hW i x hx
    obtain ⟨b, off, c, e, hb, hr, _, _⟩ := seq_row hv (by intro h0; rw [h0] at hx; simp at hx)
    exact ⟨b, off, c, e, hb, hr.kept hW hb⟩
  have K1 := hide (K vn t.ns hn)
  have K2 := hide (K un t.ns gn)
  have K3 := hide (K vs t.ss hs)
  have K4 := hide (K us t.ss gs)
  have T0 := hide (TT.new w t.z vn vs un us)
  obtain ⟨na, nc, rfl⟩ := seq_slice hn
  obtain ⟨sa, sc, rfl⟩ := seq_slice hs
  obtain ⟨ma, mc, rfl⟩ := seq_slice gn
  obtain ⟨ra, rc, rfl⟩ := seq_slice gs
  clear hn hs gn gs K
  go_enter Tryz.func42, Tryz.ntmps42
  go_wp2_with fail
  go_loopg [33] t.ns.length (fun kx s33 wr => ∃ k : Nat, s33 = .int .i64 k ∧ k ≤ t.ns.length ∧ t.ns.length - k ≤ kx ∧ Hid (TT w wr t.z (.slice na t.ns.length nc) (.slice sa t.ss.length sc) (.slice ma t.ns.length mc) (.slice ra t.ss.length rc)))
  case atStart => exact ⟨0, rfl, Nat.zero_le _, Nat.le_refl _, T0⟩
  case round =>
    obtain ⟨k, rfl, hk, hg, hT⟩ := hrel
    obtain ⟨c0, c1, c2, c3, c4, c5⟩ := (unhide hT).six
    have hsz := (unhide hT).bl.size
    by_cases hlt : k < t.ns.length
    · obtain ⟨x, hx⟩ : ∃ x, t.ns[k]? = some x := ⟨_, List.getElem?_eq_getElem hlt⟩
      obtain ⟨b1, o1, cc1, he, hb1, q1⟩ := unhide K1 wr (unhide hT).bl k x hx
      simp only [Value.slice.injEq] at he
      obtain ⟨rfl, _, rfl⟩ := he
      obtain ⟨b2, o2, cc2, he, hb2, q2⟩ := unhide K2 wr (unhide hT).bl k x hx
      simp only [Value.slice.injEq] at he
      obtain ⟨rfl, _, rfl⟩ := he
      have d0 := q1.n0 hx
      have d1 := q1.n1 hx
      have d2 := q1.n2 hx
      have d3 := q1.n3 hx
      have d4 := q1.n4 hx
      have d5 := q1.n5 hx
      have d6 := q1.n6 hx
      have d7 := q1.n7 hx
      have d8 := q1.n8 hx
      have r0 := q2.n0 hx
      have r1 := q2.n1 hx
      have r2 := q2.n2 hx
      have r3 := q2.n3 hx
      have r4 := q2.n4 hx
      have r5 := q2.n5 hx
      have r6 := q2.n6 hx
      have r7 := q2.n7 hx
      have r8 := q2.n8 hx
      clear q1 q2 hx
      go_wp2_with fail
      go_region
      go_wp2_with fail
      go_roundg (t.ns.length - (k + 1))
      case measure => omega
      case rel => exact ⟨k + 1, rfl, by omega, Nat.le_refl _, hide ((unhide hT).next (Below.refl _ _).drew)⟩
    · obtain rfl : k = t.ns.length := by omega
      go_wp2_with fail
      go_loopg [51] t.ss.length (fun kx s51 wr => ∃ k : Nat, s51 = .int .i64 k ∧ k ≤ t.ss.length ∧ t.ss.length - k ≤ kx ∧ Hid (TT w wr t.z (.slice na t.ns.length nc) (.slice sa t.ss.length sc) (.slice ma t.ns.length mc) (.slice ra t.ss.length rc)))
      case atStart => exact ⟨0, rfl, Nat.zero_le _, Nat.le_refl _, hT⟩
      case round =>
        obtain ⟨k, rfl, hk, hg, hT⟩ := hrel
        obtain ⟨c0, c1, c2, c3, c4, c5⟩ := (unhide hT).six
        by_cases hlt : k < t.ss.length
        · obtain ⟨x, hx⟩ : ∃ x, t.ss[k]? = some x := ⟨_, List.getElem?_eq_getElem hlt⟩
          obtain ⟨b1, o1, cc1, he, hb1, q1⟩ := unhide K3 wr (unhide hT).bl k x hx
          simp only [Value.slice.injEq] at he
          obtain ⟨rfl, _, rfl⟩ := he
          obtain ⟨b2, o2, cc2, he, hb2, q2⟩ := unhide K4 wr (unhide hT).bl k x hx
          simp only [Value.slice.injEq] at he
          obtain ⟨rfl, _, rfl⟩ := he
          have d0 := q1.i0 hx
          have r0 := q2.i0 hx
          clear q1 q2 hx
          go_wp2_with fail
          go_region
          go_wp2_with fail
          go_roundg (t.ss.length - (k + 1))
          case measure => omega
          case rel => exact ⟨k + 1, rfl, by omega, Nat.le_refl _, hide ((unhide hT).next (Below.refl _ _).drew)⟩
        · obtain rfl : k = t.ss.length := by omega
          go_wp2_with fail
          go_ret
          exact ⟨rfl, (unhide hT).bl⟩

end Go.Proofs.YtaoflcmeiaffjaaGreatDoor

namespace Go.Proofs.YtaoflcmeiaffjaaGreatDoor
open Go.RowKit
set_option maxRecDepth 10000 in

set_option maxHeartbeats 400000 in
theorem hclone_any (s : List UInt8) (w : World) (hs : s.length ≤ 281474976710656) :
    Calls Tryz.prog 83 #[.string ⟨s.toArray⟩] w fun e w' => e = .returned (.string ⟨s.toArray⟩) ∧ Below w.heap.size w w' := by
  have C := fun W => Tryz.stringslite_Clone ⟨s.toArray⟩ W (show (ByteArray.mk s.toArray).size ≤ _ from hs)
  go_enter Tryz.func83, Tryz.ntmps83
  go_wp2_with fail
  refine (C _).mono ?_
  rintro e w1 ⟨rfl, hb1⟩
  go_wp2_with fail
  go_ret
  exact ⟨rfl, hb1⟩

set_option maxRecDepth 10000 in
set_option maxHeartbeats 1000000 in
theorem wown_any (x : Wa) (w : World) (hx : x.p.length ≤ 140737488355328) :
    Calls Tryz.prog 155 #[waV x] w fun e w' => e = .returned (waV x) ∧ Below w.heap.size w w' := by
  obtain ⟨s, k, p⟩ := x
  unfold waV
  have C := fun W => hclone_any p W (by simp only at hx; omega)
  go_enter Tryz.func155, Tryz.ntmps155
  go_wp2_with fail
  refine (C _).mono ?_
  rintro e w1 ⟨rfl, hb1⟩
  have hB := nbox_then (nbox_then hb1)
  have c0 : w1.cell? ⟨w.heap.size, 0, none⟩ = some (.int .i64 s) := by rw [hb1.cell (p := ⟨w.heap.size, 0, none⟩) (by simp; omega)]; simp
  have c1 : w1.cell? ⟨w.heap.size, 1, none⟩ = some (.int .i64 k) := by rw [hb1.cell (p := ⟨w.heap.size, 1, none⟩) (by simp; omega)]; simp
  have c2 : w1.cell? ⟨w.heap.size, 2, none⟩ = some (.string ⟨p.toArray⟩) := by rw [hb1.cell (p := ⟨w.heap.size, 2, none⟩) (by simp; omega)]; simp
  have f2 : w1.frozen? ⟨w.heap.size, 2, none⟩ = false := by rw [hb1.frozen (p := ⟨w.heap.size, 2, none⟩) (by simp; omega)]; simp
  have d0 : w1.cell? ⟨w.heap.size + 1, 0, none⟩ = some (.int .i64 0) := by rw [hb1.cell (p := ⟨w.heap.size + 1, 0, none⟩) (by simp)]; simp
  have d1 : w1.cell? ⟨w.heap.size + 1, 1, none⟩ = some (.int .i64 0) := by rw [hb1.cell (p := ⟨w.heap.size + 1, 1, none⟩) (by simp)]; simp
  have d2 : w1.cell? ⟨w.heap.size + 1, 2, none⟩ = some (.string ⟨#[]⟩) := by rw [hb1.cell (p := ⟨w.heap.size + 1, 2, none⟩) (by simp)]; simp
  have g0 : w1.frozen? ⟨w.heap.size + 1, 0, none⟩ = false := by rw [hb1.frozen (p := ⟨w.heap.size + 1, 0, none⟩) (by simp)]; simp
  have g1 : w1.frozen? ⟨w.heap.size + 1, 1, none⟩ = false := by rw [hb1.frozen (p := ⟨w.heap.size + 1, 1, none⟩) (by simp)]; simp
  have g2 : w1.frozen? ⟨w.heap.size + 1, 2, none⟩ = false := by rw [hb1.frozen (p := ⟨w.heap.size + 1, 2, none⟩) (by simp)]; simp
  have s2 : w1.setCell ⟨w.heap.size, 2, none⟩ (.string ⟨p.toArray⟩) = w1 := nset_same c2
  clear hb1 C
  go_wp2_with fail
  refine bodyPost_ret (v := .agg #[.int .i64 s, .int .i64 k, .string ⟨p.toArray⟩]) (by simp [results, Tryz.results155, go_sem, d0, d1, d2]) rfl ⟨rfl, ?_⟩
  exact ((hB.setCell (by simp) _).setCell (by simp) _).setCell (by simp) _

theorem ownr_owns {α : Type} [Lay α] {W : World} {g cap : Nat} {xs : List α} (h : OwnR W g cap xs) (B : Nat) (hB : B ≤ g) : W.ownsRow B (Lay.ty α) (Lay.k α) (.slice (some ⟨g, 0, none⟩) xs.length cap) xs.length (cellsL xs) :=
  OwnS.row (.inr ⟨g, cap, rfl, hB, h⟩)
theorem ownr_of {α : Type} [Lay α] {W : World} {B g cap n : Nat} {xs : List α} (h : W.ownsRow B (Lay.ty α) (Lay.k α) (.slice (some ⟨g, 0, none⟩) n cap) n (cellsL xs)) (hn : n = xs.length) : OwnR W g cap xs := by
  subst hn
  rcases OwnS.of_row h with ⟨h1, _⟩ | ⟨g', cap', h1, _, h2⟩
  · simp at h1
  · simp only [Value.slice.injEq, Option.some.injEq, Addr.mk.injEq, and_true, true_and] at h1
    obtain ⟨rfl, rfl⟩ := h1
    exact h2
theorem one_newW (w : World) (x : Wa) : OneR (w.alloc (.cells #[.int .i64 x.s, .int .i64 x.k, .string ⟨x.p.toArray⟩] 118)) w.heap.size x := heap_alloc_new w _
theorem snoc_take {α : Type} {xs : List α} {k : Nat} {x : α} (h : xs[k]? = some x) : xs.take (k + 1) = xs.take k ++ [x] := by rw [List.take_add_one, h]; rfl
theorem grownO {w w' : World} {r : Option Nat} (h : w.grownBy w' r) (B : Nat) (hB : B ≤ w.heap.size) (hr : ∀ k, r = some k → B ≤ k) : Below B w w' := (Below.refl _ _).grown h hB hr

set_option maxRecDepth 10000 in
set_option maxHeartbeats 2000000 in
theorem hcopied_any (v : Value) (ws : List Wa) (w : World) (hv : SeqV w v ws) (hs : Short ws) (hl : ws.length * 32 ≤ 140737488351232) :
    Calls Tryz.prog 111 #[v] w fun e w' => ∃ g, e = .returned (.slice (some ⟨g, 0, none⟩) ws.length (ws.length + 1)) ∧ w.heap.size ≤ g ∧ OwnR w' g (ws.length + 1) ws ∧ Below w.heap.size w w' := by
  have KR : ∀ W, Below w.heap.size w W → ∀ k x, ws[k]? = some x → ∃ b off cap, v = .slice (some ⟨b, off, none⟩) ws.length cap ∧ b < w.heap.size ∧ RowAt W b off (cellsL ws) := fun W hW k x hx => by
    obtain ⟨b, off, cap, e, hb, hr, _, _⟩ := seq_row hv (fun h0 => by obtain ⟨h1, _⟩ := List.getElem?_eq_some_iff.1 hx; rw [h0] at h1; simp at h1)
    exact ⟨b, off, cap, e, hb, hr.kept hW hb⟩
  have HKR := hide KR
  have HS := hide hs
  obtain ⟨va, vc, rfl⟩ := seq_slice hv
  obtain ⟨i0, hi0, hz0, hz1, hz2⟩ := winfo
  clear hv hs KR
  go_enter Tryz.func111, Tryz.ntmps111
  go_wp2_with (at_make; refine wpList_make_own _ rfl _ _ 32 rfl w.heap.size 118 i0 _ 3 Tryz.underlying32 hi0 hz0 hz1 .i64 .i64 _ (ws.length + 1) rfl rfl (by omega) ?m1 ?m2 (Nat.le_refl _) ?_)
  case m1 => rw [hz2]; omega
  case m2 => simp only [maxLen]; omega
  intro w0 ho0 hg0
  have HO : Hid (OwnR w0 w.heap.size (ws.length + 1) (ws.take 0)) := hide (ownr_of (α := Wa) (xs := ws.take 0) ho0 rfl)
  have HB : Hid (Below w.heap.size w w0) := hide (grownO hg0 _ (Nat.le_refl _) (by simp))
  clear ho0 hg0
  go_wp2_with fail
  go_loopg [3, 12] ws.length (fun kx s3 s12 wr => ∃ k : Nat, s12 = .int .i64 k ∧ s3 = .slice (some ⟨w.heap.size, 0, none⟩) k (ws.length + 1) ∧ k ≤ ws.length ∧ ws.length - k ≤ kx ∧ Hid (OwnR wr w.heap.size (ws.length + 1) (ws.take k)) ∧ Hid (Below w.heap.size w wr))
  case atStart => exact ⟨0, rfl, rfl, Nat.zero_le _, Nat.le_refl _, HO, HB⟩
  case round =>
    obtain ⟨k, rfl, rfl, hk, hg, hO, hB⟩ := hrel
    by_cases hlt : k < ws.length
    · obtain ⟨x, hx⟩ : ∃ x, ws[k]? = some x := ⟨_, List.getElem?_eq_getElem hlt⟩
      obtain ⟨b, off, cap, he, hb, q⟩ := unhide HKR wr (unhide hB) k x hx
      simp only [Value.slice.injEq] at he
      obtain ⟨rfl, _, rfl⟩ := he
      have d0 := q.w0 hx
      have d1 := q.w1 hx
      have d2 := q.w2 hx
      have hbw : b < wr.heap.size := Nat.lt_of_lt_of_le hb (unhide hB).size
      have hgl := (unhide hO).lt
      have CX := fun W => wown_any x W (unhide HS x (List.mem_of_getElem? hx))
      unfold waV at CX
      have HT1 := hide (snoc_take hx)
      have hlk : (ws.take k).length = k := by simp; omega
      clear q hx
      go_wp2_with fail
      refine (CX _).mono ?_
      rintro e w1 ⟨rfl, hb1⟩
      have hb2 := nbox_then hb1
      have HO1 := hide (((unhide hO).next hb2).next (allocB w1 (.cells #[.int .i64 x.s, .int .i64 x.k, .string ⟨x.p.toArray⟩] 118)))
      have HB1 := hide (nnext (unhide hB) (nnext hb2 (allocB w1 (.cells #[.int .i64 x.s, .int .i64 x.k, .string ⟨x.p.toArray⟩] 118))))
      clear CX hb1 hb2
      go_wp2_with (at_builtin; refine wpList_append_fits _ rfl _ _ 32 rfl w.heap.size 118 i0 3 Tryz.underlying32 hi0 hz1 w.heap.size k (ws.length + 1) (cellsL (ws.take k)) rfl ?a1 ⟨w1.heap.size, 0, none⟩ 1 1 (wcells x) rfl rfl ?a2 (Lay.one x) (by omega) ?_)
      case a1 =>
        have := ownr_owns (unhide HO1) w.heap.size (Nat.le_refl _)
        rw [hlk] at this
        exact this
      case a2 => exact one_news (one_newW w1 x)
      intro w2 ho2 hg2
      have HO2 : Hid (OwnR w2 w.heap.size (ws.length + 1) (ws.take (k + 1))) := hide (by
        rw [unhide HT1]
        refine ownr_of (α := Wa) (B := w.heap.size) (n := k + 1) ?_ (by simp; omega)
        rw [cellsL_snoc]
        exact ho2)
      have HB2 : Hid (Below w.heap.size w w2) := hide ((unhide HB1).grown hg2 (unhide HB1).size (by intro k hk; cases hk; exact Nat.le_refl _))
      clear ho2 hg2
      go_wp2_with fail
      go_roundg (ws.length - (k + 1))
      case measure => omega
      case rel => exact ⟨k + 1, rfl, rfl, by omega, Nat.le_refl _, HO2, HB2⟩
    · obtain rfl : k = ws.length := by omega
      rw [List.take_length] at hO
      go_wp2_with fail
      go_ret
      exact ⟨_, rfl, Nat.le_refl _, unhide hO, unhide hB⟩

end Go.Proofs.YtaoflcmeiaffjaaGreatDoor

namespace Go.Proofs.YtaoflcmeiaffjaaGreatDoor
open Go.RowKit

theorem hret_bool {a b : Bool} (h : a = b) : Ending.returned (.bool a) = .returned (.bool b) := by rw [h]

set_option maxRecDepth 10000 in
set_option maxHeartbeats 2000000 in
theorem setOff_any (x : Wa) (e : Ev) (w : World) :
    Calls Tryz.prog 113 #[waV x, evV e] w fun r w' => r = .returned (.bool (offB x e)) ∧ Below w.heap.size w w' := by
  obtain ⟨s, k, p⟩ := x
  obtain ⟨ek, ep⟩ := e
  have HB := hide (nnext (allocB w (.cells #[.int .i64 s, .int .i64 k, .string ⟨p.toArray⟩] 118)) (allocB _ (.cells #[.int .i64 ek, .string ⟨ep.toArray⟩] 87)))
  have HO := hide (show ∀ r : Bool, r = (decide (p = ep) && (if k = 2 then decide (ek = 4) || decide (ek = 2) else decide (ek = 1) || decide (ek = 2) || decide (ek = 3))) → r = offB ⟨s, k, p⟩ ⟨ek, ep⟩ from fun r h => h)
  unfold waV evV
  simp only
  by_cases hp : p = ep
  · have hpb : (p == ep) = true := by simpa using hp
    have HP := hide hp
    clear hp
    by_cases hk : k = 2
    · subst hk
      by_cases h4 : ek = 4
      · subst h4
        go_enter Tryz.func113, Tryz.ntmps113
        go_wp2_with fail
        go_ret
        exact ⟨hret_bool (unhide HO _ (by simp [unhide HP])), unhide HB⟩
      · go_enter Tryz.func113, Tryz.ntmps113
        go_wp2_with fail
        go_ret
        exact ⟨hret_bool (unhide HO _ (by by_cases h : ek = 2 <;> simp [unhide HP, h, h4])), unhide HB⟩
    · by_cases h1 : ek = 1
      · subst h1
        go_enter Tryz.func113, Tryz.ntmps113
        go_wp2_with fail
        go_ret
        exact ⟨hret_bool (unhide HO _ (by simp [unhide HP, hk])), unhide HB⟩
      · by_cases h2 : ek = 2
        · subst h2
          go_enter Tryz.func113, Tryz.ntmps113
          go_wp2_with fail
          go_ret
          exact ⟨hret_bool (unhide HO _ (by simp [unhide HP, hk])), unhide HB⟩
        · go_enter Tryz.func113, Tryz.ntmps113
          go_wp2_with fail
          go_ret
          exact ⟨hret_bool (unhide HO _ (by by_cases h : ek = 3 <;> simp [unhide HP, hk, h, h1, h2])), unhide HB⟩
  · have hpb : (p == ep) = false := by simpa using hp
    go_enter Tryz.func113, Tryz.ntmps113
    go_wp2_with fail
    go_ret
    exact ⟨hret_bool (unhide HO _ (by simp [hp])), unhide HB⟩

set_option maxRecDepth 10000 in
set_option maxHeartbeats 1000000 in
theorem fire1_any (x : Wa) (e : Ev) (B : Nat) (w : World) (h : OneR w B e) :
    Calls Tryz.prog 112 #[waV x, .pointer (some ⟨B, 0, none⟩)] w fun r w' => r = .returned (.bool (offB x e)) ∧ Below w.heap.size w w' := by
  have C := fun W => setOff_any x e W
  have hB : B < w.heap.size := (Array.getElem?_eq_some_iff.1 h).1
  have c0 : w.cell? ⟨B, 0, none⟩ = some (.int .i64 e.k) := by simpa using h.row 0 _ rfl
  have c1 : w.cell? ⟨B, 1, none⟩ = some (.string ⟨e.p.toArray⟩) := by simpa using h.row 1 _ rfl
  clear h
  unfold waV evV at C
  unfold waV
  generalize offB x e = r at C ⊢
  have hne : B ≠ w.heap.size := by omega
  go_enter Tryz.func112, Tryz.ntmps112
  go_wp2_with fail
  refine (C _).mono ?_
  rintro e w1 ⟨rfl, hb1⟩
  have hB1 := nbox_then hb1
  clear C hb1
  go_wp2_with fail
  go_ret
  exact ⟨rfl, hB1⟩

set_option maxRecDepth 10000 in
set_option maxHeartbeats 1000000 in
theorem drop1_any (x : Wa) (s : Int) (B : Nat) (w : World) (h : w.cell? ⟨B, 0, none⟩ = some (.int .i64 s)) (hB : B < w.heap.size) :
    Calls Tryz.prog 116 #[waV x, .pointer (some ⟨B, 0, none⟩)] w fun r w' => r = .returned (.bool (decide (x.s = s))) ∧ Below w.heap.size w w' := by
  obtain ⟨xs, xk, xp⟩ := x
  unfold waV
  have hne : B ≠ w.heap.size := by omega
  go_enter Tryz.func116, Tryz.ntmps116
  go_wp2_with fail
  go_ret
  exact ⟨rfl, allocB _ _⟩

end Go.Proofs.YtaoflcmeiaffjaaGreatDoor

namespace Go.Proofs.YtaoflcmeiaffjaaGreatDoor
open Go.RowKit

theorem hgrown_of {w w' : World} {r : Option Nat} (h : Below w.heap.size w w') : w.grownBy w' r := ⟨h.os, h.tape, h.output, h.size, fun k hk _ => h.block k hk⟩
theorem OwnR.head {α : Type} [Lay α] {W : World} {g cap : Nat} {A B : List α} (h : OwnR W g cap (A ++ B)) : OwnR W g cap A := by
  obtain ⟨rest, h1, h2, h4, h3⟩ := h
  refine ⟨cellsL B ++ rest, by rw [h1, cellsL_append, List.append_assoc], ?_, ?_, h3⟩
  · rw [List.length_append, cellsL_length B]
    rw [List.length_append, Nat.add_mul] at h2
    omega
  · rw [List.length_append] at h4; omega
def zerosW (m : Nat) : List Value := (Builtin.zeroCells (Value.agg #[.int .i64 0, .int .i64 0, .string ⟨#[]⟩]).cells m).toList
theorem zerosW_length (m : Nat) : (zerosW m).length = m * 3 := by
  rw [zerosW, Array.length_toList, size_zeroCells]; rfl
theorem zerosW_one (m : Nat) : ∀ u ∈ zerosW m, u.oneCell' = true := by
  intro u hu
  simp only [zerosW, Builtin.zeroCells, Value.cells, Array.toList_map, List.mem_map] at hu
  obtain ⟨i, _, rfl⟩ := hu
  have : i % 3 < 3 := Nat.mod_lt _ (by decide)
  show (#[Value.int .i64 0, .int .i64 0, .string ⟨#[]⟩][i % 3]!).oneCell' = true
  rcases (show i % 3 = 0 ∨ i % 3 = 1 ∨ i % 3 = 2 by omega) with e | e | e <;> rw [e] <;> rfl
theorem run_clearW (w : World) (ty : TypeId) (b o m c : Nat) (hm : 0 < m) (hc : ∀ j, j < m * 3 → (w.cell? ⟨b, o + j, none⟩).isSome = true) (hf : ∀ j, j < m * 3 → w.frozen? ⟨b, o + j, none⟩ = false) :
    (Builtin.clear_ #[32] ty #[.slice (some ⟨b, o, none⟩) m c]).run Tryz.prog w = .ok (.tuple #[]) (w.setCells b o (zerosW m)) := by
  have hst := run_storeCells_cells (P := Tryz.prog) b o (zerosW m) 0 w (by rw [zerosW_length]; simpa using hc) (by rw [zerosW_length]; simpa using hf) (zerosW_one m)
  simp only [Nat.add_zero] at hst
  obtain ⟨k, rfl⟩ : ∃ k, m = k + 1 := ⟨m - 1, by omega⟩
  simp [Builtin.clear_, run_underlying Tryz.underlying32]
  exact (by
    have := hst
    unfold zerosW at this ⊢
    rw [this]
    rfl)

/-- a closure over block B that answers pr in every world of I -/
structure Clos (g : FuncId) (B : Nat) (q : Nat) (pr : Wa → Bool) (I : World → Prop) : Prop where
  two : g = 112 ∨ g = 116
  keep : ∀ W V, I W → W.grownBy V (some q) → I V
  gives : ∀ W x, I W → Calls Tryz.prog g #[.agg #[.int .i64 x.s, .int .i64 x.k, .string ⟨x.p.toArray⟩], .pointer (some ⟨B, 0, none⟩)] W fun r w' => r = .returned (.bool (pr x)) ∧ Below W.heap.size W w'

set_option maxRecDepth 10000 in
set_option maxHeartbeats 2000000 in
theorem hidx_at {g : FuncId} {B q : Nat} {pr : Wa → Bool} {I : World → Prop} (C : Clos g B q pr I) (b off cap : Nat) (A : List Wa) (x : Wa) (R : List Wa) (w : World) (hi : I w) (hb : b < w.heap.size) (hr : RowAt w b off (cellsL (A ++ x :: R))) (hl : (A ++ x :: R).length ≤ 140737488355328)
    (hA : ∀ a ∈ A, pr a = false) (hx : pr x = true) :
    Calls Tryz.prog 156 #[.slice (some ⟨b, off, none⟩) (A ++ x :: R).length cap, .func (.func g) #[] #[.pointer (some ⟨B, 0, none⟩)]] w fun e w' => e = .returned (.int .i64 A.length) ∧ Below w.heap.size w w' := by
  have HR := hide (fun W (hW : Below w.heap.size w W) => hr.kept hW hb)
  have HC := hide C
  have HI := hide (fun W (hW : Below w.heap.size w W) => C.keep w W hi (hgrown_of hW))
  have HX := hide hx
  have HA := hide hA
  have hAn : A.length < (A ++ x :: R).length := by simp
  obtain ⟨n, hn⟩ : ∃ n, (A ++ x :: R).length = n := ⟨_, rfl⟩
  rw [hn] at hl hAn ⊢
  have HN := hide hn
  have two := C.two
  clear hr C hi hx hA hn
  rcases two with rfl | rfl
  all_goals
    go_enter Tryz.func156, Tryz.ntmps156
    go_wp2_with fail
    go_loopg [8] n (fun kx s8 wr => ∃ k : Nat, s8 = .int .i64 k ∧ k ≤ A.length ∧ n - k ≤ kx ∧ Hid (Below w.heap.size w wr))
    case atStart => exact ⟨0, rfl, Nat.zero_le _, Nat.le_refl _, hide (Below.refl _ _)⟩
    case round =>
      obtain ⟨k, rfl, hk, hg, hB⟩ := hrel
      have hlt : k < n := by omega
      obtain ⟨y, hy⟩ : ∃ y, (A ++ x :: R)[k]? = some y := ⟨_, List.getElem?_eq_getElem (by rw [unhide HN]; exact hlt)⟩
      have qr := unhide HR wr (unhide hB)
      have d0 := qr.w0 hy
      have d1 := qr.w1 hy
      have d2 := qr.w2 hy
      have hbw : b < wr.heap.size := Nat.lt_of_lt_of_le hb (unhide hB).size
      have CX := (unhide HC).gives wr y (unhide HI wr (unhide hB))
      by_cases hka : k < A.length
      · have hp : pr y = false := unhide HA y (by
          rw [List.getElem?_append_left hka] at hy
          exact List.mem_of_getElem? hy)
        rw [hp] at CX
        clear qr hy hp
        go_wp2_with fail
        refine CX.mono ?_
        rintro e w1 ⟨rfl, hb1⟩
        have hB1 := nnext (unhide hB) hb1
        clear CX hb1
        go_wp2_with fail
        go_roundg (n - (k + 1))
        case measure => omega
        case rel => exact ⟨k + 1, rfl, by omega, Nat.le_refl _, hide hB1⟩
      · obtain rfl : k = A.length := by omega
        have hp : pr y = true := by
          have : (A ++ x :: R)[A.length]? = some x := by simp
          rw [this] at hy
          cases hy
          exact unhide HX
        rw [hp] at CX
        clear qr hy hp
        go_wp2_with fail
        refine CX.mono ?_
        rintro e w1 ⟨rfl, hb1⟩
        have hB1 := nnext (unhide hB) hb1
        clear CX hb1
        go_wp2_with fail
        go_ret
        exact ⟨rfl, hB1⟩

set_option maxRecDepth 10000 in
set_option maxHeartbeats 2000000 in
theorem hidx_none {g : FuncId} {B q : Nat} {pr : Wa → Bool} {I : World → Prop} (C : Clos g B q pr I) (v : Value) (A : List Wa) (w : World) (hi : I w) (hv : SeqV w v A) (hl : A.length ≤ 140737488355328) (hA : ∀ a ∈ A, pr a = false) :
    Calls Tryz.prog 156 #[v, .func (.func g) #[] #[.pointer (some ⟨B, 0, none⟩)]] w fun e w' => e = .returned (.int .i64 (-1)) ∧ Below w.heap.size w w' := by
  have KR : ∀ W, Below w.heap.size w W → ∀ k x, A[k]? = some x → ∃ b off cap, v = .slice (some ⟨b, off, none⟩) A.length cap ∧ b < w.heap.size ∧ RowAt W b off (cellsL A) := fun W hW k x hx => by
    obtain ⟨b, off, cap, e, hb, hr, _, _⟩ := seq_row hv (fun h0 => by obtain ⟨h1, _⟩ := List.getElem?_eq_some_iff.1 hx; rw [h0] at h1; simp at h1)
    exact ⟨b, off, cap, e, hb, hr.kept hW hb⟩
  have HKR := hide KR
  have HC := hide C
  have HI := hide (fun W (hW : Below w.heap.size w W) => C.keep w W hi (hgrown_of hW))
  have HA := hide hA
  have two := C.two
  obtain ⟨va, vc, rfl⟩ := seq_slice hv
  clear C hi hA KR hv
  rcases two with rfl | rfl
  all_goals
    go_enter Tryz.func156, Tryz.ntmps156
    go_wp2_with fail
    go_loopg [8] A.length (fun kx s8 wr => ∃ k : Nat, s8 = .int .i64 k ∧ k ≤ A.length ∧ A.length - k ≤ kx ∧ Hid (Below w.heap.size w wr))
    case atStart => exact ⟨0, rfl, Nat.zero_le _, Nat.le_refl _, hide (Below.refl _ _)⟩
    case round =>
      obtain ⟨k, rfl, hk, hg, hB⟩ := hrel
      by_cases hlt : k < A.length
      · obtain ⟨y, hy⟩ : ∃ y, A[k]? = some y := ⟨_, List.getElem?_eq_getElem hlt⟩
        obtain ⟨b, off, cap, he, hb, qr⟩ := unhide HKR wr (unhide hB) k y hy
        simp only [Value.slice.injEq] at he
        obtain ⟨rfl, _, rfl⟩ := he
        have d0 := qr.w0 hy
        have d1 := qr.w1 hy
        have d2 := qr.w2 hy
        have hbw : b < wr.heap.size := Nat.lt_of_lt_of_le hb (unhide hB).size
        have CX := (unhide HC).gives wr y (unhide HI wr (unhide hB))
        have hp : pr y = false := unhide HA y (List.mem_of_getElem? hy)
        rw [hp] at CX
        clear qr hy hp
        go_wp2_with fail
        refine CX.mono ?_
        rintro e w1 ⟨rfl, hb1⟩
        have hB1 := nnext (unhide hB) hb1
        clear CX hb1
        go_wp2_with fail
        go_roundg (A.length - (k + 1))
        case measure => omega
        case rel => exact ⟨k + 1, rfl, by omega, Nat.le_refl _, hide hB1⟩
      · obtain rfl : k = A.length := by omega
        go_wp2_with fail
        go_ret
        exact ⟨rfl, unhide hB⟩

end Go.Proofs.YtaoflcmeiaffjaaGreatDoor

namespace Go.Proofs.YtaoflcmeiaffjaaGreatDoor
open Go.RowKit

theorem ownS_base {α : Type} [Lay α] {W : World} {B C : Nat} {v : Value} {xs : List α} (h : OwnS W C v xs) (hB : ∀ k, v.ownBlock = some k → B ≤ k) : OwnS W B v xs := by
  rcases h with h | ⟨g, cap, rfl, _, h⟩
  · exact .inl h
  · exact .inr ⟨g, cap, rfl, hB g rfl, h⟩
theorem ownS_above {α : Type} [Lay α] {W : World} {B : Nat} {v : Value} {xs : List α} (h : OwnS W B v xs) : ∀ k, v.ownBlock = some k → B ≤ k := by
  rcases h with ⟨rfl, _⟩ | ⟨g, cap, rfl, h1, h⟩
  · intro k hk; cases hk
  · intro k hk; simp only [Value.ownBlock, Option.some.injEq] at hk; omega
theorem one_newT (w : World) (n : Nt) : OneR (w.alloc (.cells #[.int .i64 n.s, .int .i64 n.k, .string ⟨n.p.toArray⟩] 89)) w.heap.size n := heap_alloc_new w _
theorem step_app_nt {w : World} {ops : Array Oper} {o : Oper} {a : Act} {K : Act → World → Prop} {Q : Exit → Act → World → Prop} {E : Prop} (hgd : Region.wanted o (yielded ops a.tmps) = true) (s x : Operand)
    (ho : o.op = .call { callee := .builtin .append, args := #[s, x], argTypes := #[52, 52] })
    (v : Value) (ns : List Nt) (hs : a.eval s = v) (hown : OwnS w 0 v ns)
    (q : Nat) (hx : a.eval x = .slice (some ⟨q, 0, none⟩) 1 1) (t : Nt) (hnews : OneR w q t) (hl : (ns.length + 1) * 32 ≤ 140737488355328)
    (h : ∀ a' c' w', OwnS w' 0 (.slice a' (ns.length + 1) c') (ns ++ [t]) → w.grownBy w' v.ownBlock → ((Value.slice a' (ns.length + 1) c').ownBlock = v.ownBlock ∨ (Value.slice a' (ns.length + 1) c').ownBlock = some w.heap.size) → K (a.put o.dst (.slice a' (ns.length + 1) c')) w') :
    if Region.wanted o (yielded ops a.tmps) = true then Oper.wp Tryz.prog o a w K Q else E := by
  rw [if_pos hgd]
  obtain ⟨i0, hi0, hz0, hz1, hz2⟩ := tinfo
  obtain ⟨v', w', hr, h2, h3, _, h5⟩ := run_append_own_at (P := Tryz.prog) w 0 52 o.type 89 i0 _ 3 32 Tryz.underlying52 hi0 hz0 hz1 hz2 rfl (by decide) v ns.length (cellsL ns) hown.row ⟨q, 0, none⟩ 1 1 (ntcells t) rfl (one_news hnews) (Lay.one t) (by simp only [maxLen]; omega) hl (Nat.zero_le _)
  have h2' : OwnS w' 0 v' (ns ++ [t]) := OwnS.of_row (by rw [List.length_append, cellsL_snoc]; exact h2)
  obtain ⟨a', c', rfl, _⟩ := h2'.slice
  have hlen : (ns ++ [t]).length = ns.length + 1 := by simp
  rw [hlen] at h2' hr h5
  unfold Oper.wp execOp
  simp only [ho, resolve, invoke, builtin, Sem.run_bind, Sem.run_pure, Result.andThen_ok, List.map_toArray, List.map_cons, List.map_nil, hs, hx, hr]
  exact h a' c' w' h2' h3 h5

theorem told_snoc {ws : List Wa} {k : Nat} {x : Wa} {e : Ev} (h : ws[k]? = some x) : toldL (ws.take (k + 1)) e = toldL (ws.take k) e ++ (if offB x e = true then [noteOf e x] else []) := by
  rw [snoc_take h]
  simp only [toldL, List.filter_append, List.map_append]
  cases hx : offB x e <;> simp [hx]
theorem told_le (ws : List Wa) (e : Ev) (k : Nat) : (toldL (ws.take k) e).length ≤ k := by
  have := told_len (ws.take k) e
  have h2 : (ws.take k).length ≤ k := by simp; omega
  omega

set_option maxRecDepth 20000 in
set_option maxHeartbeats 4000000 in
theorem told_any (q cap B : Nat) (ws : List Wa) (e : Ev) (w : World) (hq : q < w.heap.size) (hr : RowAt w q 0 (cellsL ws)) (hE : OneR w B e) (hl : ws.length * 32 ≤ 140737488351232) (hp : e.p.length ≤ 140737488355328) :
    Calls Tryz.prog 114 #[.slice (some ⟨q, 0, none⟩) ws.length cap, evV e, .func (.func 112) #[] #[.pointer (some ⟨B, 0, none⟩)]] w fun r w' =>
      ∃ v', r = .returned v' ∧ OwnS w' w.heap.size v' (toldL ws e) ∧ Below w.heap.size w w' := by
  obtain ⟨w0, hw0⟩ : ∃ w0, w.alloc (.cells #[.int .i64 e.k, .string ⟨e.p.toArray⟩] 87) = w0 := ⟨_, rfl⟩
  have hz0 : w0.heap.size = w.heap.size + 1 := by rw [← hw0]; simp
  have hb0 : Below w.heap.size w w0 := by rw [← hw0]; exact allocB _ _
  have X0 : OneR w0 w.heap.size e := by rw [← hw0]; exact one_new w e.k e.p
  have HR := hide (fun W (hW : Below w0.heap.size w0 W) => (hr.kept hb0 hq).kept hW (by omega))
  have HX := hide (fun W (hW : Below w0.heap.size w0 W) => (⟨by simpa using (OneR.row ((hW.block _ (by omega)).trans X0) 0 _ rfl), by simpa using (OneR.row ((hW.block _ (by omega)).trans X0) 1 _ rfl)⟩ : W.cell? ⟨w.heap.size, 0, none⟩ = some (.int .i64 e.k) ∧ W.cell? ⟨w.heap.size, 1, none⟩ = some (.string ⟨e.p.toArray⟩)))
  have CF := hide (fun W (hW : Below w0.heap.size w0 W) x => fire1_any x e B W ((hW.block _ (by have := (Array.getElem?_eq_some_iff.1 hE).1; omega)).trans ((hb0.block _ (Array.getElem?_eq_some_iff.1 hE).1).trans hE)))
  have CC := fun W => hclone_any e.p W (by omega)
  have HB0 := hide hb0
  clear hr hE X0 hb0
  unfold evV
  unfold waV at CF
  go_enter Tryz.func114, Tryz.ntmps114
  go_wp2_with fail
  try rw [hw0]
  go_loopg [7, 12] ws.length (fun kx s7 s12 wr => ∃ (k : Nat) (va : Option Addr) (vc : Nat), s12 = .int .i64 k ∧ s7 = .slice va (toldL (ws.take k) e).length vc ∧ k ≤ ws.length ∧ ws.length - k ≤ kx ∧ Hid (OwnS wr w0.heap.size (.slice va (toldL (ws.take k) e).length vc) (toldL (ws.take k) e)) ∧ Hid (Below w0.heap.size w0 wr))
  case atStart => exact ⟨0, none, 0, rfl, rfl, Nat.zero_le _, Nat.le_refl _, hide (.inl ⟨rfl, rfl⟩), hide (Below.refl _ _)⟩
  case round =>
    obtain ⟨k, va, vc, rfl, rfl, hk, hg, hO, hB⟩ := hrel
    by_cases hlt : k < ws.length
    · obtain ⟨x, hx⟩ : ∃ x, ws[k]? = some x := ⟨_, List.getElem?_eq_getElem hlt⟩
      have qr := unhide HR wr (unhide hB)
      have d0 := qr.w0 hx
      have d1 := qr.w1 hx
      have d2 := qr.w2 hx
      simp only [Nat.zero_add] at d0 d1 d2
      have hqw : q < wr.heap.size := by have := (unhide hB).size; omega
      have hts := told_snoc (e := e) hx
      have hnl := told_le ws e k
      obtain ⟨N, hN⟩ : ∃ N, toldL (ws.take k) e = N := ⟨_, rfl⟩
      rw [hN] at hO hts hnl
      have hB1 := nnext (unhide hB) (allocB wr (.cells #[.int .i64 x.s, .int .i64 x.k, .string ⟨x.p.toArray⟩] 118))
      have CX := unhide CF _ hB1 x
      have HB1 := hide hB1
      rw [hN]
      clear qr hx hN hB1
      cases hpx : offB x e
      · rw [hpx] at CX hts
        simp only [Bool.false_eq_true, if_false, List.append_nil] at hts
        have HTS := hide hts
        clear hts hpx
        go_wp2_with fail
        refine CX.mono ?_
        rintro r w1 ⟨rfl, hb1⟩
        have HB2 := hide (nnext (unhide HB1) hb1)
        have HO2 := hide (((unhide hO).next (allocB wr (.cells #[.int .i64 x.s, .int .i64 x.k, .string ⟨x.p.toArray⟩] 118))).next hb1)
        clear CX hb1
        go_wp2_with fail
        go_roundg (ws.length - (k + 1))
        case measure => omega
        case rel => exact ⟨k + 1, va, vc, rfl, by rw [unhide HTS], by omega, Nat.le_refl _, by rw [unhide HTS]; exact HO2, HB2⟩
      · rw [hpx] at CX hts
        simp only [if_true] at hts
        have HTS := hide hts
        clear hts hpx
        go_wp2_with fail
        refine CX.mono ?_
        rintro r w1 ⟨rfl, hb1⟩
        have HB2 := hide (nnext (unhide HB1) hb1)
        have O2 := ((unhide hO).next (allocB wr (.cells #[.int .i64 x.s, .int .i64 x.k, .string ⟨x.p.toArray⟩] 118))).next hb1
        have K1 : ∀ w2, Below w1.heap.size w1 w2 → w2.cell? ⟨wr.heap.size, 0, none⟩ = some (.int .i64 x.s) ∧ w2.cell? ⟨w.heap.size, 0, none⟩ = some (.int .i64 e.k) ∧ w2.cell? ⟨w.heap.size, 1, none⟩ = some (.string ⟨e.p.toArray⟩) := by
          intro w2 hb2
          have hbb := nnext (unhide HB2) hb2
          refine ⟨?_, (unhide HX w2 hbb).1, (unhide HX w2 hbb).2⟩
          have hz : wr.heap.size < w1.heap.size := by have := hb1.size; simp at this; omega
          rw [hb2.cell (p := ⟨wr.heap.size, 0, none⟩) hz, hb1.cell (p := ⟨wr.heap.size, 0, none⟩) (by simp)]
          simp
        obtain ⟨m0, m1, m2⟩ := K1 w1 (Below.refl _ _)
        have HK1 := hide K1
        have KE := hide (fun w2 (hb2 : Below w1.heap.size w1 w2) => ((O2.next hb2).next (allocB w2 (.cells #[.int .i64 x.s, .int .i64 e.k, .string ⟨e.p.toArray⟩] 89))).lower (Nat.zero_le w0.heap.size))
        have KA := hide (ownS_above O2)
        have K2 : ∀ (w2 w3 : World) (a3 : Option Addr) (c3 : Nat), Below w1.heap.size w1 w2 → OwnS w3 0 (.slice a3 (N.length + 1) c3) (N ++ [⟨x.s, e.k, e.p⟩]) → (w2.alloc (.cells #[.int .i64 x.s, .int .i64 e.k, .string ⟨e.p.toArray⟩] 89)).grownBy w3 (Value.slice va N.length vc).ownBlock →
            ((Value.slice a3 (N.length + 1) c3).ownBlock = (Value.slice va N.length vc).ownBlock ∨ (Value.slice a3 (N.length + 1) c3).ownBlock = some (w2.alloc (.cells #[.int .i64 x.s, .int .i64 e.k, .string ⟨e.p.toArray⟩] 89)).heap.size) →
            OwnS w3 w0.heap.size (.slice a3 (N.length + 1) c3) (N ++ [⟨x.s, e.k, e.p⟩]) ∧ Below w0.heap.size w0 w3 := by
          intro w2 w3 a3 c3 hb2 ho3 hg3 hl3
          have hbb := nnext (nnext (unhide HB2) hb2) (allocB w2 (.cells #[.int .i64 x.s, .int .i64 e.k, .string ⟨e.p.toArray⟩] 89))
          refine ⟨ownS_base ho3 (fun j hj => ?_), hbb.grown hg3 hbb.size (unhide KA)⟩
          rcases hl3 with h | h
          · rw [h] at hj; exact unhide KA j hj
          · rw [h] at hj; cases hj; exact hbb.size
        have HK2 := hide K2
        have hsz1 : wr.heap.size < w1.heap.size := by have := hb1.size; simp at this; omega
        have hsz2 : w.heap.size < w1.heap.size := by have := (unhide HB2).size; omega
        have hNl : (N.length + 1) * 32 ≤ 140737488355328 := by omega
        clear CX hb1 K1 K2 O2
        go_wp2_with fail
        go_region_law (first
          | (refine step_app_nt (by kernel_rfl) _ _ (by rfl) (.slice va N.length vc) N (by rfl) (unhide KE w2 (unhide HB3)) w2.heap.size (by rfl) ⟨x.s, e.k, e.p⟩ (one_newT w2 ⟨x.s, e.k, e.p⟩) hNl ?_; intro a3 c3 w3 ho3 hg3 hl3; obtain ⟨o3, b3⟩ := unhide HK2 w2 w3 a3 c3 (unhide HB3) ho3 hg3 hl3; have HO3 := hide o3; have HB4 := hide b3; clear ho3 hg3 hl3 o3 b3)
          | (go_simp; refine (CC _).mono ?_; rintro r w2 ⟨rfl, hb2⟩; have HB3 : Hid (Below w1.heap.size w1 w2) := (by first | exact hb2 | exact nbelow_drew hb2); obtain ⟨p0, p1, p2⟩ := unhide HK1 w2 (unhide HB3); clear hb2))
        all_goals
          go_wp2_with fail
          go_roundg (ws.length - (k + 1))
          case measure => omega
          case rel => exact ⟨k + 1, _, _, rfl, by rw [unhide HTS, List.length_append]; rfl, by omega, Nat.le_refl _, by rw [unhide HTS, List.length_append]; exact HO3, HB4⟩
    · obtain rfl : k = ws.length := by omega
      rw [List.take_length] at hO ⊢
      have HB := hide (nnext (unhide HB0) (unhide hB))
      have hO2 : Hid (OwnS wr w.heap.size (.slice va (toldL ws e).length vc) (toldL ws e)) := hide ((unhide hO).lower (by omega))
      clear hO
      go_wp2_with fail
      go_ret
      exact ⟨_, rfl, unhide hO2, unhide HB⟩

end Go.Proofs.YtaoflcmeiaffjaaGreatDoor

namespace Go.Proofs.YtaoflcmeiaffjaaGreatDoor
open Go.RowKit

theorem first_at (pr : Wa → Bool) : ∀ ws : List Wa, (∀ a ∈ ws, pr a = false) ∨ ∃ A x R, ws = A ++ x :: R ∧ (∀ a ∈ A, pr a = false) ∧ pr x = true
  | [] => .inl (by simp)
  | y :: r => by
    cases h : pr y
    · rcases first_at pr r with h1 | ⟨A, x, R, rfl, h1, h2⟩
      · exact .inl (by intro a ha; rcases List.mem_cons.1 ha with rfl | ha; exact h; exact h1 a ha)
      · exact .inr ⟨y :: A, x, R, rfl, (by intro a ha; rcases List.mem_cons.1 ha with rfl | ha; exact h; exact h1 a ha), h2⟩
    · exact .inr ⟨[], y, r, rfl, by simp, h⟩
theorem filt_none {pr : Wa → Bool} {ws : List Wa} (h : ∀ a ∈ ws, pr a = false) : ws.filter (fun x => !pr x) = ws := by
  rw [List.filter_eq_self]
  intro a ha
  simp [h a ha]

set_option maxRecDepth 10000 in
set_option maxHeartbeats 4000000 in
theorem hdel_any {g : FuncId} {B q : Nat} {pr : Wa → Bool} {I : World → Prop} (C : Clos g B q pr I) (cap : Nat) (ws : List Wa) (w : World) (hi : I w) (ho : OwnR w q cap ws) (hl : ws.length ≤ 140737488355328) :
    Calls Tryz.prog 115 #[.slice (some ⟨q, 0, none⟩) ws.length cap, .func (.func g) #[] #[.pointer (some ⟨B, 0, none⟩)]] w fun e w' =>
      e = .returned (.slice (some ⟨q, 0, none⟩) (ws.filter (fun x => !pr x)).length cap) ∧ OwnR w' q cap (ws.filter (fun x => !pr x)) ∧ w.grownBy w' (some q) := by
  rcases first_at pr ws with hA | ⟨A, x, R, hws, hA, hx⟩
  · rw [filt_none hA]
    have CN := hidx_none C _ ws w hi (OwnS.seq (.inr ⟨q, cap, rfl, Nat.zero_le _, ho⟩)) hl hA
    have HO := hide ho
    have two := C.two
    clear C hA hi ho
    rcases two with rfl | rfl
    all_goals
      go_enter Tryz.func115, Tryz.ntmps115
      go_wp2_with fail
      refine CN.mono ?_
      rintro e w1 ⟨rfl, hb1⟩
      have HB := hide hb1
      clear CN hb1
      go_wp2_with fail
      go_ret
      exact ⟨rfl, (unhide HO).next (unhide HB), hgrown_of (unhide HB)⟩
  · obtain ⟨n, hn⟩ : ∃ n, ws.length = n := ⟨_, rfl⟩
    have hAn : A.length < n := by rw [← hn, hws]; simp
    have hnc : n ≤ cap := by rw [← hn]; exact ho.le
    have hcl := ho.capLe
    simp only [maxLen] at hcl
    have CA := hidx_at C q 0 cap A x R w hi ho.lt (by rw [← hws]; exact ho.row) (by rw [← hws]; exact hl) hA hx
    rw [← hws, hn] at CA
    obtain ⟨T, hT⟩ : ∃ T, ws.filter (fun x => !pr x) = T := ⟨_, rfl⟩
    rw [hn] at hl ⊢
    rw [hT]
    have HTk : Hid (∀ j, n ≤ j → (ws.take j).filter (fun x => !pr x) = T) := hide (fun j hj => by rw [List.take_of_length_le (by omega)]; exact hT)
    have HF0 : Hid ((ws.take (A.length + 1)).filter (fun x => !pr x) = A) := hide (by
      rw [hws, List.take_append, List.take_of_length_le (by omega), List.filter_append, filt_none hA]
      simp [hx])
    have HG0 : Hid (ws = A ++ [x] ++ ws.drop (A.length + 1)) := hide (by
      rw [hws]; simp)
    have HN := hide hn
    have HO := hide ho
    have HC := hide C
    have HI := hide (fun W (hW : w.grownBy W (some q)) => C.keep w W hi hW)
    have two := C.two
    clear hn hws hA hx ho C hT hi
    rcases two with rfl | rfl
    all_goals
      go_enter Tryz.func115, Tryz.ntmps115
      go_wp2_with fail
      refine CA.mono ?_
      rintro e w1 ⟨rfl, hb1⟩
      have HB := hide hb1
      clear CA hb1
      go_wp2_with fail
      go_loopg [5, 6] n (fun kx s5 s6 wr => ∃ (j : Nat) (F G : List Wa), s5 = .int .i64 F.length ∧ s6 = .int .i64 j ∧ j ≤ n ∧ n - j ≤ kx ∧ F.length + G.length = j ∧ 0 < G.length ∧ Hid ((ws.take j).filter (fun x => !pr x) = F) ∧ Hid (OwnR wr q cap (F ++ G ++ ws.drop j)) ∧ Hid (w.grownBy wr (some q)))
      case atStart => exact ⟨A.length + 1, A, [x], rfl, rfl, by omega, by omega, rfl, by simp, HF0, hide (by rw [← unhide HG0]; exact (unhide HO).next (unhide HB)), hide (hgrown_of (unhide HB))⟩
      case round =>
        obtain ⟨j, F, G, rfl, rfl, hj, hg, hFG, hG0, hF, hO, hW⟩ := hrel
        have hFj : F.length < j := by omega
        by_cases hlt : j < n
        · obtain ⟨y, hy⟩ : ∃ y, ws[j]? = some y := ⟨_, List.getElem?_eq_getElem (by rw [unhide HN]; exact hlt)⟩
          have hd : ws.drop j = y :: ws.drop (j + 1) := by
            obtain ⟨h1, h2⟩ := List.getElem?_eq_some_iff.1 hy
            rw [List.drop_eq_getElem_cons h1, h2]
          have hf : (ws.take (j + 1)).filter (fun x => !pr x) = F ++ (if pr y = true then [] else [y]) := by
            rw [snoc_take hy, List.filter_append, unhide hF]
            cases hpy : pr y <;> simp [hpy]
          rw [hd] at hO
          have hyr : (F ++ G ++ y :: ws.drop (j + 1))[j]? = some y := by
            rw [List.getElem?_append_right (by simp; omega)]
            simp [hFG]
          obtain ⟨z, G', rfl⟩ : ∃ z G', G = z :: G' := by
            cases G with
            | nil => simp at hG0
            | cons z G' => exact ⟨z, G', rfl⟩
          have hzr : (F ++ z :: G' ++ y :: ws.drop (j + 1))[F.length]? = some z := by simp
          have d0 := (unhide hO).row.w0 hyr
          have d1 := (unhide hO).row.w1 hyr
          have d2 := (unhide hO).row.w2 hyr
          have hq := (unhide hO).lt
          have hqn : q ≠ wr.heap.size := by omega
          simp only [Nat.zero_add] at d0 d1 d2
          have HW1 := hide (ngrown_trans (unhide hW) (hgrown_of (allocB wr (.cells #[.int .i64 y.s, .int .i64 y.k, .string ⟨y.p.toArray⟩] 118))))
          have CX := (unhide HC).gives _ y (unhide HI _ (unhide HW1))
          have hjn : (j : Int) < (n : Int) := by omega
          by_cases hp : pr y = true
          · rw [hp] at CX hf
            rw [if_pos rfl, List.append_nil] at hf
            have HF := hide hf
            clear hy hd hf hyr hp hzr
            go_wp2_with fail
            refine CX.mono ?_
            rintro e w2 ⟨rfl, hb2⟩
            have HO2 : Hid (OwnR w2 q cap (F ++ (z :: G' ++ [y]) ++ ws.drop (j + 1))) := hide (by
              have := ((unhide hO).next (allocB wr (.cells #[.int .i64 y.s, .int .i64 y.k, .string ⟨y.p.toArray⟩] 118))).next hb2
              simpa using this)
            have HW2 := hide (ngrown_trans (unhide HW1) (hgrown_of hb2))
            clear CX hb2
            go_wp2_with fail
            go_roundg (n - (j + 1))
            case measure => omega
            case rel => exact ⟨j + 1, F, z :: G' ++ [y], rfl, rfl, by omega, Nat.le_refl _, by simp at hFG ⊢; omega, by simp, HF, HO2, HW2⟩
          · have hp' : pr y = false := by simpa using hp
            rw [hp'] at CX
            rw [if_neg hp] at hf
            have HF := hide hf
            clear hy hd hf hyr hp hp'
            have hFn : (F.length : Int) < (n : Int) := by omega
            go_wp2_with fail
            refine CX.mono ?_
            rintro e w2 ⟨rfl, hb2⟩
            have O2 := ((unhide hO).next (allocB wr (.cells #[.int .i64 y.s, .int .i64 y.k, .string ⟨y.p.toArray⟩] 118))).next hb2
            have c0 : w2.cell? ⟨wr.heap.size, 0, none⟩ = some (.int .i64 y.s) := by rw [hb2.cell (p := ⟨wr.heap.size, 0, none⟩) (by simp)]; simp
            have c1 : w2.cell? ⟨wr.heap.size, 1, none⟩ = some (.int .i64 y.k) := by rw [hb2.cell (p := ⟨wr.heap.size, 1, none⟩) (by simp)]; simp
            have c2 : w2.cell? ⟨wr.heap.size, 2, none⟩ = some (.string ⟨y.p.toArray⟩) := by rw [hb2.cell (p := ⟨wr.heap.size, 2, none⟩) (by simp)]; simp
            have e0 := O2.row.w0 hzr
            have e1 := O2.row.w1 hzr
            have e2 := O2.row.w2 hzr
            simp only [Nat.zero_add] at e0 e1 e2
            have f0 := O2.frozen (F.length * 3)
            have f1 := O2.frozen (F.length * 3 + 1)
            have f2 := O2.frozen (F.length * 3 + 2)
            have hz2 : wr.heap.size < w2.heap.size := by have := hb2.size; simp at this; omega
            have HO3 : Hid (OwnR (((w2.setCell ⟨q, F.length * 3, none⟩ (.int .i64 y.s)).setCell ⟨q, F.length * 3 + 1, none⟩ (.int .i64 y.k)).setCell ⟨q, F.length * 3 + 2, none⟩ (.string ⟨y.p.toArray⟩)) q cap ((F ++ [y]) ++ (G' ++ [y]) ++ ws.drop (j + 1))) := hide (by
              have O2' : OwnR w2 q cap (F ++ z :: (G' ++ y :: ws.drop (j + 1))) := by simpa using O2
              have := O2'.swap1 y
              have e : F ++ [y] ++ (G' ++ [y]) ++ ws.drop (j + 1) = F ++ y :: (G' ++ y :: ws.drop (j + 1)) := by simp
              rw [e]
              exact this)
            have HW3 : Hid (w.grownBy (((w2.setCell ⟨q, F.length * 3, none⟩ (.int .i64 y.s)).setCell ⟨q, F.length * 3 + 1, none⟩ (.int .i64 y.k)).setCell ⟨q, F.length * 3 + 2, none⟩ (.string ⟨y.p.toArray⟩)) (some q)) :=
              hide (ngrown_trans (ngrown_trans (ngrown_trans (ngrown_trans (unhide HW1) (hgrown_of hb2)) (ngrown_set _)) (ngrown_set _)) (ngrown_set _))
            clear CX hb2 O2 hzr
            go_wp2_with fail
            go_roundg (n - (j + 1))
            case measure => omega
            case rel => exact ⟨j + 1, F ++ [y], G' ++ [y], by rw [List.length_append]; rfl, rfl, by omega, Nat.le_refl _, by simp at hFG ⊢; omega, by simp, HF, HO3, HW3⟩
        · obtain rfl : j = n := by omega
          have hTF : T = F := ((unhide HTk j (Nat.le_refl _)).symm.trans (unhide hF))
          have OF : OwnR wr q cap F := OwnR.head (B := G ++ ws.drop j) (by have := unhide hO; rwa [List.append_assoc] at this)
          have hclr : ∀ ty c, (Builtin.clear_ #[32] ty #[.slice (some ⟨q, F.length * 3, none⟩) (j - F.length) c]).run Tryz.prog wr = .ok (.tuple #[]) (wr.setCells q (F.length * 3) (zerosW (j - F.length))) := fun ty c =>
            run_clearW wr ty q _ _ c (by omega) (fun i hi => OF.some (show F.length * 3 + i < cap * 3 by omega)) (fun i hi => OF.frozen _)
          have FIN : Hid (OwnR (wr.setCells q (F.length * 3) (zerosW (j - F.length))) q cap F ∧ w.grownBy (wr.setCells q (F.length * 3) (zerosW (j - F.length))) (some q)) :=
            hide ⟨OF.spare _ _ (Nat.le_refl _) (by rw [zerosW_length]; show _ ≤ cap * 3; omega), ngrown_trans (unhide hW) (ngrown_setCells _ _ _)⟩
          have hcn : ¬ (cap = F.length) := by omega
          have hFc : F.length ≤ cap := by omega
          have hFn : F.length ≤ j := by omega
          have hjj : ¬ ((j : Int) < (j : Int)) := by omega
          clear OF hO hW hF HTk HF0 HG0
          subst hTF
          go_wp2_with fail
          go_ret
          exact ⟨rfl, (unhide FIN).1, (unhide FIN).2⟩

end Go.Proofs.YtaoflcmeiaffjaaGreatDoor

namespace Go.Proofs.YtaoflcmeiaffjaaGreatDoor
open Go.RowKit

theorem take_fireN (ws : List Wa) (es : List Ev) (k : Nat) (e : Ev) (h : es[k]? = some e) : fireN ws (es.take (k + 1)) = fireN ws (es.take k) ++ toldL (fireW ws (es.take k)) e := by
  rw [snoc_take h, fireN_app]; simp [fireN]
theorem take_fireW (ws : List Wa) (es : List Ev) (k : Nat) (e : Ev) (h : es[k]? = some e) : fireW ws (es.take (k + 1)) = leftL (fireW ws (es.take k)) e := by
  rw [snoc_take h, fireW_app]; simp [fireW]
/-- notes behind notes -/
theorem wpList_app_nts {w : World} {ops : Array Oper} {rest : List Oper} {o : Oper} {a : Act} {Q : Exit → Act → World → Prop} (hgd : o.guard = none) (s x : Operand)
    (ho : o.op = .call { callee := .builtin .append, args := #[s, x], argTypes := #[52, 52] })
    (v u : Value) (ns ms : List Nt) (C : Nat) (hs : a.eval s = v) (hown : OwnS w 0 v ns) (hx : a.eval x = u) (hu : OwnS w C u ms) (hl : (ns.length + ms.length) * 32 ≤ 140737488355328)
    (h : ∀ a' c' w', OwnS w' 0 (.slice a' (ns.length + ms.length) c') (ns ++ ms) → w.grownBy w' v.ownBlock → ((Value.slice a' (ns.length + ms.length) c').ownBlock = v.ownBlock ∨ (Value.slice a' (ns.length + ms.length) c').ownBlock = some w.heap.size) → wpList Tryz.prog ops Q rest (a.put o.dst (.slice a' (ns.length + ms.length) c')) w') :
    wpList Tryz.prog ops Q (o :: rest) a w := by
  refine wpList_plain hgd fun K hK => ?_
  obtain ⟨i0, hi0, hz0, hz1, hz2⟩ := tinfo
  rcases hu with ⟨rfl, rfl⟩ | ⟨g, cap, rfl, _, hr⟩
  · obtain ⟨a', c', rfl, _⟩ := hown.slice
    have hrun := run_append_owned_none (P := Tryz.prog) (w := w) 0 52 o.type 89 i0 3 Tryz.underlying52 hi0 _ ns.length (cellsL ns) hown.row
    unfold Oper.wp execOp
    simp only [ho, resolve, invoke, builtin, Sem.run_bind, Sem.run_pure, Result.andThen_ok, List.map_toArray, List.map_cons, List.map_nil, hs, hx, hrun]
    exact hK _ _ (h a' c' w (by rw [List.append_nil]; exact hown) (World.grownBy.refl _ _) (.inl rfl))
  · obtain ⟨v', w', hrun, h2, h3, _, h5⟩ := run_append_own_at (P := Tryz.prog) w 0 52 o.type 89 i0 _ 3 32 Tryz.underlying52 hi0 hz0 hz1 hz2 rfl (by decide) v ns.length (cellsL ns) hown.row ⟨g, 0, none⟩ ms.length cap (cellsL ms) (cellsL_length ms) (fun j y hj => by rw [Addr.add_lit]; exact hr.row j y hj) (cellsL_one ms) (by simp only [maxLen]; omega) hl (Nat.zero_le _)
    have h2' : OwnS w' 0 v' (ns ++ ms) := OwnS.of_row (by rw [List.length_append, cellsL_append]; exact h2)
    obtain ⟨a', c', rfl, _⟩ := h2'.slice
    rw [List.length_append] at h2' hrun h5
    unfold Oper.wp execOp
    simp only [ho, resolve, invoke, builtin, Sem.run_bind, Sem.run_pure, Result.andThen_ok, List.map_toArray, List.map_cons, List.map_nil, hs, hx, hrun]
    exact hK _ _ (h a' c' w' h2' h3 h5)
theorem OneR.grown {W V : World} {B q : Nat} {e : Ev} (h : OneR W B e) (hg : W.grownBy V (some q)) (hne : B ≠ q) : OneR V B e :=
  (hg.block B (Array.getElem?_eq_some_iff.1 h).1 (by simp [hne])).trans h
theorem fire1_clos (B q : Nat) (e : Ev) (hne : B ≠ q) : Clos 112 B q (fun x => offB x e) (fun W => OneR W B e) :=
  ⟨.inl rfl, fun _ _ h hg => h.grown hg hne, fun W x h => fire1_any x e B W h⟩

set_option maxRecDepth 20000 in
set_option maxHeartbeats 4000000 in
theorem fire_any (v u : Value) (ws : List Wa) (es : List Ev) (w : World) (hv : SeqV w v ws) (hu : SeqV w u es) (hs : Short ws) (he : ShortE es) (hl : ws.length * 32 ≤ 140737488351232) (hle : es.length ≤ 140737488355328) :
    Calls Tryz.prog 59 #[v, u] w fun r w' => ∃ vn vl, r = .returned (.tuple #[vn, vl]) ∧ OwnS w' w.heap.size vn (fireN ws es) ∧ (∃ g, vl = .slice (some ⟨g, 0, none⟩) (fireW ws es).length (ws.length + 1) ∧ w.heap.size ≤ g ∧ OwnR w' g (ws.length + 1) (fireW ws es)) ∧ Below w.heap.size w w' := by
  have CC := hcopied_any v ws w hv hs hl
  have KR : ∀ W, Below w.heap.size w W → ∀ k x, es[k]? = some x → ∃ b off cap, u = .slice (some ⟨b, off, none⟩) es.length cap ∧ b < w.heap.size ∧ RowAt W b off (cellsL es) := fun W hW k x hx => by
    obtain ⟨b, off, cap, e, hb, hr, _, _⟩ := seq_row hu (fun h0 => by obtain ⟨h1, _⟩ := List.getElem?_eq_some_iff.1 hx; rw [h0] at h1; simp at h1)
    exact ⟨b, off, cap, e, hb, hr.kept hW hb⟩
  have HKR := hide KR
  have HE := hide he
  obtain ⟨va, vc, rfl⟩ := seq_slice hv
  obtain ⟨ua, uc, rfl⟩ := seq_slice hu
  obtain ⟨i0, hi0, hz0, hz1, hz2⟩ := tinfo
  clear hv hu hs he KR
  go_enter Tryz.func59, Tryz.ntmps59
  go_wp2_with fail
  refine CC.mono ?_
  rintro r w0 ⟨q, rfl, hq, ho, hb⟩
  have HO : Hid (OwnR w0 q (ws.length + 1) ws) := hide ho
  have HB := hide hb
  clear CC ho hb
  go_wp2_with fail
  go_loopg [6, 7, 15] es.length (fun kx s6 s7 s15 wr => ∃ (k : Nat) (na : Option Addr) (nc : Nat), s15 = .int .i64 k ∧ s6 = .slice na (fireN ws (es.take k)).length nc ∧ s7 = .slice (some ⟨q, 0, none⟩) (fireW ws (es.take k)).length (ws.length + 1) ∧ k ≤ es.length ∧ es.length - k ≤ kx ∧
    Hid (OwnS wr w.heap.size (.slice na (fireN ws (es.take k)).length nc) (fireN ws (es.take k))) ∧ Hid ((Value.slice na (fireN ws (es.take k)).length nc).ownBlock ≠ some q) ∧ Hid (OwnR wr q (ws.length + 1) (fireW ws (es.take k))) ∧ Hid (Below w.heap.size w wr))
  case atStart => exact ⟨0, none, 0, rfl, rfl, rfl, Nat.zero_le _, Nat.le_refl _, hide (.inl ⟨rfl, rfl⟩), hide (by simp [Value.ownBlock]), HO, HB⟩
  case round =>
    obtain ⟨k, na, nc, rfl, rfl, rfl, hk, hg, hN, hnq, hO, hB⟩ := hrel
    by_cases hlt : k < es.length
    · obtain ⟨e, hx⟩ : ∃ e, es[k]? = some e := ⟨_, List.getElem?_eq_getElem hlt⟩
      obtain ⟨b, off, cap, he, hb, qr⟩ := unhide HKR wr (unhide hB) k e hx
      simp only [Value.slice.injEq] at he
      obtain ⟨rfl, _, rfl⟩ := he
      have d0 := qr.e0 hx
      have d1 := qr.e1 hx
      have hep := unhide HE e (List.mem_of_getElem? hx)
      have hbw : b < wr.heap.size := Nat.lt_of_lt_of_le hb (unhide hB).size
      have HTN := hide (take_fireN ws es k e hx)
      have HTW := hide (take_fireW ws es k e hx)
      have hfl := fire_len (es.take k) ws
      obtain ⟨N, hN'⟩ : ∃ N, fireN ws (es.take k) = N := ⟨_, rfl⟩
      obtain ⟨L, hL'⟩ : ∃ L, fireW ws (es.take k) = L := ⟨_, rfl⟩
      rw [hN'] at hN hnq HTN hfl ⊢
      rw [hL'] at hO HTN HTW hfl ⊢
      have htl := told_len L e
      clear qr hx hN' hL'
      obtain ⟨wx, hwx⟩ : ∃ wx, wr.alloc (.cells #[.int .i64 e.k, .string ⟨e.p.toArray⟩] 87) = wx := ⟨_, rfl⟩
      have hbx : Below wr.heap.size wr wx := by rw [← hwx]; exact allocB _ _
      have hzx : wx.heap.size = wr.heap.size + 1 := by rw [← hwx]; simp
      have X : OneR wx wr.heap.size e := by rw [← hwx]; exact one_new wr e.k e.p
      have hqr := (unhide hO).lt
      have x0 : wx.cell? ⟨wr.heap.size, 0, none⟩ = some (.int .i64 e.k) := by simpa using X.row 0 _ rfl
      have x1 : wx.cell? ⟨wr.heap.size, 1, none⟩ = some (.string ⟨e.p.toArray⟩) := by simpa using X.row 1 _ rfl
      have CT := told_any q (ws.length + 1) wr.heap.size L e wx (by omega) ((unhide hO).next hbx).row X (by omega) hep
      unfold evV at CT
      have KT : ∀ w2 v2, OwnS w2 wx.heap.size v2 (toldL L e) → Below wx.heap.size wx w2 →
          OwnS w2 w.heap.size (.slice na N.length nc) N ∧ OwnR w2 q (ws.length + 1) L ∧ OneR w2 wr.heap.size e ∧ Below w.heap.size w w2 ∧ (∀ j, v2.ownBlock = some j → j ≠ q ∧ w.heap.size ≤ j ∧ j ≠ wr.heap.size) ∧ SeqV w2 v2 (toldL L e) := by
        intro w2 v2 h2 hb2
        have hb3 := nnext hbx hb2
        refine ⟨(unhide hN).next hb3, (unhide hO).next hb3, (hb2.block _ (by omega)).trans X, nnext (unhide hB) hb3, fun j hj => ?_, h2.seq⟩
        have := ownS_above h2 j hj
        have := (unhide hB).size
        omega
      have HKT := hide KT
      have HXZ := hide hzx
      have hno : (Value.slice na N.length nc).ownBlock ≠ some wr.heap.size := fun h => by have := (unhide hN).low _ h; omega
      have HNO := hide hno
      clear KT X hno
      go_wp2_with fail
      refine CT.mono ?_
      rintro r w2 ⟨v2, rfl, ho2, hb2⟩
      obtain ⟨n2, o2, x2, b2, k2, s2⟩ := unhide HKT w2 v2 ho2 hb2
      have hzz : wr.heap.size < w2.heap.size := by have := hb2.size; omega
      have hq2 := o2.lt
      have HQ := hide (show wr.heap.size ≠ q by omega)
      have HN2 := hide n2
      have HO2 := hide o2
      have HX2 := hide x2
      have HB2 := hide b2
      have HV2 := hide ho2
      have hml : (N.length + (toldL L e).length) * 32 ≤ 140737488355328 := by omega
      have hLl : L.length ≤ 140737488355328 := by omega
      obtain ⟨M, hM⟩ : ∃ M, toldL L e = M := ⟨_, rfl⟩
      rw [hM] at HV2 hml HTN
      have HTL : Hid (∀ L', L.filter (fun x => !offB x e) = L' → fireW ws (es.take (k + 1)) = L') := hide (fun L' h => (unhide HTW).trans h)
      obtain ⟨v2a, v2c, rfl, _⟩ := (unhide HV2).slice
      clear n2 o2 x2 b2 k2 s2 ho2 hb2 CT hM hfl htl hbx hzx hep HKT x0 x1 hwx
      go_wp2_with (at_builtin; refine wpList_app_nts rfl _ _ rfl (.slice na N.length nc) (.slice v2a M.length v2c) N M wx.heap.size rfl ((unhide HN2).lower (Nat.zero_le _)) rfl (unhide HV2) hml ?_)
      intro a3 c3 w3 ho3 hg3 hl3
      have hab := ownS_above (unhide HN2)
      have B3 : Below w.heap.size w w3 := (unhide HB2).grown hg3 (unhide HB2).size hab
      have N3 : OwnS w3 w.heap.size (.slice a3 (N.length + M.length) c3) (N ++ M) := ownS_base ho3 (fun j hj => by
        rcases hl3 with h | h
        · rw [h] at hj; exact hab j hj
        · rw [h] at hj; cases hj; exact (unhide HB2).size)
      have Q3 : (Value.slice a3 (N.length + M.length) c3).ownBlock ≠ some q := by
        rcases hl3 with h | h
        · rw [h]; exact unhide hnq
        · rw [h]; intro h'; cases h'; omega
      have O3 : OwnR w3 q (ws.length + 1) L := by
        obtain ⟨rest, h1, h2⟩ := unhide HO2
        exact ⟨rest, (hg3.block q hq2 (fun h => unhide hnq h.symm)).trans h1, h2⟩
      have X3 : OneR w3 wr.heap.size e := (hg3.block _ hzz (fun h => unhide HNO h.symm)).trans (unhide HX2)
      have CD := hdel_any (fire1_clos wr.heap.size q e (unhide HQ)) (ws.length + 1) L w3 X3 O3 hLl
      have HB3 := hide B3
      have HN3 := hide N3
      have HQ3 := hide Q3
      obtain ⟨L', hL'⟩ : ∃ L', L.filter (fun x => !offB x e) = L' := ⟨_, rfl⟩
      have HL' := hide (unhide HTL L' hL')
      rw [hL'] at CD
      clear ho3 hg3 hl3 hab B3 N3 Q3 O3 X3 hL'
      go_wp2_with fail
      refine CD.mono ?_
      rintro r w4 ⟨rfl, ho4, hg4⟩
      have HB4 := hide ((unhide HB3).grown hg4 (unhide HB3).size (fun j hj => by cases hj; exact hq))
      have HN4 := hide ((unhide HN3).grown hg4 (fun j hj h => unhide HQ3 (hj.trans h)))
      have HO4 := hide ho4
      clear CD ho4 hg4
      go_wp2_with fail
      go_roundg (es.length - (k + 1))
      case measure => omega
      case rel =>
        refine ⟨k + 1, a3, c3, rfl, ?_, ?_, by omega, Nat.le_refl _, ?_, ?_, ?_, HB4⟩
        · rw [unhide HTN, List.length_append]
        · rw [unhide HL']
        · rw [unhide HTN, List.length_append]; exact HN4
        · rw [unhide HTN, List.length_append]; exact HQ3
        · rw [unhide HL']; exact HO4
    · obtain rfl : k = es.length := by omega
      rw [List.take_length] at hN hnq hO ⊢
      go_wp2_with fail
      go_ret2
      exact ⟨_, _, rfl, unhide hN, ⟨q, rfl, hq, unhide hO⟩, unhide hB⟩

set_option maxRecDepth 10000 in
set_option maxHeartbeats 1000000 in
theorem drop_any (v : Value) (s : Int) (ws : List Wa) (w : World) (hv : SeqV w v ws) (hs : Short ws) (hl : ws.length * 32 ≤ 140737488351232) :
    Calls Tryz.prog 60 #[v, .int .i64 s] w fun r w' => ∃ g, r = .returned (.slice (some ⟨g, 0, none⟩) (dropW ws s).length (ws.length + 1)) ∧ w.heap.size ≤ g ∧ OwnR w' g (ws.length + 1) (dropW ws s) ∧ Below w.heap.size w w' := by
  have CC := hcopied_any v ws (w.alloc (.cells #[.int .i64 s] 3)) (hv.next (allocB _ _)) hs hl
  obtain ⟨va, vc, rfl⟩ := seq_slice hv
  have hLl : ws.length ≤ 140737488355328 := by omega
  obtain ⟨D, hD⟩ : ∃ D, dropW ws s = D := ⟨_, rfl⟩
  rw [hD]
  have HD : Hid (ws.filter (fun x => !decide (x.s = s)) = D) := hide hD
  clear hv hs hD
  go_enter Tryz.func60, Tryz.ntmps60
  go_wp2_with fail
  refine CC.mono ?_
  rintro r w1 ⟨q, rfl, hq, ho, hb⟩
  have hq1 : w.heap.size + 1 ≤ q := by simpa using hq
  have c1 : w1.cell? ⟨w.heap.size, 0, none⟩ = some (.int .i64 s) := by rw [hb.cell (p := ⟨w.heap.size, 0, none⟩) (by simp)]; simp
  have hz1 : w.heap.size < w1.heap.size := by have := hb.size; simp at this; omega
  have K : Clos 116 w.heap.size q (fun x => decide (x.s = s)) (fun W => W.cell? ⟨w.heap.size, 0, none⟩ = some (.int .i64 s) ∧ w.heap.size < W.heap.size) :=
    ⟨.inr rfl, fun _ _ h hg => ⟨hg.cell h.1 (by show some w.heap.size ≠ some q; simp; omega), Nat.lt_of_lt_of_le h.2 hg.size⟩, fun W x h => drop1_any x s w.heap.size W h.1 h.2⟩
  have CD := hdel_any K (ws.length + 1) ws w1 ⟨c1, hz1⟩ ho hLl
  have HB := hide (nbox_then hb)
  rw [unhide HD] at CD
  clear CC K ho hb c1 hq
  go_wp2_with fail
  refine CD.mono ?_
  rintro r w2 ⟨rfl, ho2, hg2⟩
  have HB2 := hide ((unhide HB).grown hg2 (unhide HB).size (fun j hj => by cases hj; omega))
  clear CD hg2
  go_wp2_with fail
  go_ret
  exact ⟨q, rfl, by omega, ho2, unhide HB2⟩

end Go.Proofs.YtaoflcmeiaffjaaGreatDoor

namespace Go.Proofs.YtaoflcmeiaffjaaGreatDoor
open Go.RowKit
theorem seq_one {α : Type} [Lay α] {W : World} {g : Nat} {x : α} (h : OneR W g x) : SeqV W (.slice (some ⟨g, 0, none⟩) 1 1) [x] := by
  refine .inr ⟨g, 0, 1, rfl, Nat.le_refl _, by simp [maxLen], (Array.getElem?_eq_some_iff.1 h).1, by simp, fun j v hj => ?_⟩
  exact h.row j v (by simpa [cellsL] using hj)

end Go.Proofs.YtaoflcmeiaffjaaGreatDoor

namespace Go.Proofs.YtaoflcmeiaffjaaGreatDoor
open Go.RowKit

theorem RowAt.grown {W V : World} {b off : Nat} {cs : List Value} {r : Option Nat} (h : RowAt W b off cs) (hg : W.grownBy V r) (hr : some b ≠ r) : RowAt V b off cs := fun j v hj => hg.cell (h j v hj) hr
theorem SeqV.grown {α : Type} [Lay α] {W V : World} {v : Value} {xs : List α} {r : Option Nat} (h : SeqV W v xs) (hg : W.grownBy V r) (hr : ∀ k, v.ownBlock = some k → some k ≠ r) : SeqV V v xs := by
  rcases h with h | ⟨b, off, cap, rfl, h1, h2, h3, h0, h4⟩
  · exact .inl h
  · exact .inr ⟨b, off, cap, rfl, h1, h2, Nat.lt_of_lt_of_le h3 hg.size, h0, h4.grown hg (hr b rfl)⟩
/-- the document's Fire within one event -/
structure FI (w wq : World) (m be : Nat) (e : Ev) (lv : Value) (L : List Wa) (nv : Value) (N : List Nt) (fv : Value) (F : List Wa) : Prop where
  n : OwnS wq w.heap.size nv N
  f : OwnS wq m fv F
  nf : ∀ k, nv.ownBlock = some k → fv.ownBlock ≠ some k ∧ k ≠ be
  bm : be < m
  rd : ∀ (i : Nat) (x : Wa), L[i]? = some x → ∃ b off cap, lv = .slice (some ⟨b, off, none⟩) L.length cap ∧ b < m ∧ nv.ownBlock ≠ some b ∧ RowAt wq b off (cellsL L)
  e : OneR wq be e
  b : Below w.heap.size w wq
  wm : w.heap.size ≤ m
  mz : m ≤ wq.heap.size
theorem FI.next {w wq V : World} {m be : Nat} {e : Ev} {lv : Value} {L : List Wa} {nv : Value} {N : List Nt} {fv : Value} {F : List Wa} (h : FI w wq m be e lv L nv N fv F) (hb : Below wq.heap.size wq V) : FI w V m be e lv L nv N fv F :=
  ⟨h.n.next hb, h.f.next hb, h.nf, h.bm, fun i x hx => by
    obtain ⟨b, off, cap, e1, h1, h2, h3⟩ := h.rd i x hx
    exact ⟨b, off, cap, e1, h1, h2, h3.kept hb (Nat.lt_of_lt_of_le h1 h.mz)⟩, (hb.block _ (Nat.lt_of_lt_of_le h.bm h.mz)).trans h.e, nnext h.b hb, h.wm, Nat.le_trans h.mz hb.size⟩
theorem FI.note {w wq V : World} {m be : Nat} {e : Ev} {lv : Value} {L : List Wa} {nv nv' : Value} {N N' : List Nt} {fv : Value} {F : List Wa} (h : FI w wq m be e lv L nv N fv F) (hg : wq.grownBy V nv.ownBlock) (ho : OwnS V 0 nv' N') (hl : nv'.ownBlock = nv.ownBlock ∨ nv'.ownBlock = some wq.heap.size) : FI w V m be e lv L nv' N' fv F := by
  have hmz := h.mz
  have hbm := h.bm
  refine ⟨ownS_base ho (fun k hk => ?_), h.f.grown hg (fun k hk e => (h.nf k e.symm).1 hk), fun k hk => ?_, h.bm, fun i x hx => ?_, (hg.block _ (by omega) (fun e => (h.nf _ e.symm).2 rfl)).trans h.e, h.b.grown hg h.b.size (ownS_above h.n), h.wm, Nat.le_trans h.mz hg.size⟩
  · rcases hl with e | e
    · rw [e] at hk; exact ownS_above h.n k hk
    · rw [e] at hk; cases hk; exact h.b.size
  · rcases hl with e | e
    · rw [e] at hk; exact h.nf k hk
    · rw [e] at hk; cases hk
      exact ⟨fun e' => by have := h.f.low _ e'; omega, by omega⟩
  · obtain ⟨b, off, cap, e1, h1, h2, h3⟩ := h.rd i x hx
    refine ⟨b, off, cap, e1, h1, ?_, h3.grown hg (fun e => h2 e.symm)⟩
    rcases hl with e | e
    · rw [e]; exact h2
    · rw [e]; intro e'; cases e'; omega
theorem FI.left {w wq V : World} {m be : Nat} {e : Ev} {lv : Value} {L : List Wa} {nv : Value} {N : List Nt} {fv fv' : Value} {F F' : List Wa} (h : FI w wq m be e lv L nv N fv F) (hg : wq.grownBy V fv.ownBlock) (ho : OwnS V 0 fv' F') (hl : fv'.ownBlock = fv.ownBlock ∨ fv'.ownBlock = some wq.heap.size) : FI w V m be e lv L nv N fv' F' := by
  have hmz := h.mz
  have hbm := h.bm
  have hab := ownS_above h.f
  refine ⟨h.n.grown hg (fun k hk e => (h.nf k hk).1 e.symm), ownS_base ho (fun k hk => ?_), fun k hk => ⟨?_, (h.nf k hk).2⟩, h.bm, fun i x hx => ?_, (hg.block _ (by omega) (fun e => by have := hab _ e.symm; omega)).trans h.e, h.b.grown hg h.b.size (fun k hk => Nat.le_trans h.wm (hab k hk)), h.wm, Nat.le_trans h.mz hg.size⟩
  · rcases hl with e | e
    · rw [e] at hk; exact hab k hk
    · rw [e] at hk; cases hk; exact h.mz
  · rcases hl with e | e
    · rw [e]; exact (h.nf k hk).1
    · rw [e]; intro e'; cases e'
      have := h.n.low _ hk
      omega
  · obtain ⟨b, off, cap, e1, h1, h2, h3⟩ := h.rd i x hx
    exact ⟨b, off, cap, e1, h1, h2, h3.grown hg (fun e => by have := hab _ e.symm; omega)⟩
/-- one element behind a row of the call's own -/
theorem wpList_app_nt {w : World} {ops : Array Oper} {rest : List Oper} {o : Oper} {a : Act} {Q : Exit → Act → World → Prop} (hgd : o.guard = none) (s x : Operand)
    (ho : o.op = .call { callee := .builtin .append, args := #[s, x], argTypes := #[52, 52] })
    (v : Value) (ns : List Nt) (hs : a.eval s = v) (hown : OwnS w 0 v ns) (q : Nat) (hx : a.eval x = .slice (some ⟨q, 0, none⟩) 1 1) (t : Nt) (hnews : OneR w q t) (hl : (ns.length + 1) * 32 ≤ 140737488355328)
    (h : ∀ a' c' w', OwnS w' 0 (.slice a' (ns.length + 1) c') (ns ++ [t]) → w.grownBy w' v.ownBlock → ((Value.slice a' (ns.length + 1) c').ownBlock = v.ownBlock ∨ (Value.slice a' (ns.length + 1) c').ownBlock = some w.heap.size) → wpList Tryz.prog ops Q rest (a.put o.dst (.slice a' (ns.length + 1) c')) w') :
    wpList Tryz.prog ops Q (o :: rest) a w := by
  refine wpList_plain hgd fun K hK => ?_
  obtain ⟨i0, hi0, hz0, hz1, hz2⟩ := tinfo
  obtain ⟨v', w', hr, h2, h3, _, h5⟩ := run_append_own_at (P := Tryz.prog) w 0 52 o.type 89 i0 _ 3 32 Tryz.underlying52 hi0 hz0 hz1 hz2 rfl (by decide) v ns.length (cellsL ns) hown.row ⟨q, 0, none⟩ 1 1 (ntcells t) rfl (one_news hnews) (Lay.one t) (by simp only [maxLen]; omega) hl (Nat.zero_le _)
  have h2' : OwnS w' 0 v' (ns ++ [t]) := OwnS.of_row (by rw [List.length_append, cellsL_snoc]; exact h2)
  obtain ⟨a', c', rfl, _⟩ := h2'.slice
  rw [List.length_append, List.length_singleton] at h2' hr h5
  unfold Oper.wp execOp
  simp only [ho, resolve, invoke, builtin, Sem.run_bind, Sem.run_pure, Result.andThen_ok, List.map_toArray, List.map_cons, List.map_nil, hs, hx, hr]
  exact hK _ _ (h a' c' w' h2' h3 h5)
theorem wpList_app_wa {w : World} {ops : Array Oper} {rest : List Oper} {o : Oper} {a : Act} {Q : Exit → Act → World → Prop} (hgd : o.guard = none) (s x : Operand)
    (ho : o.op = .call { callee := .builtin .append, args := #[s, x], argTypes := #[32, 32] })
    (v : Value) (ns : List Wa) (hs : a.eval s = v) (hown : OwnS w 0 v ns) (q : Nat) (hx : a.eval x = .slice (some ⟨q, 0, none⟩) 1 1) (t : Wa) (hnews : OneR w q t) (hl : (ns.length + 1) * 32 ≤ 140737488355328)
    (h : ∀ a' c' w', OwnS w' 0 (.slice a' (ns.length + 1) c') (ns ++ [t]) → w.grownBy w' v.ownBlock → ((Value.slice a' (ns.length + 1) c').ownBlock = v.ownBlock ∨ (Value.slice a' (ns.length + 1) c').ownBlock = some w.heap.size) → wpList Tryz.prog ops Q rest (a.put o.dst (.slice a' (ns.length + 1) c')) w') :
    wpList Tryz.prog ops Q (o :: rest) a w := by
  refine wpList_plain hgd fun K hK => ?_
  obtain ⟨i0, hi0, hz0, hz1, hz2⟩ := winfo
  obtain ⟨v', w', hr, h2, h3, _, h5⟩ := run_append_own_at (P := Tryz.prog) w 0 32 o.type 118 i0 _ 3 32 Tryz.underlying32 hi0 hz0 hz1 hz2 rfl (by decide) v ns.length (cellsL ns) hown.row ⟨q, 0, none⟩ 1 1 (wcells t) rfl (one_news hnews) (Lay.one t) (by simp only [maxLen]; omega) hl (Nat.zero_le _)
  have h2' : OwnS w' 0 v' (ns ++ [t]) := OwnS.of_row (by rw [List.length_append, cellsL_snoc]; exact h2)
  obtain ⟨a', c', rfl, _⟩ := h2'.slice
  rw [List.length_append, List.length_singleton] at h2' hr h5
  unfold Oper.wp execOp
  simp only [ho, resolve, invoke, builtin, Sem.run_bind, Sem.run_pure, Result.andThen_ok, List.map_toArray, List.map_cons, List.map_nil, hs, hx, hr]
  exact hK _ _ (h a' c' w' h2' h3 h5)
theorem left_snoc {ws : List Wa} {k : Nat} {x : Wa} {e : Ev} (h : ws[k]? = some x) : leftL (ws.take (k + 1)) e = leftL (ws.take k) e ++ (if offB x e = true then [] else [x]) := by
  rw [snoc_take h]
  simp only [leftL, List.filter_append]
  cases hx : offB x e <;> simp [hx]
theorem run_app_noneW {P : Program} {w : World} (base : Nat) (t ty e : TypeId) (i : TypeInfo) (size : Nat) (ht : P.underlying t = some (.slice e)) (hi : P.info? e = some i)
    (v : Value) (n : Nat) (xs : List Value) (hown : w.ownsRow base e size v n xs) (c : Nat) :
    (Builtin.append_ #[t, t] ty #[v, .slice none 0 c]).run P w = .ok v w := by
  rcases hown.2 with ⟨rfl, rfl⟩ | ⟨g, cap, cur, rfl, _, _, hnc, _⟩
  · simp [Builtin.append_, run_underlying ht, sizeOf, typeInfo, hi, Builtin.lenOf, Builtin.firstCells]
  · simp [Builtin.append_, run_underlying ht, sizeOf, typeInfo, hi, Builtin.lenOf, Builtin.firstCells, hnc, storeCells]
/-- watches behind watches -/
theorem wpList_app_was {w : World} {ops : Array Oper} {rest : List Oper} {o : Oper} {a : Act} {Q : Exit → Act → World → Prop} (hgd : o.guard = none) (s x : Operand)
    (ho : o.op = .call { callee := .builtin .append, args := #[s, x], argTypes := #[32, 32] })
    (v u : Value) (ns ms : List Wa) (B : Nat) (hs : a.eval s = v) (hown : OwnS w B v ns) (hB : B ≤ w.heap.size) (hx : a.eval x = u) (hu : SeqV w u ms) (hl : (ns.length + ms.length) * 32 ≤ 140737488355328)
    (h : ∀ a' c' w', OwnS w' B (.slice a' (ns.length + ms.length) c') (ns ++ ms) → w.grownBy w' v.ownBlock → wpList Tryz.prog ops Q rest (a.put o.dst (.slice a' (ns.length + ms.length) c')) w') :
    wpList Tryz.prog ops Q (o :: rest) a w := by
  refine wpList_plain hgd fun K hK => ?_
  obtain ⟨i0, hi0, hz0, hz1, hz2⟩ := winfo
  have some_case : ∀ (ad : Addr) (cap : Nat), u = .slice (some ad) ms.length cap → (∀ j y, (cellsL ms)[j]? = some y → w.cell? (ad.add j) = some y) → Oper.wp Tryz.prog o a w K Q := by
    intro ad cap hu' hc
    obtain ⟨v', w', hrun, h2, h3, _, h5⟩ := run_append_own_at (P := Tryz.prog) w B 32 o.type 118 i0 _ 3 32 Tryz.underlying32 hi0 hz0 hz1 hz2 rfl (by decide) v ns.length (cellsL ns) hown.row ad ms.length cap (cellsL ms) (cellsL_length ms) hc (cellsL_one ms) (by simp only [maxLen]; omega) hl hB
    have h2' : OwnS w' B v' (ns ++ ms) := OwnS.of_row (by rw [List.length_append, cellsL_append]; exact h2)
    obtain ⟨a', c', rfl, _⟩ := h2'.slice
    rw [List.length_append] at h2' hrun h5
    subst hu'
    unfold Oper.wp execOp
    simp only [ho, resolve, invoke, builtin, Sem.run_bind, Sem.run_pure, Result.andThen_ok, List.map_toArray, List.map_cons, List.map_nil, hs, hx, hrun]
    exact hK _ _ (h a' c' w' h2' h3)
  rcases hu with ⟨ao, cap, rfl, rfl, _⟩ | ⟨b, off, cap, rfl, _, _, hb, _, hr⟩
  · cases ao with
    | none =>
      obtain ⟨a', c', rfl, _⟩ := hown.slice
      have hrun := run_app_noneW (P := Tryz.prog) (w := w) B 32 o.type 118 i0 3 Tryz.underlying32 hi0 _ ns.length (cellsL ns) hown.row cap
      unfold Oper.wp execOp
      simp only [ho, resolve, invoke, builtin, Sem.run_bind, Sem.run_pure, Result.andThen_ok, List.map_toArray, List.map_cons, List.map_nil, hs, hx, hrun]
      exact hK _ _ (h a' c' w (by rw [List.append_nil]; exact hown) (World.grownBy.refl _ _))
    | some ad => exact some_case ad cap rfl (fun j y hj => by simp [cellsL_nil] at hj)
  · exact some_case ⟨b, off, none⟩ cap rfl (fun j y hj => by rw [Addr.add_lit]; exact hr j y hj)
theorem one_newT2 (w : World) (o : Obj) (n : Nt) : OneR ((w.alloc o).alloc (.cells #[.int .i64 n.s, .int .i64 n.k, .string ⟨n.p.toArray⟩] 89)) (w.heap.size + 1) n := by
  have h := one_newT (w.alloc o) n
  rw [show (w.alloc o).heap.size = w.heap.size + 1 by simp] at h
  exact h
theorem one_newW2 (w : World) (o : Obj) (n : Wa) : OneR ((w.alloc o).alloc (.cells #[.int .i64 n.s, .int .i64 n.k, .string ⟨n.p.toArray⟩] 118)) (w.heap.size + 1) n := by
  have h := one_newW (w.alloc o) n
  rw [show (w.alloc o).heap.size = w.heap.size + 1 by simp] at h
  exact h

end Go.Proofs.YtaoflcmeiaffjaaGreatDoor

namespace Go.Proofs.YtaoflcmeiaffjaaGreatDoor
open Go.RowKit
set_option maxRecDepth 20000 in
set_option maxHeartbeats 2000000 in
theorem rsameW_any (va vb : Value) (ws : List Wa) (w : World) (ha : SeqV w va ws) (hb : SeqV w vb ws) (hl : ws.length ≤ 140737488355328) :
    Calls Tryz.prog 43 #[va, vb] w fun e w' => e = .returned (.bool true) ∧ Below w.heap.size w w' := by
  have K : ∀ (v : Value), SeqV w v ws → ∀ W, Below w.heap.size w W → ∀ (i : Nat) (x : Wa), ws[i]? = some x → ∃ b off c, v = .slice (some ⟨b, off, none⟩) ws.length c ∧ b < w.heap.size ∧ RowAt W b off (cellsL ws) := by
    intro v hv W hW i x hx
    obtain ⟨b, off, c, e, hb, hr, _, _⟩ := seq_row hv (by intro h0; rw [h0] at hx; simp at hx)
    exact ⟨b, off, c, e, hb, hr.kept hW hb⟩
  have K1 := hide (K va ha)
  have K2 := hide (K vb hb)
  obtain ⟨aa, ac, rfl⟩ := seq_slice ha
  obtain ⟨ba, bc, rfl⟩ := seq_slice hb
  clear ha hb K
  go_enter Tryz.func43, Tryz.ntmps43
  go_wp2_with fail
  go_loopg [13] ws.length (fun kx s13 wr => ∃ k : Nat, s13 = .int .i64 k ∧ k ≤ ws.length ∧ ws.length - k ≤ kx ∧ Hid (Below w.heap.size w wr))
  case atStart => exact ⟨0, rfl, Nat.zero_le _, Nat.le_refl _, hide (Below.refl _ _)⟩
  case round =>
    obtain ⟨k, rfl, hk, hg, hB⟩ := hrel
    by_cases hlt : k < ws.length
    · obtain ⟨x, hx⟩ : ∃ x, ws[k]? = some x := ⟨_, List.getElem?_eq_getElem hlt⟩
      obtain ⟨b1, o1, cc1, he, hb1, q1⟩ := unhide K1 wr (unhide hB) k x hx
      simp only [Value.slice.injEq] at he
      obtain ⟨rfl, _, rfl⟩ := he
      obtain ⟨b2, o2, cc2, he, hb2, q2⟩ := unhide K2 wr (unhide hB) k x hx
      simp only [Value.slice.injEq] at he
      obtain ⟨rfl, _, rfl⟩ := he
      have d0 := q1.w0 hx
      have d1 := q1.w1 hx
      have d2 := q1.w2 hx
      have r0 := q2.w0 hx
      have r1 := q2.w1 hx
      have r2 := q2.w2 hx
      have hlti : (k : Int) < (ws.length : Int) := by omega
      clear q1 q2 hx
      go_wp2_with fail
      go_region
      go_wp2_with fail
      go_roundg (ws.length - (k + 1))
      case measure => omega
      case rel => exact ⟨k + 1, rfl, by omega, Nat.le_refl _, hide (nnext (unhide hB) (Below.refl _ _).drew)⟩
    · obtain rfl : k = ws.length := by omega
      go_wp2_with fail
      go_ret
      exact ⟨rfl, unhide hB⟩

set_option maxRecDepth 20000 in
set_option maxHeartbeats 2000000 in
theorem rsameN_any (va vb : Value) (ws : List Nt) (w : World) (ha : SeqV w va ws) (hb : SeqV w vb ws) (hl : ws.length ≤ 140737488355328) :
    Calls Tryz.prog 24 #[va, vb] w fun e w' => e = .returned (.bool true) ∧ Below w.heap.size w w' := by
  have K : ∀ (v : Value), SeqV w v ws → ∀ W, Below w.heap.size w W → ∀ (i : Nat) (x : Nt), ws[i]? = some x → ∃ b off c, v = .slice (some ⟨b, off, none⟩) ws.length c ∧ b < w.heap.size ∧ RowAt W b off (cellsL ws) := by
    intro v hv W hW i x hx
    obtain ⟨b, off, c, e, hb, hr, _, _⟩ := seq_row hv (by intro h0; rw [h0] at hx; simp at hx)
    exact ⟨b, off, c, e, hb, hr.kept hW hb⟩
  have K1 := hide (K va ha)
  have K2 := hide (K vb hb)
  obtain ⟨aa, ac, rfl⟩ := seq_slice ha
  obtain ⟨ba, bc, rfl⟩ := seq_slice hb
  clear ha hb K
  go_enter Tryz.func24, Tryz.ntmps24
  go_wp2_with fail
  go_loopg [13] ws.length (fun kx s13 wr => ∃ k : Nat, s13 = .int .i64 k ∧ k ≤ ws.length ∧ ws.length - k ≤ kx ∧ Hid (Below w.heap.size w wr))
  case atStart => exact ⟨0, rfl, Nat.zero_le _, Nat.le_refl _, hide (Below.refl _ _)⟩
  case round =>
    obtain ⟨k, rfl, hk, hg, hB⟩ := hrel
    by_cases hlt : k < ws.length
    · obtain ⟨x, hx⟩ : ∃ x, ws[k]? = some x := ⟨_, List.getElem?_eq_getElem hlt⟩
      obtain ⟨b1, o1, cc1, he, hb1, q1⟩ := unhide K1 wr (unhide hB) k x hx
      simp only [Value.slice.injEq] at he
      obtain ⟨rfl, _, rfl⟩ := he
      obtain ⟨b2, o2, cc2, he, hb2, q2⟩ := unhide K2 wr (unhide hB) k x hx
      simp only [Value.slice.injEq] at he
      obtain ⟨rfl, _, rfl⟩ := he
      have d0 := q1.t0 hx
      have d1 := q1.t1 hx
      have d2 := q1.t2 hx
      have r0 := q2.t0 hx
      have r1 := q2.t1 hx
      have r2 := q2.t2 hx
      have hlti : (k : Int) < (ws.length : Int) := by omega
      clear q1 q2 hx
      go_wp2_with fail
      go_region
      go_wp2_with fail
      go_roundg (ws.length - (k + 1))
      case measure => omega
      case rel => exact ⟨k + 1, rfl, by omega, Nat.le_refl _, hide (nnext (unhide hB) (Below.refl _ _).drew)⟩
    · obtain rfl : k = ws.length := by omega
      go_wp2_with fail
      go_ret
      exact ⟨rfl, unhide hB⟩

end Go.Proofs.YtaoflcmeiaffjaaGreatDoor
