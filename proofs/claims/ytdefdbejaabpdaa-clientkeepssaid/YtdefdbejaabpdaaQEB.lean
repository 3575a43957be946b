/-
  Copies of entries: slices.Clone, client.own: the walks.
  What client.copied answers: the walk.
  What client.find answers, with slices.BinarySearchFunc's own text: the walks.
  Copies of runs: the builtin's own laws, whatever the elements are.
  What slices.Insert of one answers, into a row of the call's own of entries: the walks.
  Rows of the call's own, whatever their elements are: their heads, their values.
-/
import Derived.Test.YtdefdbejaabpdaaQEA
import Derived.Test.YtdefdbejaabpdaaShelf
import Derived.Lib.SliceRun
import Derived.Lib.QuietBelow
import Derived.BigQuiet
import Derived.Laws.IdiomCopy
import Derived.Lib.AppendZeros
import Derived.Lib.JoinLaws
import Derived.Deep.RegionHeld3
import Derived.Deep.RegionLaw
import Derived.Lib.AppendZerosOnto
import Derived.Lib.Overlaps
import Derived.Laws.Externs
import Derived.Maps.AppendAt
namespace Go.Proofs.Ytdefdbejaabpdaa
open Go.RowKit
set_option maxRecDepth 10000 in

set_option maxHeartbeats 400000 in
theorem sclone1_any (s : List UInt8) (w : World) (hs : s.length ≤ 281474976710656) :
    Calls Try.prog 38 #[.string ⟨s.toArray⟩] w fun e w' => e = .returned (.string ⟨s.toArray⟩) ∧ Below w.heap.size w w' := by
  have C := fun W => Try.stringslite_Clone ⟨s.toArray⟩ W (show (ByteArray.mk s.toArray).size ≤ _ from hs)
  go_enter Try.func38, Try.ntmps38
  go_wp2_with fail
  refine (C _).mono ?_
  rintro e w1 ⟨rfl, hb1⟩
  go_wp2_with fail
  go_ret
  exact ⟨rfl, hb1⟩

set_option maxRecDepth 10000 in
set_option maxHeartbeats 2000000 in
theorem clC_some (a : Addr) (cap : Nat) (xs : List En) (w : World) (hl : xs.length * 40 ≤ 140737488355328) (hc : ∀ j u, (cellsL xs)[j]? = some u → w.cell? (a.add j) = some u) :
    Calls Try.prog 32 #[.slice (some a) xs.length cap] w fun e w' => ∃ v', e = .returned v' ∧ OwnS w' w.heap.size v' xs ∧ Below w.heap.size w w' := by
  have q22 : ∀ (w : World) (a : Option Addr) (n c n' c' : Nat), (binOp .eql 22 (.slice a n c) (.slice none n' c')).run Try.prog w = .ok (.bool a.isNone) w := fun w a n c n' c' => Lib.run_eql_slice_nil w _ _ a n c n' c' Try.underlying22
  have H := hide hc
  clear hc
  obtain ⟨i0, hi0, hz0, hz1, hz2⟩ := cinfo
  go_enter Try.func32, Try.ntmps32
  go_wp2_with (at_builtin; refine wpList_append_own _ rfl _ _ 22 rfl w.heap.size 36 i0 _ 3 40 Try.underlying22 hi0 hz0 hz1 hz2 rfl (by decide) _ _ _ rfl (World.ownsRow_made w #[] 0 (Nat.le_refl _) (Nat.zero_le _) (by simp)) a xs.length cap (cellsL xs) rfl ?qc1 ?qc2 ?qc3 ?qc4 ?qc5 ?qc6 ?_)
  case qc1 => exact cellsL_length xs
  case qc2 =>
    intro j u hj
    exact Lib.cell?_alloc_some _ (unhide H j u hj)
  case qc3 => exact cellsL_one xs
  case qc4 => simp only [maxLen]; omega
  case qc5 => omega
  case qc6 => simp
  intro v' w1 hown hgrow hnil
  go_wp2
  go_ret
  refine ⟨v', rfl, OwnS.of_row (by first | exact hown | (simp only [List.nil_append, Nat.zero_add] at hown; exact hown) | simpa using hown), ?_⟩
  exact ((Below.refl _ w).alloc (Nat.le_refl _) _).grown hgrow (by simp) (by intro k hk; simp [Value.ownBlock] at hk; omega)

set_option maxRecDepth 10000 in
set_option maxHeartbeats 400000 in
theorem clC_nil (n c : Nat) (w : World) :
    Calls Try.prog 32 #[.slice none n c] w fun e w' => e = .returned (.slice none 0 0) ∧ w' = w := by
  have q22 : ∀ (w : World) (a : Option Addr) (n c n' c' : Nat), (binOp .eql 22 (.slice a n c) (.slice none n' c')).run Try.prog w = .ok (.bool a.isNone) w := fun w a n c n' c' => Lib.run_eql_slice_nil w _ _ a n c n' c' Try.underlying22
  go_enter Try.func32, Try.ntmps32
  go_wp2
  go_ret
  exact ⟨rfl, rfl⟩

theorem clC_any (v : Value) (xs : List En) (w : World) (hv : SeqV w v xs) (hl : xs.length * 40 ≤ 140737488355328) :
    Calls Try.prog 32 #[v] w fun e w' => ∃ v', e = .returned v' ∧ OwnS w' w.heap.size v' xs ∧ Below w.heap.size w w' := by
  rcases hv with ⟨a, cap, rfl, rfl, _⟩ | ⟨b, off, cap, rfl, _, _, hb, _, hr⟩
  · cases a with
    | none => exact (clC_nil 0 cap w).mono fun e w' ⟨he, hw⟩ => ⟨_, he, .inl ⟨rfl, rfl⟩, by rw [hw]; exact Below.refl _ _⟩
    | some a => exact clC_some a cap [] w (by simp) (fun j u h => by simp [cellsL] at h)
  · exact clC_some ⟨b, off, none⟩ cap xs w hl (fun j u h => by rw [Addr.add_lit]; exact hr j u h)

set_option maxRecDepth 10000 in
set_option maxHeartbeats 2000000 in
theorem ownC_any (x : En) (w : World) (hp : x.p.length ≤ 140737488355328) (hd : x.d.length ≤ 140737488355328) :
    Calls Try.prog 26 #[.agg #[.string ⟨x.p.toArray⟩, .string ⟨x.d.toArray⟩, .bool x.t]] w fun e w' => e = .returned (.agg #[.string ⟨x.p.toArray⟩, .string ⟨x.d.toArray⟩, .bool x.t]) ∧ Below w.heap.size w w' := by
  obtain ⟨xp, xd, xt⟩ := x
  simp only at *
  have Kp := fun W => sclone1_any xp W (by omega)
  have Kd := fun W => sclone1_any xd W (by omega)
  go_enter Try.func26, Try.ntmps26
  go_wp2_with fail
  have hB0 : Below w.heap.size w ((w.alloc (.cells #[.string ⟨xp.toArray⟩, .string ⟨xd.toArray⟩, .bool xt] 36)).alloc (.cells #[.string ⟨#[]⟩, .string ⟨#[]⟩, .bool false] 36)) := nnext (allocB _ _) (allocB _ _)
  have hz0 : ((w.alloc (.cells #[.string ⟨xp.toArray⟩, .string ⟨xd.toArray⟩, .bool xt] 36)).alloc (.cells #[.string ⟨#[]⟩, .string ⟨#[]⟩, .bool false] 36)).heap.size = w.heap.size + 2 := by simp
  have p0 : ((w.alloc (.cells #[.string ⟨xp.toArray⟩, .string ⟨xd.toArray⟩, .bool xt] 36)).alloc (.cells #[.string ⟨#[]⟩, .string ⟨#[]⟩, .bool false] 36)).cell? ⟨w.heap.size, 0, none⟩ = some (.string ⟨xp.toArray⟩) := by simp
  have r0 : ((w.alloc (.cells #[.string ⟨xp.toArray⟩, .string ⟨xd.toArray⟩, .bool xt] 36)).alloc (.cells #[.string ⟨#[]⟩, .string ⟨#[]⟩, .bool false] 36)).cell? ⟨w.heap.size + 1, 0, none⟩ = some (.string ⟨#[]⟩) := by simp
  have p1 : ((w.alloc (.cells #[.string ⟨xp.toArray⟩, .string ⟨xd.toArray⟩, .bool xt] 36)).alloc (.cells #[.string ⟨#[]⟩, .string ⟨#[]⟩, .bool false] 36)).cell? ⟨w.heap.size, 1, none⟩ = some (.string ⟨xd.toArray⟩) := by simp
  have r1 : ((w.alloc (.cells #[.string ⟨xp.toArray⟩, .string ⟨xd.toArray⟩, .bool xt] 36)).alloc (.cells #[.string ⟨#[]⟩, .string ⟨#[]⟩, .bool false] 36)).cell? ⟨w.heap.size + 1, 1, none⟩ = some (.string ⟨#[]⟩) := by simp
  have p2 : ((w.alloc (.cells #[.string ⟨xp.toArray⟩, .string ⟨xd.toArray⟩, .bool xt] 36)).alloc (.cells #[.string ⟨#[]⟩, .string ⟨#[]⟩, .bool false] 36)).cell? ⟨w.heap.size, 2, none⟩ = some (.bool xt) := by simp
  have r2 : ((w.alloc (.cells #[.string ⟨xp.toArray⟩, .string ⟨xd.toArray⟩, .bool xt] 36)).alloc (.cells #[.string ⟨#[]⟩, .string ⟨#[]⟩, .bool false] 36)).cell? ⟨w.heap.size + 1, 2, none⟩ = some (.bool false) := by simp
  have pf : ∀ j, ((w.alloc (.cells #[.string ⟨xp.toArray⟩, .string ⟨xd.toArray⟩, .bool xt] 36)).alloc (.cells #[.string ⟨#[]⟩, .string ⟨#[]⟩, .bool false] 36)).frozen? ⟨w.heap.size, j, none⟩ = false := by intro j; simp
  have rf : ∀ j, ((w.alloc (.cells #[.string ⟨xp.toArray⟩, .string ⟨xd.toArray⟩, .bool xt] 36)).alloc (.cells #[.string ⟨#[]⟩, .string ⟨#[]⟩, .bool false] 36)).frozen? ⟨w.heap.size + 1, j, none⟩ = false := by intro j; simp
  generalize (w.alloc (.cells #[.string ⟨xp.toArray⟩, .string ⟨xd.toArray⟩, .bool xt] 36)).alloc (.cells #[.string ⟨#[]⟩, .string ⟨#[]⟩, .bool false] 36) = W0 at *
  have d0 : ∀ d os, (Sort.grow (redrawn W0 d) os).cell? ⟨w.heap.size, 0, none⟩ = some (.string ⟨xp.toArray⟩) := fun d os => cell_regrown p0 d os
  have g0 : ∀ d os, (Sort.grow (redrawn W0 d) os).frozen? ⟨w.heap.size, 0, none⟩ = false := fun d os => by rw [(below_regrown W0 d os).frozen (p := ⟨w.heap.size, 0, none⟩) (by simp only; omega)]; exact pf 0
  have s0 : ∀ d os, (Sort.grow (redrawn W0 d) os).setCell ⟨w.heap.size, 0, none⟩ (.string ⟨xp.toArray⟩) = Sort.grow (redrawn W0 d) os := fun d os => nset_same (d0 d os)
  have c0 := fun d os => Calls.regrown_of (w := W0) (d := d) (os := os) (Kp _)
  have d1 : ∀ d os, (Sort.grow (redrawn W0 d) os).cell? ⟨w.heap.size, 1, none⟩ = some (.string ⟨xd.toArray⟩) := fun d os => cell_regrown p1 d os
  have g1 : ∀ d os, (Sort.grow (redrawn W0 d) os).frozen? ⟨w.heap.size, 1, none⟩ = false := fun d os => by rw [(below_regrown W0 d os).frozen (p := ⟨w.heap.size, 1, none⟩) (by simp only; omega)]; exact pf 1
  have s1 : ∀ d os, (Sort.grow (redrawn W0 d) os).setCell ⟨w.heap.size, 1, none⟩ (.string ⟨xd.toArray⟩) = Sort.grow (redrawn W0 d) os := fun d os => nset_same (d1 d os)
  have c1 := fun d os => Calls.regrown_of (w := W0) (d := d) (os := os) (Kd _)
  refine wp_region_quiet_below (by kernel_rfl) (by kernel_rfl) ?_
  repeat (first | go_big_quiet_step (first | with_reducible exact c0 _ _ | with_reducible exact c1 _ _) | quiet_step (first | with_reducible exact c0 _ _ | with_reducible exact c1 _ _))
  refine wpQuiet_nil ?_
  intro _ hw'
  obtain ⟨⟨dq, osq⟩, hw''⟩ := hw'
  subst hw''
  have hb1 := below_regrown W0 dq osq
  have hB := nnext hB0 hb1
  have e0 := (hb1.cell (p := ⟨w.heap.size, 0, none⟩) (by simp only; omega)).trans p0
  have u0 := (hb1.cell (p := ⟨w.heap.size + 1, 0, none⟩) (by simp only; omega)).trans r0
  have v0 := (hb1.frozen (p := ⟨w.heap.size + 1, 0, none⟩) (by simp only; omega)).trans (rf 0)
  have e1 := (hb1.cell (p := ⟨w.heap.size, 1, none⟩) (by simp only; omega)).trans p1
  have u1 := (hb1.cell (p := ⟨w.heap.size + 1, 1, none⟩) (by simp only; omega)).trans r1
  have v1 := (hb1.frozen (p := ⟨w.heap.size + 1, 1, none⟩) (by simp only; omega)).trans (rf 1)
  have e2 := (hb1.cell (p := ⟨w.heap.size, 2, none⟩) (by simp only; omega)).trans p2
  have u2 := (hb1.cell (p := ⟨w.heap.size + 1, 2, none⟩) (by simp only; omega)).trans r2
  have v2 := (hb1.frozen (p := ⟨w.heap.size + 1, 2, none⟩) (by simp only; omega)).trans (rf 2)
  generalize Sort.grow (redrawn W0 dq) osq = w1 at *
  clear hb1 hB0 hz0 pf rf p0 r0 p1 r1 p2 r2 d0 g0 s0 c0 Kp d1 g1 s1 c1 Kd
  go_wp2_with fail
  refine bodyPost_ret (v := .agg #[.string ⟨xp.toArray⟩, .string ⟨xd.toArray⟩, .bool xt]) (by simp [results, Try.results26, go_sem, u0, u1, u2]) rfl ⟨rfl, ?_⟩
  exact (((hB.setCell (by simp) _).setCell (by simp) _).setCell (by simp) _)
end Go.Proofs.Ytdefdbejaabpdaa

namespace Go.Proofs.Ytdefdbejaabpdaa
open Go.RowKit

set_option maxRecDepth 10000 in
set_option maxHeartbeats 2000000 in
theorem ccopied_any (s z : Int) (v : Value) (es : List En) (w : World) (hv : SeqV w v es) (hs : ShortC es) (hl : es.length * 40 ≤ 140737488355328) :
    Calls Try.prog 23 #[clV s z v] w fun e w' => ∃ v', e = .returned (clV s z v') ∧ OwnS w' w.heap.size v' es ∧ Below w.heap.size w w' := by
  have CC := fun W (hW : Below w.heap.size w W) => clC_any v es W (hv.next hW) hl
  have HO : Hid (∀ x ∈ es, ∀ W, Calls Try.prog 26 #[.agg #[.string ⟨x.p.toArray⟩, .string ⟨x.d.toArray⟩, .bool x.t]] W fun e w' => e = .returned (.agg #[.string ⟨x.p.toArray⟩, .string ⟨x.d.toArray⟩, .bool x.t]) ∧ Below W.heap.size W w') := hide fun x hm W => ownC_any x W (hs x hm).1 (hs x hm).2
  obtain ⟨a, c, rfl⟩ := seq_slice hv
  unfold clV
  clear hv hs
  go_enter Try.func23, Try.ntmps23
  go_wp2_with fail
  refine (CC _ (nnext (allocB _ _) (allocB _ _))).mono ?_
  rintro e w1 ⟨v', rfl, ho, hb1⟩
  have HB1 := hide (nnext (nnext (allocB w _) (allocB _ _)) hb1)
  have X1 := ((CBox.new w s z (.slice a es.length c)).next (allocB _ (.cells #[.int .i64 0, .int .i64 0, .slice none 0 0] 24))).next hb1
  have X2 := (CBox.new (w.alloc (.cells #[.int .i64 s, .int .i64 z, .slice a es.length c] 24)) 0 0 (.slice none 0 0)).next hb1
  have hs1 : (w.alloc (.cells #[.int .i64 s, .int .i64 z, .slice a es.length c] 24)).heap.size = w.heap.size + 1 := by simp
  rw [hs1] at X2
  have hz1 : w.heap.size + 2 ≤ w1.heap.size := by have := hb1.size; simpa using this
  have c2 := X1.c2
  have f2 := X1.fr 2
  have Y1 := X1.set2 (v' := v')
  have Y2 := X2.other (a := ⟨w.heap.size, 2, none⟩) (by simp) v'
  rcases ho with ⟨rfl, rfl⟩ | ⟨g, cap, rfl, hg, ho⟩
  · clear CC hb1 X1 X2
    have HY1 := hide Y1
    have HY2 := hide Y2
    clear Y1 Y2
    go_wp2_with fail
    go_loopg [12] 1 (fun _ s wr => s = .int .i64 0 ∧ wr = w1.setCell ⟨w.heap.size, 2, none⟩ (.slice none 0 0))
    case atStart => exact ⟨rfl, rfl⟩
    case round =>
      obtain ⟨rfl, rfl⟩ := hrel
      have q0 := (unhide HY1).c0
      have q1 := (unhide HY1).c1
      have q2 := (unhide HY1).c2
      have r0 := (unhide HY2).c0
      have r1 := (unhide HY2).c1
      have r2 := (unhide HY2).c2
      have t0 := (unhide HY2).fr 0
      have t1 := (unhide HY2).fr 1
      have t2 := (unhide HY2).fr 2
      have HB2 := hide ((unhide HB1).setCell (p := ⟨w.heap.size, 2, none⟩) (Nat.le_refl _) (.slice none 0 0))
      generalize w1.setCell ⟨w.heap.size, 2, none⟩ (.slice none 0 0) = W at *
      go_wp2_with fail
      refine bodyPost_ret (v := .agg #[.int .i64 s, .int .i64 z, .slice none 0 0]) (by simp [results, Try.results23, go_sem, r0, r1, r2]) rfl ⟨_, rfl, .inl ⟨rfl, rfl⟩, ?_⟩
      exact (((unhide HB2).setCell (by simp) _).setCell (by simp) _).setCell (by simp) _
  · have hgl := ho.lt
    have hg2 : w.heap.size + 2 ≤ g := by simpa using hg
    have HW := hide (ho.other (a := ⟨w.heap.size, 2, none⟩) (by simp only; omega) (.slice (some ⟨g, 0, none⟩) es.length cap))
    have HY1 := hide Y1
    have HY2 := hide Y2
    have HB2 := hide ((unhide HB1).setCell (p := ⟨w.heap.size, 2, none⟩) (Nat.le_refl _) (.slice (some ⟨g, 0, none⟩) es.length cap))
    have hzs : (w1.setCell ⟨w.heap.size, 2, none⟩ (.slice (some ⟨g, 0, none⟩) es.length cap)).heap.size = w1.heap.size := by simp [World.setCell]
    clear ho CC hb1 X1 X2 Y1 Y2 hg
    go_wp2_with fail
    generalize w1.setCell ⟨w.heap.size, 2, none⟩ (.slice (some ⟨g, 0, none⟩) es.length cap) = W at *
    go_loopg [12] es.length (fun kx s wr => ∃ k : Nat, s = .int .i64 k ∧ k ≤ es.length ∧ es.length - k ≤ kx ∧ Hid (Below W.heap.size W wr))
    case atStart => exact ⟨0, rfl, Nat.zero_le _, by omega, hide (Below.refl _ _)⟩
    case round =>
      obtain ⟨k, rfl, hk, hkx, hB⟩ := hrel
      have Z1 := (unhide HY1).next (unhide hB)
      by_cases hlt : k < es.length
      · obtain ⟨x, hx⟩ : ∃ x, es[k]? = some x := ⟨_, List.getElem?_eq_getElem hlt⟩
        have o := (unhide HW).next (unhide hB)
        have hgl2 := o.lt
        have a0 := o.row.en0 hx
        have a1 := o.row.en1 hx
        have a2 := o.row.en2 hx
        simp only [Nat.zero_add] at a0 a1 a2
        have CX := unhide HO x (List.mem_of_getElem? hx)
        have hzr := (unhide hB).size
        obtain ⟨yp, yd, yt⟩ := x
        simp only at a0 a1 a2 CX
        have N1 := one_newC wr ⟨yp, yd, yt⟩
        simp only at N1
        have O2 := o.next (allocB wr (.cells #[.string ⟨yp.toArray⟩, .string ⟨yd.toArray⟩, .bool yt] 36))
        have b2 := (Z1.next (allocB wr (.cells #[.string ⟨yp.toArray⟩, .string ⟨yd.toArray⟩, .bool yt] 36))).c2
        have p0 := N1.e0
        have p1 := N1.e1
        have p2 := N1.e2
        have r0 := O2.row.en0 hx
        have r1 := O2.row.en1 hx
        have r2 := O2.row.en2 hx
        have rf := O2.frozen
        have hg3 := O2.lt
        simp only [Nat.zero_add] at r0 r1 r2 p0 p1 p2
        have HB3 := hide (nnext (unhide hB) (allocB wr (.cells #[.string ⟨yp.toArray⟩, .string ⟨yd.toArray⟩, .bool yt] 36)))
        clear hx o O2 N1 Z1
        go_wp2_with fail
        generalize wr.alloc (.cells #[.string ⟨yp.toArray⟩, .string ⟨yd.toArray⟩, .bool yt] 36) = W0 at *
        have b2' := fun d os => cell_regrown b2 d os
        have p0' := fun d os => cell_regrown p0 d os
        have p1' := fun d os => cell_regrown p1 d os
        have p2' := fun d os => cell_regrown p2 d os
        have r0' := fun d os => cell_regrown r0 d os
        have r1' := fun d os => cell_regrown r1 d os
        have r2' := fun d os => cell_regrown r2 d os
        have t0 : ∀ d os, (Sort.grow (redrawn W0 d) os).frozen? ⟨g, k * 3, none⟩ = false := fun d os => by rw [(below_regrown W0 d os).frozen (p := ⟨g, k * 3, none⟩) hg3]; exact rf _
        have t1 : ∀ d os, (Sort.grow (redrawn W0 d) os).frozen? ⟨g, k * 3 + 1, none⟩ = false := fun d os => by rw [(below_regrown W0 d os).frozen (p := ⟨g, k * 3 + 1, none⟩) hg3]; exact rf _
        have t2 : ∀ d os, (Sort.grow (redrawn W0 d) os).frozen? ⟨g, k * 3 + 2, none⟩ = false := fun d os => by rw [(below_regrown W0 d os).frozen (p := ⟨g, k * 3 + 2, none⟩) hg3]; exact rf _
        have s0 := fun d os => nset_same (r0' d os)
        have s1 := fun d os => nset_same (r1' d os)
        have s2 := fun d os => nset_same (r2' d os)
        have c0 := fun d os => Calls.regrown_of (w := W0) (d := d) (os := os) (CX _)
        clear rf p0 p1 p2 r0 r1 r2 b2
        refine wp_region_quiet_below (by kernel_rfl) (by kernel_rfl) ?_
        repeat (first | go_big_quiet_step (with_reducible exact c0 _ _) | quiet_step (with_reducible exact c0 _ _))
        refine wpQuiet_nil ?_
        intro _ hw'
        obtain ⟨⟨dq, osq⟩, hw''⟩ := hw'
        subst hw''
        have hB2 := hide (nnext (unhide HB3) (below_regrown W0 dq osq))
        generalize Sort.grow (redrawn W0 dq) osq = w2 at *
        clear b2' p0' p1' p2' r0' r1' r2' t0 t1 t2 s0 s1 s2 c0 CX
        go_wp2_with fail
        go_roundg (es.length - (k + 1))
        case measure => omega
        case rel => exact ⟨k + 1, rfl, by omega, Nat.le_refl _, hB2⟩
      · have Z2 := (unhide HY2).next (unhide hB)
        have q0 := Z1.c0
        have q1 := Z1.c1
        have q2 := Z1.c2
        have r0 := Z2.c0
        have r1 := Z2.c1
        have r2 := Z2.c2
        have t0 := Z2.fr 0
        have t1 := Z2.fr 1
        have t2 := Z2.fr 2
        have O2 := (unhide HW).next (unhide hB)
        clear Z1 Z2
        go_wp2_with fail
        refine bodyPost_ret (v := .agg #[.int .i64 s, .int .i64 z, .slice (some ⟨g, 0, none⟩) es.length cap]) (by simp [results, Try.results23, go_sem, r0, r1, r2]) rfl ⟨_, rfl, .inr ⟨g, cap, rfl, by omega, ?_⟩, ?_⟩
        · exact ((O2.other (by simp only; omega) _).other (by simp only; omega) _).other (by simp only; omega) _
        · exact (((nnext (unhide HB2) (unhide hB)).setCell (by simp) _).setCell (by simp) _).setCell (by simp) _
end Go.Proofs.Ytdefdbejaabpdaa

namespace Go.Proofs.Ytdefdbejaabpdaa
open Go.RowKit
set_option maxRecDepth 10000 in

set_option maxHeartbeats 400000 in
theorem ecmp_any (n : En) (p : List UInt8) (w : World) :
    Calls Try.prog 34 #[enV n, .string ⟨p.toArray⟩] w fun e w' => e = .returned (.int .i64 (Lib.compareBytes n.p p)) ∧ Below w.heap.size w w' := by
  unfold enV
  go_enter Try.func34, Try.ntmps34
  go_wp2_with fail
  refine (Try.strings_Compare _ _ _).mono ?_
  rintro e w1 ⟨rfl, rfl⟩
  go_wp2_with fail
  go_ret
  exact ⟨rfl, allocB _ _⟩

def headE (R : List En) (p : List UInt8) : Bool := match R with
  | [] => false
  | f :: _ => decide (f.p = p)
theorem esplit_get (A R : List En) (p : List UInt8) (lo : ∀ a ∈ A, bl a.p p = true) (hi : ∀ a ∈ R, bl a.p p = false) (i : Nat) (h : i < A.length + R.length) : ∃ y, (A ++ R)[i]? = some y ∧ bl y.p p = decide (i < A.length) := by
  by_cases h1 : i < A.length
  · refine ⟨A[i], by rw [List.getElem?_append_left h1, List.getElem?_eq_getElem h1], ?_⟩
    rw [lo _ (List.getElem_mem h1)]; simp [h1]
  · have h2 : i - A.length < R.length := by omega
    refine ⟨R[i - A.length], by rw [List.getElem?_append_right (by omega), List.getElem?_eq_getElem h2], ?_⟩
    rw [hi _ (List.getElem_mem h2)]; simp [h1]

set_option maxRecDepth 20000 in
set_option maxHeartbeats 1000000 in
theorem ebsf_any (b off cap : Nat) (A R : List En) (p : List UInt8) (w : World) (hcap : A.length + R.length ≤ 100000) (hb : b < w.heap.size) (h : RowAt w b off (cellsL (A ++ R)))
    (lo : ∀ a ∈ A, bl a.p p = true) (hi : ∀ a ∈ R, bl a.p p = false) :
    Calls Try.prog 33 #[.slice (some ⟨b, off, none⟩) (A.length + R.length) cap, .string ⟨p.toArray⟩, .func (.func 34) #[] #[]] w fun e w' =>
      e = .returned (.tuple #[.int .i64 A.length, .bool (headE R p)]) ∧ Below w.heap.size w w' := by
  have H := hide h
  have SG := hide (esplit_get A R p lo hi)
  obtain ⟨fin, hfin⟩ : ∃ x, headE R p = x := ⟨_, rfl⟩
  have HF := hide hfin
  rw [hfin]
  clear h hfin lo hi
  go_enter Try.func33, Try.ntmps33
  go_wp2_with fail
  go_loopg [9, 10] (A.length + R.length) (fun kx s9 s10 wr => ∃ lo hi : Nat, s9 = .int .i64 lo ∧ s10 = .int .i64 hi ∧ lo ≤ A.length ∧ A.length ≤ hi ∧ hi ≤ A.length + R.length ∧ hi - lo ≤ kx ∧ Hid (Below w.heap.size w wr))
  case atStart => exact ⟨0, A.length + R.length, rfl, rfl, Nat.zero_le _, by omega, Nat.le_refl _, by omega, hide (Below.refl _ _)⟩
  case round =>
    obtain ⟨lo, hi, rfl, rfl, h1, h2, h3, hg, hB⟩ := hrel
    by_cases hlt : lo < hi
    · obtain ⟨y, hy, hyn⟩ := unhide SG ((lo + hi) / 2) (by omega)
      have HY := hide hyn
      have r := (unhide H).kept (unhide hB) hb
      have e0 := r.en0 hy
      have e1 := r.en1 hy
      have e2 := r.en2 hy
      clear hyn hy r
      have hc := cmp_bl y.p p
      rw [unhide HY] at hc
      have CM := fun W => ecmp_any y p W
      generalize Lib.compareBytes y.p p = cv at hc CM
      by_cases hm : (lo + hi) / 2 < A.length
      · have hn : cv < 0 := by simpa [hm] using hc
        clear hc
        go_wp2_with fail
        refine (CM _).mono ?_
        rintro e w1 ⟨rfl, hb1⟩
        have hB2 : Below w.heap.size w w1 := (unhide hB).trans (hb1.mono (unhide hB).size)
        clear CM
        go_wp2_with fail
        go_roundg (hi - ((lo + hi) / 2 + 1))
        case measure => omega
        case rel => exact ⟨(lo + hi) / 2 + 1, hi, by rw [show ((lo : Int) + (hi : Int)) / 2 + 1 = (((lo + hi) / 2 + 1 : Nat) : Int) by omega], rfl, by omega, h2, h3, Nat.le_refl _, hide hB2⟩
      · have hn : ¬ cv < 0 := by simpa [hm] using hc
        clear hc
        go_wp2_with fail
        refine (CM _).mono ?_
        rintro e w1 ⟨rfl, hb1⟩
        have hB2 : Below w.heap.size w w1 := (unhide hB).trans (hb1.mono (unhide hB).size)
        clear CM
        go_wp2_with fail
        go_roundg ((lo + hi) / 2 - lo)
        case measure => omega
        case rel => exact ⟨lo, (lo + hi) / 2, rfl, by rw [show ((lo : Int) + (hi : Int)) / 2 = (((lo + hi) / 2 : Nat) : Int) by omega], h1, by omega, by omega, Nat.le_refl _, hide hB2⟩
    · obtain rfl : lo = A.length := by omega
      obtain rfl : hi = A.length := by omega
      cases R with
      | nil =>
        go_wp2_with fail
        go_ret2
        exact ⟨by rw [← unhide HF]; rfl, unhide hB⟩
      | cons f R =>
        have r := (unhide H).kept (unhide hB) hb
        have hy : (A ++ f :: R)[A.length]? = some f := by simp
        have e0 := r.en0 hy
        have e1 := r.en1 hy
        have e2 := r.en2 hy
        clear hy r
        have hc := cmp_zero f.p p
        have CM := fun W => ecmp_any f p W
        have hf : fin = decide (f.p = p) := (unhide HF).symm
        rw [← hc] at hf
        clear hc HF
        generalize Lib.compareBytes f.p p = cv at hf CM
        subst hf
        simp only [List.length_cons]
        go_wp2_with fail
        refine (CM _).mono ?_
        rintro e w1 ⟨rfl, hb1⟩
        have hB2 : Below w.heap.size w w1 := (unhide hB).trans (hb1.mono (unhide hB).size)
        clear CM
        go_wp2_with fail
        go_ret2
        exact ⟨by rfl, hB2⟩

set_option maxRecDepth 10000 in
set_option maxHeartbeats 400000 in
theorem ebsf_none (a : Option Addr) (cap : Nat) (p : List UInt8) (w : World) :
    Calls Try.prog 33 #[.slice a 0 cap, .string ⟨p.toArray⟩, .func (.func 34) #[] #[]] w fun e w' =>
      e = .returned (.tuple #[.int .i64 0, .bool false]) ∧ Below w.heap.size w w' := by
  go_enter Try.func33, Try.ntmps33
  go_wp2_with fail
  go_loopg [9, 10] 1 (fun _ s9 s10 wr => s9 = .int .i64 0 ∧ s10 = .int .i64 0 ∧ Hid (Below w.heap.size w wr))
  case atStart => exact ⟨rfl, rfl, hide (Below.refl _ _)⟩
  case round =>
    obtain ⟨rfl, rfl, hB⟩ := hrel
    go_wp2_with fail
    go_ret2
    exact ⟨rfl, unhide hB⟩

set_option maxRecDepth 10000 in
set_option maxHeartbeats 400000 in
theorem efind_split (v : Value) (ns A R : List En) (p : List UInt8) (w : World) (hv : SeqV w v ns) (hl : ns.length ≤ 100000) (he : ns = A ++ R) (lo : ∀ a ∈ A, bl a.p p = true) (hi : ∀ a ∈ R, bl a.p p = false) :
    Calls Try.prog 24 #[v, .string ⟨p.toArray⟩] w fun e w' => e = .returned (.tuple #[.int .i64 A.length, .bool (headE R p)]) ∧ Below w.heap.size w w' := by
  have C : ∀ W : World, Below w.heap.size w W → Calls Try.prog 33 #[v, .string ⟨p.toArray⟩, .func (.func 34) #[] #[]] W fun e w' =>
      e = .returned (.tuple #[.int .i64 A.length, .bool (headE R p)]) ∧ Below W.heap.size W w' := fun W hW => by
    rcases hv with ⟨a, cap, rfl, h0, _⟩ | ⟨b, off, cap, rfl, _, _, hb, _, hr⟩
    · rw [h0] at he
      obtain ⟨rfl, rfl⟩ : A = [] ∧ R = [] := by
        have := congrArg List.length he
        simp at this
        exact ⟨List.eq_nil_of_length_eq_zero (by omega), List.eq_nil_of_length_eq_zero (by omega)⟩
      exact ebsf_none a cap p W
    · subst he
      rw [List.length_append]
      exact ebsf_any b off cap A R p W (by simpa using hl) (Nat.lt_of_lt_of_le hb hW.size) (hr.kept hW hb) lo hi
  have C' := hide C
  obtain ⟨a, c, rfl⟩ := seq_slice hv
  clear C hv hl he lo hi
  generalize headE R p = hd at C' ⊢
  go_enter Try.func24, Try.ntmps24
  go_wp2_with fail
  refine (unhide C' _ (Below.refl _ _)).mono ?_
  rintro e w1 ⟨rfl, hb1⟩
  go_wp2_with fail
  go_ret2
  exact ⟨rfl, hb1⟩
theorem efind_there (v : Value) (ns A B : List En) (f : En) (p : List UInt8) (w : World) (hv : SeqV w v ns) (hl : ns.length ≤ 100000) (T : EThere ns A f B p) :
    Calls Try.prog 24 #[v, .string ⟨p.toArray⟩] w fun e w' => e = .returned (.tuple #[.int .i64 A.length, .bool true]) ∧ Below w.heap.size w w' := by
  have := efind_split v ns A (f :: B) p w hv hl T.eq T.lo (fun a ha => by
    rcases List.mem_cons.1 ha with rfl | h
    · rw [T.nm]; exact bl_irrefl _
    · exact bl_asymm (T.hi a h))
  rwa [show headE (f :: B) p = true from by simp [headE, T.nm]] at this
theorem efind_gap (v : Value) (ns A B : List En) (p : List UInt8) (w : World) (hv : SeqV w v ns) (hl : ns.length ≤ 100000) (G : EGap ns A B p) :
    Calls Try.prog 24 #[v, .string ⟨p.toArray⟩] w fun e w' => e = .returned (.tuple #[.int .i64 A.length, .bool false]) ∧ Below w.heap.size w w' := by
  have := efind_split v ns A B p w hv hl G.eq G.lo (fun a ha => bl_asymm (G.hi a ha))
  rwa [show headE B p = false from by
    cases B with
    | nil => rfl
    | cons f B => have := bl_ne (G.hi f (by simp)); simp [headE, this.symm]] at this
end Go.Proofs.Ytdefdbejaabpdaa

namespace Go.Proofs.Ytdefdbejaabpdaa
open Go.RowKit

theorem wp_copy_runN (w : World) {o : Oper} {a : Act} {K : Act → World → Prop} {Q : Exit → Act → World → Prop} (d s : Operand) (t t' : TypeId)
    (ho : o.op = .call { callee := .builtin .copy, args := #[d, s], argTypes := #[t, t'] }) (v u : Value) (hd : a.eval d = v) (hs : a.eval s = u) {v' : Value} {w' : World}
    (hr : (Builtin.copy_ #[t, t'] o.type #[v, u]).run Try.prog w = .ok v' w') (h : K (a.put o.dst v') w') : o.wp Try.prog a w K Q := by
  unfold Oper.wp execOp
  simp only [ho, resolve, invoke, builtin, Sem.run_bind, Sem.run_pure, Result.andThen_ok, List.map_toArray, List.map_cons, List.map_nil, hd, hs, hr]
  exact h
theorem wpList_copy_runN (w : World) {ops : Array Oper} {rest : List Oper} {o : Oper} {a : Act} {Q : Exit → Act → World → Prop} (hgd : o.guard = none) (d s : Operand) (t t' : TypeId)
    (ho : o.op = .call { callee := .builtin .copy, args := #[d, s], argTypes := #[t, t'] }) (v u : Value) (hd : a.eval d = v) (hs : a.eval s = u) {v' : Value} {w' : World}
    (hr : (Builtin.copy_ #[t, t'] o.type #[v, u]).run Try.prog w = .ok v' w') (h : wpList Try.prog ops Q rest (a.put o.dst v') w') : wpList Try.prog ops Q (o :: rest) a w :=
  wpList_plain hgd fun _ hK => wp_copy_runN w d s t t' ho v u hd hs hr (hK _ _ h)
theorem step_copy_runN {ops : Array Oper} {o : Oper} {a : Act} {w : World} {K : Act → World → Prop} {Q : Exit → Act → World → Prop} {E : Prop}
    (hg : o.guard = none) (d x : Operand) (dT sT : TypeId) (hop : o.op = Op.call { callee := Callee.builtin Builtin.copy, args := #[d, x], argTypes := #[dT, sT] })
    (v u : Value) (hd : a.eval d = v) (hx : a.eval x = u) {v' : Value} {w' : World} (hr : (Builtin.copy_ #[dT, sT] o.type #[v, u]).run Try.prog w = .ok v' w') (hK : K (a.put o.dst v') w') :
    if Region.wanted o (yielded ops a.tmps) = true then Oper.wp Try.prog o a w K Q else E := by
  have hw : Region.wanted o (yielded ops a.tmps) = true := by simp [Region.wanted, hg]
  rw [if_pos hw]
  unfold Oper.wp
  simp [execOp, hop, resolve, invoke, builtin, hd, hx, hr, Result.andThen]
  exact hK
end Go.Proofs.Ytdefdbejaabpdaa

namespace Go.Proofs.Ytdefdbejaabpdaa
open Go.RowKit

theorem cellsC_length (ns : List En) : (cellsL ns).length = ns.length * 3 := cellsL_length ns
theorem OwnR.spliceC {W : World} {g cap : Nat} {pre tl : List En} (h : OwnR W g cap (pre ++ tl)) (new : List En) (hfit : pre.length + new.length ≤ cap) : OwnR (W.setCells g (pre.length * 3) (cellsL new)) g cap (pre ++ new) := h.splice new hfit
theorem OwnR.swapC {W : World} {g cap : Nat} {A B : List En} {y : En} (h : OwnR W g cap (A ++ y :: B)) (x : En) : OwnR (W.setCells g (A.length * 3) (encells x)) g cap (A ++ x :: B) := h.swap1 x
theorem OwnR.someC {W : World} {g cap : Nat} {fs : List En} (h : OwnR W g cap fs) {j : Nat} (hj : j < cap * 3) : (W.cell? ⟨g, j, none⟩).isSome = true := h.some hj
theorem ccopy3 (w : World) (ty : TypeId) (b o dLen dCap : Nat) (a : Addr) (sLen sCap : Nat) (cs : List Value) (hn : cs.length = Nat.min sLen dLen * 3)
    (hsrc : ∀ j v, cs[j]? = some v → w.cell? (a.add j) = some v) (hc : ∀ j, j < cs.length → (w.cell? ⟨b, o + j, none⟩).isSome = true) (hf : ∀ j, j < cs.length → w.frozen? ⟨b, o + j, none⟩ = false) (h1 : ∀ v ∈ cs, v.oneCell' = true) :
    (Builtin.copy_ #[22, 22] ty #[.slice (some ⟨b, o, none⟩) dLen dCap, .slice (some a) sLen sCap]).run Try.prog w = .ok (goInt (Nat.min sLen dLen)) (w.setCells b o cs) := by
  have hl := run_loadCells_list (P := Try.prog) w a cs hsrc
  have hst := run_storeCells_cells (P := Try.prog) b o cs 0 w (by simpa using hc) (by simpa using hf) h1
  obtain ⟨i0, hi0, hz0, hz1, hz2⟩ := cinfo
  simp [Builtin.copy_, run_underlying Try.underlying22, Builtin.lenOf, Builtin.firstCells, sizeOf, typeInfo, hi0, hz1, ← hn, hl, hst]

set_option maxRecDepth 10000 in
set_option maxHeartbeats 1000000 in
/-- at the end -/
theorem cinsert_end (v : Value) (A : List En) (x : En) (B b : Nat) (w : World) (ho : OwnS w B v A) (hB : B ≤ w.heap.size) (hl : A.length ≤ 400) (h1 : OneR w b x) :
    Calls Try.prog 25 #[v, .int .i64 A.length, .slice (some ⟨b, 0, none⟩) 1 1] w fun e w' =>
      ∃ v', e = .returned v' ∧ OwnS w' B v' (A ++ [x]) ∧ w.grownBy w' v.ownBlock ∧ (v'.ownBlock = v.ownBlock ∨ v'.ownBlock = some w.heap.size) := by
  obtain ⟨i0, hi0, hz0, hz1, hz2⟩ := cinfo
  have hrow := ho.row
  have HR := hide hrow
  have H1 := hide h1.row
  have V : ∃ a c, v = .slice a A.length c ∧ A.length ≤ c := by
    rcases ho with ⟨rfl, rfl⟩ | ⟨g, cap, rfl, _, h⟩
    · exact ⟨none, 0, rfl, Nat.le_refl _⟩
    · exact ⟨_, cap, rfl, h.le⟩
  obtain ⟨a, c, rfl, hc⟩ := V
  clear ho hrow h1
  rcases Nat.lt_or_ge A.length c with hcl | hcl
  · have hne : ¬ c = A.length := by omega
    go_enter Try.func25, Try.ntmps25
    go_wp2_with (at_builtin; refine wpList_append_own_at _ rfl _ _ 22 rfl B 36 i0 _ 3 40 Try.underlying22 hi0 hz0 hz1 hz2 rfl (by decide) _ A.length (cellsL A) rfl (unhide HR) ⟨b, 0, none⟩ 1 1 (encells x) rfl (by rfl) ?qc2 ((Lay.one x)) ?qc4 ?qc5 hB ?_)
    case qc2 =>
      intro j u hj
      rw [Addr.add_lit]
      exact unhide H1 j u hj
    case qc4 => simp only [maxLen]; omega
    case qc5 => omega
    intro v' w1 hown hgrow _ hloc
    go_wp2
    go_ret
    exact ⟨v', rfl, OwnS.of_row (by rw [List.length_append, cellsL_snoc]; exact hown), hgrow, hloc⟩
  · obtain rfl : c = A.length := by omega
    go_enter Try.func25, Try.ntmps25
    go_wp2_with (at_builtin; refine wpList_append_own_at _ rfl _ _ 22 rfl B 36 i0 _ 3 40 Try.underlying22 hi0 hz0 hz1 hz2 rfl (by decide) _ A.length (cellsL A) rfl (unhide HR) ⟨b, 0, none⟩ 1 1 (encells x) rfl (by rfl) ?qc2 ((Lay.one x)) ?qc4 ?qc5 hB ?_)
    case qc2 =>
      intro j u hj
      rw [Addr.add_lit]
      exact unhide H1 j u hj
    case qc4 => simp only [maxLen]; omega
    case qc5 => omega
    intro v' w1 hown hgrow _ hloc
    go_wp2
    go_ret
    exact ⟨v', rfl, OwnS.of_row (by rw [List.length_append, cellsL_snoc]; exact hown), hgrow, hloc⟩

set_option maxRecDepth 10000 in
set_option maxHeartbeats 2000000 in
/-- there is room -/
theorem cinsert_shift (g cap : Nat) (A R : List En) (y x : En) (n b : Nat) (w : World) (ho : OwnR w g cap (A ++ y :: R)) (hn : n = A.length + R.length + 1) (hsm : n ≤ 400) (hroom : n + 1 ≤ cap) (h1 : OneR w b x) (hbg : b ≠ g) :
    Calls Try.prog 25 #[.slice (some ⟨g, 0, none⟩) n cap, .int .i64 A.length, .slice (some ⟨b, 0, none⟩) 1 1] w fun e w' =>
      e = .returned (.slice (some ⟨g, 0, none⟩) (n + 1) cap) ∧ OwnR w' g cap (A ++ x :: y :: R) ∧ w.grownBy w' (some g) := by
  have hcl := ho.capLe
  simp only [maxLen] at hcl
  have hrow := ho.row
  have hshg : w.shape? g = some (36, cap * 3) := by
    obtain ⟨rest, q1, q2, _⟩ := ho
    rw [List.length_append, List.length_cons] at q2
    simp [World.shape?, q1, cellsC_length]
    exact ⟨rfl, q2⟩
  have hshb : w.shape? b = some (36, 3) := by unfold OneR at h1; simp [World.shape?, h1]; exact ⟨rfl, rfl⟩
  have hfb : ∀ j, w.frozen? ⟨b, j, none⟩ = false := fun j => by unfold OneR at h1; simp [World.frozen?, h1]
  have hov : ∀ lb cb, (callFunc 36 #[.slice (some ⟨b, 0, none⟩) 1 1, .slice (some ⟨g, (A.length + 1) * 3, none⟩) lb cb]).run Try.prog w = .ok (.value (.bool false)) w := fun lb cb => by
    rw [run_callFunc_extern Try.func36 (by kernel_rfl) (by kernel_rfl) (by kernel_rfl) (e := Extern.SlicesOverlaps.overlaps #[22, 22] #[4]) (by kernel_rfl),
      Lib.run_overlaps_apart w 22 4 36 Try.underlying22 3 Try.sizeOf36 ⟨b, 0, none⟩ ⟨g, (A.length + 1) * 3, none⟩ 1 1 lb cb hbg 36 36 3 (cap * 3) hshb hshg (by omega) (hfb 0) (hfb 3)]
    rfl
  obtain ⟨W1, hW1⟩ : ∃ W1, W1 = w.drew.setCells g ((A.length + 1) * 3) (cellsL (y :: R)) := ⟨_, rfl⟩
  have ho1 : OwnR W1 g cap (A ++ y :: y :: R) := by
    have h : OwnR w.drew g cap ((A ++ [y]) ++ R) := by rw [List.append_assoc]; exact ho
    have := h.spliceC (y :: R) (by simp; omega)
    rw [hW1]
    simpa using this
  have hg1 : w.grownBy W1 (some g) := by rw [hW1]; have := ngrown_setCells (g := g) (cellsL (y :: R)) ((A.length + 1) * 3) w.drew; exact ⟨this.os, this.tape, this.output, this.size, this.block⟩
  have hcp1 : ∀ ty dc sc, (Builtin.copy_ #[22, 22] ty #[.slice (some ⟨g, (A.length + 1) * 3, none⟩) (n - A.length) dc, .slice (some ⟨g, A.length * 3, none⟩) (n + 1 - A.length) sc]).run Try.prog w.drew = .ok (goInt (Nat.min (n + 1 - A.length) (n - A.length))) W1 := fun ty dc sc => by
    rw [hW1]
    exact ccopy3 w.drew ty g _ _ dc ⟨g, A.length * 3, none⟩ _ sc (cellsL (y :: R)) (by rw [cellsC_length]; simp only [Nat.min_def, List.length_cons]; split <;> omega)
      (fun j v hj => by
        rw [Addr.add_lit]
        have := hrow (A.length * 3 + j) v (by rw [cellsL_append, List.getElem?_append_right (by rw [cellsC_length]; omega), cellsC_length, Nat.add_sub_cancel_left]; exact hj)
        rw [Nat.zero_add] at this
        exact this)
      (fun j hj => by rw [cellsC_length] at hj; exact ho.someC (by simp at hj; omega)) (fun j _ => ho.frozen _) (cellsL_one _)
  have hcp2 : ∀ ty dc, (Builtin.copy_ #[22, 22] ty #[.slice (some ⟨g, A.length * 3, none⟩) (n + 1 - A.length) dc, .slice (some ⟨b, 0, none⟩) 1 1]).run Try.prog W1 = .ok (goInt (Nat.min 1 (n + 1 - A.length))) (W1.setCells g (A.length * 3) (encells x)) := fun ty dc =>
    ccopy3 W1 ty g _ _ dc ⟨b, 0, none⟩ 1 1 (encells x) (by simp only [Nat.min_def, encells, List.length_cons, List.length_nil]; split <;> omega)
      (fun j v hj => by
        rw [Addr.add_lit]
        have hb2 : W1.heap[b]? = w.heap[b]? := hg1.block b (by unfold OneR at h1; exact (Array.getElem?_eq_some_iff.1 h1).1) (fun e => hbg (Option.some.inj e))
        have h2 : OneR W1 b x := hb2.trans h1
        exact h2.row j v hj)
      (fun j hj => ho1.someC (by simp [encells] at hj; omega)) (fun j _ => ho1.frozen _) ((Lay.one x))
  have FIN : Hid (OwnR (W1.setCells g (A.length * 3) (encells x)) g cap (A ++ x :: y :: R) ∧ w.grownBy (W1.setCells g (A.length * 3) (encells x)) (some g)) :=
    ⟨ho1.swapC x, ngrown_trans hg1 (ngrown_setCells _ _ _)⟩
  have hin : A.length < n := by omega
  have hini : (A.length : Int) < (n : Int) := by omega
  have hw1 : IntKind.i64.wrap ((A.length : Int) + 1) = (A.length : Int) + 1 := by rw [IntKind.wrap_i64]; omega
  have hb1 : (0 : Int) ≤ (A.length : Int) + 1 := by omega
  have hb2 : ¬ (cap = A.length + 1) := by omega
  have hb3 : (A.length : Int) ≤ (n : Int) + 1 := by omega
  have hb4 : ¬ (cap = A.length) := by omega
  have hb5 : (A.length : Int) + 1 ≤ (n : Int) + 1 := by omega
  have hb6 : ¬ ((cap : Int) < (n : Int) + 1) := by omega
  have hz2 : ¬ ((A.length : Int) = (n : Int)) := by omega
  have htn : ((A.length : Int) + 1).toNat = A.length + 1 := by omega
  clear hW1 ho1 hg1 hrow hshg hshb hfb ho h1 hn
  go_enter Try.func25, Try.ntmps25
  go_wp2_with (simp only [hov])
  go_region_law (refine step_copy_runN rfl (.tmp 73) (.tmp 76) 22 22 rfl (.slice (some ⟨g, (A.length + 1) * 3, none⟩) (n - A.length) (cap - (A.length + 1))) (.slice (some ⟨g, A.length * 3, none⟩) (n + 1 - A.length) (cap - A.length)) (by simp [Act.eval, Act.put]) (by simp [Act.eval, Act.put]) (hcp1 _ _ _) ?_)
  go_wp2_with (at_builtin; refine wpList_copy_runN _ rfl _ _ 22 22 rfl _ _ rfl rfl (hcp2 _ _) ?_)
  go_ret
  exact ⟨rfl, FIN.out⟩

theorem czeros (k : Nat) : (Builtin.zeroCells (Value.agg #[.string ⟨#[]⟩, .string ⟨#[]⟩, .bool false]).cells k).size = k * 3 := by
  simp [Builtin.zeroCells, Value.cells]

set_option maxRecDepth 10000 in
set_option maxHeartbeats 2000000 in
/-- there is no room -/
theorem cinsert_grow (g cap : Nat) (A R : List En) (y x : En) (n b : Nat) (w : World) (ho : OwnR w g cap (A ++ y :: R)) (hn : n = A.length + R.length + 1) (hsm : n ≤ 400) (hroom : cap < n + 1) (h1 : OneR w b x) :
    Calls Try.prog 25 #[.slice (some ⟨g, 0, none⟩) n cap, .int .i64 A.length, .slice (some ⟨b, 0, none⟩) 1 1] w fun e w' =>
      ∃ cap', e = .returned (.slice (some ⟨w.heap.size, 0, none⟩) (n + 1) cap') ∧ OwnR w' w.heap.size cap' (A ++ x :: y :: R) ∧ Below w.heap.size w w' := by
  have hcap : cap = n := by have := ho.le; simp at this; omega
  obtain ⟨i0, hi0, hz0, hz1, hz2⟩ := cinfo
  have hrow := ho.row
  have hgw := ho.lt
  have hbw : b < w.heap.size := by unfold OneR at h1; exact (Array.getElem?_eq_some_iff.1 h1).1
  have hold : (Builtin.firstCells i0.size A.length (.slice (some ⟨g, 0, none⟩) A.length cap)).run Try.prog w.drew = .ok (cellsL A).toArray w.drew := by
    rw [hz1]
    exact run_firstCells_some w.drew 3 A.length ⟨g, 0, none⟩ A.length cap (cellsL A) (cellsC_length A) (fun j v hj => by
      rw [Addr.add_lit]
      exact hrow j v (by rw [cellsL_append, List.getElem?_append_left (List.getElem?_eq_some_iff.1 hj).1]; exact hj))
  obtain ⟨G, hG⟩ : ∃ G, G = grownCap w (n + 1) cap 36 := ⟨_, rfl⟩
  have hGn : n + 1 ≤ G := by rw [hG]; exact grownCap_ge w _ _ _
  have hGm : G ≤ maxLen := by rw [hG]; exact grownCap_le_maxLen w (n + 1) cap _ (by unfold maxLen; omega)
  have hG63 : G ≤ 9223372036854775807 := by have := hGm; unfold maxLen at this; omega
  obtain ⟨ROW, hROW⟩ : ∃ ROW : Array Value, ROW = (cellsL A).toArray ++ Builtin.zeroCells (Value.agg #[.string ⟨#[]⟩, .string ⟨#[]⟩, .bool false]).cells (n + 1 - A.length) ++ Builtin.zeroCells (Value.agg #[.string ⟨#[]⟩, .string ⟨#[]⟩, .bool false]).cells (G - (n + 1)) := ⟨_, rfl⟩
  obtain ⟨W1, hW1⟩ : ∃ W1, W1 = w.drew.alloc (.cells ROW 36) := ⟨_, rfl⟩
  have hik : A.length + (n + 1 - A.length) = n + 1 := by omega
  have hrz : ∀ ty, (Builtin.append_ #[22, 3] ty #[.slice (some ⟨g, 0, none⟩) A.length cap, .int .i64 ((n : Int) + 1 - (A.length : Int))]).run Try.prog w =
      .ok (.slice (some ⟨w.heap.size, 0, none⟩) (n + 1) G) W1 := fun ty => by
    have h := Lib.run_append_grow_zeros w 22 3 ty 36 i0 _ .i64 .i64 Try.underlying22 Try.underlying3 hi0 hz0 (some ⟨g, 0, none⟩) A.length cap (cellsL A) hold (n + 1 - A.length) (by omega) (by omega) (by omega) (by omega) (by rw [hz2]; omega) (by rw [hz2, hik]; exact growslice_fits hroom (by omega))
    rw [hik, ← hG, ← hROW, ← hW1] at h
    rw [show (n : Int) + 1 - (A.length : Int) = ((n + 1 - A.length : Nat) : Int) by omega]
    exact h
  have ho1 : OwnR W1 w.heap.size G A := by
    refine ⟨(Builtin.zeroCells (Value.agg #[.string ⟨#[]⟩, .string ⟨#[]⟩, .bool false]).cells (n + 1 - A.length) ++ Builtin.zeroCells (Value.agg #[.string ⟨#[]⟩, .string ⟨#[]⟩, .bool false]).cells (G - (n + 1))).toList, ?_, ?_, by omega, hGm⟩
    · rw [hW1, hROW]
      have := heap_alloc_new w.drew (.cells ((cellsL A).toArray ++ Builtin.zeroCells (Value.agg #[.string ⟨#[]⟩, .string ⟨#[]⟩, .bool false]).cells (n + 1 - A.length) ++ Builtin.zeroCells (Value.agg #[.string ⟨#[]⟩, .string ⟨#[]⟩, .bool false]).cells (G - (n + 1))) 36)
      refine Eq.trans this ?_
      congr 2
      apply Array.toList_inj.1
      simp
    · simp only [show Lay.k En = 3 from rfl, Array.length_toList, Array.size_append, czeros]; omega
  have hB1 : Below w.heap.size w W1 := by rw [hW1]; exact ((Below.refl _ w).drew).alloc (Nat.le_refl _) _
  obtain ⟨W2, hW2⟩ : ∃ W2, W2 = W1.setCells w.heap.size (A.length * 3) (encells x) := ⟨_, rfl⟩
  have ho2 : OwnR W2 w.heap.size G (A ++ [x]) := by
    have h : OwnR W1 w.heap.size G (A ++ []) := by rw [List.append_nil]; exact ho1
    have := h.spliceC [x] (by simp; omega)
    rw [hW2]
    rw [cellsL_cons, cellsL_nil, List.append_nil] at this
    exact this
  have hg2 : W1.grownBy W2 (some w.heap.size) := by rw [hW2]; exact ngrown_setCells _ _ _
  have hB2 : Below w.heap.size w W2 := hB1.grown hg2 hB1.size (fun k e => by cases e; exact Nat.le_refl _)
  have hcpA : ∀ ty dc, (Builtin.copy_ #[22, 22] ty #[.slice (some ⟨w.heap.size, A.length * 3, none⟩) (n + 1 - A.length) dc, .slice (some ⟨b, 0, none⟩) 1 1]).run Try.prog W1 = .ok (goInt (Nat.min 1 (n + 1 - A.length))) W2 := fun ty dc => by
    rw [hW2]
    exact ccopy3 W1 ty w.heap.size _ _ dc ⟨b, 0, none⟩ 1 1 (encells x) (by simp only [Nat.min_def, encells, List.length_cons, List.length_nil]; split <;> omega)
      (fun j v hj => by rw [Addr.add_lit]; exact (show OneR W1 b x from (hB1.block b hbw).trans h1).row j v hj)
      (fun j hj => ho1.someC (by simp [encells] at hj; omega)) (fun j _ => ho1.frozen _) ((Lay.one x))
  obtain ⟨W3, hW3⟩ : ∃ W3, W3 = W2.drew.setCells w.heap.size ((A.length + 1) * 3) (cellsL (y :: R)) := ⟨_, rfl⟩
  have hcpB : ∀ ty dc sc, (Builtin.copy_ #[22, 22] ty #[.slice (some ⟨w.heap.size, (A.length + 1) * 3, none⟩) (n - A.length) dc, .slice (some ⟨g, A.length * 3, none⟩) (n - A.length) sc]).run Try.prog W2.drew = .ok (goInt (Nat.min (n - A.length) (n - A.length))) W3 := fun ty dc sc => by
    rw [hW3]
    exact ccopy3 W2.drew ty w.heap.size _ _ dc ⟨g, A.length * 3, none⟩ _ sc (cellsL (y :: R)) (by rw [cellsC_length]; simp only [Nat.min_self, List.length_cons]; omega)
      (fun j v hj => by
        rw [Addr.add_lit]
        have := hrow (A.length * 3 + j) v (by rw [cellsL_append, List.getElem?_append_right (by rw [cellsC_length]; omega), cellsC_length, Nat.add_sub_cancel_left]; exact hj)
        rw [Nat.zero_add] at this
        exact (hB2.cell (p := ⟨g, A.length * 3 + j, none⟩) hgw).trans this)
      (fun j hj => by rw [cellsC_length] at hj; exact ho2.drew.someC (by simp at hj; omega)) (fun j _ => ho2.drew.frozen _) (cellsL_one _)
  have FIN : Hid (OwnR W3 w.heap.size G (A ++ x :: y :: R) ∧ Below w.heap.size w W3) := by
    refine ⟨?_, ?_⟩
    · have h : OwnR W2.drew w.heap.size G ((A ++ [x]) ++ []) := by rw [List.append_nil]; exact ho2
      have := h.spliceC (y :: R) (by simp; omega)
      rw [hW3]
      simpa using this
    · rw [hW3]; exact hB2.drew.grown (ngrown_setCells _ _ _) hB2.size (fun k e => by cases e; exact Nat.le_refl _)
  have hin : A.length < n := by omega
  have hini : (A.length : Int) < (n : Int) := by omega
  have hw1 : IntKind.i64.wrap ((A.length : Int) + 1) = (A.length : Int) + 1 := by rw [IntKind.wrap_i64]; omega
  have hb1 : (0 : Int) ≤ (A.length : Int) + 1 := by omega
  have hb2 : ¬ (G = A.length + 1) := by omega
  have hb3 : (A.length : Int) ≤ (n : Int) + 1 := by omega
  have hb4 : ¬ (n = A.length) := by omega
  have hb5 : (A.length : Int) + 1 ≤ (n : Int) + 1 := by omega
  have hb6 : ¬ (G = A.length) := by omega
  have hb7 : (A.length : Int) ≤ (n : Int) := by omega
  have hz3 : ¬ ((A.length : Int) = (n : Int)) := by omega
  have htn : ((A.length : Int) + 1).toNat = A.length + 1 := by omega
  subst hcap
  clear hn hROW hW1 hW2 hW3 hG hrow ho h1 ho1 ho2 hB1 hB2 hg2 hold hik
  go_enter Try.func25, Try.ntmps25
  go_wp2_with (first
    | (at_builtin; refine Lib.wpList_append_run _ rfl _ _ _ _ rfl _ _ rfl rfl _ _ (hrz _) ?_)
    | (at_builtin; refine wpList_copy_runN _ rfl _ _ 22 22 rfl _ _ rfl rfl (hcpA _ _) ?_))
  go_region_law (refine step_copy_runN rfl (.tmp 50) (.tmp 53) 22 22 rfl (.slice (some ⟨w.heap.size, (A.length + 1) * 3, none⟩) (cap - A.length) (G - (A.length + 1))) (.slice (some ⟨g, A.length * 3, none⟩) (cap - A.length) (cap - A.length)) (by simp [Act.eval, Act.put]) (by simp [Act.eval, Act.put]) (hcpB _ _ _) ?_)
  go_wp2
  go_ret
  exact ⟨G, rfl, FIN.out⟩

theorem cinsert_any (v : Value) (A R : List En) (x : En) (q : Nat) (w : World) (ho : OwnS w 0 v (A ++ R)) (hl : (A ++ R).length ≤ 400) (h1 : OneR w q x) (hq : v.ownBlock ≠ some q) :
    Calls Try.prog 25 #[v, .int .i64 A.length, .slice (some ⟨q, 0, none⟩) 1 1] w fun e w' =>
      ∃ v', e = .returned v' ∧ OwnS w' 0 v' (A ++ x :: R) ∧ w.grownBy w' v.ownBlock ∧ (v'.ownBlock = v.ownBlock ∨ ∃ k, w.heap.size ≤ k ∧ v'.ownBlock = some k) := by
  cases R with
  | nil =>
    rw [List.append_nil] at ho hl
    refine (cinsert_end v A x 0 q w ho (Nat.zero_le _) hl h1).mono ?_
    rintro e w' ⟨v', rfl, h2, h3, h4⟩
    refine ⟨v', rfl, h2, h3, ?_⟩
    rcases h4 with h | h
    · exact .inl h
    · exact .inr ⟨_, Nat.le_refl _, h⟩
  | cons y R =>
    rcases ho with ⟨_, h⟩ | ⟨g, cap, rfl, _, ho⟩
    · simp at h
    · have hn : (A ++ y :: R).length = A.length + R.length + 1 := by simp; omega
      by_cases hc : (A ++ y :: R).length + 1 ≤ cap
      · refine (cinsert_shift g cap A R y x _ q w ho hn hl hc h1 (fun e => hq (by rw [e]; rfl))).mono ?_
        rintro e w' ⟨rfl, h2, h3⟩
        exact ⟨_, rfl, .inr ⟨g, cap, by simp; omega, Nat.zero_le _, h2⟩, h3, .inl rfl⟩
      · refine (cinsert_grow g cap A R y x _ q w ho hn hl (by omega) h1).mono ?_
        rintro e w' ⟨cap', rfl, h2, h3⟩
        exact ⟨_, rfl, .inr ⟨w.heap.size, cap', by simp; omega, Nat.zero_le _, h2⟩, ⟨h3.os, h3.tape, h3.output, h3.size, fun k hk _ => h3.block k hk⟩, .inr ⟨_, Nat.le_refl _, rfl⟩⟩

end Go.Proofs.Ytdefdbejaabpdaa

namespace Go.Proofs.Ytdefdbejaabpdaa
open Go.RowKit
theorem snoc_take {α : Type} {xs : List α} {k : Nat} {x : α} (h : xs[k]? = some x) : xs.take (k + 1) = xs.take k ++ [x] := by rw [List.take_add_one, h]; rfl
theorem grownO {w w' : World} {r : Option Nat} (h : w.grownBy w' r) (B : Nat) (hB : B ≤ w.heap.size) (hr : ∀ k, r = some k → B ≤ k) : Below B w w' := (Below.refl _ _).grown h hB hr
theorem hgrown_of {w w' : World} {r : Option Nat} (h : Below w.heap.size w w') : w.grownBy w' r := ⟨h.os, h.tape, h.output, h.size, fun k hk _ => h.block k hk⟩
theorem OwnR.head {α : Type} [Lay α] {W : World} {g cap : Nat} {A B : List α} (h : OwnR W g cap (A ++ B)) : OwnR W g cap A := by
  obtain ⟨rest, h1, h2, h4, h3⟩ := h
  refine ⟨cellsL B ++ rest, by rw [h1, cellsL_append, List.append_assoc], ?_, ?_, h3⟩
  · rw [List.length_append, cellsL_length B]
    rw [List.length_append, Nat.add_mul] at h2
    omega
  · rw [List.length_append] at h4; omega
end Go.Proofs.Ytdefdbejaabpdaa
