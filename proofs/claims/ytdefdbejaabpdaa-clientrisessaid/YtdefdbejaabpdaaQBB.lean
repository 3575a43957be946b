/-
  Copies of entries: slices.Clone, client.own: the walks.
  What client.copied answers: the walk.
  What client.Look, client.New and client.See answer: the walks.
  Rows of the call's own, whatever their elements are: their heads, their values.
  What aviaryref's CopyClient, SameClient (of alike ones), NewClient and See answer, and ends, starts: the walks.
  The law ClientRises: the walk.
  A slice of elements that are laid in a row, as an argument: opened, with what is known of each.
  An end, lists of entries, of notes and of numbers, and one entry, as arguments: opened; what their weights say of their lengths.
-/
import Derived.Test.YtdefdbejaabpdaaQBA
import Derived.Test.YtdefdbejaabpdaaShelf
import Derived.Lib.SliceRun
import Derived.Lib.QuietBelow
import Derived.BigQuiet
import Derived.Deep.RegionHeld3
import Derived.Deep.CutRange
import Derived.Test.YtdefdbejaabpdaaRows
import Derived.ProofKit
import Derived.OpenShut
import Derived.SizedLaws
import Derived.Deep.Slices
import Derived.Carry
namespace Go.Proofs.Ytdefdbejaabpdaa
open Go.RowKit
set_option maxRecDepth 10000 in

set_option maxHeartbeats 400000 in
theorem sclone1_any (s : List UInt8) (w : World) (hs : s.length ≤ 281474976710656) :
    Calls Try.prog 38 #[.string ⟨s.toArray⟩] w fun e w' => e = .returned (.string ⟨s.toArray⟩) ∧ Below w.heap.size w w' := by
  have C := fun W => Try.stringslite_Clone ⟨s.toArray⟩ W (show (ByteArray.mk s.toArray).size ≤ _ from hs)
  go_enter Try.func38, Try.ntmps38
  go_wp2_with fail
  refine (C _).mono ?_
  rintro e w1 ⟨rfl, hb1⟩
  go_wp2_with fail
  go_ret
  exact ⟨rfl, hb1⟩

set_option maxRecDepth 10000 in
set_option maxHeartbeats 2000000 in
theorem clC_some (a : Addr) (cap : Nat) (xs : List En) (w : World) (hl : xs.length * 40 ≤ 140737488355328) (hc : ∀ j u, (cellsL xs)[j]? = some u → w.cell? (a.add j) = some u) :
    Calls Try.prog 32 #[.slice (some a) xs.length cap] w fun e w' => ∃ v', e = .returned v' ∧ OwnS w' w.heap.size v' xs ∧ Below w.heap.size w w' := by
  have q22 : ∀ (w : World) (a : Option Addr) (n c n' c' : Nat), (binOp .eql 22 (.slice a n c) (.slice none n' c')).run Try.prog w = .ok (.bool a.isNone) w := fun w a n c n' c' => Lib.run_eql_slice_nil w _ _ a n c n' c' Try.underlying22
  have H := hide hc
  clear hc
  obtain ⟨i0, hi0, hz0, hz1, hz2⟩ := cinfo
  go_enter Try.func32, Try.ntmps32
  go_wp2_with (at_builtin; refine wpList_append_own _ rfl _ _ 22 rfl w.heap.size 36 i0 _ 3 40 Try.underlying22 hi0 hz0 hz1 hz2 rfl (by decide) _ _ _ rfl (World.ownsRow_made w #[] 0 (Nat.le_refl _) (Nat.zero_le _) (by simp)) a xs.length cap (cellsL xs) rfl ?qc1 ?qc2 ?qc3 ?qc4 ?qc5 ?qc6 ?_)
  case qc1 => exact cellsL_length xs
  case qc2 =>
    intro j u hj
    exact Lib.cell?_alloc_some _ (unhide H j u hj)
  case qc3 => exact cellsL_one xs
  case qc4 => simp only [maxLen]; omega
  case qc5 => omega
  case qc6 => simp
  intro v' w1 hown hgrow hnil
  go_wp2
  go_ret
  refine ⟨v', rfl, OwnS.of_row (by first | exact hown | (simp only [List.nil_append, Nat.zero_add] at hown; exact hown) | simpa using hown), ?_⟩
  exact ((Below.refl _ w).alloc (Nat.le_refl _) _).grown hgrow (by simp) (by intro k hk; simp [Value.ownBlock] at hk; omega)

set_option maxRecDepth 10000 in
set_option maxHeartbeats 400000 in
theorem clC_nil (n c : Nat) (w : World) :
    Calls Try.prog 32 #[.slice none n c] w fun e w' => e = .returned (.slice none 0 0) ∧ w' = w := by
  have q22 : ∀ (w : World) (a : Option Addr) (n c n' c' : Nat), (binOp .eql 22 (.slice a n c) (.slice none n' c')).run Try.prog w = .ok (.bool a.isNone) w := fun w a n c n' c' => Lib.run_eql_slice_nil w _ _ a n c n' c' Try.underlying22
  go_enter Try.func32, Try.ntmps32
  go_wp2
  go_ret
  exact ⟨rfl, rfl⟩

theorem clC_any (v : Value) (xs : List En) (w : World) (hv : SeqV w v xs) (hl : xs.length * 40 ≤ 140737488355328) :
    Calls Try.prog 32 #[v] w fun e w' => ∃ v', e = .returned v' ∧ OwnS w' w.heap.size v' xs ∧ Below w.heap.size w w' := by
  rcases hv with ⟨a, cap, rfl, rfl, _⟩ | ⟨b, off, cap, rfl, _, _, hb, _, hr⟩
  · cases a with
    | none => exact (clC_nil 0 cap w).mono fun e w' ⟨he, hw⟩ => ⟨_, he, .inl ⟨rfl, rfl⟩, by rw [hw]; exact Below.refl _ _⟩
    | some a => exact clC_some a cap [] w (by simp) (fun j u h => by simp [cellsL] at h)
  · exact clC_some ⟨b, off, none⟩ cap xs w hl (fun j u h => by rw [Addr.add_lit]; exact hr j u h)

set_option maxRecDepth 10000 in
set_option maxHeartbeats 2000000 in
theorem ownC_any (x : En) (w : World) (hp : x.p.length ≤ 140737488355328) (hd : x.d.length ≤ 140737488355328) :
    Calls Try.prog 26 #[.agg #[.string ⟨x.p.toArray⟩, .string ⟨x.d.toArray⟩, .bool x.t]] w fun e w' => e = .returned (.agg #[.string ⟨x.p.toArray⟩, .string ⟨x.d.toArray⟩, .bool x.t]) ∧ Below w.heap.size w w' := by
  obtain ⟨xp, xd, xt⟩ := x
  simp only at *
  have Kp := fun W => sclone1_any xp W (by omega)
  have Kd := fun W => sclone1_any xd W (by omega)
  go_enter Try.func26, Try.ntmps26
  go_wp2_with fail
  have hB0 : Below w.heap.size w ((w.alloc (.cells #[.string ⟨xp.toArray⟩, .string ⟨xd.toArray⟩, .bool xt] 36)).alloc (.cells #[.string ⟨#[]⟩, .string ⟨#[]⟩, .bool false] 36)) := nnext (allocB _ _) (allocB _ _)
  have hz0 : ((w.alloc (.cells #[.string ⟨xp.toArray⟩, .string ⟨xd.toArray⟩, .bool xt] 36)).alloc (.cells #[.string ⟨#[]⟩, .string ⟨#[]⟩, .bool false] 36)).heap.size = w.heap.size + 2 := by simp
  have p0 : ((w.alloc (.cells #[.string ⟨xp.toArray⟩, .string ⟨xd.toArray⟩, .bool xt] 36)).alloc (.cells #[.string ⟨#[]⟩, .string ⟨#[]⟩, .bool false] 36)).cell? ⟨w.heap.size, 0, none⟩ = some (.string ⟨xp.toArray⟩) := by simp
  have r0 : ((w.alloc (.cells #[.string ⟨xp.toArray⟩, .string ⟨xd.toArray⟩, .bool xt] 36)).alloc (.cells #[.string ⟨#[]⟩, .string ⟨#[]⟩, .bool false] 36)).cell? ⟨w.heap.size + 1, 0, none⟩ = some (.string ⟨#[]⟩) := by simp
  have p1 : ((w.alloc (.cells #[.string ⟨xp.toArray⟩, .string ⟨xd.toArray⟩, .bool xt] 36)).alloc (.cells #[.string ⟨#[]⟩, .string ⟨#[]⟩, .bool false] 36)).cell? ⟨w.heap.size, 1, none⟩ = some (.string ⟨xd.toArray⟩) := by simp
  have r1 : ((w.alloc (.cells #[.string ⟨xp.toArray⟩, .string ⟨xd.toArray⟩, .bool xt] 36)).alloc (.cells #[.string ⟨#[]⟩, .string ⟨#[]⟩, .bool false] 36)).cell? ⟨w.heap.size + 1, 1, none⟩ = some (.string ⟨#[]⟩) := by simp
  have p2 : ((w.alloc (.cells #[.string ⟨xp.toArray⟩, .string ⟨xd.toArray⟩, .bool xt] 36)).alloc (.cells #[.string ⟨#[]⟩, .string ⟨#[]⟩, .bool false] 36)).cell? ⟨w.heap.size, 2, none⟩ = some (.bool xt) := by simp
  have r2 : ((w.alloc (.cells #[.string ⟨xp.toArray⟩, .string ⟨xd.toArray⟩, .bool xt] 36)).alloc (.cells #[.string ⟨#[]⟩, .string ⟨#[]⟩, .bool false] 36)).cell? ⟨w.heap.size + 1, 2, none⟩ = some (.bool false) := by simp
  have pf : ∀ j, ((w.alloc (.cells #[.string ⟨xp.toArray⟩, .string ⟨xd.toArray⟩, .bool xt] 36)).alloc (.cells #[.string ⟨#[]⟩, .string ⟨#[]⟩, .bool false] 36)).frozen? ⟨w.heap.size, j, none⟩ = false := by intro j; simp
  have rf : ∀ j, ((w.alloc (.cells #[.string ⟨xp.toArray⟩, .string ⟨xd.toArray⟩, .bool xt] 36)).alloc (.cells #[.string ⟨#[]⟩, .string ⟨#[]⟩, .bool false] 36)).frozen? ⟨w.heap.size + 1, j, none⟩ = false := by intro j; simp
  generalize (w.alloc (.cells #[.string ⟨xp.toArray⟩, .string ⟨xd.toArray⟩, .bool xt] 36)).alloc (.cells #[.string ⟨#[]⟩, .string ⟨#[]⟩, .bool false] 36) = W0 at *
  have d0 : ∀ d os, (Sort.grow (redrawn W0 d) os).cell? ⟨w.heap.size, 0, none⟩ = some (.string ⟨xp.toArray⟩) := fun d os => cell_regrown p0 d os
  have g0 : ∀ d os, (Sort.grow (redrawn W0 d) os).frozen? ⟨w.heap.size, 0, none⟩ = false := fun d os => by rw [(below_regrown W0 d os).frozen (p := ⟨w.heap.size, 0, none⟩) (by simp only; omega)]; exact pf 0
  have s0 : ∀ d os, (Sort.grow (redrawn W0 d) os).setCell ⟨w.heap.size, 0, none⟩ (.string ⟨xp.toArray⟩) = Sort.grow (redrawn W0 d) os := fun d os => nset_same (d0 d os)
  have c0 := fun d os => Calls.regrown_of (w := W0) (d := d) (os := os) (Kp _)
  have d1 : ∀ d os, (Sort.grow (redrawn W0 d) os).cell? ⟨w.heap.size, 1, none⟩ = some (.string ⟨xd.toArray⟩) := fun d os => cell_regrown p1 d os
  have g1 : ∀ d os, (Sort.grow (redrawn W0 d) os).frozen? ⟨w.heap.size, 1, none⟩ = false := fun d os => by rw [(below_regrown W0 d os).frozen (p := ⟨w.heap.size, 1, none⟩) (by simp only; omega)]; exact pf 1
  have s1 : ∀ d os, (Sort.grow (redrawn W0 d) os).setCell ⟨w.heap.size, 1, none⟩ (.string ⟨xd.toArray⟩) = Sort.grow (redrawn W0 d) os := fun d os => nset_same (d1 d os)
  have c1 := fun d os => Calls.regrown_of (w := W0) (d := d) (os := os) (Kd _)
  refine wp_region_quiet_below (by kernel_rfl) (by kernel_rfl) ?_
  repeat (first | go_big_quiet_step (first | with_reducible exact c0 _ _ | with_reducible exact c1 _ _) | quiet_step (first | with_reducible exact c0 _ _ | with_reducible exact c1 _ _))
  refine wpQuiet_nil ?_
  intro _ hw'
  obtain ⟨⟨dq, osq⟩, hw''⟩ := hw'
  subst hw''
  have hb1 := below_regrown W0 dq osq
  have hB := nnext hB0 hb1
  have e0 := (hb1.cell (p := ⟨w.heap.size, 0, none⟩) (by simp only; omega)).trans p0
  have u0 := (hb1.cell (p := ⟨w.heap.size + 1, 0, none⟩) (by simp only; omega)).trans r0
  have v0 := (hb1.frozen (p := ⟨w.heap.size + 1, 0, none⟩) (by simp only; omega)).trans (rf 0)
  have e1 := (hb1.cell (p := ⟨w.heap.size, 1, none⟩) (by simp only; omega)).trans p1
  have u1 := (hb1.cell (p := ⟨w.heap.size + 1, 1, none⟩) (by simp only; omega)).trans r1
  have v1 := (hb1.frozen (p := ⟨w.heap.size + 1, 1, none⟩) (by simp only; omega)).trans (rf 1)
  have e2 := (hb1.cell (p := ⟨w.heap.size, 2, none⟩) (by simp only; omega)).trans p2
  have u2 := (hb1.cell (p := ⟨w.heap.size + 1, 2, none⟩) (by simp only; omega)).trans r2
  have v2 := (hb1.frozen (p := ⟨w.heap.size + 1, 2, none⟩) (by simp only; omega)).trans (rf 2)
  generalize Sort.grow (redrawn W0 dq) osq = w1 at *
  clear hb1 hB0 hz0 pf rf p0 r0 p1 r1 p2 r2 d0 g0 s0 c0 Kp d1 g1 s1 c1 Kd
  go_wp2_with fail
  refine bodyPost_ret (v := .agg #[.string ⟨xp.toArray⟩, .string ⟨xd.toArray⟩, .bool xt]) (by simp [results, Try.results26, go_sem, u0, u1, u2]) rfl ⟨rfl, ?_⟩
  exact (((hB.setCell (by simp) _).setCell (by simp) _).setCell (by simp) _)
end Go.Proofs.Ytdefdbejaabpdaa

namespace Go.Proofs.Ytdefdbejaabpdaa
open Go.RowKit

set_option maxRecDepth 10000 in
set_option maxHeartbeats 2000000 in
theorem ccopied_any (s z : Int) (v : Value) (es : List En) (w : World) (hv : SeqV w v es) (hs : ShortC es) (hl : es.length * 40 ≤ 140737488355328) :
    Calls Try.prog 23 #[clV s z v] w fun e w' => ∃ v', e = .returned (clV s z v') ∧ OwnS w' w.heap.size v' es ∧ Below w.heap.size w w' := by
  have CC := fun W (hW : Below w.heap.size w W) => clC_any v es W (hv.next hW) hl
  have HO : Hid (∀ x ∈ es, ∀ W, Calls Try.prog 26 #[.agg #[.string ⟨x.p.toArray⟩, .string ⟨x.d.toArray⟩, .bool x.t]] W fun e w' => e = .returned (.agg #[.string ⟨x.p.toArray⟩, .string ⟨x.d.toArray⟩, .bool x.t]) ∧ Below W.heap.size W w') := hide fun x hm W => ownC_any x W (hs x hm).1 (hs x hm).2
  obtain ⟨a, c, rfl⟩ := seq_slice hv
  unfold clV
  clear hv hs
  go_enter Try.func23, Try.ntmps23
  go_wp2_with fail
  refine (CC _ (nnext (allocB _ _) (allocB _ _))).mono ?_
  rintro e w1 ⟨v', rfl, ho, hb1⟩
  have HB1 := hide (nnext (nnext (allocB w _) (allocB _ _)) hb1)
  have X1 := ((CBox.new w s z (.slice a es.length c)).next (allocB _ (.cells #[.int .i64 0, .int .i64 0, .slice none 0 0] 24))).next hb1
  have X2 := (CBox.new (w.alloc (.cells #[.int .i64 s, .int .i64 z, .slice a es.length c] 24)) 0 0 (.slice none 0 0)).next hb1
  have hs1 : (w.alloc (.cells #[.int .i64 s, .int .i64 z, .slice a es.length c] 24)).heap.size = w.heap.size + 1 := by simp
  rw [hs1] at X2
  have hz1 : w.heap.size + 2 ≤ w1.heap.size := by have := hb1.size; simpa using this
  have c2 := X1.c2
  have f2 := X1.fr 2
  have Y1 := X1.set2 (v' := v')
  have Y2 := X2.other (a := ⟨w.heap.size, 2, none⟩) (by simp) v'
  rcases ho with ⟨rfl, rfl⟩ | ⟨g, cap, rfl, hg, ho⟩
  · clear CC hb1 X1 X2
    have HY1 := hide Y1
    have HY2 := hide Y2
    clear Y1 Y2
    go_wp2_with fail
    go_loopg [12] 1 (fun _ s wr => s = .int .i64 0 ∧ wr = w1.setCell ⟨w.heap.size, 2, none⟩ (.slice none 0 0))
    case atStart => exact ⟨rfl, rfl⟩
    case round =>
      obtain ⟨rfl, rfl⟩ := hrel
      have q0 := (unhide HY1).c0
      have q1 := (unhide HY1).c1
      have q2 := (unhide HY1).c2
      have r0 := (unhide HY2).c0
      have r1 := (unhide HY2).c1
      have r2 := (unhide HY2).c2
      have t0 := (unhide HY2).fr 0
      have t1 := (unhide HY2).fr 1
      have t2 := (unhide HY2).fr 2
      have HB2 := hide ((unhide HB1).setCell (p := ⟨w.heap.size, 2, none⟩) (Nat.le_refl _) (.slice none 0 0))
      generalize w1.setCell ⟨w.heap.size, 2, none⟩ (.slice none 0 0) = W at *
      go_wp2_with fail
      refine bodyPost_ret (v := .agg #[.int .i64 s, .int .i64 z, .slice none 0 0]) (by simp [results, Try.results23, go_sem, r0, r1, r2]) rfl ⟨_, rfl, .inl ⟨rfl, rfl⟩, ?_⟩
      exact (((unhide HB2).setCell (by simp) _).setCell (by simp) _).setCell (by simp) _
  · have hgl := ho.lt
    have hg2 : w.heap.size + 2 ≤ g := by simpa using hg
    have HW := hide (ho.other (a := ⟨w.heap.size, 2, none⟩) (by simp only; omega) (.slice (some ⟨g, 0, none⟩) es.length cap))
    have HY1 := hide Y1
    have HY2 := hide Y2
    have HB2 := hide ((unhide HB1).setCell (p := ⟨w.heap.size, 2, none⟩) (Nat.le_refl _) (.slice (some ⟨g, 0, none⟩) es.length cap))
    have hzs : (w1.setCell ⟨w.heap.size, 2, none⟩ (.slice (some ⟨g, 0, none⟩) es.length cap)).heap.size = w1.heap.size := by simp [World.setCell]
    clear ho CC hb1 X1 X2 Y1 Y2 hg
    go_wp2_with fail
    generalize w1.setCell ⟨w.heap.size, 2, none⟩ (.slice (some ⟨g, 0, none⟩) es.length cap) = W at *
    go_loopg [12] es.length (fun kx s wr => ∃ k : Nat, s = .int .i64 k ∧ k ≤ es.length ∧ es.length - k ≤ kx ∧ Hid (Below W.heap.size W wr))
    case atStart => exact ⟨0, rfl, Nat.zero_le _, by omega, hide (Below.refl _ _)⟩
    case round =>
      obtain ⟨k, rfl, hk, hkx, hB⟩ := hrel
      have Z1 := (unhide HY1).next (unhide hB)
      by_cases hlt : k < es.length
      · obtain ⟨x, hx⟩ : ∃ x, es[k]? = some x := ⟨_, List.getElem?_eq_getElem hlt⟩
        have o := (unhide HW).next (unhide hB)
        have hgl2 := o.lt
        have a0 := o.row.en0 hx
        have a1 := o.row.en1 hx
        have a2 := o.row.en2 hx
        simp only [Nat.zero_add] at a0 a1 a2
        have CX := unhide HO x (List.mem_of_getElem? hx)
        have hzr := (unhide hB).size
        obtain ⟨yp, yd, yt⟩ := x
        simp only at a0 a1 a2 CX
        have N1 := one_newC wr ⟨yp, yd, yt⟩
        simp only at N1
        have O2 := o.next (allocB wr (.cells #[.string ⟨yp.toArray⟩, .string ⟨yd.toArray⟩, .bool yt] 36))
        have b2 := (Z1.next (allocB wr (.cells #[.string ⟨yp.toArray⟩, .string ⟨yd.toArray⟩, .bool yt] 36))).c2
        have p0 := N1.e0
        have p1 := N1.e1
        have p2 := N1.e2
        have r0 := O2.row.en0 hx
        have r1 := O2.row.en1 hx
        have r2 := O2.row.en2 hx
        have rf := O2.frozen
        have hg3 := O2.lt
        simp only [Nat.zero_add] at r0 r1 r2 p0 p1 p2
        have HB3 := hide (nnext (unhide hB) (allocB wr (.cells #[.string ⟨yp.toArray⟩, .string ⟨yd.toArray⟩, .bool yt] 36)))
        clear hx o O2 N1 Z1
        go_wp2_with fail
        generalize wr.alloc (.cells #[.string ⟨yp.toArray⟩, .string ⟨yd.toArray⟩, .bool yt] 36) = W0 at *
        have b2' := fun d os => cell_regrown b2 d os
        have p0' := fun d os => cell_regrown p0 d os
        have p1' := fun d os => cell_regrown p1 d os
        have p2' := fun d os => cell_regrown p2 d os
        have r0' := fun d os => cell_regrown r0 d os
        have r1' := fun d os => cell_regrown r1 d os
        have r2' := fun d os => cell_regrown r2 d os
        have t0 : ∀ d os, (Sort.grow (redrawn W0 d) os).frozen? ⟨g, k * 3, none⟩ = false := fun d os => by rw [(below_regrown W0 d os).frozen (p := ⟨g, k * 3, none⟩) hg3]; exact rf _
        have t1 : ∀ d os, (Sort.grow (redrawn W0 d) os).frozen? ⟨g, k * 3 + 1, none⟩ = false := fun d os => by rw [(below_regrown W0 d os).frozen (p := ⟨g, k * 3 + 1, none⟩) hg3]; exact rf _
        have t2 : ∀ d os, (Sort.grow (redrawn W0 d) os).frozen? ⟨g, k * 3 + 2, none⟩ = false := fun d os => by rw [(below_regrown W0 d os).frozen (p := ⟨g, k * 3 + 2, none⟩) hg3]; exact rf _
        have s0 := fun d os => nset_same (r0' d os)
        have s1 := fun d os => nset_same (r1' d os)
        have s2 := fun d os => nset_same (r2' d os)
        have c0 := fun d os => Calls.regrown_of (w := W0) (d := d) (os := os) (CX _)
        clear rf p0 p1 p2 r0 r1 r2 b2
        refine wp_region_quiet_below (by kernel_rfl) (by kernel_rfl) ?_
        repeat (first | go_big_quiet_step (with_reducible exact c0 _ _) | quiet_step (with_reducible exact c0 _ _))
        refine wpQuiet_nil ?_
        intro _ hw'
        obtain ⟨⟨dq, osq⟩, hw''⟩ := hw'
        subst hw''
        have hB2 := hide (nnext (unhide HB3) (below_regrown W0 dq osq))
        generalize Sort.grow (redrawn W0 dq) osq = w2 at *
        clear b2' p0' p1' p2' r0' r1' r2' t0 t1 t2 s0 s1 s2 c0 CX
        go_wp2_with fail
        go_roundg (es.length - (k + 1))
        case measure => omega
        case rel => exact ⟨k + 1, rfl, by omega, Nat.le_refl _, hB2⟩
      · have Z2 := (unhide HY2).next (unhide hB)
        have q0 := Z1.c0
        have q1 := Z1.c1
        have q2 := Z1.c2
        have r0 := Z2.c0
        have r1 := Z2.c1
        have r2 := Z2.c2
        have t0 := Z2.fr 0
        have t1 := Z2.fr 1
        have t2 := Z2.fr 2
        have O2 := (unhide HW).next (unhide hB)
        clear Z1 Z2
        go_wp2_with fail
        refine bodyPost_ret (v := .agg #[.int .i64 s, .int .i64 z, .slice (some ⟨g, 0, none⟩) es.length cap]) (by simp [results, Try.results23, go_sem, r0, r1, r2]) rfl ⟨_, rfl, .inr ⟨g, cap, rfl, by omega, ?_⟩, ?_⟩
        · exact ((O2.other (by simp only; omega) _).other (by simp only; omega) _).other (by simp only; omega) _
        · exact (((nnext (unhide HB2) (unhide hB)).setCell (by simp) _).setCell (by simp) _).setCell (by simp) _
end Go.Proofs.Ytdefdbejaabpdaa

namespace Go.Proofs.Ytdefdbejaabpdaa
open Go.RowKit
set_option maxRecDepth 10000 in
set_option maxHeartbeats 1000000 in
theorem cnew_yes (s : Int) (w : World) (h1 : 1 ≤ s) (h2 : s ≤ 2147483647) :
    Calls Try.prog 11 #[.int .i64 s] w fun e w' => e = .returned (.tuple #[clV s 0 (.slice none 0 0), .int .i64 0]) ∧ Below w.heap.size w w' := by
  unfold clV
  go_enter Try.func11, Try.ntmps11
  go_wp2_with fail
  refine bodyPost_ret (v := .tuple #[.agg #[.int .i64 s, .int .i64 0, .slice none 0 0], .int .i64 0]) (by simp [results, Try.results11, go_sem]) rfl ⟨rfl, ?_⟩
  first | exact allocB _ _ | exact (((allocB w _).setCell (by simp) _).setCell (by simp) _).setCell (by simp) _
set_option maxRecDepth 10000 in
set_option maxHeartbeats 1000000 in
theorem cnew_no (s : Int) (w : World) (h : s < 1 ∨ 2147483647 < s) :
    Calls Try.prog 11 #[.int .i64 s] w fun e w' => e = .returned (.tuple #[clV 0 0 (.slice none 0 0), .int .i64 3]) ∧ Below w.heap.size w w' := by
  unfold clV
  rcases h with h | h
  · go_enter Try.func11, Try.ntmps11
    go_wp2_with fail
    refine bodyPost_ret (v := .tuple #[.agg #[.int .i64 0, .int .i64 0, .slice none 0 0], .int .i64 3]) (by simp [results, Try.results11, go_sem]) rfl ⟨rfl, ?_⟩
    first | exact allocB _ _ | exact (((allocB w _).setCell (by simp) _).setCell (by simp) _).setCell (by simp) _
  · have h1 : ¬ s < 1 := by omega
    go_enter Try.func11, Try.ntmps11
    go_wp2_with fail
    refine bodyPost_ret (v := .tuple #[.agg #[.int .i64 0, .int .i64 0, .slice none 0 0], .int .i64 3]) (by simp [results, Try.results11, go_sem]) rfl ⟨rfl, ?_⟩
    first | exact allocB _ _ | exact (((allocB w _).setCell (by simp) _).setCell (by simp) _).setCell (by simp) _

set_option maxRecDepth 10000 in
set_option maxHeartbeats 1000000 in
theorem csee_no (s z z' : Int) (a : Option Addr) (n c : Nat) (w : World) (h : z' < z) :
    Calls Try.prog 8 #[clV s z (.slice a n c), .int .i64 z'] w fun e w' => e = .returned (.tuple #[clV 0 0 (.slice none 0 0), .int .i64 15]) ∧ Below w.heap.size w w' := by
  unfold clV
  go_enter Try.func8, Try.ntmps8
  go_wp2_with fail
  refine bodyPost_ret (v := .tuple #[.agg #[.int .i64 0, .int .i64 0, .slice none 0 0], .int .i64 15]) (by simp [results, Try.results8, go_sem]) rfl ⟨rfl, ?_⟩
  first | exact nnext (allocB _ _) (allocB _ _) | exact (((nnext (allocB w _) (allocB _ _)).setCell (by simp) _).setCell (by simp) _).setCell (by simp) _
set_option maxRecDepth 10000 in
set_option maxHeartbeats 2000000 in
theorem csee_yes (s z z' : Int) (v : Value) (es : List En) (w : World) (hv : SeqV w v es) (hs : ShortC es) (hl : es.length * 40 ≤ 140737488355328) (h : z ≤ z') :
    Calls Try.prog 8 #[clV s z v, .int .i64 z'] w fun e w' => ∃ v', e = .returned (.tuple #[clV s z' v', .int .i64 0]) ∧ OwnS w' w.heap.size v' es ∧ Below w.heap.size w w' := by
  have CC := fun W (hW : Below w.heap.size w W) => ccopied_any s z v es W (hv.next hW) hs hl
  obtain ⟨a, c, rfl⟩ := seq_slice hv
  unfold clV at CC ⊢
  clear hv hs
  go_enter Try.func8, Try.ntmps8
  go_wp2_with fail
  refine (CC _ (nnext (allocB _ _) (allocB _ _))).mono ?_
  rintro e w1 ⟨v1, rfl, ho1, hb1⟩
  obtain ⟨a1, c1, rfl, _⟩ := ho1.slice
  have X2 := (CBox.new (w.alloc (.cells #[.int .i64 s, .int .i64 z, .slice a es.length c] 24)) 0 0 (.slice none 0 0)).next hb1
  have hs1 : (w.alloc (.cells #[.int .i64 s, .int .i64 z, .slice a es.length c] 24)).heap.size = w.heap.size + 1 := by simp
  rw [hs1] at X2
  have hz1 := hb1.size
  have hz2 : w.heap.size + 2 ≤ w1.heap.size := by simpa using hz1
  have B2 := nnext (nnext (nnext (allocB w _) (allocB _ _)) hb1) (allocB w1 (.cells #[.int .i64 s, .int .i64 z', .slice a1 es.length c1] 24))
  have O2 := ho1.next (allocB w1 (.cells #[.int .i64 s, .int .i64 z', .slice a1 es.length c1] 24))
  have Y2 := X2.next (allocB w1 (.cells #[.int .i64 s, .int .i64 z', .slice a1 es.length c1] 24))
  have Y1 := CBox.new w1 s z' (.slice a1 es.length c1)
  have r0 := Y2.c0
  have r1 := Y2.c1
  have r2 := Y2.c2
  have f0 := Y2.fr 0
  have f1 := Y2.fr 1
  have f2 := Y2.fr 2
  have q0 := Y1.c0
  have q1 := Y1.c1
  have q2 := Y1.c2
  have HB2 := hide B2
  have HO2 := hide O2
  clear CC hb1 X2 Y2 Y1 B2 O2 hz1
  have hO1 := hide ho1
  clear ho1
  go_wp2_with fail
  refine bodyPost_ret (v := .tuple #[.agg #[.int .i64 s, .int .i64 z', .slice a1 es.length c1], .int .i64 0]) (by simp [results, Try.results8, go_sem, r0, r1, r2]) rfl ⟨_, rfl, ?_, ?_⟩
  · exact ((((unhide HO2).otherz (by simp) _).otherz (by simp) _).otherz (by simp) _).lower (by simp; omega)
  · exact (((unhide HB2).setCell (by simp) _).setCell (by simp) _).setCell (by simp) _
end Go.Proofs.Ytdefdbejaabpdaa

namespace Go.Proofs.Ytdefdbejaabpdaa
open Go.RowKit
theorem OwnR.head {α : Type} [Lay α] {W : World} {g cap : Nat} {A B : List α} (h : OwnR W g cap (A ++ B)) : OwnR W g cap A := by
  obtain ⟨rest, h1, h2, h4, h3⟩ := h
  refine ⟨cellsL B ++ rest, by rw [h1, cellsL_append, List.append_assoc], ?_, ?_, h3⟩
  · rw [List.length_append, cellsL_length B]
    rw [List.length_append, Nat.add_mul] at h2
    omega
  · rw [List.length_append] at h4; omega
end Go.Proofs.Ytdefdbejaabpdaa

namespace Go.Proofs.Ytdefdbejaabpdaa
open Go.RowKit
set_option maxRecDepth 10000 in
set_option maxHeartbeats 1000000 in
theorem cstarts_any (w : World) : Calls Try.prog 21 #[] w fun e w' => e = .returned (.bool true) ∧ Below w.heap.size w w' := by
  have C := fun W => cnew_yes 7 W (by decide) (by decide)
  unfold clV at C
  go_enter Try.func21, Try.ntmps21
  go_wp2_with fail
  refine (C _).mono ?_
  rintro e w1 ⟨rfl, hb1⟩
  go_wp2_with fail
  go_ret
  exact ⟨rfl, nnext hb1 (allocB _ _)⟩
end Go.Proofs.Ytdefdbejaabpdaa

namespace Go.Proofs.Ytdefdbejaabpdaa
open Go.RowKit

/-- an end came of a call, in a box of its own -/
structure BoxX (w W : World) (q : Nat) (s z : Int) (v : Value) : Prop where
  b : Below w.heap.size w W
  le : w.heap.size ≤ q
  box : CBox W q s z v
theorem boxx_new {w W : World} (s z : Int) (v : Value) (h : Below w.heap.size w W) : BoxX w (W.alloc (.cells #[.int .i64 s, .int .i64 z, v] 24)) W.heap.size s z v :=
  ⟨nnext h (allocB _ _), h.size, CBox.new W s z v⟩
theorem boxx_put {w W : World} {k : Nat} {v0 : Value} (s z : Int) (v : Value) (h : Below w.heap.size w W) (hk : w.heap.size ≤ k) (hz : CBox W k 0 0 v0) : BoxX w (((W.setCell ⟨k, 0, none⟩ (.int .i64 s)).setCell ⟨k, 1, none⟩ (.int .i64 z)).setCell ⟨k, 2, none⟩ v) k s z v :=
  ⟨((h.setCell hk _).setCell hk _).setCell hk _, hk, (hz.set0.set1).set2⟩
theorem see_empty (s z x : Int) (a : Option Addr) (c : Nat) (hc : c ≤ maxLen) (W : World) : ∃ s2 z2 E : Int, (s2 = if x < z then 0 else s) ∧ (z2 = if x < z then 0 else x) ∧ (E = if x < z then 15 else 0) ∧
    Calls Try.prog 8 #[clV s z (.slice a 0 c), .int .i64 x] W fun e w' => ∃ a' c', e = .returned (.tuple #[clV s2 z2 (.slice a' 0 c'), .int .i64 E]) ∧ c' ≤ maxLen ∧ Below W.heap.size W w' := by
  by_cases h : x < z
  · refine ⟨0, 0, 15, by simp [h], by simp [h], by simp [h], ?_⟩
    exact (csee_no s z x a 0 c W h).mono fun e w' ⟨h1, h2⟩ => ⟨none, 0, h1, by decide, h2⟩
  · refine ⟨s, x, 0, by simp [h], by simp [h], by simp [h], ?_⟩
    refine (csee_yes s z x (.slice a 0 c) [] W (.inl ⟨a, c, rfl, rfl, hc⟩) (fun _ h => by simp at h) (by simp) (by omega)).mono fun e w' ⟨v', h1, h2, h3⟩ => ?_
    obtain ⟨a', c', rfl, hc'⟩ := h2.slice
    exact ⟨a', c', h1, hc', h3⟩

set_option maxRecDepth 20000 in
set_option maxHeartbeats 4000000 in
theorem clientRises_walk (s : Int) (v : Value) (l : List Int) (w : World) (hv : SeqV w v l) :
    Calls Try.prog 5 #[.int .i64 s, v] w fun e w' => e = .returned (.bool true) ∧ Below w.heap.size w w' := by
  have KR := hide (crow hv)
  obtain ⟨va, vc, rfl⟩ := seq_slice hv
  clear hv
  by_cases hs : s < 1 ∨ 2147483647 < s
  · have C1 := cnew_no s w hs
    unfold clV at C1
    clear hs
    go_enter Try.func5, Try.ntmps5
    go_wp2_with fail
    refine C1.mono ?_
    rintro e w1 ⟨rfl, hb1⟩
    have HB1 := hide (nnext hb1 (allocB w1 (.cells #[.int .i64 0, .int .i64 0, .slice none 0 0] 24)))
    clear C1 hb1
    go_wp2_with fail
    refine (cstarts_any _).mono ?_
    rintro e w2 ⟨rfl, hb2⟩
    have HB2 := hide (nnext (unhide HB1) hb2)
    clear hb2
    go_wp2_with fail
    go_ret
    exact ⟨rfl, unhide HB2⟩
  · have C1 := cnew_yes s w (by omega) (by omega)
    unfold clV at C1
    clear hs
    go_enter Try.func5, Try.ntmps5
    go_wp2_with fail
    refine C1.mono ?_
    rintro e w1 ⟨rfl, hb1⟩
    have HB1 := hide (nnext hb1 (allocB w1 (.cells #[.int .i64 s, .int .i64 0, .slice none 0 0] 24)))
    have HX1 := hide (CBox.new w1 s 0 (.slice none 0 0))
    have hw1 := hb1.size
    clear C1 hb1
    go_wp2_with fail
    generalize w1.alloc (.cells #[.int .i64 s, .int .i64 0, .slice none 0 0] 24) = W1 at *
    refine (cstarts_any _).mono ?_
    rintro e w2 ⟨rfl, hb2⟩
    have HB2 := hide (nnext (unhide HB1) hb2)
    have HX2 := hide ((unhide HX1).next hb2)
    clear hb2 HX1
    obtain ⟨cb, hcb⟩ : ∃ cb, cb = w1.heap.size := ⟨_, rfl⟩
    have HCB := hide hcb
    rw [← hcb] at HX2 hw1 ⊢
    clear hcb
    go_wp2_with fail
    go_loopg [7, 8] l.length (fun kx s7 s8 wr => ∃ (k : Nat) (z : Int) (a : Option Addr) (c : Nat), s8 = .int .i64 k ∧ s7 = .int .i64 z ∧ k ≤ l.length ∧ l.length - k ≤ kx ∧ c ≤ maxLen ∧ Hid (CBox wr cb s z (.slice a 0 c)) ∧ Hid (Below w.heap.size w wr))
    case atStart => exact ⟨0, 0, none, 0, rfl, rfl, Nat.zero_le _, Nat.le_refl _, by decide, HX2, HB2⟩
    case round =>
      obtain ⟨k, z, a, c, rfl, rfl, hk, hg, hc, hX, hB⟩ := hrel
      by_cases hlt : k < l.length
      · by_cases h100 : k < 100
        · obtain ⟨x, hx⟩ : ∃ x, l[k]? = some x := ⟨_, List.getElem?_eq_getElem hlt⟩
          obtain ⟨b, off, cap, he, hb, q⟩ := unhide KR wr (unhide hB) k x hx
          simp only [Value.slice.injEq] at he
          obtain ⟨rfl, _, rfl⟩ := he
          have hbw : b < wr.heap.size := Nat.lt_of_lt_of_le hb (unhide hB).size
          have hlti : (k : Int) < (l.length : Int) := by omega
          have h100i : (k : Int) < 100 := by omega
          have d0 := q.i0 hx
          have HKS : Hid (∀ W, Below wr.heap.size wr W → W.cell? ⟨cb, 0, none⟩ = some (.int .i64 s) ∧ W.cell? ⟨cb, 1, none⟩ = some (.int .i64 z) ∧ W.cell? ⟨cb, 2, none⟩ = some (.slice a 0 c) ∧ W.cell? ⟨b, off + k, none⟩ = some (.int .i64 x)) := hide fun W hW => by
            have X := (unhide hX).next hW
            exact ⟨X.c0, X.c1, X.c2, (q.kept hW hbw).i0 hx⟩
          obtain ⟨x0, x1, x2, _⟩ := unhide HKS wr (Below.refl _ _)
          have hcl := (unhide hX).lt
          clear q hx
          by_cases hxz : x < z
          · have CS0 : ∀ W, Calls Try.prog 8 #[clV s z (.slice a 0 c), .int .i64 x] W fun e w' => ∃ a' c', e = .returned (.tuple #[clV 0 (0) (.slice a' 0 c'), .int .i64 15]) ∧ c' ≤ maxLen ∧ Below W.heap.size W w' := fun W => by
              obtain ⟨s2, z2, E, e1, e2, e3, C⟩ := see_empty s z x a c hc W
              rw [if_pos hxz] at e1 e2 e3
              subst e1 e2 e3
              exact C
            unfold clV at CS0
            have CS := hide CS0
            clear CS0
            go_upto_region 8 with fail
            go_cut [9, 10] from 28 to 80 (fun t9 t10 wx => ∃ q a' c', t9 = .pointer (some ⟨q, 0, none⟩) ∧ t10 = .int .i64 15 ∧ c' ≤ maxLen ∧ Hid (BoxX wr wx q 0 (0) (.slice a' 0 c')))
            case first =>
              go_region_held3 (fun w' => w'.cell? ⟨cb, 0, none⟩ = some (.int .i64 s) ∧ w'.cell? ⟨cb, 1, none⟩ = some (.int .i64 z) ∧ w'.cell? ⟨cb, 2, none⟩ = some (.slice a 0 c) ∧ w'.cell? ⟨b, off + k, none⟩ = some (.int .i64 x)) (first | with_reducible exact unhide HKS _ (by first | with_reducible exact Below.refl _ _ | with_reducible exact (Below.refl _ _).drew | with_reducible exact allocB _ _ | with_reducible exact (allocB _ _).drew | with_reducible exact nnext (Below.refl _ _).drew (allocB _ _) | with_reducible exact unhide aB1 | with_reducible exact nnext (unhide aB1) (allocB _ _) | with_reducible exact (((unhide aB1).setCell (by simp) _).setCell (by simp) _).setCell (by simp) _)) (first
                | (go_at_call 8; refine (unhide CS _).mono ?_; rintro e aw1 ⟨a1, c1, rfl, hc1, hb1⟩; have aB1 : Hid (Below wr.heap.size wr aw1) := hide (nnext (by first | with_reducible exact Below.refl _ _ | with_reducible exact (Below.refl _ _).drew | with_reducible exact allocB _ _ | with_reducible exact (allocB _ _).drew | with_reducible exact nnext (Below.refl _ _).drew (allocB _ _)) hb1); (try (have aZ0 : Hid (CBox aw1 wr.heap.size 0 0 (.slice none 0 0)) := hide ((hb1.block _ (by simp)).trans (heap_alloc_new wr _)); have z0 := (unhide aZ0).c0; have z1 := (unhide aZ0).c1; have z2 := (unhide aZ0).c2; have z3 := (unhide aZ0).fr 0; have z4 := (unhide aZ0).fr 1; have z5 := (unhide aZ0).fr 2)); clear hb1))
              all_goals go_wp2_with fail
              all_goals go_meet
              all_goals first
                | exact ⟨_, a1, c1, rfl, rfl, hc1, hide (boxx_new _ _ _ (unhide aB1))⟩
                | exact ⟨_, a1, c1, rfl, rfl, hc1, hide (boxx_put _ _ _ (unhide aB1) (Nat.le_refl _) (unhide aZ0))⟩
            case rest =>
              obtain ⟨q, a', c', rfl, rfl, hc', hY⟩ := hcut
              have hX2 := hide ((unhide hX).next (unhide hY).b)
              have hB2 := hide (nnext (unhide hB) (unhide hY).b)
              obtain ⟨y0, y1, y2, y3⟩ := unhide HKS wc (unhide hY).b
              have hbx : b < wc.heap.size := Nat.lt_of_lt_of_le hbw (unhide hY).b.size
              have hq0 := (unhide hY).box.c0
              have hq1 := (unhide hY).box.c1
              have hq2 := (unhide hY).box.c2
              have hcq : cb ≠ q := by have := (unhide hY).le; omega
              have hcq' : q ≠ cb := hcq.symm
              have hqf0 := (unhide hX2).fr 0
              have hqf1 := (unhide hX2).fr 1
              have hqf2 := (unhide hX2).fr 2
              go_wp2_with fail
              go_roundg (l.length - (k + 1))
              case measure => omega
              case rel => exact ⟨k + 1, z, a, c, rfl, rfl, by omega, Nat.le_refl _, hc, hX2, hB2⟩
          · have CS0 : ∀ W, Calls Try.prog 8 #[clV s z (.slice a 0 c), .int .i64 x] W fun e w' => ∃ a' c', e = .returned (.tuple #[clV s (x) (.slice a' 0 c'), .int .i64 0]) ∧ c' ≤ maxLen ∧ Below W.heap.size W w' := fun W => by
              obtain ⟨s2, z2, E, e1, e2, e3, C⟩ := see_empty s z x a c hc W
              rw [if_neg hxz] at e1 e2 e3
              subst e1 e2 e3
              exact C
            unfold clV at CS0
            have CS := hide CS0
            clear CS0
            go_upto_region 8 with fail
            go_cut [9, 10] from 28 to 80 (fun t9 t10 wx => ∃ q a' c', t9 = .pointer (some ⟨q, 0, none⟩) ∧ t10 = .int .i64 0 ∧ c' ≤ maxLen ∧ Hid (BoxX wr wx q s (x) (.slice a' 0 c')))
            case first =>
              go_region_held3 (fun w' => w'.cell? ⟨cb, 0, none⟩ = some (.int .i64 s) ∧ w'.cell? ⟨cb, 1, none⟩ = some (.int .i64 z) ∧ w'.cell? ⟨cb, 2, none⟩ = some (.slice a 0 c) ∧ w'.cell? ⟨b, off + k, none⟩ = some (.int .i64 x)) (first | with_reducible exact unhide HKS _ (by first | with_reducible exact Below.refl _ _ | with_reducible exact (Below.refl _ _).drew | with_reducible exact allocB _ _ | with_reducible exact (allocB _ _).drew | with_reducible exact nnext (Below.refl _ _).drew (allocB _ _) | with_reducible exact unhide aB1 | with_reducible exact nnext (unhide aB1) (allocB _ _) | with_reducible exact (((unhide aB1).setCell (by simp) _).setCell (by simp) _).setCell (by simp) _)) (first
                | (go_at_call 8; refine (unhide CS _).mono ?_; rintro e aw1 ⟨a1, c1, rfl, hc1, hb1⟩; have aB1 : Hid (Below wr.heap.size wr aw1) := hide (nnext (by first | with_reducible exact Below.refl _ _ | with_reducible exact (Below.refl _ _).drew | with_reducible exact allocB _ _ | with_reducible exact (allocB _ _).drew | with_reducible exact nnext (Below.refl _ _).drew (allocB _ _)) hb1); (try (have aZ0 : Hid (CBox aw1 wr.heap.size 0 0 (.slice none 0 0)) := hide ((hb1.block _ (by simp)).trans (heap_alloc_new wr _)); have z0 := (unhide aZ0).c0; have z1 := (unhide aZ0).c1; have z2 := (unhide aZ0).c2; have z3 := (unhide aZ0).fr 0; have z4 := (unhide aZ0).fr 1; have z5 := (unhide aZ0).fr 2)); clear hb1))
              all_goals go_wp2_with fail
              all_goals go_meet
              all_goals first
                | exact ⟨_, a1, c1, rfl, rfl, hc1, hide (boxx_new _ _ _ (unhide aB1))⟩
                | exact ⟨_, a1, c1, rfl, rfl, hc1, hide (boxx_put _ _ _ (unhide aB1) (Nat.le_refl _) (unhide aZ0))⟩
            case rest =>
              obtain ⟨q, a', c', rfl, rfl, hc', hY⟩ := hcut
              have hX2 := hide ((unhide hX).next (unhide hY).b)
              have hB2 := hide (nnext (unhide hB) (unhide hY).b)
              obtain ⟨y0, y1, y2, y3⟩ := unhide HKS wc (unhide hY).b
              have hbx : b < wc.heap.size := Nat.lt_of_lt_of_le hbw (unhide hY).b.size
              have hq0 := (unhide hY).box.c0
              have hq1 := (unhide hY).box.c1
              have hq2 := (unhide hY).box.c2
              have hcq : cb ≠ q := by have := (unhide hY).le; omega
              have hcq' : q ≠ cb := hcq.symm
              have hqf0 := (unhide hX2).fr 0
              have hqf1 := (unhide hX2).fr 1
              have hqf2 := (unhide hX2).fr 2
              have hzx : z ≤ x := by omega
              go_upto_region 12 with fail
              go_cut [7] from 28 to 80 (fun t7 wy => t7 = .int .i64 x ∧ Hid (CBox wy cb s x (.slice a' 0 c') ∧ Below w.heap.size w wy))
              case first =>
                go_region
                all_goals go_wp2_with fail
                all_goals go_meet
                all_goals exact ⟨rfl, hide ⟨(((unhide hX2).set0 (s' := s)).set1 (z' := x)).set2 (v' := .slice a' 0 c'), ((((unhide hB2).setCell hw1 _).setCell hw1 _).setCell hw1 _).drew⟩⟩
              case rest =>
                obtain ⟨rfl, hZ⟩ := hcut
                have g0 := (unhide hZ).1.c0
                have g1 := (unhide hZ).1.c1
                clear y0 y1 y2 y3 hq0 hq1 hq2 hqf0 hqf1 hqf2
                go_wp2_with fail
                go_roundg (l.length - (k + 1))
                case measure => omega
                case rel => exact ⟨k + 1, x, a', c', rfl, rfl, by omega, Nat.le_refl _, hc', hide (unhide hZ).1, hide (unhide hZ).2⟩
        · go_wp2_with fail
          go_ret
          exact ⟨rfl, unhide hB⟩
      · go_wp2_with fail
        go_ret
        exact ⟨rfl, unhide hB⟩
end Go.Proofs.Ytdefdbejaabpdaa

namespace Go.Proofs.Ytdefdbejaabpdaa
open Go.ChangeShapes Go.WideShapes Go.ChangeAt Go.RowKit Go.ChangeMaps

theorem zlaidOut : laidOutB Try.prog = true := by kernel_rfl
section
variable {H : Type} {enc : TypeId × Value → H} {W : World} {base : Nat} {spare : Nat → Bool} {held : Bool}
theorem zweightsAll_mem {e : TypeId} : ∀ (l : List (DataW H)) (d : DataW H) (x : Nat), d ∈ l → x ∈ DataW.weights Try.prog e d → x ∈ DataW.weightsAll Try.prog e l
  | d' :: r, d, x, h, hx => by
    rw [DataW.weightsAll]
    rcases List.mem_cons.1 h with rfl | h
    · exact List.mem_append.2 (.inl hx)
    · exact List.mem_append.2 (.inr (zweightsAll_mem r d x h hx))
set_option maxRecDepth 10000 in
/-- a slice of elements that are laid in a row, and what is known of each -/
theorem open_seqP {α : Type} [Lay α] (al : α) {T E : TypeId} (hU : Try.prog.underlying T = some (.slice E)) (hk : Try.prog.cellsOf E = Lay.k α) (hk0 : 0 < Lay.k α) {bytes : Nat} (hby : Try.prog.bytesOf E = bytes) (P : α → Prop) (Q : Nat → α → Prop)
    (ho : ∀ {n : Nat} {cs : List Value} {x : DataW H × List MemPlace}, cs.length = Lay.k α → DataW.trod enc Try.prog W base spare held n E cs = some x → ∃ f : α, cs = Lay.cs f ∧ P f ∧ ∀ M, (∀ y ∈ DataW.weights Try.prog E x.1, y ≤ M) → Q M f)
    {fuel : Nat} {v : Value} {y : DataW H × List MemPlace} (h : DataW.trod enc Try.prog W base spare held fuel T [v] = some y) :
    ∃ xs : List α, SeqV W v xs ∧ (∀ x ∈ xs, P x) ∧ ∀ M, (∀ x ∈ DataW.weights Try.prog T y.1, x ≤ M) → xs.length * bytes ≤ M ∧ ∀ x ∈ xs, Q M x := by
  rcases Go.Deep.open_slice hU h with ⟨h1, hx⟩ | ⟨a, len, cap, m, k, D, Pl, h1, hb, hl, hm, hmm, hx, hel⟩
  · simp only [List.cons.injEq, and_true] at h1
    rw [h1]
    exact ⟨[], SeqV.nil W, by simp, fun M _ => ⟨by simp, by simp⟩⟩
  · simp only [List.cons.injEq, and_true] at h1
    rw [h1]
    subst hx
    have hlm : len ≤ m := by rw [hmm]; split <;> omega
    have each : ∀ i, i < len → ∃ f : α, (∀ c, c < Lay.k α → W.cell? (a.add (i * Lay.k α + c)) = (Lay.cs f)[c]?) ∧ P f ∧ ∀ M, (∀ y ∈ DataW.weights Try.prog E (D i), y ≤ M) → Q M f := by
      intro i hi
      obtain ⟨cs', g1, g2⟩ := hel i (by omega)
      rw [hk] at g1
      obtain ⟨_, hlen, hcell⟩ := World.cells?_some g1
      obtain ⟨f, rfl, hp, hq⟩ := ho hlen g2
      refine ⟨f, fun c hc => ?_, hp, hq⟩
      have := hcell c hc
      rwa [Go.Deep.add_add] at this
    have : Inhabited α := ⟨al⟩
    obtain ⟨F, hF⟩ := Go.Deep.choose_lt each
    refine ⟨(List.range len).map F, ?_, ?_, ?_⟩
    · by_cases h0 : len = 0
      · subst h0
        exact .inl ⟨some a, cap, rfl, rfl, hm⟩
      · have c0 := (hF 0 (by omega)).1 0 hk0
        obtain ⟨y, hy⟩ : ∃ y, (Lay.cs (F 0))[0]? = some y := ⟨_, List.getElem?_eq_getElem (by rw [Lay.len]; exact hk0)⟩
        rw [hy] at c0
        obtain ⟨b, off, sp⟩ := a
        have hsp : sp = none := by
          cases sp with
          | none => rfl
          | some s => simp [World.cell?, Addr.add] at c0; split at c0 <;> simp at c0
        subst hsp
        have hblt : b < W.heap.size := World.block_lt_of_cell? W _ (show W.cell? ((⟨b, off, none⟩ : Addr).add (0 * Lay.k α + 0)) = some _ from c0) |> fun h => by simpa [Addr.add] using h
        refine .inr ⟨b, off, cap, by simp, by simpa using hl, hm, hblt, by simp; omega, fun j u hj => ?_⟩
        have hjl : j < len * Lay.k α := by
          have := (List.getElem?_eq_some_iff.1 hj).1
          rw [cellsL_length, List.length_map, List.length_range] at this
          exact this
        have hi : j / Lay.k α < len := Nat.div_lt_of_lt_mul (by rw [Nat.mul_comm]; exact hjl)
        have hm' : j % Lay.k α < Lay.k α := Nat.mod_lt _ hk0
        have hdm : j / Lay.k α * Lay.k α + j % Lay.k α = j := by rw [Nat.mul_comm]; exact Nat.div_add_mod j _
        have hg := cellsL_get ((List.range len).map F) (j / Lay.k α) (F (j / Lay.k α)) (by rw [List.getElem?_map, List.getElem?_range hi]; rfl) (j % Lay.k α) hm'
        rw [hdm, hj] at hg
        have := (hF (j / Lay.k α) hi).1 (j % Lay.k α) hm'
        rw [hdm, Addr.add_lit, ← hg] at this
        exact this
    · intro x hx
      obtain ⟨i, hi, rfl⟩ := List.mem_map.1 hx
      exact (hF i (by simpa using hi)).2.1
    · intro M hM
      have hw' : DataW.weights Try.prog T (.slice ((List.range len).map D) ((List.range (m - len)).map fun j => D (len + j)) : DataW H) =
          (len + (m - len)) * bytes :: (DataW.weightsAll Try.prog E ((List.range len).map D) ++ DataW.weightsAll Try.prog E ((List.range (m - len)).map fun j => D (len + j))) := by
        simp [DataW.weights, hU, hby]
      rw [hw'] at hM
      refine ⟨?_, fun f hf => ?_⟩
      · have := hM _ (List.mem_cons_self ..)
        simp only [List.length_map, List.length_range]
        exact Nat.le_trans (Nat.mul_le_mul_right _ (by omega)) this
      · obtain ⟨i, hi, rfl⟩ := List.mem_map.1 hf
        have hi' : i < len := by simpa using hi
        exact (hF i hi').2.2 M fun x hx => hM x (List.mem_cons_of_mem _ (List.mem_append.2 (.inl (zweightsAll_mem _ (D i) x (List.mem_map.2 ⟨i, hi, rfl⟩) hx))))
end
end Go.Proofs.Ytdefdbejaabpdaa

namespace Go.Proofs.Ytdefdbejaabpdaa
open Go.ChangeShapes Go.WideShapes Go.ChangeAt Go.RowKit Go.ChangeMaps
theorem ccellsInt : Try.prog.cellsOf 3 = 1 := by kernel_rfl
theorem cbytesInt : Try.prog.bytesOf 3 = 8 := by kernel_rfl

section
variable {H : Type} {enc : TypeId × Value → H} {W : World} {base : Nat} {spare : Nat → Bool} {held : Bool}
theorem copen_int {n : Nat} {cs : List Value} {x : DataW H × List MemPlace} (hl : cs.length = 1) (h : DataW.trod enc Try.prog W base spare held n 3 cs = some x) :
    ∃ f : Int, cs = [.int .i64 f] ∧ True ∧ ∀ M, (∀ y ∈ DataW.weights Try.prog 3 x.1, y ≤ M) → True := by
  match cs, hl with
  | [c0], _ =>
    obtain ⟨s, e0, _, _⟩ := DataW.trod_int Try.underlying3 h
    exact ⟨s, e0, trivial, fun _ _ => trivial⟩
theorem open_ints {r : Reach} {b0 : Nat} {v : Value} {d : DataW H} {p : List MemPlace} (hv : Value.okWide Try.prog W r b0 41 v) (h : DataW.Trod enc Try.prog W base spare held 41 v d p) :
    ∃ is : List Int, SeqV W v is := by
  obtain ⟨fuel, hf⟩ := h
  obtain ⟨sa, sl, sc, rfl⟩ := okWide_slice Try.underlying41 hv
  obtain ⟨is, h1, _, _⟩ := open_seqP (0 : Int) Try.underlying41 ccellsInt (by decide) cbytesInt (fun _ => True) (fun _ _ => True) copen_int (y := (d, p)) (show DataW.trod enc Try.prog W base spare held fuel 41 [.slice sa sl sc] = some (d, p) by simpa [Value.cells] using hf)
  exact ⟨is, h1⟩
end
end Go.Proofs.Ytdefdbejaabpdaa
