/-
  Copies of entries: slices.Clone, client.own: the walks.
  What client.copied answers: the walk.
  What client.Look, client.New and client.See answer: the walks.
  Rows of the call's own, whatever their elements are: their heads, their values.
  What aviaryref's CopyClient, SameClient (of alike ones), NewClient and See answer, and ends, starts: the walks.
  The law ClientSees: the walk.
  A slice of elements that are laid in a row, as an argument: opened, with what is known of each.
  An end, lists of entries, of notes and of numbers, and one entry, as arguments: opened; what their weights say of their lengths.
-/
import Derived.Test.YtdefdbejaabpdaaQAA
import Derived.Test.YtdefdbejaabpdaaShelf
import Derived.Lib.SliceRun
import Derived.Lib.QuietBelow
import Derived.BigQuiet
import Derived.Test.YtdefdbejaabpdaaRows
import Derived.ProofKit
import Derived.OpenShut
import Derived.SizedLaws
import Derived.Deep.Slices
import Derived.Carry
namespace Go.Proofs.Ytdefdbejaabpdaa
open Go.RowKit
set_option maxRecDepth 10000 in

set_option maxHeartbeats 400000 in
theorem sclone1_any (s : List UInt8) (w : World) (hs : s.length ≤ 281474976710656) :
    Calls Try.prog 38 #[.string ⟨s.toArray⟩] w fun e w' => e = .returned (.string ⟨s.toArray⟩) ∧ Below w.heap.size w w' := by
  have C := fun W => Try.stringslite_Clone ⟨s.toArray⟩ W (show (ByteArray.mk s.toArray).size ≤ _ from hs)
  go_enter Try.func38, Try.ntmps38
  go_wp2_with fail
  refine (C _).mono ?_
  rintro e w1 ⟨rfl, hb1⟩
  go_wp2_with fail
  go_ret
  exact ⟨rfl, hb1⟩

set_option maxRecDepth 10000 in
set_option maxHeartbeats 2000000 in
theorem clC_some (a : Addr) (cap : Nat) (xs : List En) (w : World) (hl : xs.length * 40 ≤ 140737488355328) (hc : ∀ j u, (cellsL xs)[j]? = some u → w.cell? (a.add j) = some u) :
    Calls Try.prog 32 #[.slice (some a) xs.length cap] w fun e w' => ∃ v', e = .returned v' ∧ OwnS w' w.heap.size v' xs ∧ Below w.heap.size w w' := by
  have q22 : ∀ (w : World) (a : Option Addr) (n c n' c' : Nat), (binOp .eql 22 (.slice a n c) (.slice none n' c')).run Try.prog w = .ok (.bool a.isNone) w := fun w a n c n' c' => Lib.run_eql_slice_nil w _ _ a n c n' c' Try.underlying22
  have H := hide hc
  clear hc
  obtain ⟨i0, hi0, hz0, hz1, hz2⟩ := cinfo
  go_enter Try.func32, Try.ntmps32
  go_wp2_with (at_builtin; refine wpList_append_own _ rfl _ _ 22 rfl w.heap.size 36 i0 _ 3 40 Try.underlying22 hi0 hz0 hz1 hz2 rfl (by decide) _ _ _ rfl (World.ownsRow_made w #[] 0 (Nat.le_refl _) (Nat.zero_le _) (by simp)) a xs.length cap (cellsL xs) rfl ?qc1 ?qc2 ?qc3 ?qc4 ?qc5 ?qc6 ?_)
  case qc1 => exact cellsL_length xs
  case qc2 =>
    intro j u hj
    exact Lib.cell?_alloc_some _ (unhide H j u hj)
  case qc3 => exact cellsL_one xs
  case qc4 => simp only [maxLen]; omega
  case qc5 => omega
  case qc6 => simp
  intro v' w1 hown hgrow hnil
  go_wp2
  go_ret
  refine ⟨v', rfl, OwnS.of_row (by first | exact hown | (simp only [List.nil_append, Nat.zero_add] at hown; exact hown) | simpa using hown), ?_⟩
  exact ((Below.refl _ w).alloc (Nat.le_refl _) _).grown hgrow (by simp) (by intro k hk; simp [Value.ownBlock] at hk; omega)

set_option maxRecDepth 10000 in
set_option maxHeartbeats 400000 in
theorem clC_nil (n c : Nat) (w : World) :
    Calls Try.prog 32 #[.slice none n c] w fun e w' => e = .returned (.slice none 0 0) ∧ w' = w := by
  have q22 : ∀ (w : World) (a : Option Addr) (n c n' c' : Nat), (binOp .eql 22 (.slice a n c) (.slice none n' c')).run Try.prog w = .ok (.bool a.isNone) w := fun w a n c n' c' => Lib.run_eql_slice_nil w _ _ a n c n' c' Try.underlying22
  go_enter Try.func32, Try.ntmps32
  go_wp2
  go_ret
  exact ⟨rfl, rfl⟩

theorem clC_any (v : Value) (xs : List En) (w : World) (hv : SeqV w v xs) (hl : xs.length * 40 ≤ 140737488355328) :
    Calls Try.prog 32 #[v] w fun e w' => ∃ v', e = .returned v' ∧ OwnS w' w.heap.size v' xs ∧ Below w.heap.size w w' := by
  rcases hv with ⟨a, cap, rfl, rfl, _⟩ | ⟨b, off, cap, rfl, _, _, hb, _, hr⟩
  · cases a with
    | none => exact (clC_nil 0 cap w).mono fun e w' ⟨he, hw⟩ => ⟨_, he, .inl ⟨rfl, rfl⟩, by rw [hw]; exact Below.refl _ _⟩
    | some a => exact clC_some a cap [] w (by simp) (fun j u h => by simp [cellsL] at h)
  · exact clC_some ⟨b, off, none⟩ cap xs w hl (fun j u h => by rw [Addr.add_lit]; exact hr j u h)

set_option maxRecDepth 10000 in
set_option maxHeartbeats 2000000 in
theorem ownC_any (x : En) (w : World) (hp : x.p.length ≤ 140737488355328) (hd : x.d.length ≤ 140737488355328) :
    Calls Try.prog 26 #[.agg #[.string ⟨x.p.toArray⟩, .string ⟨x.d.toArray⟩, .bool x.t]] w fun e w' => e = .returned (.agg #[.string ⟨x.p.toArray⟩, .string ⟨x.d.toArray⟩, .bool x.t]) ∧ Below w.heap.size w w' := by
  obtain ⟨xp, xd, xt⟩ := x
  simp only at *
  have Kp := fun W => sclone1_any xp W (by omega)
  have Kd := fun W => sclone1_any xd W (by omega)
  go_enter Try.func26, Try.ntmps26
  go_wp2_with fail
  have hB0 : Below w.heap.size w ((w.alloc (.cells #[.string ⟨xp.toArray⟩, .string ⟨xd.toArray⟩, .bool xt] 36)).alloc (.cells #[.string ⟨#[]⟩, .string ⟨#[]⟩, .bool false] 36)) := nnext (allocB _ _) (allocB _ _)
  have hz0 : ((w.alloc (.cells #[.string ⟨xp.toArray⟩, .string ⟨xd.toArray⟩, .bool xt] 36)).alloc (.cells #[.string ⟨#[]⟩, .string ⟨#[]⟩, .bool false] 36)).heap.size = w.heap.size + 2 := by simp
  have p0 : ((w.alloc (.cells #[.string ⟨xp.toArray⟩, .string ⟨xd.toArray⟩, .bool xt] 36)).alloc (.cells #[.string ⟨#[]⟩, .string ⟨#[]⟩, .bool false] 36)).cell? ⟨w.heap.size, 0, none⟩ = some (.string ⟨xp.toArray⟩) := by simp
  have r0 : ((w.alloc (.cells #[.string ⟨xp.toArray⟩, .string ⟨xd.toArray⟩, .bool xt] 36)).alloc (.cells #[.string ⟨#[]⟩, .string ⟨#[]⟩, .bool false] 36)).cell? ⟨w.heap.size + 1, 0, none⟩ = some (.string ⟨#[]⟩) := by simp
  have p1 : ((w.alloc (.cells #[.string ⟨xp.toArray⟩, .string ⟨xd.toArray⟩, .bool xt] 36)).alloc (.cells #[.string ⟨#[]⟩, .string ⟨#[]⟩, .bool false] 36)).cell? ⟨w.heap.size, 1, none⟩ = some (.string ⟨xd.toArray⟩) := by simp
  have r1 : ((w.alloc (.cells #[.string ⟨xp.toArray⟩, .string ⟨xd.toArray⟩, .bool xt] 36)).alloc (.cells #[.string ⟨#[]⟩, .string ⟨#[]⟩, .bool false] 36)).cell? ⟨w.heap.size + 1, 1, none⟩ = some (.string ⟨#[]⟩) := by simp
  have p2 : ((w.alloc (.cells #[.string ⟨xp.toArray⟩, .string ⟨xd.toArray⟩, .bool xt] 36)).alloc (.cells #[.string ⟨#[]⟩, .string ⟨#[]⟩, .bool false] 36)).cell? ⟨w.heap.size, 2, none⟩ = some (.bool xt) := by simp
  have r2 : ((w.alloc (.cells #[.string ⟨xp.toArray⟩, .string ⟨xd.toArray⟩, .bool xt] 36)).alloc (.cells #[.string ⟨#[]⟩, .string ⟨#[]⟩, .bool false] 36)).cell? ⟨w.heap.size + 1, 2, none⟩ = some (.bool false) := by simp
  have pf : ∀ j, ((w.alloc (.cells #[.string ⟨xp.toArray⟩, .string ⟨xd.toArray⟩, .bool xt] 36)).alloc (.cells #[.string ⟨#[]⟩, .string ⟨#[]⟩, .bool false] 36)).frozen? ⟨w.heap.size, j, none⟩ = false := by intro j; simp
  have rf : ∀ j, ((w.alloc (.cells #[.string ⟨xp.toArray⟩, .string ⟨xd.toArray⟩, .bool xt] 36)).alloc (.cells #[.string ⟨#[]⟩, .string ⟨#[]⟩, .bool false] 36)).frozen? ⟨w.heap.size + 1, j, none⟩ = false := by intro j; simp
  generalize (w.alloc (.cells #[.string ⟨xp.toArray⟩, .string ⟨xd.toArray⟩, .bool xt] 36)).alloc (.cells #[.string ⟨#[]⟩, .string ⟨#[]⟩, .bool false] 36) = W0 at *
  have d0 : ∀ d os, (Sort.grow (redrawn W0 d) os).cell? ⟨w.heap.size, 0, none⟩ = some (.string ⟨xp.toArray⟩) := fun d os => cell_regrown p0 d os
  have g0 : ∀ d os, (Sort.grow (redrawn W0 d) os).frozen? ⟨w.heap.size, 0, none⟩ = false := fun d os => by rw [(below_regrown W0 d os).frozen (p := ⟨w.heap.size, 0, none⟩) (by simp only; omega)]; exact pf 0
  have s0 : ∀ d os, (Sort.grow (redrawn W0 d) os).setCell ⟨w.heap.size, 0, none⟩ (.string ⟨xp.toArray⟩) = Sort.grow (redrawn W0 d) os := fun d os => nset_same (d0 d os)
  have c0 := fun d os => Calls.regrown_of (w := W0) (d := d) (os := os) (Kp _)
  have d1 : ∀ d os, (Sort.grow (redrawn W0 d) os).cell? ⟨w.heap.size, 1, none⟩ = some (.string ⟨xd.toArray⟩) := fun d os => cell_regrown p1 d os
  have g1 : ∀ d os, (Sort.grow (redrawn W0 d) os).frozen? ⟨w.heap.size, 1, none⟩ = false := fun d os => by rw [(below_regrown W0 d os).frozen (p := ⟨w.heap.size, 1, none⟩) (by simp only; omega)]; exact pf 1
  have s1 : ∀ d os, (Sort.grow (redrawn W0 d) os).setCell ⟨w.heap.size, 1, none⟩ (.string ⟨xd.toArray⟩) = Sort.grow (redrawn W0 d) os := fun d os => nset_same (d1 d os)
  have c1 := fun d os => Calls.regrown_of (w := W0) (d := d) (os := os) (Kd _)
  refine wp_region_quiet_below (by kernel_rfl) (by kernel_rfl) ?_
  repeat (first | go_big_quiet_step (first | with_reducible exact c0 _ _ | with_reducible exact c1 _ _) | quiet_step (first | with_reducible exact c0 _ _ | with_reducible exact c1 _ _))
  refine wpQuiet_nil ?_
  intro _ hw'
  obtain ⟨⟨dq, osq⟩, hw''⟩ := hw'
  subst hw''
  have hb1 := below_regrown W0 dq osq
  have hB := nnext hB0 hb1
  have e0 := (hb1.cell (p := ⟨w.heap.size, 0, none⟩) (by simp only; omega)).trans p0
  have u0 := (hb1.cell (p := ⟨w.heap.size + 1, 0, none⟩) (by simp only; omega)).trans r0
  have v0 := (hb1.frozen (p := ⟨w.heap.size + 1, 0, none⟩) (by simp only; omega)).trans (rf 0)
  have e1 := (hb1.cell (p := ⟨w.heap.size, 1, none⟩) (by simp only; omega)).trans p1
  have u1 := (hb1.cell (p := ⟨w.heap.size + 1, 1, none⟩) (by simp only; omega)).trans r1
  have v1 := (hb1.frozen (p := ⟨w.heap.size + 1, 1, none⟩) (by simp only; omega)).trans (rf 1)
  have e2 := (hb1.cell (p := ⟨w.heap.size, 2, none⟩) (by simp only; omega)).trans p2
  have u2 := (hb1.cell (p := ⟨w.heap.size + 1, 2, none⟩) (by simp only; omega)).trans r2
  have v2 := (hb1.frozen (p := ⟨w.heap.size + 1, 2, none⟩) (by simp only; omega)).trans (rf 2)
  generalize Sort.grow (redrawn W0 dq) osq = w1 at *
  clear hb1 hB0 hz0 pf rf p0 r0 p1 r1 p2 r2 d0 g0 s0 c0 Kp d1 g1 s1 c1 Kd
  go_wp2_with fail
  refine bodyPost_ret (v := .agg #[.string ⟨xp.toArray⟩, .string ⟨xd.toArray⟩, .bool xt]) (by simp [results, Try.results26, go_sem, u0, u1, u2]) rfl ⟨rfl, ?_⟩
  exact (((hB.setCell (by simp) _).setCell (by simp) _).setCell (by simp) _)
end Go.Proofs.Ytdefdbejaabpdaa

namespace Go.Proofs.Ytdefdbejaabpdaa
open Go.RowKit

set_option maxRecDepth 10000 in
set_option maxHeartbeats 2000000 in
theorem ccopied_any (s z : Int) (v : Value) (es : List En) (w : World) (hv : SeqV w v es) (hs : ShortC es) (hl : es.length * 40 ≤ 140737488355328) :
    Calls Try.prog 23 #[clV s z v] w fun e w' => ∃ v', e = .returned (clV s z v') ∧ OwnS w' w.heap.size v' es ∧ Below w.heap.size w w' := by
  have CC := fun W (hW : Below w.heap.size w W) => clC_any v es W (hv.next hW) hl
  have HO : Hid (∀ x ∈ es, ∀ W, Calls Try.prog 26 #[.agg #[.string ⟨x.p.toArray⟩, .string ⟨x.d.toArray⟩, .bool x.t]] W fun e w' => e = .returned (.agg #[.string ⟨x.p.toArray⟩, .string ⟨x.d.toArray⟩, .bool x.t]) ∧ Below W.heap.size W w') := hide fun x hm W => ownC_any x W (hs x hm).1 (hs x hm).2
  obtain ⟨a, c, rfl⟩ := seq_slice hv
  unfold clV
  clear hv hs
  go_enter Try.func23, Try.ntmps23
  go_wp2_with fail
  refine (CC _ (nnext (allocB _ _) (allocB _ _))).mono ?_
  rintro e w1 ⟨v', rfl, ho, hb1⟩
  have HB1 := hide (nnext (nnext (allocB w _) (allocB _ _)) hb1)
  have X1 := ((CBox.new w s z (.slice a es.length c)).next (allocB _ (.cells #[.int .i64 0, .int .i64 0, .slice none 0 0] 24))).next hb1
  have X2 := (CBox.new (w.alloc (.cells #[.int .i64 s, .int .i64 z, .slice a es.length c] 24)) 0 0 (.slice none 0 0)).next hb1
  have hs1 : (w.alloc (.cells #[.int .i64 s, .int .i64 z, .slice a es.length c] 24)).heap.size = w.heap.size + 1 := by simp
  rw [hs1] at X2
  have hz1 : w.heap.size + 2 ≤ w1.heap.size := by have := hb1.size; simpa using this
  have c2 := X1.c2
  have f2 := X1.fr 2
  have Y1 := X1.set2 (v' := v')
  have Y2 := X2.other (a := ⟨w.heap.size, 2, none⟩) (by simp) v'
  rcases ho with ⟨rfl, rfl⟩ | ⟨g, cap, rfl, hg, ho⟩
  · clear CC hb1 X1 X2
    have HY1 := hide Y1
    have HY2 := hide Y2
    clear Y1 Y2
    go_wp2_with fail
    go_loopg [12] 1 (fun _ s wr => s = .int .i64 0 ∧ wr = w1.setCell ⟨w.heap.size, 2, none⟩ (.slice none 0 0))
    case atStart => exact ⟨rfl, rfl⟩
    case round =>
      obtain ⟨rfl, rfl⟩ := hrel
      have q0 := (unhide HY1).c0
      have q1 := (unhide HY1).c1
      have q2 := (unhide HY1).c2
      have r0 := (unhide HY2).c0
      have r1 := (unhide HY2).c1
      have r2 := (unhide HY2).c2
      have t0 := (unhide HY2).fr 0
      have t1 := (unhide HY2).fr 1
      have t2 := (unhide HY2).fr 2
      have HB2 := hide ((unhide HB1).setCell (p := ⟨w.heap.size, 2, none⟩) (Nat.le_refl _) (.slice none 0 0))
      generalize w1.setCell ⟨w.heap.size, 2, none⟩ (.slice none 0 0) = W at *
      go_wp2_with fail
      refine bodyPost_ret (v := .agg #[.int .i64 s, .int .i64 z, .slice none 0 0]) (by simp [results, Try.results23, go_sem, r0, r1, r2]) rfl ⟨_, rfl, .inl ⟨rfl, rfl⟩, ?_⟩
      exact (((unhide HB2).setCell (by simp) _).setCell (by simp) _).setCell (by simp) _
  · have hgl := ho.lt
    have hg2 : w.heap.size + 2 ≤ g := by simpa using hg
    have HW := hide (ho.other (a := ⟨w.heap.size, 2, none⟩) (by simp only; omega) (.slice (some ⟨g, 0, none⟩) es.length cap))
    have HY1 := hide Y1
    have HY2 := hide Y2
    have HB2 := hide ((unhide HB1).setCell (p := ⟨w.heap.size, 2, none⟩) (Nat.le_refl _) (.slice (some ⟨g, 0, none⟩) es.length cap))
    have hzs : (w1.setCell ⟨w.heap.size, 2, none⟩ (.slice (some ⟨g, 0, none⟩) es.length cap)).heap.size = w1.heap.size := by simp [World.setCell]
    clear ho CC hb1 X1 X2 Y1 Y2 hg
    go_wp2_with fail
    generalize w1.setCell ⟨w.heap.size, 2, none⟩ (.slice (some ⟨g, 0, none⟩) es.length cap) = W at *
    go_loopg [12] es.length (fun kx s wr => ∃ k : Nat, s = .int .i64 k ∧ k ≤ es.length ∧ es.length - k ≤ kx ∧ Hid (Below W.heap.size W wr))
    case atStart => exact ⟨0, rfl, Nat.zero_le _, by omega, hide (Below.refl _ _)⟩
    case round =>
      obtain ⟨k, rfl, hk, hkx, hB⟩ := hrel
      have Z1 := (unhide HY1).next (unhide hB)
      by_cases hlt : k < es.length
      · obtain ⟨x, hx⟩ : ∃ x, es[k]? = some x := ⟨_, List.getElem?_eq_getElem hlt⟩
        have o := (unhide HW).next (unhide hB)
        have hgl2 := o.lt
        have a0 := o.row.en0 hx
        have a1 := o.row.en1 hx
        have a2 := o.row.en2 hx
        simp only [Nat.zero_add] at a0 a1 a2
        have CX := unhide HO x (List.mem_of_getElem? hx)
        have hzr := (unhide hB).size
        obtain ⟨yp, yd, yt⟩ := x
        simp only at a0 a1 a2 CX
        have N1 := one_newC wr ⟨yp, yd, yt⟩
        simp only at N1
        have O2 := o.next (allocB wr (.cells #[.string ⟨yp.toArray⟩, .string ⟨yd.toArray⟩, .bool yt] 36))
        have b2 := (Z1.next (allocB wr (.cells #[.string ⟨yp.toArray⟩, .string ⟨yd.toArray⟩, .bool yt] 36))).c2
        have p0 := N1.e0
        have p1 := N1.e1
        have p2 := N1.e2
        have r0 := O2.row.en0 hx
        have r1 := O2.row.en1 hx
        have r2 := O2.row.en2 hx
        have rf := O2.frozen
        have hg3 := O2.lt
        simp only [Nat.zero_add] at r0 r1 r2 p0 p1 p2
        have HB3 := hide (nnext (unhide hB) (allocB wr (.cells #[.string ⟨yp.toArray⟩, .string ⟨yd.toArray⟩, .bool yt] 36)))
        clear hx o O2 N1 Z1
        go_wp2_with fail
        generalize wr.alloc (.cells #[.string ⟨yp.toArray⟩, .string ⟨yd.toArray⟩, .bool yt] 36) = W0 at *
        have b2' := fun d os => cell_regrown b2 d os
        have p0' := fun d os => cell_regrown p0 d os
        have p1' := fun d os => cell_regrown p1 d os
        have p2' := fun d os => cell_regrown p2 d os
        have r0' := fun d os => cell_regrown r0 d os
        have r1' := fun d os => cell_regrown r1 d os
        have r2' := fun d os => cell_regrown r2 d os
        have t0 : ∀ d os, (Sort.grow (redrawn W0 d) os).frozen? ⟨g, k * 3, none⟩ = false := fun d os => by rw [(below_regrown W0 d os).frozen (p := ⟨g, k * 3, none⟩) hg3]; exact rf _
        have t1 : ∀ d os, (Sort.grow (redrawn W0 d) os).frozen? ⟨g, k * 3 + 1, none⟩ = false := fun d os => by rw [(below_regrown W0 d os).frozen (p := ⟨g, k * 3 + 1, none⟩) hg3]; exact rf _
        have t2 : ∀ d os, (Sort.grow (redrawn W0 d) os).frozen? ⟨g, k * 3 + 2, none⟩ = false := fun d os => by rw [(below_regrown W0 d os).frozen (p := ⟨g, k * 3 + 2, none⟩) hg3]; exact rf _
        have s0 := fun d os => nset_same (r0' d os)
        have s1 := fun d os => nset_same (r1' d os)
        have s2 := fun d os => nset_same (r2' d os)
        have c0 := fun d os => Calls.regrown_of (w := W0) (d := d) (os := os) (CX _)
        clear rf p0 p1 p2 r0 r1 r2 b2
        refine wp_region_quiet_below (by kernel_rfl) (by kernel_rfl) ?_
        repeat (first | go_big_quiet_step (with_reducible exact c0 _ _) | quiet_step (with_reducible exact c0 _ _))
        refine wpQuiet_nil ?_
        intro _ hw'
        obtain ⟨⟨dq, osq⟩, hw''⟩ := hw'
        subst hw''
        have hB2 := hide (nnext (unhide HB3) (below_regrown W0 dq osq))
        generalize Sort.grow (redrawn W0 dq) osq = w2 at *
        clear b2' p0' p1' p2' r0' r1' r2' t0 t1 t2 s0 s1 s2 c0 CX
        go_wp2_with fail
        go_roundg (es.length - (k + 1))
        case measure => omega
        case rel => exact ⟨k + 1, rfl, by omega, Nat.le_refl _, hB2⟩
      · have Z2 := (unhide HY2).next (unhide hB)
        have q0 := Z1.c0
        have q1 := Z1.c1
        have q2 := Z1.c2
        have r0 := Z2.c0
        have r1 := Z2.c1
        have r2 := Z2.c2
        have t0 := Z2.fr 0
        have t1 := Z2.fr 1
        have t2 := Z2.fr 2
        have O2 := (unhide HW).next (unhide hB)
        clear Z1 Z2
        go_wp2_with fail
        refine bodyPost_ret (v := .agg #[.int .i64 s, .int .i64 z, .slice (some ⟨g, 0, none⟩) es.length cap]) (by simp [results, Try.results23, go_sem, r0, r1, r2]) rfl ⟨_, rfl, .inr ⟨g, cap, rfl, by omega, ?_⟩, ?_⟩
        · exact ((O2.other (by simp only; omega) _).other (by simp only; omega) _).other (by simp only; omega) _
        · exact (((nnext (unhide HB2) (unhide hB)).setCell (by simp) _).setCell (by simp) _).setCell (by simp) _
end Go.Proofs.Ytdefdbejaabpdaa

namespace Go.Proofs.Ytdefdbejaabpdaa
open Go.RowKit
set_option maxRecDepth 10000 in
set_option maxHeartbeats 1000000 in
theorem cnew_yes (s : Int) (w : World) (h1 : 1 ≤ s) (h2 : s ≤ 2147483647) :
    Calls Try.prog 11 #[.int .i64 s] w fun e w' => e = .returned (.tuple #[clV s 0 (.slice none 0 0), .int .i64 0]) ∧ Below w.heap.size w w' := by
  unfold clV
  go_enter Try.func11, Try.ntmps11
  go_wp2_with fail
  refine bodyPost_ret (v := .tuple #[.agg #[.int .i64 s, .int .i64 0, .slice none 0 0], .int .i64 0]) (by simp [results, Try.results11, go_sem]) rfl ⟨rfl, ?_⟩
  first | exact allocB _ _ | exact (((allocB w _).setCell (by simp) _).setCell (by simp) _).setCell (by simp) _
set_option maxRecDepth 10000 in
set_option maxHeartbeats 1000000 in
theorem cnew_no (s : Int) (w : World) (h : s < 1 ∨ 2147483647 < s) :
    Calls Try.prog 11 #[.int .i64 s] w fun e w' => e = .returned (.tuple #[clV 0 0 (.slice none 0 0), .int .i64 3]) ∧ Below w.heap.size w w' := by
  unfold clV
  rcases h with h | h
  · go_enter Try.func11, Try.ntmps11
    go_wp2_with fail
    refine bodyPost_ret (v := .tuple #[.agg #[.int .i64 0, .int .i64 0, .slice none 0 0], .int .i64 3]) (by simp [results, Try.results11, go_sem]) rfl ⟨rfl, ?_⟩
    first | exact allocB _ _ | exact (((allocB w _).setCell (by simp) _).setCell (by simp) _).setCell (by simp) _
  · have h1 : ¬ s < 1 := by omega
    go_enter Try.func11, Try.ntmps11
    go_wp2_with fail
    refine bodyPost_ret (v := .tuple #[.agg #[.int .i64 0, .int .i64 0, .slice none 0 0], .int .i64 3]) (by simp [results, Try.results11, go_sem]) rfl ⟨rfl, ?_⟩
    first | exact allocB _ _ | exact (((allocB w _).setCell (by simp) _).setCell (by simp) _).setCell (by simp) _

set_option maxRecDepth 10000 in
set_option maxHeartbeats 1000000 in
theorem csee_no (s z z' : Int) (a : Option Addr) (n c : Nat) (w : World) (h : z' < z) :
    Calls Try.prog 8 #[clV s z (.slice a n c), .int .i64 z'] w fun e w' => e = .returned (.tuple #[clV 0 0 (.slice none 0 0), .int .i64 15]) ∧ Below w.heap.size w w' := by
  unfold clV
  go_enter Try.func8, Try.ntmps8
  go_wp2_with fail
  refine bodyPost_ret (v := .tuple #[.agg #[.int .i64 0, .int .i64 0, .slice none 0 0], .int .i64 15]) (by simp [results, Try.results8, go_sem]) rfl ⟨rfl, ?_⟩
  first | exact nnext (allocB _ _) (allocB _ _) | exact (((nnext (allocB w _) (allocB _ _)).setCell (by simp) _).setCell (by simp) _).setCell (by simp) _
set_option maxRecDepth 10000 in
set_option maxHeartbeats 2000000 in
theorem csee_yes (s z z' : Int) (v : Value) (es : List En) (w : World) (hv : SeqV w v es) (hs : ShortC es) (hl : es.length * 40 ≤ 140737488355328) (h : z ≤ z') :
    Calls Try.prog 8 #[clV s z v, .int .i64 z'] w fun e w' => ∃ v', e = .returned (.tuple #[clV s z' v', .int .i64 0]) ∧ OwnS w' w.heap.size v' es ∧ Below w.heap.size w w' := by
  have CC := fun W (hW : Below w.heap.size w W) => ccopied_any s z v es W (hv.next hW) hs hl
  obtain ⟨a, c, rfl⟩ := seq_slice hv
  unfold clV at CC ⊢
  clear hv hs
  go_enter Try.func8, Try.ntmps8
  go_wp2_with fail
  refine (CC _ (nnext (allocB _ _) (allocB _ _))).mono ?_
  rintro e w1 ⟨v1, rfl, ho1, hb1⟩
  obtain ⟨a1, c1, rfl, _⟩ := ho1.slice
  have X2 := (CBox.new (w.alloc (.cells #[.int .i64 s, .int .i64 z, .slice a es.length c] 24)) 0 0 (.slice none 0 0)).next hb1
  have hs1 : (w.alloc (.cells #[.int .i64 s, .int .i64 z, .slice a es.length c] 24)).heap.size = w.heap.size + 1 := by simp
  rw [hs1] at X2
  have hz1 := hb1.size
  have hz2 : w.heap.size + 2 ≤ w1.heap.size := by simpa using hz1
  have B2 := nnext (nnext (nnext (allocB w _) (allocB _ _)) hb1) (allocB w1 (.cells #[.int .i64 s, .int .i64 z', .slice a1 es.length c1] 24))
  have O2 := ho1.next (allocB w1 (.cells #[.int .i64 s, .int .i64 z', .slice a1 es.length c1] 24))
  have Y2 := X2.next (allocB w1 (.cells #[.int .i64 s, .int .i64 z', .slice a1 es.length c1] 24))
  have Y1 := CBox.new w1 s z' (.slice a1 es.length c1)
  have r0 := Y2.c0
  have r1 := Y2.c1
  have r2 := Y2.c2
  have f0 := Y2.fr 0
  have f1 := Y2.fr 1
  have f2 := Y2.fr 2
  have q0 := Y1.c0
  have q1 := Y1.c1
  have q2 := Y1.c2
  have HB2 := hide B2
  have HO2 := hide O2
  clear CC hb1 X2 Y2 Y1 B2 O2 hz1
  have hO1 := hide ho1
  clear ho1
  go_wp2_with fail
  refine bodyPost_ret (v := .tuple #[.agg #[.int .i64 s, .int .i64 z', .slice a1 es.length c1], .int .i64 0]) (by simp [results, Try.results8, go_sem, r0, r1, r2]) rfl ⟨_, rfl, ?_, ?_⟩
  · exact ((((unhide HO2).otherz (by simp) _).otherz (by simp) _).otherz (by simp) _).lower (by simp; omega)
  · exact (((unhide HB2).setCell (by simp) _).setCell (by simp) _).setCell (by simp) _
end Go.Proofs.Ytdefdbejaabpdaa

namespace Go.Proofs.Ytdefdbejaabpdaa
open Go.RowKit
theorem grownO {w w' : World} {r : Option Nat} (h : w.grownBy w' r) (B : Nat) (hB : B ≤ w.heap.size) (hr : ∀ k, r = some k → B ≤ k) : Below B w w' := (Below.refl _ _).grown h hB hr
theorem OwnR.head {α : Type} [Lay α] {W : World} {g cap : Nat} {A B : List α} (h : OwnR W g cap (A ++ B)) : OwnR W g cap A := by
  obtain ⟨rest, h1, h2, h4, h3⟩ := h
  refine ⟨cellsL B ++ rest, by rw [h1, cellsL_append, List.append_assoc], ?_, ?_, h3⟩
  · rw [List.length_append, cellsL_length B]
    rw [List.length_append, Nat.add_mul] at h2
    omega
  · rw [List.length_append] at h4; omega
end Go.Proofs.Ytdefdbejaabpdaa

namespace Go.Proofs.Ytdefdbejaabpdaa
open Go.RowKit

set_option maxRecDepth 10000 in
set_option maxHeartbeats 2000000 in
theorem rcopyC_some (s z : Int) (a : Addr) (cap : Nat) (xs : List En) (w : World) (hl : xs.length * 40 ≤ 140737488355328) (hc : ∀ j u, (cellsL xs)[j]? = some u → w.cell? (a.add j) = some u) :
    Calls Try.prog 9 #[clV s z (.slice (some a) xs.length cap)] w fun e w' => ∃ v', e = .returned (clV s z v') ∧ OwnS w' w.heap.size v' xs ∧ Below w.heap.size w w' := by
  have H := hide hc
  clear hc
  obtain ⟨i0, hi0, hz0, hz1, hz2⟩ := cinfo
  have hB0 : Below w.heap.size w ((w.alloc (.cells #[.int .i64 s, .int .i64 z, .slice (some a) xs.length cap] 24)).alloc (.cells #[.int .i64 0, .int .i64 0, .slice none 0 0] 24)) := nnext (allocB _ _) (allocB _ _)
  have K0 := (CBox.new w s z (.slice (some a) xs.length cap)).next (allocB _ (.cells #[.int .i64 0, .int .i64 0, .slice none 0 0] 24))
  have K1 := CBox.new (w.alloc (.cells #[.int .i64 s, .int .i64 z, .slice (some a) xs.length cap] 24)) 0 0 (.slice none 0 0)
  have hz0' : ((w.alloc (.cells #[.int .i64 s, .int .i64 z, .slice (some a) xs.length cap] 24)).alloc (.cells #[.int .i64 0, .int .i64 0, .slice none 0 0] 24)).heap.size = w.heap.size + 2 := by simp
  rw [show (w.alloc (.cells #[.int .i64 s, .int .i64 z, .slice (some a) xs.length cap] 24)).heap.size = w.heap.size + 1 by simp] at K1
  have HB0 := hide hB0
  have HK0 := hide K0
  have HK1 := hide K1
  clear hB0 K0 K1
  unfold clV
  go_enter Try.func9, Try.ntmps9
  go_wp2_with (at_builtin; refine wpList_append_own _ rfl _ _ 22 rfl (w.heap.size + 2) 36 i0 _ 3 40 Try.underlying22 hi0 hz0 hz1 hz2 rfl (by decide) _ 0 [] rfl (World.ownsRow_nil _ _ _ _) a xs.length cap (cellsL xs) rfl (cellsL_length xs) ?qc2 (cellsL_one xs) ?qc4 ?qc5 ?qc6 ?_)
  case qc2 =>
    intro j u hj
    exact Lib.cell?_alloc_some _ (Lib.cell?_alloc_some _ (unhide H j u hj))
  case qc4 => simp only [maxLen]; omega
  case qc5 => omega
  case qc6 => simp
  intro v' w1 hown hgrow _
  have O1 : OwnS w1 (w.heap.size + 2) v' xs := OwnS.of_row (α := En) hown
  have hg : Below (w.heap.size + 2) ((w.alloc (.cells #[.int .i64 s, .int .i64 z, .slice (some a) xs.length cap] 24)).alloc (.cells #[.int .i64 0, .int .i64 0, .slice none 0 0] 24)) w1 := grownO hgrow _ (by simp) (by intro k hk; cases hk)
  have X0 := (unhide HK0).kept hg (by omega)
  have X1 := ((unhide HK1).kept hg (by omega)).other (a := ⟨w.heap.size, 2, none⟩) (by simp) v'
  have c2 := X0.c2
  have f2 := X0.fr 2
  have Y0 := X0.set2 (v' := v')
  have B1 := ((unhide HB0).trans (hg.mono (by omega))).setCell (p := ⟨w.heap.size, 2, none⟩) (by simp) v'
  have O2 := O1.otherz (k := w.heap.size) (j := 2) (by omega) v'
  obtain ⟨a2, c2', rfl, _⟩ := O1.slice
  have q0 := Y0.c0
  have q1 := Y0.c1
  have q2 := Y0.c2
  have r0 := X1.c0
  have r1 := X1.c1
  have r2 := X1.c2
  have t0 := X1.fr 0
  have t1 := X1.fr 1
  have t2 := X1.fr 2
  have HB1 := hide B1
  have HO2 := hide O2
  clear hown hgrow O1 O2 hg X0 X1 Y0 B1
  go_upto_region 2 with fail
  generalize w1.setCell ⟨w.heap.size, 2, none⟩ (.slice a2 xs.length c2') = W at *
  go_wp2_with fail
  refine bodyPost_ret (v := .agg #[.int .i64 s, .int .i64 z, .slice a2 xs.length c2']) (by simp [results, Try.results9, go_sem, r0, r1, r2]) rfl ⟨_, rfl, ?_, ?_⟩
  · exact ((((unhide HO2).otherz (by omega) _).otherz (by omega) _).otherz (by omega) _).lower (by omega)
  · exact (((unhide HB1).setCell (by simp) _).setCell (by simp) _).setCell (by simp) _
set_option maxRecDepth 10000 in
set_option maxHeartbeats 1000000 in
theorem rcopyC_nil (s z : Int) (c : Nat) (w : World) :
    Calls Try.prog 9 #[clV s z (.slice none 0 c)] w fun e w' => ∃ v', e = .returned (clV s z v') ∧ OwnS w' w.heap.size v' ([] : List En) ∧ Below w.heap.size w w' := by
  unfold clV
  go_enter Try.func9, Try.ntmps9
  go_wp2_with fail
  refine bodyPost_ret (v := .agg #[.int .i64 s, .int .i64 z, .slice none 0 0]) (by simp [results, Try.results9, go_sem]) rfl ⟨_, rfl, .inl ⟨rfl, rfl⟩, ?_⟩
  exact nnext (allocB _ _) (allocB _ _)
theorem rcopyC_any (s z : Int) (v : Value) (xs : List En) (w : World) (hv : SeqV w v xs) (hl : xs.length * 40 ≤ 140737488355328) :
    Calls Try.prog 9 #[clV s z v] w fun e w' => ∃ v', e = .returned (clV s z v') ∧ OwnS w' w.heap.size v' xs ∧ Below w.heap.size w w' := by
  rcases hv with ⟨a, cap, rfl, rfl, _⟩ | ⟨b, off, cap, rfl, _, _, hb, _, hr⟩
  · cases a with
    | none => exact rcopyC_nil s z cap w
    | some a => exact rcopyC_some s z a cap [] w (by simp) (fun j u h => by simp [cellsL_nil] at h)
  · exact rcopyC_some s z ⟨b, off, none⟩ cap xs w hl (fun j u h => by rw [Addr.add_lit]; exact hr j u h)

set_option maxRecDepth 20000 in
set_option maxHeartbeats 2000000 in
theorem rsameC_any (s z : Int) (va vb : Value) (es : List En) (w : World) (ha : SeqV w va es) (hb : SeqV w vb es) (hl : es.length ≤ 140737488355328) :
    Calls Try.prog 13 #[clV s z va, clV s z vb] w fun e w' => e = .returned (.bool true) ∧ Below w.heap.size w w' := by
  have K1 := hide (crow ha)
  have K2 := hide (crow hb)
  obtain ⟨aa, ac, rfl⟩ := seq_slice ha
  obtain ⟨ba, bc, rfl⟩ := seq_slice hb
  unfold clV
  clear ha hb
  have B0 : Below w.heap.size w ((w.alloc (.cells #[.int .i64 s, .int .i64 z, .slice aa es.length ac] 24)).alloc (.cells #[.int .i64 s, .int .i64 z, .slice ba es.length bc] 24)) := nnext (allocB _ _) (allocB _ _)
  have X0 := (CBox.new w s z (.slice aa es.length ac)).next (allocB _ (.cells #[.int .i64 s, .int .i64 z, .slice ba es.length bc] 24))
  have X1 := CBox.new (w.alloc (.cells #[.int .i64 s, .int .i64 z, .slice aa es.length ac] 24)) s z (.slice ba es.length bc)
  rw [show (w.alloc (.cells #[.int .i64 s, .int .i64 z, .slice aa es.length ac] 24)).heap.size = w.heap.size + 1 by simp] at X1
  have HB0 := hide B0
  have HX0 := hide X0
  have HX1 := hide X1
  clear B0 X0 X1
  go_enter Try.func13, Try.ntmps13
  go_wp2_with fail
  generalize (w.alloc (.cells #[.int .i64 s, .int .i64 z, .slice aa es.length ac] 24)).alloc (.cells #[.int .i64 s, .int .i64 z, .slice ba es.length bc] 24) = W0 at *
  go_loopg [30] es.length (fun kx s30 wr => ∃ k : Nat, s30 = .int .i64 k ∧ k ≤ es.length ∧ es.length - k ≤ kx ∧ Hid (Below W0.heap.size W0 wr))
  case atStart => exact ⟨0, rfl, Nat.zero_le _, Nat.le_refl _, hide (Below.refl _ _)⟩
  case round =>
    obtain ⟨k, rfl, hk, hg, hB⟩ := hrel
    have HBw := hide (nnext (unhide HB0) (unhide hB))
    by_cases hlt : k < es.length
    · obtain ⟨x, hx⟩ : ∃ x, es[k]? = some x := ⟨_, List.getElem?_eq_getElem hlt⟩
      obtain ⟨b1, o1, cc1, he, hb1, q1⟩ := unhide K1 wr (unhide HBw) k x hx
      simp only [Value.slice.injEq] at he
      obtain ⟨rfl, _, rfl⟩ := he
      obtain ⟨b2, o2, cc2, he, hb2, q2⟩ := unhide K2 wr (unhide HBw) k x hx
      simp only [Value.slice.injEq] at he
      obtain ⟨rfl, _, rfl⟩ := he
      have d0 := q1.en0 hx
      have d1 := q1.en1 hx
      have d2 := q1.en2 hx
      have r0 := q2.en0 hx
      have r1 := q2.en1 hx
      have r2 := q2.en2 hx
      have m1 := ((unhide HX0).next (unhide hB)).c2
      have m2 := ((unhide HX1).next (unhide hB)).c2
      have hlti : (k : Int) < (es.length : Int) := by omega
      clear q1 q2 hx
      go_wp2_with fail
      go_region
      go_wp2_with fail
      go_roundg (es.length - (k + 1))
      case measure => omega
      case rel => exact ⟨k + 1, rfl, by omega, Nat.le_refl _, hide (nnext (unhide hB) (Below.refl _ _).drew)⟩
    · obtain rfl : k = es.length := by omega
      go_wp2_with fail
      go_ret
      exact ⟨rfl, unhide HBw⟩

set_option maxRecDepth 10000 in
set_option maxHeartbeats 1000000 in
theorem rnew_yes (s : Int) (w : World) (h1 : 1 ≤ s) (h2 : s ≤ 2147483647) :
    Calls Try.prog 12 #[.int .i64 s] w fun e w' => e = .returned (.tuple #[clV s 0 (.slice none 0 0), .int .i64 0]) ∧ Below w.heap.size w w' := by
  unfold clV
  have h3 : ¬ s < 1 := by omega
  have h4 : ¬ 2147483648 ≤ s := by omega
  go_enter Try.func12, Try.ntmps12
  go_wp2_with fail
  refine bodyPost_ret (v := .tuple #[.agg #[.int .i64 s, .int .i64 0, .slice none 0 0], .int .i64 0]) (by simp [results, Try.results12, go_sem]) rfl ⟨rfl, ?_⟩
  exact allocB _ _
set_option maxRecDepth 10000 in
set_option maxHeartbeats 1000000 in
theorem rnew_no (s : Int) (w : World) (h : s < 1 ∨ 2147483647 < s) :
    Calls Try.prog 12 #[.int .i64 s] w fun e w' => e = .returned (.tuple #[clV 0 0 (.slice none 0 0), .int .i64 3]) ∧ Below w.heap.size w w' := by
  unfold clV
  rcases h with h | h
  · go_enter Try.func12, Try.ntmps12
    go_wp2_with fail
    refine bodyPost_ret (v := .tuple #[.agg #[.int .i64 0, .int .i64 0, .slice none 0 0], .int .i64 3]) (by simp [results, Try.results12, go_sem]) rfl ⟨rfl, ?_⟩
    exact allocB _ _
  · have h1 : ¬ s < 1 := by omega
    have h2 : 2147483648 ≤ s := by omega
    go_enter Try.func12, Try.ntmps12
    go_wp2_with fail
    refine bodyPost_ret (v := .tuple #[.agg #[.int .i64 0, .int .i64 0, .slice none 0 0], .int .i64 3]) (by simp [results, Try.results12, go_sem]) rfl ⟨rfl, ?_⟩
    exact allocB _ _
set_option maxRecDepth 10000 in
set_option maxHeartbeats 1000000 in
theorem rsee_no (s z z' : Int) (a : Option Addr) (n c : Nat) (w : World) (h : z' < z) :
    Calls Try.prog 10 #[clV s z (.slice a n c), .int .i64 z'] w fun e w' => e = .returned (.tuple #[clV 0 0 (.slice none 0 0), .int .i64 15]) ∧ Below w.heap.size w w' := by
  unfold clV
  go_enter Try.func10, Try.ntmps10
  go_wp2_with fail
  refine bodyPost_ret (v := .tuple #[.agg #[.int .i64 0, .int .i64 0, .slice none 0 0], .int .i64 15]) (by simp [results, Try.results10, go_sem]) rfl ⟨rfl, ?_⟩
  exact nnext (allocB _ _) (allocB _ _)
set_option maxRecDepth 10000 in
set_option maxHeartbeats 2000000 in
theorem rsee_yes (s z z' : Int) (v : Value) (es : List En) (w : World) (hv : SeqV w v es) (hl : es.length * 40 ≤ 140737488355328) (h : z ≤ z') :
    Calls Try.prog 10 #[clV s z v, .int .i64 z'] w fun e w' => ∃ v', e = .returned (.tuple #[clV s z' v', .int .i64 0]) ∧ OwnS w' w.heap.size v' es ∧ Below w.heap.size w w' := by
  have CC := fun W (hW : Below w.heap.size w W) => rcopyC_any s z v es W (hv.next hW) hl
  obtain ⟨a, c, rfl⟩ := seq_slice hv
  unfold clV at CC ⊢
  clear hv
  have B0 : Below w.heap.size w ((w.alloc (.cells #[.int .i64 s, .int .i64 z, .slice a es.length c] 24)).alloc (.cells #[.int .i64 0, .int .i64 0, .slice none 0 0] 24)) := nnext (allocB _ _) (allocB _ _)
  have X0 := (CBox.new w s z (.slice a es.length c)).next (allocB _ (.cells #[.int .i64 0, .int .i64 0, .slice none 0 0] 24))
  have X1 := CBox.new (w.alloc (.cells #[.int .i64 s, .int .i64 z, .slice a es.length c] 24)) 0 0 (.slice none 0 0)
  have hz0 : ((w.alloc (.cells #[.int .i64 s, .int .i64 z, .slice a es.length c] 24)).alloc (.cells #[.int .i64 0, .int .i64 0, .slice none 0 0] 24)).heap.size = w.heap.size + 2 := by simp
  rw [show (w.alloc (.cells #[.int .i64 s, .int .i64 z, .slice a es.length c] 24)).heap.size = w.heap.size + 1 by simp] at X1
  have HB0 := hide B0
  have HX0 := hide X0
  have HX1 := hide X1
  clear B0 X0 X1
  go_enter Try.func10, Try.ntmps10
  go_wp2_with fail
  generalize (w.alloc (.cells #[.int .i64 s, .int .i64 z, .slice a es.length c] 24)).alloc (.cells #[.int .i64 0, .int .i64 0, .slice none 0 0] 24) = W0 at *
  refine (CC _ (unhide HB0)).mono ?_
  rintro e w1 ⟨v1, rfl, ho1, hb1⟩
  obtain ⟨a1, c1, rfl, _⟩ := ho1.slice
  have hz1 := hb1.size
  have Y0 := (unhide HX0).next hb1
  have c0 := Y0.c0
  have c1' := Y0.c1
  have c2 := Y0.c2
  have f0 := Y0.fr 0
  have f1 := Y0.fr 1
  have f2 := Y0.fr 2
  have s0 := nset_same c0
  have s1 := nset_same c1'
  have Z0 := (Y0.set2 (v' := .slice a1 es.length c1)).set1 (z' := z')
  have Z1 := (((unhide HX1).next hb1).other (a := ⟨w.heap.size, 2, none⟩) (by simp) (.slice a1 es.length c1)).other (a := ⟨w.heap.size, 1, none⟩) (by simp) (.int .i64 z')
  have B1 := ((nnext (unhide HB0) hb1).setCell (p := ⟨w.heap.size, 2, none⟩) (by simp) (.slice a1 es.length c1)).setCell (p := ⟨w.heap.size, 1, none⟩) (by simp) (.int .i64 z')
  have O1 := (ho1.otherz (k := w.heap.size) (j := 2) (by omega) (.slice a1 es.length c1)).otherz (k := w.heap.size) (j := 1) (by omega) (.int .i64 z')
  have d1 := (Y0.set2 (v' := .slice a1 es.length c1)).c1
  have e1 := (Y0.set2 (v' := .slice a1 es.length c1)).fr 1
  have q0 := Z0.c0
  have q1 := Z0.c1
  have q2 := Z0.c2
  have r0 := Z1.c0
  have r1 := Z1.c1
  have r2 := Z1.c2
  have t0 := Z1.fr 0
  have t1 := Z1.fr 1
  have t2 := Z1.fr 2
  have HB1 := hide B1
  have HO1 := hide O1
  clear CC ho1 hb1 Y0 Z0 Z1 B1 O1
  go_upto_region 5 with fail
  generalize (w1.setCell ⟨w.heap.size, 2, none⟩ (.slice a1 es.length c1)).setCell ⟨w.heap.size, 1, none⟩ (.int .i64 z') = W at *
  go_wp2_with fail
  refine bodyPost_ret (v := .tuple #[.agg #[.int .i64 s, .int .i64 z', .slice a1 es.length c1], .int .i64 0]) (by simp [results, Try.results10, go_sem, r0, r1, r2]) rfl ⟨_, rfl, ?_, ?_⟩
  · exact ((((unhide HO1).otherz (by omega) _).otherz (by omega) _).otherz (by omega) _).lower (by omega)
  · exact (((unhide HB1).setCell (by simp) _).setCell (by simp) _).setCell (by simp) _

set_option maxRecDepth 10000 in
set_option maxHeartbeats 1000000 in
theorem cends_any (w : World) : Calls Try.prog 14 #[] w fun e w' => e = .returned (.bool true) ∧ Below w.heap.size w w' := by
  have C := fun W => cnew_yes 7 W (by decide) (by decide)
  unfold clV at C
  go_enter Try.func14, Try.ntmps14
  go_wp2_with fail
  refine (C _).mono ?_
  rintro e w1 ⟨rfl, hb1⟩
  go_wp2_with fail
  go_ret
  exact ⟨rfl, nnext hb1 (allocB _ _)⟩
end Go.Proofs.Ytdefdbejaabpdaa

namespace Go.Proofs.Ytdefdbejaabpdaa
open Go.RowKit

theorem see_both (s z z' : Int) (es : List En) (hs : ShortC es) (hl : es.length * 40 ≤ 140737488355328) : ∃ (s2 z2 E : Int) (es2 : List En), es2.length ≤ es.length ∧
    (∀ W v, SeqV W v es → Calls Try.prog 8 #[clV s z v, .int .i64 z'] W fun e w' => ∃ v', e = .returned (.tuple #[clV s2 z2 v', .int .i64 E]) ∧ SeqV w' v' es2 ∧ Below W.heap.size W w') ∧
    (∀ W v, SeqV W v es → Calls Try.prog 10 #[clV s z v, .int .i64 z'] W fun e w' => ∃ v', e = .returned (.tuple #[clV s2 z2 v', .int .i64 E]) ∧ SeqV w' v' es2 ∧ Below W.heap.size W w') := by
  by_cases h : z' < z
  · refine ⟨0, 0, 15, [], by simp, fun W v hv => ?_, fun W v hv => ?_⟩
    · obtain ⟨a, c, rfl⟩ := seq_slice hv
      exact (csee_no s z z' a es.length c W h).mono fun e w' ⟨h1, h2⟩ => ⟨_, h1, SeqV.nil _, h2⟩
    · obtain ⟨a, c, rfl⟩ := seq_slice hv
      exact (rsee_no s z z' a es.length c W h).mono fun e w' ⟨h1, h2⟩ => ⟨_, h1, SeqV.nil _, h2⟩
  · refine ⟨s, z', 0, es, Nat.le_refl _, fun W v hv => ?_, fun W v hv => ?_⟩
    · exact (csee_yes s z z' v es W hv hs hl (by omega)).mono fun e w' ⟨v', h1, h2, h3⟩ => ⟨v', h1, h2.seq, h3⟩
    · exact (rsee_yes s z z' v es W hv hl (by omega)).mono fun e w' ⟨v', h1, h2, h3⟩ => ⟨v', h1, h2.seq, h3⟩
theorem new_both (s : Int) : ∃ s2 E : Int,
    (∀ W, Calls Try.prog 11 #[.int .i64 s] W fun e w' => e = .returned (.tuple #[clV s2 0 (.slice none 0 0), .int .i64 E]) ∧ Below W.heap.size W w') ∧
    (∀ W, Calls Try.prog 12 #[.int .i64 s] W fun e w' => e = .returned (.tuple #[clV s2 0 (.slice none 0 0), .int .i64 E]) ∧ Below W.heap.size W w') := by
  by_cases h : s < 1 ∨ 2147483647 < s
  · exact ⟨0, 3, fun W => cnew_no s W h, fun W => rnew_no s W h⟩
  · exact ⟨s, 0, fun W => cnew_yes s W (by omega) (by omega), fun W => rnew_yes s W (by omega) (by omega)⟩

set_option maxRecDepth 20000 in
set_option maxHeartbeats 4000000 in
theorem clientSees_walk (s z : Int) (v : Value) (es : List En) (z' q : Int) (w : World) (hv : SeqV w v es) (hs : ShortC es) (hl : es.length * 40 ≤ 140737488355328) :
    Calls Try.prog 3 #[clV s z v, .int .i64 z', .int .i64 q] w fun e w' => e = .returned (.bool true) ∧ Below w.heap.size w w' := by
  have CC := fun W (hW : Below w.heap.size w W) => rcopyC_any s z v es W (hv.next hW) hl
  obtain ⟨s2, z2, E, es2, hl2, C1, C2⟩ := see_both s z z' es hs hl
  obtain ⟨s3, E3, C3, C4⟩ := new_both q
  have C5 := fun W va vb (ha : SeqV W va es2) (hb : SeqV W vb es2) => rsameC_any s2 z2 va vb es2 W ha hb (by omega)
  have C6 := fun W => rsameC_any s3 0 (.slice none 0 0) (.slice none 0 0) [] W (SeqV.nil W) (SeqV.nil W) (by simp)
  have HC1 := hide C1
  have HC2 := hide C2
  have HC3 := hide C3
  have HC4 := hide C4
  have HC5 := hide C5
  have HC6 := hide C6
  have HV := hide hv
  obtain ⟨a, c, rfl⟩ := seq_slice hv
  unfold clV at CC HC1 HC2 HC3 HC4 HC5 HC6 ⊢
  clear hv hs C1 C2 C3 C4 C5 C6
  go_enter Try.func3, Try.ntmps3
  go_wp2_with fail
  refine (CC _ (allocB _ _)).mono ?_
  rintro e w1 ⟨v1, rfl, ho1, hb1⟩
  obtain ⟨a1, c1, rfl, _⟩ := ho1.slice
  have HB1 := hide (nnext (allocB w _) hb1)
  have HX := hide ((CBox.new w s z (.slice a es.length c)).next hb1)
  have D1 := unhide HC1 w1 _ ho1.seq
  clear CC ho1 hb1
  go_wp2_with fail
  refine D1.mono ?_
  rintro e w2 ⟨v2, rfl, hv2, hb2⟩
  obtain ⟨a2, c2, rfl⟩ := seq_slice hv2
  have HV2 := hide (hv2.alloc (.cells #[.int .i64 s2, .int .i64 z2, .slice a2 es2.length c2] 24))
  have HY2 := hide (CBox.new w2 s2 z2 (.slice a2 es2.length c2))
  have HX := hide (((unhide HX).next hb2).next (allocB w2 (.cells #[.int .i64 s2, .int .i64 z2, .slice a2 es2.length c2] 24)))
  have HB2 := hide (nnext (nnext (unhide HB1) hb2) (allocB w2 (.cells #[.int .i64 s2, .int .i64 z2, .slice a2 es2.length c2] 24)))
  have D2 := unhide HC2 _ _ ((unhide HV).next (unhide HB2))
  have x0 := (unhide HX).c0
  have x1 := (unhide HX).c1
  have x2 := (unhide HX).c2
  clear D1 hv2 hb2
  go_wp2_with fail
  generalize w2.alloc (.cells #[.int .i64 s2, .int .i64 z2, .slice a2 es2.length c2] 24) = W2 at *
  refine D2.mono ?_
  rintro e w3 ⟨v3, rfl, hv3, hb3⟩
  obtain ⟨a3, c3, rfl⟩ := seq_slice hv3
  have HB3' := hide (nnext hb3 (allocB w3 (.cells #[.int .i64 s2, .int .i64 z2, .slice a3 es2.length c3] 24)))
  have HV3 := hide (hv3.alloc (.cells #[.int .i64 s2, .int .i64 z2, .slice a3 es2.length c3] 24))
  have HY3 := hide (CBox.new w3 s2 z2 (.slice a3 es2.length c3))
  have HV2 := hide ((unhide HV2).next (unhide HB3'))
  have HY2 := hide ((unhide HY2).next (unhide HB3'))
  have HB3 := hide (nnext (unhide HB2) (unhide HB3'))
  clear D2 hv3 hb3 x0 x1 x2
  go_wp2_with fail
  generalize w3.alloc (.cells #[.int .i64 s2, .int .i64 z2, .slice a3 es2.length c3] 24) = W3 at *
  refine (unhide HC3 _).mono ?_
  rintro e w4 ⟨rfl, hb4⟩
  have HB4' := hide (nnext hb4 (allocB w4 (.cells #[.int .i64 s3, .int .i64 0, .slice none 0 0] 24)))
  have HY4 := hide (CBox.new w4 s3 0 (.slice none 0 0))
  have HV2 := hide ((unhide HV2).next (unhide HB4'))
  have HY2 := hide ((unhide HY2).next (unhide HB4'))
  have HV3 := hide ((unhide HV3).next (unhide HB4'))
  have HY3 := hide ((unhide HY3).next (unhide HB4'))
  have HB4 := hide (nnext (unhide HB3) (unhide HB4'))
  clear hb4
  go_wp2_with fail
  generalize w4.alloc (.cells #[.int .i64 s3, .int .i64 0, .slice none 0 0] 24) = W4 at *
  refine (unhide HC4 _).mono ?_
  rintro e w5 ⟨rfl, hb5⟩
  have HB5' := hide (nnext hb5 (allocB w5 (.cells #[.int .i64 s3, .int .i64 0, .slice none 0 0] 24)))
  have HY5 := hide (CBox.new w5 s3 0 (.slice none 0 0))
  have HV2 := hide ((unhide HV2).next (unhide HB5'))
  have HY2 := hide ((unhide HY2).next (unhide HB5'))
  have HV3 := hide ((unhide HV3).next (unhide HB5'))
  have HY3 := hide ((unhide HY3).next (unhide HB5'))
  have HY4 := hide ((unhide HY4).next (unhide HB5'))
  have HB5 := hide (nnext (unhide HB4) (unhide HB5'))
  have p0 := (unhide HY2).c0
  have p1 := (unhide HY2).c1
  have p2 := (unhide HY2).c2
  have p3 := (unhide HY3).c0
  have p4 := (unhide HY3).c1
  have p5 := (unhide HY3).c2
  clear hb5
  go_wp2_with fail
  generalize w5.alloc (.cells #[.int .i64 s3, .int .i64 0, .slice none 0 0] 24) = W5 at *
  refine (unhide HC5 _ _ _ (unhide HV2) (unhide HV3)).mono ?_
  rintro e w6 ⟨rfl, hb6⟩
  have HY4 := hide ((unhide HY4).next hb6)
  have HY5 := hide ((unhide HY5).next hb6)
  have HB6 := hide (nnext (unhide HB5) hb6)
  have r0 := (unhide HY4).c0
  have r1 := (unhide HY4).c1
  have r2 := (unhide HY4).c2
  have r3 := (unhide HY5).c0
  have r4 := (unhide HY5).c1
  have r5 := (unhide HY5).c2
  clear hb6 p0 p1 p2 p3 p4 p5
  go_wp2_with fail
  refine (unhide HC6 _).mono ?_
  rintro e w7 ⟨rfl, hb7⟩
  have HB7 := hide (nnext (unhide HB6) hb7)
  clear hb7 r0 r1 r2 r3 r4 r5
  go_wp2_with fail
  refine (cends_any _).mono ?_
  rintro e w8 ⟨rfl, hb8⟩
  have HB8 := hide (nnext (unhide HB7) hb8)
  clear hb8
  go_wp2_with fail
  go_ret
  exact ⟨rfl, unhide HB8⟩
end Go.Proofs.Ytdefdbejaabpdaa

namespace Go.Proofs.Ytdefdbejaabpdaa
open Go.ChangeShapes Go.WideShapes Go.ChangeAt Go.RowKit Go.ChangeMaps

theorem zlaidOut : laidOutB Try.prog = true := by kernel_rfl
theorem zlist_of (s : ByteArray) : ∃ l : List UInt8, s = ⟨l.toArray⟩ := ⟨s.data.toList, rfl⟩
section
variable {H : Type} {enc : TypeId × Value → H} {W : World} {base : Nat} {spare : Nat → Bool} {held : Bool}
theorem zweightsAll_mem {e : TypeId} : ∀ (l : List (DataW H)) (d : DataW H) (x : Nat), d ∈ l → x ∈ DataW.weights Try.prog e d → x ∈ DataW.weightsAll Try.prog e l
  | d' :: r, d, x, h, hx => by
    rw [DataW.weightsAll]
    rcases List.mem_cons.1 h with rfl | h
    · exact List.mem_append.2 (.inl hx)
    · exact List.mem_append.2 (.inr (zweightsAll_mem r d x h hx))
set_option maxRecDepth 10000 in
/-- a slice of elements that are laid in a row, and what is known of each -/
theorem open_seqP {α : Type} [Lay α] (al : α) {T E : TypeId} (hU : Try.prog.underlying T = some (.slice E)) (hk : Try.prog.cellsOf E = Lay.k α) (hk0 : 0 < Lay.k α) {bytes : Nat} (hby : Try.prog.bytesOf E = bytes) (P : α → Prop) (Q : Nat → α → Prop)
    (ho : ∀ {n : Nat} {cs : List Value} {x : DataW H × List MemPlace}, cs.length = Lay.k α → DataW.trod enc Try.prog W base spare held n E cs = some x → ∃ f : α, cs = Lay.cs f ∧ P f ∧ ∀ M, (∀ y ∈ DataW.weights Try.prog E x.1, y ≤ M) → Q M f)
    {fuel : Nat} {v : Value} {y : DataW H × List MemPlace} (h : DataW.trod enc Try.prog W base spare held fuel T [v] = some y) :
    ∃ xs : List α, SeqV W v xs ∧ (∀ x ∈ xs, P x) ∧ ∀ M, (∀ x ∈ DataW.weights Try.prog T y.1, x ≤ M) → xs.length * bytes ≤ M ∧ ∀ x ∈ xs, Q M x := by
  rcases Go.Deep.open_slice hU h with ⟨h1, hx⟩ | ⟨a, len, cap, m, k, D, Pl, h1, hb, hl, hm, hmm, hx, hel⟩
  · simp only [List.cons.injEq, and_true] at h1
    rw [h1]
    exact ⟨[], SeqV.nil W, by simp, fun M _ => ⟨by simp, by simp⟩⟩
  · simp only [List.cons.injEq, and_true] at h1
    rw [h1]
    subst hx
    have hlm : len ≤ m := by rw [hmm]; split <;> omega
    have each : ∀ i, i < len → ∃ f : α, (∀ c, c < Lay.k α → W.cell? (a.add (i * Lay.k α + c)) = (Lay.cs f)[c]?) ∧ P f ∧ ∀ M, (∀ y ∈ DataW.weights Try.prog E (D i), y ≤ M) → Q M f := by
      intro i hi
      obtain ⟨cs', g1, g2⟩ := hel i (by omega)
      rw [hk] at g1
      obtain ⟨_, hlen, hcell⟩ := World.cells?_some g1
      obtain ⟨f, rfl, hp, hq⟩ := ho hlen g2
      refine ⟨f, fun c hc => ?_, hp, hq⟩
      have := hcell c hc
      rwa [Go.Deep.add_add] at this
    have : Inhabited α := ⟨al⟩
    obtain ⟨F, hF⟩ := Go.Deep.choose_lt each
    refine ⟨(List.range len).map F, ?_, ?_, ?_⟩
    · by_cases h0 : len = 0
      · subst h0
        exact .inl ⟨some a, cap, rfl, rfl, hm⟩
      · have c0 := (hF 0 (by omega)).1 0 hk0
        obtain ⟨y, hy⟩ : ∃ y, (Lay.cs (F 0))[0]? = some y := ⟨_, List.getElem?_eq_getElem (by rw [Lay.len]; exact hk0)⟩
        rw [hy] at c0
        obtain ⟨b, off, sp⟩ := a
        have hsp : sp = none := by
          cases sp with
          | none => rfl
          | some s => simp [World.cell?, Addr.add] at c0; split at c0 <;> simp at c0
        subst hsp
        have hblt : b < W.heap.size := World.block_lt_of_cell? W _ (show W.cell? ((⟨b, off, none⟩ : Addr).add (0 * Lay.k α + 0)) = some _ from c0) |> fun h => by simpa [Addr.add] using h
        refine .inr ⟨b, off, cap, by simp, by simpa using hl, hm, hblt, by simp; omega, fun j u hj => ?_⟩
        have hjl : j < len * Lay.k α := by
          have := (List.getElem?_eq_some_iff.1 hj).1
          rw [cellsL_length, List.length_map, List.length_range] at this
          exact this
        have hi : j / Lay.k α < len := Nat.div_lt_of_lt_mul (by rw [Nat.mul_comm]; exact hjl)
        have hm' : j % Lay.k α < Lay.k α := Nat.mod_lt _ hk0
        have hdm : j / Lay.k α * Lay.k α + j % Lay.k α = j := by rw [Nat.mul_comm]; exact Nat.div_add_mod j _
        have hg := cellsL_get ((List.range len).map F) (j / Lay.k α) (F (j / Lay.k α)) (by rw [List.getElem?_map, List.getElem?_range hi]; rfl) (j % Lay.k α) hm'
        rw [hdm, hj] at hg
        have := (hF (j / Lay.k α) hi).1 (j % Lay.k α) hm'
        rw [hdm, Addr.add_lit, ← hg] at this
        exact this
    · intro x hx
      obtain ⟨i, hi, rfl⟩ := List.mem_map.1 hx
      exact (hF i (by simpa using hi)).2.1
    · intro M hM
      have hw' : DataW.weights Try.prog T (.slice ((List.range len).map D) ((List.range (m - len)).map fun j => D (len + j)) : DataW H) =
          (len + (m - len)) * bytes :: (DataW.weightsAll Try.prog E ((List.range len).map D) ++ DataW.weightsAll Try.prog E ((List.range (m - len)).map fun j => D (len + j))) := by
        simp [DataW.weights, hU, hby]
      rw [hw'] at hM
      refine ⟨?_, fun f hf => ?_⟩
      · have := hM _ (List.mem_cons_self ..)
        simp only [List.length_map, List.length_range]
        exact Nat.le_trans (Nat.mul_le_mul_right _ (by omega)) this
      · obtain ⟨i, hi, rfl⟩ := List.mem_map.1 hf
        have hi' : i < len := by simpa using hi
        exact (hF i hi').2.2 M fun x hx => hM x (List.mem_cons_of_mem _ (List.mem_append.2 (.inl (zweightsAll_mem _ (D i) x (List.mem_map.2 ⟨i, hi, rfl⟩) hx))))
theorem zsized {ts : List TypeId} {ds : List (DataW H)} (h : (DataW.weightsEach Try.prog ts ds).all (· ≤ reachBytes) = true) {j : Nat} {T : TypeId} {d : DataW H} (ht : ts[j]? = some T) (hd : ds[j]? = some d) : ∀ x ∈ DataW.weights Try.prog T d, x ≤ 140737488351232 := by
  intro x hx
  have e : reachBytes = 140737488351232 := by decide
  have h1 := List.all_eq_true.1 h _ (DataW.weights_mem_each ht hd x hx)
  rw [e] at h1
  simpa using h1
end
end Go.Proofs.Ytdefdbejaabpdaa

namespace Go.Proofs.Ytdefdbejaabpdaa
open Go.ChangeShapes Go.WideShapes Go.ChangeAt Go.RowKit Go.ChangeMaps

theorem ccellsStr : Try.prog.cellsOf 9 = 1 := by kernel_rfl
theorem ccellsInt : Try.prog.cellsOf 3 = 1 := by kernel_rfl
theorem ccellsBool : Try.prog.cellsOf 4 = 1 := by kernel_rfl
theorem ccellsEn : Try.prog.cellsOf 36 = 3 := by kernel_rfl
theorem ccellsEs : Try.prog.cellsOf 22 = 1 := by kernel_rfl
theorem ccellsCl : Try.prog.cellsOf 24 = 3 := by kernel_rfl
theorem cbytesEn : Try.prog.bytesOf 36 = 40 := by kernel_rfl
section
variable {H : Type} {enc : TypeId × Value → H} {W : World} {base : Nat} {spare : Nat → Bool} {held : Bool}
set_option maxRecDepth 10000 in
theorem copen_en {n : Nat} {cs : List Value} {x : DataW H × List MemPlace} (hl : cs.length = 3) (h : DataW.trod enc Try.prog W base spare held n 36 cs = some x) :
    ∃ f : En, cs = encells f ∧ True ∧ ∀ M, (∀ y ∈ DataW.weights Try.prog 36 x.1, y ≤ M) → f.p.length ≤ M ∧ f.d.length ≤ M := by
  match cs, hl with
  | [c0, c1, c2], _ =>
    obtain ⟨xs, k, _, hx, _, hlen, hfs⟩ := DataW.trod_struct Try.underlying36 h
    match xs, hlen with
    | [y0, y1, y2], _ =>
      obtain ⟨s0, e0, rfl, _⟩ := DataW.trod_string Try.underlying9 (show DataW.trod enc Try.prog W base spare held k 9 [c0] = some y0 by simpa [ccellsStr] using hfs 0 _ rfl)
      obtain ⟨s1, e1, rfl, _⟩ := DataW.trod_string Try.underlying9 (show DataW.trod enc Try.prog W base spare held k 9 [c1] = some y1 by simpa [ccellsStr] using hfs 1 _ rfl)
      obtain ⟨b, e2, rfl⟩ := DataW.trod_bool Try.underlying4 (show DataW.trod enc Try.prog W base spare held k 4 [c2] = some y2 by simpa [ccellsStr, ccellsBool] using hfs 2 _ rfl)
      simp only [List.cons.injEq, and_true] at e0 e1 e2
      subst e0 e1 e2
      obtain ⟨l0, rfl⟩ := zlist_of s0
      obtain ⟨l1, rfl⟩ := zlist_of s1
      subst hx
      refine ⟨⟨l0, l1, b⟩, rfl, trivial, fun M hM => ?_⟩
      simp only [DataW.weights, Try.underlying36, List.map_cons, List.map_nil, DataW.weightsEach] at hM
      simpa using hM
theorem copen_es {fuel : Nat} {v : Value} {y : DataW H × List MemPlace} (h : DataW.trod enc Try.prog W base spare held fuel 22 [v] = some y) :
    ∃ es : List En, SeqV W v es ∧ ∀ M, (∀ x ∈ DataW.weights Try.prog 22 y.1, x ≤ M) → es.length * 40 ≤ M ∧ ∀ x ∈ es, x.p.length ≤ M ∧ x.d.length ≤ M := by
  obtain ⟨es, h1, _, h3⟩ := open_seqP noneE Try.underlying22 ccellsEn (by decide) cbytesEn (fun _ => True) (fun M x => x.p.length ≤ M ∧ x.d.length ≤ M) copen_en h
  exact ⟨es, h1, h3⟩
set_option maxRecDepth 10000 in
theorem open_client {r : Reach} {b0 : Nat} {v : Value} {d : DataW H} {p : List MemPlace} (hv : Value.okWide Try.prog W r b0 24 v) (h : DataW.Trod enc Try.prog W base spare held 24 v d p) :
    ∃ (s z : Int) (u : Value) (es : List En), v = clV s z u ∧ SeqV W u es ∧ ∀ M, (∀ y ∈ DataW.weights Try.prog 24 d, y ≤ M) → es.length * 40 ≤ M ∧ ∀ x ∈ es, x.p.length ≤ M ∧ x.d.length ≤ M := by
  obtain ⟨cs, rfl, hsz⟩ := okWide_struct Try.underlying24 hv
  obtain ⟨fuel, hf⟩ := h
  have hf' : DataW.trod enc Try.prog W base spare held fuel 24 cs.toList = some (d, p) := by simpa [Value.cells] using hf
  clear hf hv
  obtain ⟨l⟩ := cs
  have hl : l.length = 3 := hsz.trans ccellsCl
  match l, hl with
  | [c0, c1, c2], _ =>
    obtain ⟨xs, k, _, hx, _, hlen, hfs⟩ := DataW.trod_struct Try.underlying24 hf'
    match xs, hlen with
    | [y0, y1, y2], _ =>
      obtain ⟨s, e0, rfl, _⟩ := DataW.trod_int Try.underlying3 (show DataW.trod enc Try.prog W base spare held k 3 [c0] = some y0 by simpa [ccellsInt] using hfs 0 _ rfl)
      obtain ⟨z, e1, rfl, _⟩ := DataW.trod_int Try.underlying3 (show DataW.trod enc Try.prog W base spare held k 3 [c1] = some y1 by simpa [ccellsInt] using hfs 1 _ rfl)
      obtain ⟨es, hS, hM⟩ := copen_es (show DataW.trod enc Try.prog W base spare held k 22 [c2] = some y2 by simpa [ccellsInt, ccellsEs] using hfs 2 _ rfl)
      simp only [List.cons.injEq, and_true] at e0 e1
      subst e0 e1
      simp only [Prod.mk.injEq] at hx
      obtain ⟨rfl, rfl⟩ := hx
      refine ⟨s, z, c2, es, rfl, hS, fun M hW => hM M fun q hq => hW q ?_⟩
      simp [DataW.weights, Try.underlying24, DataW.weightsEach, hq]
end
end Go.Proofs.Ytdefdbejaabpdaa
