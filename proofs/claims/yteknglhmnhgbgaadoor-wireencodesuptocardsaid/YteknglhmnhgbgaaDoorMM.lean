/-
  What aviaryref.Encode answers: the walk.
  WireEncodes: the law's walk, out of the contracts of Good and Encode, the program's and the document's own.
-/
import Derived.Test.YteknglhmnhgbgaaDoorML
import Derived.Test.YteknglhmnhgbgaaDoorMK
import Derived.Test.YteknglhmnhgbgaaDoorMJ
import Derived.Test.YteknglhmnhgbgaaDoorMC
namespace Go.Proofs.YteknglhmnhgbgaaDoor
open Go.RowKit

theorem rnum_in (n : Int) (k : Nat) (w : World) (h0 : 0 ≤ n) (hn : n < 9223372036854775808) (hk : k ≤ 8) (d : Nat) (os : Array Obj) :
    Calls Tryd.prog 21 #[.int .i64 n, .int .i64 k] (Sort.grow (redrawn w d) os) fun e w'' => e = .returned (.string ⟨(be k n.toNat).toArray⟩) ∧ ∃ p : Regrown, w'' = Sort.grow (redrawn w p.d) p.os := by
  have h := bytesOf_any n.toNat k (Sort.grow (redrawn w d) os) (by omega) hk
  rw [Int.toNat_of_nonneg h0] at h
  exact Calls.regrown_of h

set_option maxHeartbeats 1000000 in
theorem rencode_no (t : WTxn) (w : World) (hzb : t.z ≤ 9223372036854775807) (hp : t.p.length ≤ 1048576) (hd : t.d.length ≤ 140737488355328) (h : gdE t ≠ 0) :
    Calls Tryd.prog 10 #[txnV t] w fun e w' => e = .returned (.tuple #[.string ⟨#[]⟩, .int .i64 (gdE t)]) ∧ Below w.heap.size w w' := by
  obtain ⟨E, hE⟩ : ∃ E, gdE t = E := ⟨_, rfl⟩
  have hne : (E == 0) = false := by rw [← hE]; simpa using h
  have hne' : (E != 0) = true := by simp [bne, hne]
  have HE := hide hE
  rw [hE]
  clear hE h
  obtain ⟨z, o, s, p, d, v, u⟩ := t
  unfold txnV
  go_enter Tryd.func10, Tryd.ntmps10
  go_wp2_with fail
  refine (rgd_any ⟨z, o, s, p, d, v, u⟩ _ hzb hp hd).mono ?_
  rintro e w1 ⟨rfl, hb1⟩
  have hbz := box_then hb1
  rw [unhide HE]
  go_wp2_with fail
  go_ret2
  exact ⟨rfl, hbz⟩

set_option maxRecDepth 100000 in
set_option maxHeartbeats 2000000 in
theorem rencode_yes (t : WTxn) (w : World) (ht : gdE t = 0) :
    Calls Tryd.prog 10 #[txnV t] w fun e w' => e = .returned (.tuple #[.string ⟨(recL t).toArray⟩, .int .i64 0]) ∧ Below w.heap.size w w' := by
  have H := hide ht
  obtain ⟨hz, ho, hs, hv, hu, hp, hd⟩ := gd_bounds ht
  have hbl := gd_body_le ht
  clear ht
  obtain ⟨bb, hbb⟩ : ∃ b, bodyL t = b := ⟨_, rfl⟩
  have Hb := hide hbb
  rw [hbb] at hbl
  clear hbb
  obtain ⟨z, o, s, p, d, v, u⟩ := t
  unfold txnV
  simp only at hz ho hs hv hu hp hd
  have hzp : (ByteArray.mk p.toArray).size = p.length := Lib.size_eq ⟨p.toArray⟩
  have hzd : (ByteArray.mk d.toArray).size = d.length := Lib.size_eq ⟨d.toArray⟩
  go_enter Tryd.func10, Tryd.ntmps10
  go_wp2_with fail
  refine (rgd_any ⟨z, o, s, p, d, v, u⟩ _ (by show z ≤ _; omega) (by show p.length ≤ _; omega) (by show d.length ≤ _; omega)).mono ?_
  rintro e W ⟨rfl, hb1⟩
  have hB := box_then hb1
  have hW : W.heap[w.heap.size]? = some (.cells #[.int .i64 z, .int .i64 o, .int .i64 s, .string ⟨p.toArray⟩, .string ⟨d.toArray⟩, .int .i64 v, .int .i64 u] 23) :=
    (hb1.block _ (by simp)).trans (by show (w.heap.push _)[w.heap.size]? = _; simp)
  rw [unhide H]
  go_wp2_with fail
  have k0 : ∀ d' os, (Sort.grow (redrawn W d') os).cell? ⟨w.heap.size, 0, none⟩ = some (.int .i64 z) := fun d' os => cell_regrown (by simp [World.cell?, hW]) d' os
  have k1 : ∀ d' os, (Sort.grow (redrawn W d') os).cell? ⟨w.heap.size, 1, none⟩ = some (.int .i64 o) := fun d' os => cell_regrown (by simp [World.cell?, hW]) d' os
  have k2 : ∀ d' os, (Sort.grow (redrawn W d') os).cell? ⟨w.heap.size, 2, none⟩ = some (.int .i64 s) := fun d' os => cell_regrown (by simp [World.cell?, hW]) d' os
  have k3 : ∀ d' os, (Sort.grow (redrawn W d') os).cell? ⟨w.heap.size, 3, none⟩ = some (.string ⟨p.toArray⟩) := fun d' os => cell_regrown (by simp [World.cell?, hW]) d' os
  have k4 : ∀ d' os, (Sort.grow (redrawn W d') os).cell? ⟨w.heap.size, 4, none⟩ = some (.string ⟨d.toArray⟩) := fun d' os => cell_regrown (by simp [World.cell?, hW]) d' os
  have k5 : ∀ d' os, (Sort.grow (redrawn W d') os).cell? ⟨w.heap.size, 5, none⟩ = some (.int .i64 v) := fun d' os => cell_regrown (by simp [World.cell?, hW]) d' os
  have k6 : ∀ d' os, (Sort.grow (redrawn W d') os).cell? ⟨w.heap.size, 6, none⟩ = some (.int .i64 u) := fun d' os => cell_regrown (by simp [World.cell?, hW]) d' os
  clear hW hb1
  have c0 : ∀ d' os, Calls Tryd.prog 21 #[.int .i64 z, .int .i64 8] (Sort.grow (redrawn W d') os) fun e w'' => e = .returned (.string ⟨(be 8 z.toNat).toArray⟩) ∧ ∃ p : Regrown, w'' = Sort.grow (redrawn W p.d) p.os := rnum_in z 8 W (by omega) (by omega) (by omega)
  have c1 : ∀ d' os, Calls Tryd.prog 21 #[.int .i64 o, .int .i64 1] (Sort.grow (redrawn W d') os) fun e w'' => e = .returned (.string ⟨(be 1 o.toNat).toArray⟩) ∧ ∃ p : Regrown, w'' = Sort.grow (redrawn W p.d) p.os := rnum_in o 1 W (by omega) (by omega) (by omega)
  have c2 : ∀ d' os, Calls Tryd.prog 21 #[.int .i64 s, .int .i64 4] (Sort.grow (redrawn W d') os) fun e w'' => e = .returned (.string ⟨(be 4 s.toNat).toArray⟩) ∧ ∃ p : Regrown, w'' = Sort.grow (redrawn W p.d) p.os := rnum_in s 4 W (by omega) (by omega) (by omega)
  have c3 : ∀ d' os, Calls Tryd.prog 21 #[.int .i64 v, .int .i64 4] (Sort.grow (redrawn W d') os) fun e w'' => e = .returned (.string ⟨(be 4 v.toNat).toArray⟩) ∧ ∃ p : Regrown, w'' = Sort.grow (redrawn W p.d) p.os := rnum_in v 4 W (by omega) (by omega) (by omega)
  have c4 : ∀ d' os, Calls Tryd.prog 21 #[.int .i64 u, .int .i64 4] (Sort.grow (redrawn W d') os) fun e w'' => e = .returned (.string ⟨(be 4 u.toNat).toArray⟩) ∧ ∃ p : Regrown, w'' = Sort.grow (redrawn W p.d) p.os := rnum_in u 4 W (by omega) (by omega) (by omega)
  have c5 : ∀ d' os, Calls Tryd.prog 21 #[.int .i64 (p.length : Nat), .int .i64 1] (Sort.grow (redrawn W d') os) fun e w'' => e = .returned (.string ⟨(be 1 p.length).toArray⟩) ∧ ∃ p : Regrown, w'' = Sort.grow (redrawn W p.d) p.os := rnum_in p.length 1 W (by omega) (by omega) (by omega)
  have c6 : ∀ d' os, Calls Tryd.prog 21 #[.int .i64 (d.length : Nat), .int .i64 2] (Sort.grow (redrawn W d') os) fun e w'' => e = .returned (.string ⟨(be 2 d.length).toArray⟩) ∧ ∃ p : Regrown, w'' = Sort.grow (redrawn W p.d) p.os := rnum_in d.length 2 W (by omega) (by omega) (by omega)
  have l0 := be_length 8 z.toNat
  have l1 := be_length 1 o.toNat
  have l2 := be_length 4 s.toNat
  have l3 := be_length 4 v.toNat
  have l4 := be_length 4 u.toNat
  have l5 := be_length 1 p.length
  have l6 := be_length 2 d.length
  obtain ⟨b0, e0⟩ : ∃ b, be 8 z.toNat = b := ⟨_, rfl⟩
  rw [e0] at c0 l0
  have E0 := hide e0
  clear e0
  obtain ⟨b1, e1⟩ : ∃ b, be 1 o.toNat = b := ⟨_, rfl⟩
  rw [e1] at c1 l1
  have E1 := hide e1
  clear e1
  obtain ⟨b2, e2⟩ : ∃ b, be 4 s.toNat = b := ⟨_, rfl⟩
  rw [e2] at c2 l2
  have E2 := hide e2
  clear e2
  obtain ⟨b3, e3⟩ : ∃ b, be 4 v.toNat = b := ⟨_, rfl⟩
  rw [e3] at c3 l3
  have E3 := hide e3
  clear e3
  obtain ⟨b4, e4⟩ : ∃ b, be 4 u.toNat = b := ⟨_, rfl⟩
  rw [e4] at c4 l4
  have E4 := hide e4
  clear e4
  obtain ⟨b5, e5⟩ : ∃ b, be 1 p.length = b := ⟨_, rfl⟩
  rw [e5] at c5 l5
  have E5 := hide e5
  clear e5
  obtain ⟨b6, e6⟩ : ∃ b, be 2 d.length = b := ⟨_, rfl⟩
  rw [e6] at c6 l6
  have E6 := hide e6
  clear e6
  refine wp_region_quiet_below (by kernel_rfl) (by kernel_rfl) ?_
  repeat (first | go_big_quiet_step (first | with_reducible exact c0 _ _ | with_reducible exact c1 _ _ | with_reducible exact c2 _ _ | with_reducible exact c3 _ _ | with_reducible exact c4 _ _ | with_reducible exact c5 _ _ | with_reducible exact c6 _ _) | quiet_step (first | with_reducible exact c0 _ _ | with_reducible exact c1 _ _ | with_reducible exact c2 _ _ | with_reducible exact c3 _ _ | with_reducible exact c4 _ _ | with_reducible exact c5 _ _ | with_reducible exact c6 _ _))
  refine wpQuiet_nil ?_
  intro _ hw'
  obtain ⟨⟨dq, osq⟩, hw''⟩ := hw'
  subst hw''
  have hb2 : Below w.heap.size w (Sort.grow (redrawn W dq) osq) := below_next hB (below_regrown W dq osq)
  clear c0 c1 c2 c3 c4 c5 c6 k0 k1 k2 k3 k4 k5 k6
  have hcat : (ByteArray.mk b0.toArray ++ ByteArray.mk b1.toArray ++ ByteArray.mk b2.toArray ++ ByteArray.mk b3.toArray ++ ByteArray.mk b4.toArray ++ ByteArray.mk b5.toArray ++ ByteArray.mk p.toArray ++ ByteArray.mk b6.toArray ++ ByteArray.mk d.toArray) = ⟨bb.toArray⟩ := by
    rw [cat_one, cat_one, cat_one, cat_one, cat_one, cat_one, cat_one, cat_one, ← unhide Hb]
    simp only [List.append_assoc, bodyL]
    rw [unhide E0, unhide E1, unhide E2, unhide E3, unhide E4, unhide E5, unhide E6]
  rw [hcat]
  clear hcat E0 E1 E2 E3 E4 E5 E6 l0 l1 l2 l3 l4 l5 l6 hB
  have hzb : (ByteArray.mk bb.toArray).size = bb.length := Lib.size_eq ⟨bb.toArray⟩
  go_wp2_with fail
  refine (bytesOf_any bb.length 2 _ (by omega) (by omega)).mono ?_
  rintro e w3 ⟨rfl, hb3⟩
  replace hb3 := below_next hb2 hb3
  clear hb2
  have l2 := be_length 2 bb.length
  obtain ⟨n2, e2⟩ : ∃ n2, be 2 bb.length = n2 := ⟨_, rfl⟩
  rw [e2] at l2 ⊢
  have E2 := hide e2
  clear e2
  go_wp2_with fail
  have hF : (ByteArray.mk #[84] ++ ByteArray.mk n2.toArray ++ ByteArray.mk bb.toArray) = ⟨(frontL bb).toArray⟩ := by
    rw [show (ByteArray.mk #[84]) = ⟨[(84 : UInt8)].toArray⟩ from rfl, cat_one, cat_one, frontL, unhide E2]
    rfl
  rw [hF]
  have lF := frontL_length bb
  obtain ⟨F, eF⟩ : ∃ F, frontL bb = F := ⟨_, rfl⟩
  rw [eF] at lF ⊢
  have EF := hide eF
  clear eF hF
  have hzF : (ByteArray.mk F.toArray).size = F.length := Lib.size_eq ⟨F.toArray⟩
  refine (rsum_any F _ (by omega)).mono ?_
  rintro e w4 ⟨rfl, hb4⟩
  replace hb4 := below_next hb3 hb4
  clear hb3
  have hsl := sumN_lt F
  obtain ⟨X, hX⟩ : ∃ X, sumN F = X := ⟨_, rfl⟩
  rw [hX] at hsl ⊢
  have HX := hide hX
  clear hX
  go_wp2_with fail
  refine (bytesOf_any X 4 _ (by omega) (by omega)).mono ?_
  rintro e w5 ⟨rfl, hb5⟩
  replace hb5 := below_next hb4 hb5
  clear hb4
  have l4 := be_length 4 X
  obtain ⟨n4, e4⟩ : ∃ n4, be 4 X = n4 := ⟨_, rfl⟩
  rw [e4] at l4 ⊢
  have E4 := hide e4
  clear e4
  go_wp2_with fail
  go_ret2
  refine ⟨ret_strI ?_ rfl, hb5⟩
  rw [cat_one, recL, unhide Hb, unhide EF, unhide HX, unhide E4]

end Go.Proofs.YteknglhmnhgbgaaDoor

namespace Go.Proofs.YteknglhmnhgbgaaDoor
open Go.RowKit

def encS (t : WTxn) : List UInt8 := if gdE t = 0 then recL t else []
theorem encode_any (t : WTxn) (w : World) (hd : t.d.length ≤ 140737488355328) :
    Calls Tryd.prog 9 #[txnV t] w fun e w' => e = .returned (.tuple #[.string ⟨(encS t).toArray⟩, .int .i64 (gdE t)]) ∧ Below w.heap.size w w' := by
  by_cases h : gdE t = 0
  · rw [encS, if_pos h, h]; exact encode_yes t w h
  · rw [encS, if_neg h]; exact encode_no t w hd h
theorem rencode_any (t : WTxn) (w : World) (hzb : t.z ≤ 9223372036854775807) (hp : t.p.length ≤ 1048576) (hd : t.d.length ≤ 140737488355328) :
    Calls Tryd.prog 10 #[txnV t] w fun e w' => e = .returned (.tuple #[.string ⟨(encS t).toArray⟩, .int .i64 (gdE t)]) ∧ Below w.heap.size w w' := by
  by_cases h : gdE t = 0
  · rw [encS, if_pos h, h]; exact rencode_yes t w h
  · rw [encS, if_neg h]; exact rencode_no t w hzb hp hd h
theorem gd_t0 : gdE t0 = 4 := by decide +kernel

set_option maxRecDepth 100000 in
set_option maxHeartbeats 2000000 in
theorem wireEncodes_walk (t : WTxn) (w : World) (hzb : t.z ≤ 9223372036854775807) (hp : t.p.length ≤ 1048576) (hd : t.d.length ≤ 140737488355328) :
    Calls Tryd.prog 3 #[txnV t] w fun e w' => e = .returned (.bool true) ∧ Below w.heap.size w w' := by
  have Hen := hide (fun w => encode_any t w hd)
  have Hre := hide (fun w => rencode_any t w hzb hp hd)
  have Hgd := hide (fun w => wgood_any t w hd)
  have Hrg := hide (fun w => rgd_any t w hzb hp hd)
  have Hz := hide (fun w => wgood_any t0 w (by decide))
  rw [gd_t0] at Hz
  generalize encS t = S at Hen Hre
  generalize gdE t = E at Hen Hre Hgd Hrg
  clear hzb hp hd
  obtain ⟨z, o, s, p, d, v, u⟩ := t
  unfold txnV at Hen Hre Hgd Hrg Hz ⊢
  unfold t0 at Hz
  go_enter Tryd.func3, Tryd.ntmps3
  go_wp2_with fail
  refine (unhide Hen _).mono ?_
  rintro e w1 ⟨rfl, hb1⟩
  have hB1 := box_then hb1
  have hW1 : w1.heap[w.heap.size]? = some (.cells #[.int .i64 z, .int .i64 o, .int .i64 s, .string ⟨p.toArray⟩, .string ⟨d.toArray⟩, .int .i64 v, .int .i64 u] 23) :=
    (hb1.block _ (by simp)).trans (by show (w.heap.push _)[w.heap.size]? = _; simp)
  obtain ⟨hc, hf⟩ := bcell hb1
  go_wp2_with fail
  refine (unhide Hre _).mono ?_
  rintro e W ⟨rfl, hb2⟩
  have hB := below_next hB1 hb2
  have hz1 : w.heap.size < w1.heap.size := (Array.getElem?_eq_some_iff.1 hW1).1
  have hW : W.heap[w.heap.size]? = some (.cells #[.int .i64 z, .int .i64 o, .int .i64 s, .string ⟨p.toArray⟩, .string ⟨d.toArray⟩, .int .i64 v, .int .i64 u] 23) :=
    (hb2.block _ hz1).trans hW1
  clear hc hf hW1 hb1 hB1 hb2 hz1
  have k0 : ∀ d' os, (Sort.grow (redrawn W d') os).cell? ⟨w.heap.size, 0, none⟩ = some (.int .i64 z) := fun d' os => cell_regrown (by simp [World.cell?, hW]) d' os
  have k1 : ∀ d' os, (Sort.grow (redrawn W d') os).cell? ⟨w.heap.size, 1, none⟩ = some (.int .i64 o) := fun d' os => cell_regrown (by simp [World.cell?, hW]) d' os
  have k2 : ∀ d' os, (Sort.grow (redrawn W d') os).cell? ⟨w.heap.size, 2, none⟩ = some (.int .i64 s) := fun d' os => cell_regrown (by simp [World.cell?, hW]) d' os
  have k3 : ∀ d' os, (Sort.grow (redrawn W d') os).cell? ⟨w.heap.size, 3, none⟩ = some (.string ⟨p.toArray⟩) := fun d' os => cell_regrown (by simp [World.cell?, hW]) d' os
  have k4 : ∀ d' os, (Sort.grow (redrawn W d') os).cell? ⟨w.heap.size, 4, none⟩ = some (.string ⟨d.toArray⟩) := fun d' os => cell_regrown (by simp [World.cell?, hW]) d' os
  have k5 : ∀ d' os, (Sort.grow (redrawn W d') os).cell? ⟨w.heap.size, 5, none⟩ = some (.int .i64 v) := fun d' os => cell_regrown (by simp [World.cell?, hW]) d' os
  have k6 : ∀ d' os, (Sort.grow (redrawn W d') os).cell? ⟨w.heap.size, 6, none⟩ = some (.int .i64 u) := fun d' os => cell_regrown (by simp [World.cell?, hW]) d' os
  clear hW Hen Hre
  have c0 := fun d' os => Calls.regrown_of (d := d') (os := os) (unhide Hgd (Sort.grow (redrawn W d') os))
  have c1 := fun d' os => Calls.regrown_of (d := d') (os := os) (unhide Hrg (Sort.grow (redrawn W d') os))
  have c2 := fun d' os => Calls.regrown_of (d := d') (os := os) (unhide Hz (Sort.grow (redrawn W d') os))
  go_wp2_with fail
  refine wp_region_quiet_below (by kernel_rfl) (by kernel_rfl) ?_
  repeat (first | go_big_quiet_step (first | with_reducible exact c0 _ _ | with_reducible exact c1 _ _ | with_reducible exact c2 _ _) | quiet_step (first | with_reducible exact c0 _ _ | with_reducible exact c1 _ _ | with_reducible exact c2 _ _))
  refine wpQuiet_nil ?_
  intro _ hw'
  obtain ⟨⟨dq, osq⟩, hw''⟩ := hw'
  subst hw''
  have hb3 : Below w.heap.size w (Sort.grow (redrawn W dq) osq) := below_next hB (below_regrown W dq osq)
  clear c0 c1 c2 k0 k1 k2 k3 k4 k5 k6
  go_wp2_with fail
  go_ret
  exact ⟨rfl, hb3⟩

end Go.Proofs.YteknglhmnhgbgaaDoor
