/-
  What wire.body and wire.Encode answer: the walks.
-/
import Derived.Test.YtnbkpilgmjjflaaDoorWGood
import Derived.Test.YtnbkpilgmjjflaaDoorWNum
import Derived.Test.YtnbkpilgmjjflaaDoorWSum
import Derived.Lib.QuietBelow
import Derived.BigQuiet
namespace Go.Proofs.YtnbkpilgmjjflaaDoor
open Go.RowKit

theorem num_in (n : Int) (k : Nat) (w : World) (h0 : 0 ≤ n) (hn : n < 9223372036854775808) (hk : k ≤ 8) (d : Nat) (os : Array Obj) :
    Calls Tryd.prog 17 #[.int .i64 n, .int .i64 k] (Sort.grow (redrawn w d) os) fun e w'' => e = .returned (.string ⟨(be k n.toNat).toArray⟩) ∧ ∃ p : Regrown, w'' = Sort.grow (redrawn w p.d) p.os := by
  have h := number_any n.toNat k (Sort.grow (redrawn w d) os) (by omega) hk
  rw [Int.toNat_of_nonneg h0] at h
  exact Calls.regrown_of h

set_option maxRecDepth 100000 in
set_option maxHeartbeats 2000000 in
theorem body_any (t : WTxn) (w : World) (ht : gdE t = 0) :
    Calls Tryd.prog 16 #[txnV t] w fun e w' => e = .returned (.string ⟨(bodyL t).toArray⟩) ∧ Below w.heap.size w w' := by
  obtain ⟨hz, ho, hs, hv, hu, hp, hd⟩ := gd_bounds ht
  clear ht
  obtain ⟨z, o, s, p, d, v, u⟩ := t
  unfold txnV bodyL
  simp only at hz ho hs hv hu hp hd ⊢
  have hzp : (ByteArray.mk p.toArray).size = p.length := Lib.size_eq ⟨p.toArray⟩
  have hzd : (ByteArray.mk d.toArray).size = d.length := Lib.size_eq ⟨d.toArray⟩
  go_enter Tryd.func16, Tryd.ntmps16
  go_wp2_with fail
  obtain ⟨W, hW⟩ : ∃ W, w.alloc (Obj.cells #[.int .i64 z, .int .i64 o, .int .i64 s, .string ⟨p.toArray⟩, .string ⟨d.toArray⟩, .int .i64 v, .int .i64 u] 23) = W := ⟨_, rfl⟩
  have hB : Below w.heap.size w W := by rw [← hW]; exact (Below.refl _ _).alloc (Nat.le_refl _) _
  have k0 : ∀ d' os, (Sort.grow (redrawn W d') os).cell? ⟨w.heap.size, 0, none⟩ = some (.int .i64 z) := fun d' os => cell_regrown (by rw [← hW]; simp) d' os
  have k1 : ∀ d' os, (Sort.grow (redrawn W d') os).cell? ⟨w.heap.size, 1, none⟩ = some (.int .i64 o) := fun d' os => cell_regrown (by rw [← hW]; simp) d' os
  have k2 : ∀ d' os, (Sort.grow (redrawn W d') os).cell? ⟨w.heap.size, 2, none⟩ = some (.int .i64 s) := fun d' os => cell_regrown (by rw [← hW]; simp) d' os
  have k3 : ∀ d' os, (Sort.grow (redrawn W d') os).cell? ⟨w.heap.size, 3, none⟩ = some (.string ⟨p.toArray⟩) := fun d' os => cell_regrown (by rw [← hW]; simp) d' os
  have k4 : ∀ d' os, (Sort.grow (redrawn W d') os).cell? ⟨w.heap.size, 4, none⟩ = some (.string ⟨d.toArray⟩) := fun d' os => cell_regrown (by rw [← hW]; simp) d' os
  have k5 : ∀ d' os, (Sort.grow (redrawn W d') os).cell? ⟨w.heap.size, 5, none⟩ = some (.int .i64 v) := fun d' os => cell_regrown (by rw [← hW]; simp) d' os
  have k6 : ∀ d' os, (Sort.grow (redrawn W d') os).cell? ⟨w.heap.size, 6, none⟩ = some (.int .i64 u) := fun d' os => cell_regrown (by rw [← hW]; simp) d' os
  rw [hW]
  clear hW
  have c0 : ∀ d' os, Calls Tryd.prog 17 #[.int .i64 z, .int .i64 8] (Sort.grow (redrawn W d') os) fun e w'' => e = .returned (.string ⟨(be 8 z.toNat).toArray⟩) ∧ ∃ p : Regrown, w'' = Sort.grow (redrawn W p.d) p.os := num_in z 8 W (by omega) (by omega) (by omega)
  have c1 : ∀ d' os, Calls Tryd.prog 17 #[.int .i64 o, .int .i64 1] (Sort.grow (redrawn W d') os) fun e w'' => e = .returned (.string ⟨(be 1 o.toNat).toArray⟩) ∧ ∃ p : Regrown, w'' = Sort.grow (redrawn W p.d) p.os := num_in o 1 W (by omega) (by omega) (by omega)
  have c2 : ∀ d' os, Calls Tryd.prog 17 #[.int .i64 s, .int .i64 4] (Sort.grow (redrawn W d') os) fun e w'' => e = .returned (.string ⟨(be 4 s.toNat).toArray⟩) ∧ ∃ p : Regrown, w'' = Sort.grow (redrawn W p.d) p.os := num_in s 4 W (by omega) (by omega) (by omega)
  have c3 : ∀ d' os, Calls Tryd.prog 17 #[.int .i64 v, .int .i64 4] (Sort.grow (redrawn W d') os) fun e w'' => e = .returned (.string ⟨(be 4 v.toNat).toArray⟩) ∧ ∃ p : Regrown, w'' = Sort.grow (redrawn W p.d) p.os := num_in v 4 W (by omega) (by omega) (by omega)
  have c4 : ∀ d' os, Calls Tryd.prog 17 #[.int .i64 u, .int .i64 4] (Sort.grow (redrawn W d') os) fun e w'' => e = .returned (.string ⟨(be 4 u.toNat).toArray⟩) ∧ ∃ p : Regrown, w'' = Sort.grow (redrawn W p.d) p.os := num_in u 4 W (by omega) (by omega) (by omega)
  have c5 : ∀ d' os, Calls Tryd.prog 17 #[.int .i64 (p.length : Nat), .int .i64 1] (Sort.grow (redrawn W d') os) fun e w'' => e = .returned (.string ⟨(be 1 p.length).toArray⟩) ∧ ∃ p : Regrown, w'' = Sort.grow (redrawn W p.d) p.os := num_in p.length 1 W (by omega) (by omega) (by omega)
  have c6 : ∀ d' os, Calls Tryd.prog 17 #[.int .i64 (d.length : Nat), .int .i64 2] (Sort.grow (redrawn W d') os) fun e w'' => e = .returned (.string ⟨(be 2 d.length).toArray⟩) ∧ ∃ p : Regrown, w'' = Sort.grow (redrawn W p.d) p.os := num_in d.length 2 W (by omega) (by omega) (by omega)
  have l0 := be_length 8 z.toNat
  have l1 := be_length 1 o.toNat
  have l2 := be_length 4 s.toNat
  have l3 := be_length 4 v.toNat
  have l4 := be_length 4 u.toNat
  have l5 := be_length 1 p.length
  have l6 := be_length 2 d.length
  obtain ⟨b0, e0⟩ : ∃ b, be 8 z.toNat = b := ⟨_, rfl⟩
  rw [e0] at c0 l0
  have E0 := hide e0
  clear e0
  obtain ⟨b1, e1⟩ : ∃ b, be 1 o.toNat = b := ⟨_, rfl⟩
  rw [e1] at c1 l1
  have E1 := hide e1
  clear e1
  obtain ⟨b2, e2⟩ : ∃ b, be 4 s.toNat = b := ⟨_, rfl⟩
  rw [e2] at c2 l2
  have E2 := hide e2
  clear e2
  obtain ⟨b3, e3⟩ : ∃ b, be 4 v.toNat = b := ⟨_, rfl⟩
  rw [e3] at c3 l3
  have E3 := hide e3
  clear e3
  obtain ⟨b4, e4⟩ : ∃ b, be 4 u.toNat = b := ⟨_, rfl⟩
  rw [e4] at c4 l4
  have E4 := hide e4
  clear e4
  obtain ⟨b5, e5⟩ : ∃ b, be 1 p.length = b := ⟨_, rfl⟩
  rw [e5] at c5 l5
  have E5 := hide e5
  clear e5
  obtain ⟨b6, e6⟩ : ∃ b, be 2 d.length = b := ⟨_, rfl⟩
  rw [e6] at c6 l6
  have E6 := hide e6
  clear e6
  refine wp_region_quiet_below (by kernel_rfl) (by kernel_rfl) ?_
  repeat (first | go_big_quiet_step (first | with_reducible exact c0 _ _ | with_reducible exact c1 _ _ | with_reducible exact c2 _ _ | with_reducible exact c3 _ _ | with_reducible exact c4 _ _ | with_reducible exact c5 _ _ | with_reducible exact c6 _ _) | quiet_step (first | with_reducible exact c0 _ _ | with_reducible exact c1 _ _ | with_reducible exact c2 _ _ | with_reducible exact c3 _ _ | with_reducible exact c4 _ _ | with_reducible exact c5 _ _ | with_reducible exact c6 _ _))
  refine wpQuiet_nil ?_
  intro _ hw'
  obtain ⟨⟨dq, osq⟩, hw''⟩ := hw'
  subst hw''
  have hb2 : Below w.heap.size w (Sort.grow (redrawn W dq) osq) := below_next hB (below_regrown W dq osq)
  clear c0 c1 c2 c3 c4 c5 c6 k0 k1 k2 k3 k4 k5 k6
  go_wp2_with fail
  go_ret
  refine ⟨ret_str0 ?_, hb2⟩
  rw [cat_one, cat_one, cat_one, cat_one, cat_one, cat_one, cat_one, cat_one]
  simp only [List.append_assoc]
  rw [unhide E0, unhide E1, unhide E2, unhide E3, unhide E4, unhide E5, unhide E6]

theorem ret_strI {a b : ByteArray} {i j : Int} (h : a = b) (h' : i = j) : Ending.returned (.tuple #[.string a, .int .i64 i]) = .returned (.tuple #[.string b, .int .i64 j]) := by rw [h, h']

set_option maxHeartbeats 1000000 in
theorem encode_no (t : WTxn) (w : World) (hd : t.d.length ≤ 140737488355328) (h : gdE t ≠ 0) :
    Calls Tryd.prog 8 #[txnV t] w fun e w' => e = .returned (.tuple #[.string ⟨#[]⟩, .int .i64 (gdE t)]) ∧ Below w.heap.size w w' := by
  obtain ⟨E, hE⟩ : ∃ E, gdE t = E := ⟨_, rfl⟩
  have hne : (E == 0) = false := by rw [← hE]; simpa using h
  have hne' : (E != 0) = true := by simp [bne, hne]
  have HE := hide hE
  rw [hE]
  clear hE h
  obtain ⟨z, o, s, p, d, v, u⟩ := t
  unfold txnV
  go_enter Tryd.func8, Tryd.ntmps8
  go_wp2_with fail
  refine (wgood_any ⟨z, o, s, p, d, v, u⟩ _ hd).mono ?_
  rintro e w1 ⟨rfl, hb1⟩
  have hbz := box_then hb1
  rw [unhide HE]
  go_wp2_with fail
  go_ret2
  exact ⟨rfl, hbz⟩

set_option maxHeartbeats 1000000 in
theorem encode_yes (t : WTxn) (w : World) (h : gdE t = 0) :
    Calls Tryd.prog 8 #[txnV t] w fun e w' => e = .returned (.tuple #[.string ⟨(recL t).toArray⟩, .int .i64 0]) ∧ Below w.heap.size w w' := by
  have H := hide h
  obtain ⟨_, _, _, _, _, _, hd⟩ := gd_bounds h
  have hbl := gd_body_le h
  clear h
  obtain ⟨b, hb⟩ : ∃ b, bodyL t = b := ⟨_, rfl⟩
  have Hb := hide hb
  rw [hb] at hbl
  clear hb
  have hzb : (ByteArray.mk b.toArray).size = b.length := Lib.size_eq ⟨b.toArray⟩
  obtain ⟨z, o, s, p, d, v, u⟩ := t
  unfold txnV
  replace hd : d.length ≤ 256 := hd
  go_enter Tryd.func8, Tryd.ntmps8
  go_wp2_with fail
  refine (wgood_any ⟨z, o, s, p, d, v, u⟩ _ (by show d.length ≤ _; omega)).mono ?_
  rintro e w1 ⟨rfl, hb1⟩
  have hbz := box_then hb1
  obtain ⟨hc, hf⟩ := bcell hb1
  have hz1 : w.heap.size < w1.heap.size := by have := hb1.size; simp at this; omega
  rw [unhide H]
  go_wp2_with fail
  refine (body_any ⟨z, o, s, p, d, v, u⟩ _ (unhide H)).mono ?_
  rintro e w2 ⟨rfl, hb2⟩
  replace hb2 := below_next hbz hb2
  rw [unhide Hb]
  clear hc hf hb1 hbz hz1
  go_wp2_with fail
  refine (number_any b.length 2 _ (by omega) (by omega)).mono ?_
  rintro e w3 ⟨rfl, hb3⟩
  replace hb3 := below_next hb2 hb3
  clear hb2
  have l2 := be_length 2 b.length
  obtain ⟨n2, e2⟩ : ∃ n2, be 2 b.length = n2 := ⟨_, rfl⟩
  rw [e2] at l2 ⊢
  have E2 := hide e2
  clear e2
  go_wp2_with fail
  have hF : (ByteArray.mk #[84] ++ ByteArray.mk n2.toArray ++ ByteArray.mk b.toArray) = ⟨(frontL b).toArray⟩ := by
    rw [show (ByteArray.mk #[84]) = ⟨[(84 : UInt8)].toArray⟩ from rfl, cat_one, cat_one, frontL, unhide E2]
    rfl
  rw [hF]
  have lF := frontL_length b
  obtain ⟨F, eF⟩ : ∃ F, frontL b = F := ⟨_, rfl⟩
  rw [eF] at lF ⊢
  have EF := hide eF
  clear eF hF
  have hzF : (ByteArray.mk F.toArray).size = F.length := Lib.size_eq ⟨F.toArray⟩
  refine (wsum_any ⟨F.toArray⟩ _ (by omega)).mono ?_
  rintro e w4 ⟨rfl, rfl⟩
  rw [show (ByteArray.mk F.toArray).data.toList = F from rfl]
  have hsl := sumN_lt F
  obtain ⟨X, hX⟩ : ∃ X, sumN F = X := ⟨_, rfl⟩
  rw [hX] at hsl ⊢
  have HX := hide hX
  clear hX
  go_wp2_with fail
  refine (number_any X 4 _ (by omega) (by omega)).mono ?_
  rintro e w5 ⟨rfl, hb5⟩
  replace hb5 := below_next hb3 hb5
  clear hb3
  have l4 := be_length 4 X
  obtain ⟨n4, e4⟩ : ∃ n4, be 4 X = n4 := ⟨_, rfl⟩
  rw [e4] at l4 ⊢
  have E4 := hide e4
  clear e4
  go_wp2_with fail
  go_ret2
  refine ⟨ret_strI ?_ rfl, hb5⟩
  rw [cat_one, recL, unhide Hb, unhide EF, unhide HX, unhide E4]

end Go.Proofs.YtnbkpilgmjjflaaDoor
