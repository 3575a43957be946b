/-
  What aviarykeep's own functions answer: opening, writes.
  What aviarykeep.pick answers: the walk.
  WireTurned: the walks of turned and of the law, out of the contracts of Encode and Decode.
-/
import Derived.Test.YteknglhmnhgbgaaDoorMC
import Derived.Test.YteknglhmnhgbgaaDoorME
import Derived.Test.YteknglhmnhgbgaaDoorRows
import Derived.Test.YteknglhmnhgbgaaDoorMA
import Derived.WalkKit
import Derived.WalkSpells
import Derived.WalkLawsBesides
import Derived.RegionTactic
namespace Go.Proofs.YteknglhmnhgbgaaDoor
open Go.RowKit

def tOpen : WTxn := ⟨1, 1, 1, [], [], 0, 0⟩
theorem gd_open : gdE tOpen = 0 := by decide +kernel

set_option maxHeartbeats 400000 in
theorem opening_txn (w : World) : Calls Tryd.prog 36 #[] w fun e w' => e = .returned (txnV tOpen) ∧ Below w.heap.size w w' := by
  go_enter Tryd.func36, Tryd.ntmps36
  go_wp2_with fail
  exact bodyPost_ret (v := txnV tOpen) (by simp [results, Tryd.results36, go_sem, txnV, tOpen]) rfl ⟨rfl, (Below.refl _ _).alloc (Nat.le_refl _) _⟩

set_option maxHeartbeats 400000 in
theorem writes_true (w : World) : Calls Tryd.prog 15 #[] w fun e w' => e = .returned (.bool true) ∧ Below w.heap.size w w' := by
  have hl := recL_length tOpen
  have hz : (ByteArray.mk (recL tOpen).toArray).size = (recL tOpen).length := Lib.size_eq ⟨_⟩
  rw [hl] at hz
  have h31 : 31 + tOpen.p.length + tOpen.d.length = 31 := rfl
  rw [h31] at hz
  go_enter Tryd.func15, Tryd.ntmps15
  go_wp2_with fail
  refine (opening_txn _).mono ?_
  rintro e w1 ⟨rfl, hb1⟩
  clear hl h31
  go_wp2_with fail
  refine (encode_yes tOpen _ gd_open).mono ?_
  rintro e w2 ⟨rfl, hb2⟩
  replace hb2 := below_next hb1 hb2
  generalize recL tOpen = R at *
  go_wp2_with fail
  go_ret
  exact ⟨rfl, hb2⟩

end Go.Proofs.YteknglhmnhgbgaaDoor

namespace Go.Proofs.YteknglhmnhgbgaaDoor
open Go.RowKit

theorem ret_pick {a b : Int} (h : a = b) : Ending.returned (.int .i64 a) = .returned (.int .i64 b) := by rw [h]

theorem tmod_cases (k n : Int) (hn : 0 < n) : k.tmod n = k % n ∨ k.tmod n = k % n - n := by
  rw [Int.tmod_eq_emod]
  split
  · left; omega
  · right; omega

set_option maxHeartbeats 400000 in
theorem pick_any (k n : Int) (w : World) (hn : 0 < n) (hn1 : n ≤ 1048576) (hk : -9223372036854775808 ≤ k) (hk1 : k ≤ 9223372036854775807) :
    Calls Tryd.prog 16 #[.int .i64 k, .int .i64 n] w fun e w' => e = .returned (.int .i64 (k % n)) ∧ w' = w := by
  have hm1 := Int.emod_nonneg k (show n ≠ 0 by omega)
  have hm2 := Int.emod_lt_of_pos k hn
  by_cases h0 : 0 ≤ k
  · go_enter Tryd.func16, Tryd.ntmps16
    go_wp2
    go_ret
    exact ⟨rfl, rfl⟩
  · have HT := hide (tmod_cases k n hn)
    go_enter Tryd.func16, Tryd.ntmps16
    go_wp2
    all_goals go_ret
    all_goals refine ⟨ret_pick ?_, rfl⟩
    all_goals (have hT := unhide HT; clear HT; first | omega | (unfold wrap64; omega))

end Go.Proofs.YteknglhmnhgbgaaDoor

namespace Go.Proofs.YteknglhmnhgbgaaDoor
open Go.RowKit

/-- a byte with some bits turned -/
def turnB (c : UInt8) (m : Nat) : UInt8 := UInt8.ofNat (c.toNat ^^^ m)
theorem turnB_nat (c : UInt8) (m : Nat) (hm : m < 256) : (turnB c m).toNat = c.toNat ^^^ m := by
  have hc := c.toNat_lt
  have : c.toNat ^^^ m < 2 ^ 8 := Nat.xor_lt_two_pow (by omega) (by omega)
  unfold turnB
  rw [UInt8.toNat_ofNat']
  omega
theorem turnB_ne (c : UInt8) (m : Nat) (hm : m < 256) (h0 : m ≠ 0) : turnB c m ≠ c := fun h => by
  have h1 := turnB_nat c m hm
  rw [h] at h1
  have h2 : c.toNat ^^^ 0 = c.toNat ^^^ m := by rw [Nat.xor_zero]; exact h1
  exact h0 (xor_cancel h2).symm
theorem xor_u8 (c : UInt8) (m : Nat) (hm : m < 256) : bits .xor .u8 (c.toNat : Int) (m : Int) = ((turnB c m).toNat : Int) := by
  have hc := c.toNat_lt
  rw [turnB_nat c m hm]
  exact bits_xor_nat .u8 8 (by decide) wraps_u8 _ _ (by omega) (by omega)
theorem one_byte (c : UInt8) (m : Nat) (hm : m < 256) (W : World) (X : Nat) (h : W.cell? ⟨X, 0, none⟩ = some (.int .u8 (bits .xor .u8 (c.toNat : Int) (m : Int)))) :
    (convert 51 9 (.slice (some ⟨X, 0, none⟩) 1 1)).run Tryd.prog W = .ok (.string ⟨#[turnB c m]⟩) W :=
  run_convert_bytes_back W 51 9 5 ⟨X, 0, none⟩ 1 [turnB c m] Tryd.underlying51 Tryd.underlying5 Tryd.underlying9 (fun j hj => by
    obtain rfl : j = 0 := by simpa using hj
    rw [xor_u8 c m hm] at h
    simpa [Addr.add] using h)

set_option maxHeartbeats 1000000 in
theorem turned_any (R : List UInt8) (i m : Nat) (w : World) (hR : R.length ≤ 1048576) (hi : i < R.length) (hm : m < 256) (h0 : m ≠ 0) :
    Calls Tryd.prog 17 #[.string ⟨R.toArray⟩, .int .i64 i, .int .u8 m] w fun e w' => e = .returned (.string ⟨(R.take i ++ turnB R[i] m :: R.drop (i + 1)).toArray⟩) ∧ Below w.heap.size w w' := by
  have hz : (ByteArray.mk R.toArray).size = R.length := Lib.size_eq ⟨R.toArray⟩
  have hib : i < (ByteArray.mk R.toArray).size := by rw [hz]; exact hi
  have hb2s := one_byte ((ByteArray.mk R.toArray)[i]'hib) m hm
  have c0 : (0 : Int) ≤ (i : Int) := by omega
  have c1 : (i : Int) ≤ (R.length : Int) := by omega
  have c2 : (i : Int) < (R.length : Int) := by omega
  have c3 : (0 : Int) ≤ (i : Int) + 1 := by omega
  have c4 : (i : Int) + 1 ≤ (R.length : Int) := by omega
  have hm0 : ((m : Int) == 0) = false := by rw [beq_eq_false_iff_ne]; omega
  go_enter Tryd.func17, Tryd.ntmps17
  go_wp2
  go_region
  clear hb2s
  rw [ba_get]
  go_wp2
  go_ret
  refine ⟨ret_str0 ?_, ((Below.refl _ _).alloc (Nat.le_refl _) _).drew⟩
  rw [ex_front, ex_back, show (ByteArray.mk #[turnB R[i] m]) = ⟨[turnB R[i] m].toArray⟩ from rfl, cat_one, cat_one]
  simp

set_option maxHeartbeats 1000000 in
theorem turned_zero (R : List UInt8) (i : Nat) (w : World) (hR : R.length ≤ 1048576) (hi : i < R.length) :
    Calls Tryd.prog 17 #[.string ⟨R.toArray⟩, .int .i64 i, .int .u8 0] w fun e w' => e = .returned (.string ⟨(R.take i ++ turnB R[i] 1 :: R.drop (i + 1)).toArray⟩) ∧ Below w.heap.size w w' := by
  have hz : (ByteArray.mk R.toArray).size = R.length := Lib.size_eq ⟨R.toArray⟩
  have hib : i < (ByteArray.mk R.toArray).size := by rw [hz]; exact hi
  have hb2s := one_byte ((ByteArray.mk R.toArray)[i]'hib) 1 (by decide)
  rw [show ((1 : Nat) : Int) = 1 from rfl] at hb2s
  have c0 : (0 : Int) ≤ (i : Int) := by omega
  have c1 : (i : Int) ≤ (R.length : Int) := by omega
  have c2 : (i : Int) < (R.length : Int) := by omega
  have c3 : (0 : Int) ≤ (i : Int) + 1 := by omega
  have c4 : (i : Int) + 1 ≤ (R.length : Int) := by omega
  go_enter Tryd.func17, Tryd.ntmps17
  go_wp2
  go_region
  clear hb2s
  rw [ba_get]
  go_wp2
  go_ret
  refine ⟨ret_str0 ?_, ((Below.refl _ _).alloc (Nat.le_refl _) _).drew⟩
  rw [ex_front, ex_back, show (ByteArray.mk #[turnB R[i] 1]) = ⟨[turnB R[i] 1].toArray⟩ from rfl, cat_one, cat_one]
  simp


/-- which bits are turned -/
def byN (b : Int) : Nat := if b = 0 then 1 else b.toNat
theorem turned_by (R : List UInt8) (i : Nat) (b : Int) (w : World) (hR : R.length ≤ 1048576) (hi : i < R.length) (hb0 : 0 ≤ b) (hb1 : b ≤ 255) :
    Calls Tryd.prog 17 #[.string ⟨R.toArray⟩, .int .i64 i, .int .u8 b] w fun e w' => e = .returned (.string ⟨(R.take i ++ turnB R[i] (byN b) :: R.drop (i + 1)).toArray⟩) ∧ Below w.heap.size w w' := by
  by_cases h : b = 0
  · subst h
    exact turned_zero R i w hR hi
  · have h1 := turned_any R i b.toNat w hR hi (by omega) (by omega)
    rw [Int.toNat_of_nonneg hb0] at h1
    rw [byN, if_neg h]
    exact h1
theorem byN_ok {b : Int} (hb0 : 0 ≤ b) (hb1 : b ≤ 255) : byN b < 256 ∧ byN b ≠ 0 := by
  unfold byN
  split
  · exact ⟨by decide, by decide⟩
  · omega

set_option maxHeartbeats 1000000 in
theorem wireTurned_no (t : WTxn) (k b : Int) (w : World) (hd : t.d.length ≤ 140737488355328) (h : gdE t ≠ 0) :
    Calls Tryd.prog 8 #[txnV t, .int .i64 k, .int .u8 b] w fun e w' => e = .returned (.bool true) ∧ Below w.heap.size w w' := by
  obtain ⟨E, hE⟩ : ∃ E, gdE t = E := ⟨_, rfl⟩
  have Hno := hide (fun w => encode_no t w hd h)
  rw [hE] at Hno
  have hne : (E != 0) = true := by rw [← hE]; simpa [bne] using h
  clear hE h
  obtain ⟨z, o, s, p, d, v, u⟩ := t
  unfold txnV at Hno ⊢
  go_enter Tryd.func8, Tryd.ntmps8
  go_wp2_with fail
  refine (unhide Hno _).mono ?_
  rintro e w1 ⟨rfl, hb1⟩
  have hbz := box_then hb1
  go_wp2_with fail
  refine (writes_true _).mono ?_
  rintro e w2 ⟨rfl, hb2⟩
  have hbz2 := below_next hbz hb2
  go_wp2_with fail
  go_ret
  exact ⟨rfl, hbz2⟩

set_option maxHeartbeats 1000000 in
theorem wireTurned_yes (t : WTxn) (k b : Int) (w : World) (hk : -9223372036854775808 ≤ k) (hk1 : k ≤ 9223372036854775807) (hb0 : 0 ≤ b) (hb1 : b ≤ 255) (h : gdE t = 0) :
    Calls Tryd.prog 8 #[txnV t, .int .i64 k, .int .u8 b] w fun e w' => e = .returned (.bool true) ∧ Below w.heap.size w w' := by
  have Hen := hide (fun w => encode_yes t w h)
  have hrl := recL_length t
  obtain ⟨_, _, _, _, _, hp, hd⟩ := gd_bounds h
  have hr : (recL t).length ≤ 487 := by omega
  have hr0 : 31 ≤ (recL t).length := by omega
  have hm1 := Int.emod_nonneg k (show ((recL t).length : Int) - 3 ≠ 0 by omega)
  have hm2 := Int.emod_lt_of_pos k (show (0 : Int) < ((recL t).length : Int) - 3 by omega)
  obtain ⟨j, hj⟩ : ∃ j : Nat, k % (((recL t).length : Int) - 3) = j := ⟨(k % (((recL t).length : Int) - 3)).toNat, by omega⟩
  have hjl : 3 + j < (recL t).length := by omega
  obtain ⟨hy1, hy2⟩ := byN_ok hb0 hb1
  obtain ⟨hc1, hc2⟩ := dec_turned h (i := 3 + j) (by omega) hjl (turnB_ne (recL t)[3 + j] (byN b) hy1 hy2)
  have Htu := hide (fun w => turned_by (recL t) (3 + j) b w (by omega) hjl hb0 hb1)
  obtain ⟨C, hC⟩ : ∃ C, (recL t).take (3 + j) ++ turnB (recL t)[3 + j] (byN b) :: (recL t).drop (3 + j + 1) = C := ⟨_, rfl⟩
  have hCl : C.length = (recL t).length := by rw [← hC, List.length_append, List.length_cons, List.length_take, List.length_drop]; omega
  rw [hC] at hc1 hc2 Htu
  have Hde := hide (fun w => decode_any C w (by omega))
  rw [hc1, hc2] at Hde
  have Hpk := hide (fun w => pick_any k (((recL t).length : Int) - 3) w (by omega) (by omega) hk hk1)
  rw [hj] at Hpk
  obtain ⟨R, hR⟩ : ∃ R, recL t = R := ⟨_, rfl⟩
  rw [hR] at Hen hr hr0 Hpk hjl Htu
  have hzR : (ByteArray.mk R.toArray).size = R.length := Lib.size_eq ⟨_⟩
  generalize decT C = t' at Hde
  have c0 : ((3 + j : Nat) : Int) = 3 + (j : Int) := by omega
  rw [c0] at Htu
  have c1 : (j : Int) ≤ 487 := by omega
  clear hc1 hc2 hC hCl hR h hrl hp hd hm1 hm2 hj hk hk1 hy1 hy2 c0 hjl
  obtain ⟨z, o, s, p, d, v, u⟩ := t
  obtain ⟨z', o', s', p', d', v', u'⟩ := t'
  unfold txnV at Hen Hde ⊢
  go_enter Tryd.func8, Tryd.ntmps8
  go_wp2_with fail
  refine (unhide Hen _).mono ?_
  rintro e w1 ⟨rfl, hb1⟩
  have hbz := box_then hb1
  clear hb1
  go_wp2_with fail
  refine (writes_true _).mono ?_
  rintro e w2 ⟨rfl, hb2⟩
  have hbz2 := below_next hbz hb2
  clear hb2 hbz
  go_wp2_with fail
  refine (unhide Hpk _).mono ?_
  rintro e w3 ⟨rfl, rfl⟩
  go_wp2_with fail
  refine (unhide Htu _).mono ?_
  rintro e w4 ⟨rfl, hb4⟩
  have hbz4 := below_next hbz2 hb4
  clear hb4 hbz2
  go_wp2_with fail
  refine (unhide Hde _).mono ?_
  rintro e w5 ⟨rfl, hb5⟩
  have hbz5 := below_next hbz4 hb5
  clear hb5 hbz4
  go_wp2_with fail
  go_ret
  exact ⟨rfl, hbz5.alloc hbz5.size _⟩

theorem wireTurned_walk (t : WTxn) (k b : Int) (w : World) (hd : t.d.length ≤ 140737488355328) (hk : -9223372036854775808 ≤ k) (hk1 : k ≤ 9223372036854775807) (hb0 : 0 ≤ b) (hb1 : b ≤ 255) :
    Calls Tryd.prog 8 #[txnV t, .int .i64 k, .int .u8 b] w fun e w' => e = .returned (.bool true) ∧ Below w.heap.size w w' := by
  by_cases h : gdE t = 0
  · exact wireTurned_yes t k b w hk hk1 hb0 hb1 h
  · exact wireTurned_no t k b w hd h

end Go.Proofs.YteknglhmnhgbgaaDoor
