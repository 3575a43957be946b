/-
  What aviarykeep's own functions answer: opening, writes.
  What aviarykeep.pick answers: the walk.
  WireCut: the law's walk, out of the contracts of Encode and Decode.
-/
import Derived.Test.YteknglhmnhgbgaaDoorMC
import Derived.Test.YteknglhmnhgbgaaDoorME
import Derived.Test.YteknglhmnhgbgaaDoorRows
import Derived.Test.YteknglhmnhgbgaaDoorMA
import Derived.WalkKit
import Derived.WalkSpells
import Derived.WalkLawsBesides
namespace Go.Proofs.YteknglhmnhgbgaaDoor
open Go.RowKit

def tOpen : WTxn := ⟨1, 1, 1, [], [], 0, 0⟩
theorem gd_open : gdE tOpen = 0 := by decide +kernel

set_option maxHeartbeats 400000 in
theorem opening_txn (w : World) : Calls Tryd.prog 36 #[] w fun e w' => e = .returned (txnV tOpen) ∧ Below w.heap.size w w' := by
  go_enter Tryd.func36, Tryd.ntmps36
  go_wp2_with fail
  exact bodyPost_ret (v := txnV tOpen) (by simp [results, Tryd.results36, go_sem, txnV, tOpen]) rfl ⟨rfl, (Below.refl _ _).alloc (Nat.le_refl _) _⟩

set_option maxHeartbeats 400000 in
theorem writes_true (w : World) : Calls Tryd.prog 15 #[] w fun e w' => e = .returned (.bool true) ∧ Below w.heap.size w w' := by
  have hl := recL_length tOpen
  have hz : (ByteArray.mk (recL tOpen).toArray).size = (recL tOpen).length := Lib.size_eq ⟨_⟩
  rw [hl] at hz
  have h31 : 31 + tOpen.p.length + tOpen.d.length = 31 := rfl
  rw [h31] at hz
  go_enter Tryd.func15, Tryd.ntmps15
  go_wp2_with fail
  refine (opening_txn _).mono ?_
  rintro e w1 ⟨rfl, hb1⟩
  clear hl h31
  go_wp2_with fail
  refine (encode_yes tOpen _ gd_open).mono ?_
  rintro e w2 ⟨rfl, hb2⟩
  replace hb2 := below_next hb1 hb2
  generalize recL tOpen = R at *
  go_wp2_with fail
  go_ret
  exact ⟨rfl, hb2⟩

end Go.Proofs.YteknglhmnhgbgaaDoor

namespace Go.Proofs.YteknglhmnhgbgaaDoor
open Go.RowKit

theorem ret_pick {a b : Int} (h : a = b) : Ending.returned (.int .i64 a) = .returned (.int .i64 b) := by rw [h]

theorem tmod_cases (k n : Int) (hn : 0 < n) : k.tmod n = k % n ∨ k.tmod n = k % n - n := by
  rw [Int.tmod_eq_emod]
  split
  · left; omega
  · right; omega

set_option maxHeartbeats 400000 in
theorem pick_any (k n : Int) (w : World) (hn : 0 < n) (hn1 : n ≤ 1048576) (hk : -9223372036854775808 ≤ k) (hk1 : k ≤ 9223372036854775807) :
    Calls Tryd.prog 16 #[.int .i64 k, .int .i64 n] w fun e w' => e = .returned (.int .i64 (k % n)) ∧ w' = w := by
  have hm1 := Int.emod_nonneg k (show n ≠ 0 by omega)
  have hm2 := Int.emod_lt_of_pos k hn
  by_cases h0 : 0 ≤ k
  · go_enter Tryd.func16, Tryd.ntmps16
    go_wp2
    go_ret
    exact ⟨rfl, rfl⟩
  · have HT := hide (tmod_cases k n hn)
    go_enter Tryd.func16, Tryd.ntmps16
    go_wp2
    all_goals go_ret
    all_goals refine ⟨ret_pick ?_, rfl⟩
    all_goals (have hT := unhide HT; clear HT; first | omega | (unfold wrap64; omega))

end Go.Proofs.YteknglhmnhgbgaaDoor

namespace Go.Proofs.YteknglhmnhgbgaaDoor
open Go.RowKit

set_option maxHeartbeats 1000000 in
theorem wireCut_no (t : WTxn) (k : Int) (w : World) (hd : t.d.length ≤ 140737488355328) (h : gdE t ≠ 0) :
    Calls Tryd.prog 7 #[txnV t, .int .i64 k] w fun e w' => e = .returned (.bool true) ∧ Below w.heap.size w w' := by
  obtain ⟨E, hE⟩ : ∃ E, gdE t = E := ⟨_, rfl⟩
  have Hno := hide (fun w => encode_no t w hd h)
  rw [hE] at Hno
  have hne : (E != 0) = true := by rw [← hE]; simpa [bne] using h
  clear hE h
  obtain ⟨z, o, s, p, d, v, u⟩ := t
  unfold txnV at Hno ⊢
  go_enter Tryd.func7, Tryd.ntmps7
  go_wp2_with fail
  refine (unhide Hno _).mono ?_
  rintro e w1 ⟨rfl, hb1⟩
  have hbz := box_then hb1
  go_wp2_with fail
  refine (writes_true _).mono ?_
  rintro e w2 ⟨rfl, hb2⟩
  have hbz2 := below_next hbz hb2
  go_wp2_with fail
  go_ret
  exact ⟨rfl, hbz2⟩

set_option maxHeartbeats 1000000 in
theorem wireCut_yes (t : WTxn) (k : Int) (w : World) (hk : -9223372036854775808 ≤ k) (hk1 : k ≤ 9223372036854775807) (h : gdE t = 0) :
    Calls Tryd.prog 7 #[txnV t, .int .i64 k] w fun e w' => e = .returned (.bool true) ∧ Below w.heap.size w w' := by
  have Hen := hide (fun w => encode_yes t w h)
  have hrl := recL_length t
  obtain ⟨_, _, _, _, _, hp, hd⟩ := gd_bounds h
  have hr : (recL t).length ≤ 487 := by omega
  have hr0 : 0 < (recL t).length := by omega
  have hm1 := Int.emod_nonneg k (show ((recL t).length : Int) ≠ 0 by omega)
  have hm2 := Int.emod_lt_of_pos k (show (0 : Int) < (recL t).length by omega)
  obtain ⟨j, hj⟩ : ∃ j : Nat, k % ((recL t).length : Int) = j := ⟨(k % ((recL t).length : Int)).toNat, by omega⟩
  have hjl : j < (recL t).length := by omega
  obtain ⟨hc1, hc2⟩ := dec_cut h hjl
  have Hde := hide (fun w => decode_any ((recL t).take j) w (by rw [List.length_take]; omega))
  rw [hc1, hc2, ← ex_front] at Hde
  have Hpk := hide (fun w => pick_any k ((recL t).length : Int) w (by omega) (by omega) hk hk1)
  rw [hj] at Hpk
  obtain ⟨R, hR⟩ : ∃ R, recL t = R := ⟨_, rfl⟩
  rw [hR] at Hen Hde hr hr0 Hpk hjl
  have hzR : (ByteArray.mk R.toArray).size = R.length := Lib.size_eq ⟨_⟩
  generalize decT (List.take j R) = t' at Hde
  have c0 : (0 : Int) ≤ (j : Int) := by omega
  have c1 : (j : Int) ≤ (R.length : Int) := by omega
  clear hc1 hc2 hR h hrl hp hd hm1 hm2 hj hk hk1
  obtain ⟨z, o, s, p, d, v, u⟩ := t
  obtain ⟨z', o', s', p', d', v', u'⟩ := t'
  unfold txnV at Hen Hde ⊢
  go_enter Tryd.func7, Tryd.ntmps7
  go_wp2_with fail
  refine (unhide Hen _).mono ?_
  rintro e w1 ⟨rfl, hb1⟩
  have hbz := box_then hb1
  clear hb1
  go_wp2_with fail
  refine (writes_true _).mono ?_
  rintro e w2 ⟨rfl, hb2⟩
  have hbz2 := below_next hbz hb2
  clear hb2 hbz
  go_wp2_with fail
  refine (unhide Hpk _).mono ?_
  rintro e w3 ⟨rfl, rfl⟩
  go_wp2_with fail
  refine (unhide Hde _).mono ?_
  rintro e w4 ⟨rfl, hb4⟩
  have hbz4 := below_next hbz2 hb4
  clear hb4 hbz2
  go_wp2_with fail
  go_ret
  exact ⟨rfl, hbz4.alloc hbz4.size _⟩

theorem wireCut_walk (t : WTxn) (k : Int) (w : World) (hd : t.d.length ≤ 140737488355328) (hk : -9223372036854775808 ≤ k) (hk1 : k ≤ 9223372036854775807) :
    Calls Tryd.prog 7 #[txnV t, .int .i64 k] w fun e w' => e = .returned (.bool true) ∧ Below w.heap.size w w' := by
  by_cases h : gdE t = 0
  · exact wireCut_yes t k w hk hk1 h
  · exact wireCut_no t k w hd h

end Go.Proofs.YteknglhmnhgbgaaDoor
