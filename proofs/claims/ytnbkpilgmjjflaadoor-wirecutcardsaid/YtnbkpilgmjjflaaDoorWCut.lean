/-
  WireCut: the law's walk, out of the contracts of Encode and Decode.
-/
import Derived.Test.YtnbkpilgmjjflaaDoorWKeep
import Derived.Test.YtnbkpilgmjjflaaDoorWPick
namespace Go.Proofs.YtnbkpilgmjjflaaDoor
open Go.RowKit

set_option maxHeartbeats 1000000 in
theorem wireCut_no (t : WTxn) (k : Int) (w : World) (hd : t.d.length ≤ 140737488355328) (h : gdE t ≠ 0) :
    Calls Tryd.prog 7 #[txnV t, .int .i64 k] w fun e w' => e = .returned (.bool true) ∧ Below w.heap.size w w' := by
  obtain ⟨E, hE⟩ : ∃ E, gdE t = E := ⟨_, rfl⟩
  have Hno := hide (fun w => encode_no t w hd h)
  rw [hE] at Hno
  have hne : (E != 0) = true := by rw [← hE]; simpa [bne] using h
  clear hE h
  obtain ⟨z, o, s, p, d, v, u⟩ := t
  unfold txnV at Hno ⊢
  go_enter Tryd.func7, Tryd.ntmps7
  go_wp2_with fail
  refine (unhide Hno _).mono ?_
  rintro e w1 ⟨rfl, hb1⟩
  have hbz := box_then hb1
  go_wp2_with fail
  refine (writes_true _).mono ?_
  rintro e w2 ⟨rfl, hb2⟩
  have hbz2 := below_next hbz hb2
  go_wp2_with fail
  go_ret
  exact ⟨rfl, hbz2⟩

set_option maxHeartbeats 1000000 in
theorem wireCut_yes (t : WTxn) (k : Int) (w : World) (hk : -9223372036854775808 ≤ k) (hk1 : k ≤ 9223372036854775807) (h : gdE t = 0) :
    Calls Tryd.prog 7 #[txnV t, .int .i64 k] w fun e w' => e = .returned (.bool true) ∧ Below w.heap.size w w' := by
  have Hen := hide (fun w => encode_yes t w h)
  have hrl := recL_length t
  obtain ⟨_, _, _, _, _, hp, hd⟩ := gd_bounds h
  have hr : (recL t).length ≤ 487 := by omega
  have hr0 : 0 < (recL t).length := by omega
  have hm1 := Int.emod_nonneg k (show ((recL t).length : Int) ≠ 0 by omega)
  have hm2 := Int.emod_lt_of_pos k (show (0 : Int) < (recL t).length by omega)
  obtain ⟨j, hj⟩ : ∃ j : Nat, k % ((recL t).length : Int) = j := ⟨(k % ((recL t).length : Int)).toNat, by omega⟩
  have hjl : j < (recL t).length := by omega
  obtain ⟨hc1, hc2⟩ := dec_cut h hjl
  have Hde := hide (fun w => decode_any ((recL t).take j) w (by rw [List.length_take]; omega))
  rw [hc1, hc2, ← ex_front] at Hde
  have Hpk := hide (fun w => pick_any k ((recL t).length : Int) w (by omega) (by omega) hk hk1)
  rw [hj] at Hpk
  obtain ⟨R, hR⟩ : ∃ R, recL t = R := ⟨_, rfl⟩
  rw [hR] at Hen Hde hr hr0 Hpk hjl
  have hzR : (ByteArray.mk R.toArray).size = R.length := Lib.size_eq ⟨_⟩
  generalize decT (List.take j R) = t' at Hde
  have c0 : (0 : Int) ≤ (j : Int) := by omega
  have c1 : (j : Int) ≤ (R.length : Int) := by omega
  clear hc1 hc2 hR h hrl hp hd hm1 hm2 hj hk hk1
  obtain ⟨z, o, s, p, d, v, u⟩ := t
  obtain ⟨z', o', s', p', d', v', u'⟩ := t'
  unfold txnV at Hen Hde ⊢
  go_enter Tryd.func7, Tryd.ntmps7
  go_wp2_with fail
  refine (unhide Hen _).mono ?_
  rintro e w1 ⟨rfl, hb1⟩
  have hbz := box_then hb1
  clear hb1
  go_wp2_with fail
  refine (writes_true _).mono ?_
  rintro e w2 ⟨rfl, hb2⟩
  have hbz2 := below_next hbz hb2
  clear hb2 hbz
  go_wp2_with fail
  refine (unhide Hpk _).mono ?_
  rintro e w3 ⟨rfl, rfl⟩
  go_wp2_with fail
  refine (unhide Hde _).mono ?_
  rintro e w4 ⟨rfl, hb4⟩
  have hbz4 := below_next hbz2 hb4
  clear hb4 hbz2
  go_wp2_with fail
  go_ret
  exact ⟨rfl, hbz4.alloc hbz4.size _⟩

theorem wireCut_walk (t : WTxn) (k : Int) (w : World) (hd : t.d.length ≤ 140737488355328) (hk : -9223372036854775808 ≤ k) (hk1 : k ≤ 9223372036854775807) :
    Calls Tryd.prog 7 #[txnV t, .int .i64 k] w fun e w' => e = .returned (.bool true) ∧ Below w.heap.size w w' := by
  by_cases h : gdE t = 0
  · exact wireCut_yes t k w hk hk1 h
  · exact wireCut_no t k w hd h

end Go.Proofs.YtnbkpilgmjjflaaDoor
