/-
  What aviarykeep's own functions answer: opening, writes.
  WireBack: the law's walk, out of the contracts of Encode, Decode and Good.
-/
import Derived.Test.YteknglhmnhgbgaaDoorMC
import Derived.Test.YteknglhmnhgbgaaDoorME
namespace Go.Proofs.YteknglhmnhgbgaaDoor
open Go.RowKit

def tOpen : WTxn := ⟨1, 1, 1, [], [], 0, 0⟩
theorem gd_open : gdE tOpen = 0 := by decide +kernel

set_option maxHeartbeats 400000 in
theorem opening_txn (w : World) : Calls Tryd.prog 36 #[] w fun e w' => e = .returned (txnV tOpen) ∧ Below w.heap.size w w' := by
  go_enter Tryd.func36, Tryd.ntmps36
  go_wp2_with fail
  exact bodyPost_ret (v := txnV tOpen) (by simp [results, Tryd.results36, go_sem, txnV, tOpen]) rfl ⟨rfl, (Below.refl _ _).alloc (Nat.le_refl _) _⟩

set_option maxHeartbeats 400000 in
theorem writes_true (w : World) : Calls Tryd.prog 15 #[] w fun e w' => e = .returned (.bool true) ∧ Below w.heap.size w w' := by
  have hl := recL_length tOpen
  have hz : (ByteArray.mk (recL tOpen).toArray).size = (recL tOpen).length := Lib.size_eq ⟨_⟩
  rw [hl] at hz
  have h31 : 31 + tOpen.p.length + tOpen.d.length = 31 := rfl
  rw [h31] at hz
  go_enter Tryd.func15, Tryd.ntmps15
  go_wp2_with fail
  refine (opening_txn _).mono ?_
  rintro e w1 ⟨rfl, hb1⟩
  clear hl h31
  go_wp2_with fail
  refine (encode_yes tOpen _ gd_open).mono ?_
  rintro e w2 ⟨rfl, hb2⟩
  replace hb2 := below_next hb1 hb2
  generalize recL tOpen = R at *
  go_wp2_with fail
  go_ret
  exact ⟨rfl, hb2⟩

end Go.Proofs.YteknglhmnhgbgaaDoor

namespace Go.Proofs.YteknglhmnhgbgaaDoor
open Go.RowKit

set_option maxHeartbeats 1000000 in
theorem wireBack_no (t : WTxn) (m : List UInt8) (w : World) (hd : t.d.length ≤ 140737488355328) (h : gdE t ≠ 0) :
    Calls Tryd.prog 5 #[txnV t, .string ⟨m.toArray⟩] w fun e w' => e = .returned (.bool true) ∧ Below w.heap.size w w' := by
  obtain ⟨E, hE⟩ : ∃ E, gdE t = E := ⟨_, rfl⟩
  have Hno := hide (fun w => encode_no t w hd h)
  have Hgd := hide (fun w => wgood_any t w hd)
  rw [hE] at Hno Hgd
  have hne : (E != 0) = true := by rw [← hE]; simpa [bne] using h
  clear hE h
  obtain ⟨z, o, s, p, d, v, u⟩ := t
  unfold txnV at Hno Hgd ⊢
  go_enter Tryd.func5, Tryd.ntmps5
  go_wp2_with fail
  refine (unhide Hno _).mono ?_
  rintro e w1 ⟨rfl, hb1⟩
  have hbz := box_then hb1
  obtain ⟨hc, hf⟩ := bcell hb1
  go_wp2_with fail
  refine (unhide Hgd _).mono ?_
  rintro e w2 ⟨rfl, hb2⟩
  have hbz2 := below_next hbz hb2
  clear hc hf hb1 hbz hb2
  go_wp2_with fail
  refine (writes_true _).mono ?_
  rintro e w3 ⟨rfl, hb3⟩
  have hbz3 := below_next hbz2 hb3
  go_wp2_with fail
  go_ret
  exact ⟨rfl, hbz3⟩

set_option maxHeartbeats 1000000 in
theorem wireBack_yes (t : WTxn) (m : List UInt8) (w : World) (hm : m.length ≤ 140737488351232) (h : gdE t = 0) :
    Calls Tryd.prog 5 #[txnV t, .string ⟨m.toArray⟩] w fun e w' => e = .returned (.bool true) ∧ Below w.heap.size w w' := by
  have Hen := hide (fun w => encode_yes t w h)
  have hrl := recL_length t
  obtain ⟨_, _, _, _, _, hp, hd⟩ := gd_bounds h
  have hr : (recL t).length ≤ 487 := by omega
  obtain ⟨R, hR⟩ : ∃ R, recL t = R := ⟨_, rfl⟩
  have hdec := dec_rec h m
  have Hde := hide (fun w => decode_any (recL t ++ m) w (by rw [List.length_append]; omega))
  rw [hdec.1, hdec.2.1, hdec.2.2] at Hde
  rw [hR] at Hen Hde hr
  have hzR : (ByteArray.mk R.toArray).size = R.length := Lib.size_eq ⟨_⟩
  have hzm : (ByteArray.mk m.toArray).size = m.length := Lib.size_eq ⟨_⟩
  clear hdec hR h hrl hp hd
  obtain ⟨z, o, s, p, d, v, u⟩ := t
  unfold txnV at Hen Hde ⊢
  go_enter Tryd.func5, Tryd.ntmps5
  go_wp2_with fail
  refine (unhide Hen _).mono ?_
  rintro e w1 ⟨rfl, hb1⟩
  have hbz := box_then hb1
  have hz1 : w.heap.size < w1.heap.size := by have := hb1.size; simp at this; omega
  obtain ⟨hc, hf⟩ := bcell hb1
  go_wp2_with fail
  refine (writes_true _).mono ?_
  rintro e w2 ⟨rfl, hb2⟩
  have hbz2 := below_next hbz hb2
  have hz2 : w.heap.size < w2.heap.size := by have := hb2.size; omega
  obtain ⟨hc2, hf2⟩ := bcell hb2
  go_wp2_with fail
  rw [cat_one]
  refine (unhide Hde _).mono ?_
  rintro e w3 ⟨rfl, hb3⟩
  have hbz3 := below_next hbz2 hb3
  obtain ⟨hc3, hf3⟩ := bcell hb3
  have hz3 : w.heap.size < w3.heap.size := by have := hb3.size; omega
  go_wp2_with fail
  go_ret
  exact ⟨rfl, hbz3.alloc hbz3.size _⟩

theorem wireBack_walk (t : WTxn) (m : List UInt8) (w : World) (hd : t.d.length ≤ 140737488355328) (hm : m.length ≤ 140737488351232) :
    Calls Tryd.prog 5 #[txnV t, .string ⟨m.toArray⟩] w fun e w' => e = .returned (.bool true) ∧ Below w.heap.size w w' := by
  by_cases h : gdE t = 0
  · exact wireBack_yes t m w hm h
  · exact wireBack_no t m w hd h

end Go.Proofs.YteknglhmnhgbgaaDoor
