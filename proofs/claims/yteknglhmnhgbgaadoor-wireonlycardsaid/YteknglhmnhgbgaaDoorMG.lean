/-
  What aviarykeep's own functions answer: opening, writes.
  WireOnly: the law's walk, out of the contracts of Encode and Decode.
-/
import Derived.Test.YteknglhmnhgbgaaDoorMC
import Derived.Test.YteknglhmnhgbgaaDoorME
namespace Go.Proofs.YteknglhmnhgbgaaDoor
open Go.RowKit

def tOpen : WTxn := ⟨1, 1, 1, [], [], 0, 0⟩
theorem gd_open : gdE tOpen = 0 := by decide +kernel

set_option maxHeartbeats 400000 in
theorem opening_txn (w : World) : Calls Tryd.prog 36 #[] w fun e w' => e = .returned (txnV tOpen) ∧ Below w.heap.size w w' := by
  go_enter Tryd.func36, Tryd.ntmps36
  go_wp2_with fail
  exact bodyPost_ret (v := txnV tOpen) (by simp [results, Tryd.results36, go_sem, txnV, tOpen]) rfl ⟨rfl, (Below.refl _ _).alloc (Nat.le_refl _) _⟩

set_option maxHeartbeats 400000 in
theorem writes_true (w : World) : Calls Tryd.prog 15 #[] w fun e w' => e = .returned (.bool true) ∧ Below w.heap.size w w' := by
  have hl := recL_length tOpen
  have hz : (ByteArray.mk (recL tOpen).toArray).size = (recL tOpen).length := Lib.size_eq ⟨_⟩
  rw [hl] at hz
  have h31 : 31 + tOpen.p.length + tOpen.d.length = 31 := rfl
  rw [h31] at hz
  go_enter Tryd.func15, Tryd.ntmps15
  go_wp2_with fail
  refine (opening_txn _).mono ?_
  rintro e w1 ⟨rfl, hb1⟩
  clear hl h31
  go_wp2_with fail
  refine (encode_yes tOpen _ gd_open).mono ?_
  rintro e w2 ⟨rfl, hb2⟩
  replace hb2 := below_next hb1 hb2
  generalize recL tOpen = R at *
  go_wp2_with fail
  go_ret
  exact ⟨rfl, hb2⟩

end Go.Proofs.YteknglhmnhgbgaaDoor

namespace Go.Proofs.YteknglhmnhgbgaaDoor
open Go.RowKit

set_option maxHeartbeats 1000000 in
theorem wireOnly_no (s : List UInt8) (w : World) (hs : s.length ≤ 140737488355328) (h : decE s ≠ 0) :
    Calls Tryd.prog 6 #[.string ⟨s.toArray⟩] w fun e w' => e = .returned (.bool true) ∧ Below w.heap.size w w' := by
  have Hde := hide (fun w => decode_any s w hs)
  obtain ⟨h1, h2⟩ := dec_none h
  obtain ⟨E, hE⟩ : ∃ E, decE s = E := ⟨_, rfl⟩
  rw [h1, h2, hE] at Hde
  have hne : (E != 0) = true := by rw [← hE]; simpa [bne] using h
  clear hE h h1 h2
  unfold txnV t0 at Hde
  go_enter Tryd.func6, Tryd.ntmps6
  go_wp2_with fail
  refine (unhide Hde _).mono ?_
  rintro e w1 ⟨rfl, hb1⟩
  go_wp2_with fail
  refine (writes_true _).mono ?_
  rintro e w2 ⟨rfl, hb2⟩
  have hbz2 : Below w.heap.size w w2 := below_next hb1 (box_then hb2)
  go_wp2_with fail
  go_ret
  exact ⟨rfl, hbz2⟩

set_option maxHeartbeats 1000000 in
theorem wireOnly_yes (s : List UInt8) (w : World) (hs : s.length ≤ 140737488355328) (h : decE s = 0) :
    Calls Tryd.prog 6 #[.string ⟨s.toArray⟩] w fun e w' => e = .returned (.bool true) ∧ Below w.heap.size w w' := by
  have Hde := hide (fun w => decode_any s w hs)
  obtain ⟨hg, n, hn, hle, hrec⟩ := dec_only h
  have Hen := hide (fun w => encode_yes (decT s) w hg)
  rw [hrec, ← ex_front] at Hen
  rw [h, hn] at Hde
  have hzs : (ByteArray.mk s.toArray).size = s.length := Lib.size_eq ⟨_⟩
  have c1 : (n : Int) ≤ (s.length : Int) := by omega
  have c0 : (0 : Int) ≤ (n : Int) := by omega
  generalize decT s = t at Hde Hen
  clear h hg hn hrec
  obtain ⟨z, o, s', p, d, v, u⟩ := t
  unfold txnV at Hde Hen
  go_enter Tryd.func6, Tryd.ntmps6
  go_wp2_with fail
  refine (unhide Hde _).mono ?_
  rintro e w1 ⟨rfl, hb1⟩
  go_wp2_with fail
  refine (writes_true _).mono ?_
  rintro e w2 ⟨rfl, hb2⟩
  have hbz2 : Below w.heap.size w w2 := below_next hb1 (box_then hb2)
  obtain ⟨hc2, hf2⟩ := bcell hb2
  have hz2 : w1.heap.size < w2.heap.size := by have := hb2.size; simp at this; omega
  go_wp2_with fail
  refine (unhide Hen _).mono ?_
  rintro e w3 ⟨rfl, hb3⟩
  have hbz3 := below_next hbz2 hb3
  clear hc2 hf2
  obtain ⟨X, hX⟩ : ∃ X, (ByteArray.mk s.toArray).extract 0 n = X := ⟨_, rfl⟩
  rw [hX]
  have HX := hide hX
  clear hX Hen Hde
  go_wp2_with fail
  go_ret
  exact ⟨zret_bool (by rw [unhide HX]; simp), hbz3⟩

theorem wireOnly_walk (s : List UInt8) (w : World) (hs : s.length ≤ 140737488355328) :
    Calls Tryd.prog 6 #[.string ⟨s.toArray⟩] w fun e w' => e = .returned (.bool true) ∧ Below w.heap.size w w' := by
  by_cases h : decE s = 0
  · exact wireOnly_yes s w hs h
  · exact wireOnly_no s w hs h

end Go.Proofs.YteknglhmnhgbgaaDoor
