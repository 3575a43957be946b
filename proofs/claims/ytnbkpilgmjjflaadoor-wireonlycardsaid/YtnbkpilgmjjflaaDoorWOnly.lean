/-
  WireOnly: the law's walk, out of the contracts of Encode and Decode.
-/
import Derived.Test.YtnbkpilgmjjflaaDoorWKeep
namespace Go.Proofs.YtnbkpilgmjjflaaDoor
open Go.RowKit

set_option maxHeartbeats 1000000 in
theorem wireOnly_no (s : List UInt8) (w : World) (hs : s.length ≤ 140737488355328) (h : decE s ≠ 0) :
    Calls Tryd.prog 6 #[.string ⟨s.toArray⟩] w fun e w' => e = .returned (.bool true) ∧ Below w.heap.size w w' := by
  have Hde := hide (fun w => decode_any s w hs)
  obtain ⟨h1, h2⟩ := dec_none h
  obtain ⟨E, hE⟩ : ∃ E, decE s = E := ⟨_, rfl⟩
  rw [h1, h2, hE] at Hde
  have hne : (E != 0) = true := by rw [← hE]; simpa [bne] using h
  clear hE h h1 h2
  unfold txnV t0 at Hde
  go_enter Tryd.func6, Tryd.ntmps6
  go_wp2_with fail
  refine (unhide Hde _).mono ?_
  rintro e w1 ⟨rfl, hb1⟩
  go_wp2_with fail
  refine (writes_true _).mono ?_
  rintro e w2 ⟨rfl, hb2⟩
  have hbz2 : Below w.heap.size w w2 := below_next hb1 (box_then hb2)
  go_wp2_with fail
  go_ret
  exact ⟨rfl, hbz2⟩

set_option maxHeartbeats 1000000 in
theorem wireOnly_yes (s : List UInt8) (w : World) (hs : s.length ≤ 140737488355328) (h : decE s = 0) :
    Calls Tryd.prog 6 #[.string ⟨s.toArray⟩] w fun e w' => e = .returned (.bool true) ∧ Below w.heap.size w w' := by
  have Hde := hide (fun w => decode_any s w hs)
  obtain ⟨hg, n, hn, hle, hrec⟩ := dec_only h
  have Hen := hide (fun w => encode_yes (decT s) w hg)
  rw [hrec, ← ex_front] at Hen
  rw [h, hn] at Hde
  have hzs : (ByteArray.mk s.toArray).size = s.length := Lib.size_eq ⟨_⟩
  have c1 : (n : Int) ≤ (s.length : Int) := by omega
  have c0 : (0 : Int) ≤ (n : Int) := by omega
  generalize decT s = t at Hde Hen
  clear h hg hn hrec
  obtain ⟨z, o, s', p, d, v, u⟩ := t
  unfold txnV at Hde Hen
  go_enter Tryd.func6, Tryd.ntmps6
  go_wp2_with fail
  refine (unhide Hde _).mono ?_
  rintro e w1 ⟨rfl, hb1⟩
  go_wp2_with fail
  refine (writes_true _).mono ?_
  rintro e w2 ⟨rfl, hb2⟩
  have hbz2 : Below w.heap.size w w2 := below_next hb1 (box_then hb2)
  obtain ⟨hc2, hf2⟩ := bcell hb2
  have hz2 : w1.heap.size < w2.heap.size := by have := hb2.size; simp at this; omega
  go_wp2_with fail
  refine (unhide Hen _).mono ?_
  rintro e w3 ⟨rfl, hb3⟩
  have hbz3 := below_next hbz2 hb3
  clear hc2 hf2
  obtain ⟨X, hX⟩ : ∃ X, (ByteArray.mk s.toArray).extract 0 n = X := ⟨_, rfl⟩
  rw [hX]
  have HX := hide hX
  clear hX Hen Hde
  go_wp2_with fail
  go_ret
  exact ⟨zret_bool (by rw [unhide HX]; simp), hbz3⟩

theorem wireOnly_walk (s : List UInt8) (w : World) (hs : s.length ≤ 140737488355328) :
    Calls Tryd.prog 6 #[.string ⟨s.toArray⟩] w fun e w' => e = .returned (.bool true) ∧ Below w.heap.size w w' := by
  by_cases h : decE s = 0
  · exact wireOnly_yes s w hs h
  · exact wireOnly_no s w hs h

end Go.Proofs.YtnbkpilgmjjflaaDoor
