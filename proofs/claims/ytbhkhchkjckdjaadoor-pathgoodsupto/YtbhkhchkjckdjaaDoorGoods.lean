/-
  PathGoods: the law's walk out of the contracts of Named and Good, the program's and the document's own.
-/
import Derived.Test.YtbhkhchkjckdjaaDoorRefGood
namespace Go.Proofs.YtbhkhchkjckdjaaDoor
open Go.RowKit

theorem named_a : namedB [97] = true := by decide +kernel
theorem good_a : goodB [47, 97] = true := by decide +kernel
theorem list_data (l : List UInt8) : ((ByteArray.mk l.toArray).data.toList) = l := rfl
theorem eq_self (b : Bool) : (b == b) = true := by cases b <;> rfl

set_option maxHeartbeats 1000000 in
theorem pathGoods_walk (l : List UInt8) (w : World) (hl : l.length ≤ 1048576) :
    Calls Tryd.prog 3 #[.string ⟨l.toArray⟩] w fun e w' => e = .returned (.bool true) ∧ Below w.heap.size w w' := by
  generalize hn : namedB l = n
  generalize hg : goodB l = g
  have Hn := hide hn
  have Hg := hide hg
  clear hn hg
  have e1 := eq_self n
  have e2 := eq_self g
  go_enter Tryd.func3, Tryd.ntmps3
  go_wp2_with fail
  refine (named_any _ _ (size_le_maxLen (by omega))).mono ?_
  rintro e w1 ⟨rfl, rfl⟩
  rw [list_data, unhide Hn]
  go_wp2_with fail
  refine (refNamed_any l _ (by omega)).mono ?_
  rintro e w2 ⟨rfl, hb2⟩
  rw [unhide Hn]
  go_wp2_with fail
  refine (good_any _ _).mono ?_
  rintro e w3 ⟨rfl, hb3⟩
  replace hb3 := below_next hb2 hb3
  clear hb2
  rw [list_data, unhide Hg]
  go_wp2_with fail
  refine (refGood_any l _ hl).mono ?_
  rintro e w4 ⟨rfl, hb4⟩
  replace hb4 := below_next hb3 hb4
  clear hb3
  rw [unhide Hg]
  go_wp2_with fail
  refine (named_any _ _ (by decide)).mono ?_
  rintro e w5 ⟨rfl, rfl⟩
  rw [show (ByteArray.mk #[97]).data.toList = [97] from rfl, named_a]
  go_wp2_with fail
  refine (good_any _ _).mono ?_
  rintro e w6 ⟨rfl, hb6⟩
  replace hb6 := below_next hb4 hb6
  clear hb4
  rw [show (ByteArray.mk #[47, 97]).data.toList = [47, 97] from rfl, good_a]
  go_wp2_with fail
  go_ret
  exact ⟨rfl, hb6⟩

end Go.Proofs.YtbhkhchkjckdjaaDoor
