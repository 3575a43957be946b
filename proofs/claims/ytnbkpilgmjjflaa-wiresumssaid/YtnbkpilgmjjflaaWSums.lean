/-
  WireSums: the law's walk, out of the contracts of Sum, the program's and the document's own.
-/
import Derived.Test.YtnbkpilgmjjflaaWSum
import Derived.Test.YtnbkpilgmjjflaaWRefSum
namespace Go.Proofs.Ytnbkpilgmjjflaa
open Go.RowKit

theorem sum_nine (W : World) : Calls Try.prog 4 #[.string ⟨#[49, 50, 51, 52, 53, 54, 55, 56, 57]⟩] W fun e w' => e = .returned (.int .i64 3421780262) ∧ w' = W := by
  have h := wsum_any ⟨#[49, 50, 51, 52, 53, 54, 55, 56, 57]⟩ W (by decide)
  rw [show sumN (ByteArray.mk #[49, 50, 51, 52, 53, 54, 55, 56, 57]).data.toList = 3421780262 from by decide +kernel] at h
  exact h

set_option maxHeartbeats 1000000 in
theorem wireSums_walk (l : List UInt8) (w : World) (hl : l.length ≤ 140737488355328) :
    Calls Try.prog 3 #[.string ⟨l.toArray⟩] w fun e w' => e = .returned (.bool true) ∧ Below w.heap.size w w' := by
  have hz : (ByteArray.mk l.toArray).size = l.length := Lib.size_eq ⟨l.toArray⟩
  obtain ⟨X, hX⟩ : ∃ X, sumN l = X := ⟨_, rfl⟩
  have HX := hide hX
  clear hX
  go_enter Try.func3, Try.ntmps3
  go_wp2_with fail
  refine (wsum_any ⟨l.toArray⟩ _ (by omega)).mono ?_
  rintro e w1 ⟨rfl, rfl⟩
  rw [show (ByteArray.mk l.toArray).data.toList = l from rfl, unhide HX]
  go_wp2_with fail
  refine (rsum_any l _ hl).mono ?_
  rintro e w2 ⟨rfl, hb2⟩
  rw [unhide HX]
  go_wp2_with fail
  refine (sum_nine _).mono ?_
  rintro e w3 ⟨rfl, rfl⟩
  go_wp2_with fail
  go_ret
  exact ⟨rfl, hb2⟩

end Go.Proofs.Ytnbkpilgmjjflaa
