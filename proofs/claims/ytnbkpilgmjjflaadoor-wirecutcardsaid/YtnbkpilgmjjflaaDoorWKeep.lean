/-
  What aviarykeep's own functions answer: opening, writes.
-/
import Derived.Test.YtnbkpilgmjjflaaDoorWEnc
import Derived.Test.YtnbkpilgmjjflaaDoorWDecW
namespace Go.Proofs.YtnbkpilgmjjflaaDoor
open Go.RowKit

def tOpen : WTxn := ⟨1, 1, 1, [], [], 0, 0⟩
theorem gd_open : gdE tOpen = 0 := by decide +kernel

set_option maxHeartbeats 400000 in
theorem opening_txn (w : World) : Calls Tryd.prog 31 #[] w fun e w' => e = .returned (txnV tOpen) ∧ Below w.heap.size w w' := by
  go_enter Tryd.func31, Tryd.ntmps31
  go_wp2_with fail
  exact bodyPost_ret (v := txnV tOpen) (by simp [results, Tryd.results31, go_sem, txnV, tOpen]) rfl ⟨rfl, (Below.refl _ _).alloc (Nat.le_refl _) _⟩

set_option maxHeartbeats 400000 in
theorem writes_true (w : World) : Calls Tryd.prog 14 #[] w fun e w' => e = .returned (.bool true) ∧ Below w.heap.size w w' := by
  have hl := recL_length tOpen
  have hz : (ByteArray.mk (recL tOpen).toArray).size = (recL tOpen).length := Lib.size_eq ⟨_⟩
  rw [hl] at hz
  have h31 : 31 + tOpen.p.length + tOpen.d.length = 31 := rfl
  rw [h31] at hz
  go_enter Tryd.func14, Tryd.ntmps14
  go_wp2_with fail
  refine (opening_txn _).mono ?_
  rintro e w1 ⟨rfl, hb1⟩
  clear hl h31
  go_wp2_with fail
  refine (encode_yes tOpen _ gd_open).mono ?_
  rintro e w2 ⟨rfl, hb2⟩
  replace hb2 := below_next hb1 hb2
  generalize recL tOpen = R at *
  go_wp2_with fail
  go_ret
  exact ⟨rfl, hb2⟩

end Go.Proofs.YtnbkpilgmjjflaaDoor
