/-
  What aviarykeep.stores answers: the walk.
-/
import Derived.Test.YtbadhnmljlmefabDQ
namespace Go.Proofs.Ytbadhnmljlmefab
open Go.RowKit

def nameA : List UInt8 := [97]
theorem wrote_a : namedB nameA = true := by decide
theorem good_nil : GoodD [] := goodD_true.1 goodD_nil
theorem gap_nil (name : List UInt8) : Gap [] [] [] name := ⟨rfl, by simp, by simp⟩

set_option maxHeartbeats 400000 in
theorem stores_any (w : World) :
    Calls Try.prog 5 #[] w fun e w' => e = .returned (.bool true) ∧ Below w.heap.size w w' := by
  have C1 := fun W => write_new (.slice none 0 0) [] [] [] [97] [98, 99] W (DiskV.nil W) (good_slim good_nil) good_nil (by decide) (by decide) (gap_nil _) (by decide)
  have g1 : GoodD [⟨[97], [], [98, 99]⟩] := good_ins good_nil (gap_nil [97]) (by decide) (by decide) rfl (by decide)
  have C2 := fun v W (hv : DiskV W v [⟨[97], [], [98, 99]⟩]) => read_there v [⟨[97], [], [98, 99]⟩] [] [] ⟨[97], [], [98, 99]⟩ [97] W hv (good_slim g1) g1 ((gap_nil [97]).ins (f' := ⟨[97], [], [98, 99]⟩) rfl)
  have H2 := hide C2
  clear C2 g1
  go_enter Try.func5, Try.ntmps5
  go_wp2_with fail
  refine (C1 _).mono ?_
  rintro e w1 ⟨v', rfl, ho, hb1⟩
  have HO := hide ho.disk
  obtain ⟨a, n, c, rfl⟩ := disk_slice ho.disk
  clear C1 ho
  go_wp2_with fail
  refine (unhide H2 _ _ ((unhide HO).alloc _)).mono ?_
  rintro e w2 ⟨rfl, hb2⟩
  have hB := below_next hb1 (box_then hb2)
  clear hb1 hb2 H2
  go_wp2_with fail
  go_ret
  exact ⟨rfl, hB⟩
end Go.Proofs.Ytbadhnmljlmefab
