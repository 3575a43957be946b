/-
  What aviaryref.Decode answers, for every text; and WireDecodes' walk.
-/
import Derived.Test.YtnbkpilgmjjflaaDoorWRefDecB
import Derived.Test.YtnbkpilgmjjflaaDoorWDecs
namespace Go.Proofs.YtnbkpilgmjjflaaDoor
open Go.RowKit

theorem rdecode_any (s : List UInt8) (w : World) :
    Calls Tryd.prog 13 #[.string ⟨s.toArray⟩] w fun e w' => e = .returned (.tuple #[txnV (decT s), .int .i64 (decN s), .int .i64 (decE s)]) ∧ Below w.heap.size w w' := by
  by_cases h3 : 3 ≤ s.length
  · by_cases hm : s[0] = 84
    · by_cases hl : lenOf s ≤ 1024
      · by_cases hn : lenOf s + 7 ≤ s.length
        · cases hs : sumB s
          · exact rdec_sum s w h3 hm hl hn hs
          · exact rdec_body s w h3 hm hl hn hs
        · exact rdec_short s w h3 hm hl (by omega)
      · exact rdec_long s w h3 hm (by omega)
    · exact rdec_mark s w h3 hm
  · exact rdec_tiny s w (by omega)

theorem wireDecodes_walk (l : List UInt8) (w : World) (hl : l.length ≤ 140737488355328) :
    Calls Tryd.prog 4 #[.string ⟨l.toArray⟩] w fun e w' => e = .returned (.bool true) ∧ Below w.heap.size w w' :=
  wireDecodes_of l w hl (fun w => rdecode_any l w)

end Go.Proofs.YtnbkpilgmjjflaaDoor
