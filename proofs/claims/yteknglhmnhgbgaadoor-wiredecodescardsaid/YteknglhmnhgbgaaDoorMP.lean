/-
  WireDecodes: the law's walk, out of the contracts of Decode, the program's and the document's own.
  What aviaryref.Decode answers, for every text; and WireDecodes' walk.
-/
import Derived.Test.YteknglhmnhgbgaaDoorME
import Derived.Test.YteknglhmnhgbgaaDoorMO
namespace Go.Proofs.YteknglhmnhgbgaaDoor
open Go.RowKit

theorem gd_none : gdE t0 = 4 := by decide +kernel

set_option maxRecDepth 100000 in
set_option maxHeartbeats 2000000 in
theorem wireDecodes_of (l : List UInt8) (w : World) (hl : l.length ≤ 140737488355328)
    (hr : ∀ w, Calls Tryd.prog 14 #[.string ⟨l.toArray⟩] w fun e w' => e = .returned (.tuple #[txnV (decT l), .int .i64 (decN l), .int .i64 (decE l)]) ∧ Below w.heap.size w w') :
    Calls Tryd.prog 4 #[.string ⟨l.toArray⟩] w fun e w' => e = .returned (.bool true) ∧ Below w.heap.size w w' := by
  have Hde := hide (fun w => decode_any l w hl)
  have Hre := hide hr
  have Hz := hide (fun w => wgood_any t0 w (by decide))
  rw [gd_none] at Hz
  clear hr
  generalize decT l = t at Hde Hre
  generalize decN l = N at Hde Hre
  generalize decE l = E at Hde Hre
  obtain ⟨z, o, s, p, d, v, u⟩ := t
  unfold txnV at Hde Hre Hz
  unfold t0 at Hz
  go_enter Tryd.func4, Tryd.ntmps4
  go_wp2_with fail
  refine (unhide Hde _).mono ?_
  rintro e w1 ⟨rfl, hb1⟩
  go_wp2_with fail
  refine (unhide Hre _).mono ?_
  rintro e w2 ⟨rfl, hb2⟩
  have hbz2 : Below w.heap.size w w2 := below_next hb1 (box_then hb2)
  have hz2 : w1.heap.size < w2.heap.size := by have := hb2.size; simp at this; omega
  obtain ⟨hc2, hf2⟩ := bcell hb2
  go_wp2_with fail
  refine (unhide Hz _).mono ?_
  rintro e w3 ⟨rfl, hb3⟩
  have hbz3 : Below w.heap.size w w3 := below_next hbz2 (box_then hb3)
  clear hc2 hf2
  go_wp2_with fail
  go_ret
  exact ⟨rfl, hbz3⟩

end Go.Proofs.YteknglhmnhgbgaaDoor

namespace Go.Proofs.YteknglhmnhgbgaaDoor
open Go.RowKit

theorem rdecode_any (s : List UInt8) (w : World) :
    Calls Tryd.prog 14 #[.string ⟨s.toArray⟩] w fun e w' => e = .returned (.tuple #[txnV (decT s), .int .i64 (decN s), .int .i64 (decE s)]) ∧ Below w.heap.size w w' := by
  by_cases h3 : 3 ≤ s.length
  · by_cases hm : s[0] = 84
    · by_cases hl : lenOf s ≤ 1024
      · by_cases hn : lenOf s + 7 ≤ s.length
        · cases hs : sumB s
          · exact rdec_sum s w h3 hm hl hn hs
          · exact rdec_body s w h3 hm hl hn hs
        · exact rdec_short s w h3 hm hl (by omega)
      · exact rdec_long s w h3 hm (by omega)
    · exact rdec_mark s w h3 hm
  · exact rdec_tiny s w (by omega)

theorem wireDecodes_walk (l : List UInt8) (w : World) (hl : l.length ≤ 140737488355328) :
    Calls Tryd.prog 4 #[.string ⟨l.toArray⟩] w fun e w' => e = .returned (.bool true) ∧ Below w.heap.size w w' :=
  wireDecodes_of l w hl (fun w => rdecode_any l w)

end Go.Proofs.YteknglhmnhgbgaaDoor
