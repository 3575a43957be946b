/-
  What tree.counted and tree.Good answer: the walks, with the map of counts.
  What aviaryref.GoodZxid answers, for every number: the walk.
-/
import Derived.Test.YtkgaoedlnejigaaDoorRLH
import Derived.Test.YtkgaoedlnejigaaDoorRLC
import Derived.Test.YtkgaoedlnejigaaDoorRLA
import Derived.Test.YtkgaoedlnejigaaDoorProg
import Derived.WalkKit
import Derived.Test.YtkgaoedlnejigaaDoorRLB
import Derived.Maps.OwnOps
import Derived.Maps.Views
namespace Go.Proofs.YtkgaoedlnejigaaDoor
open Go.RowKit Go.WideMaps Go.Maps
theorem kidsN_snoc (ns : List Nd) (n : Nd) (s : List UInt8) : kidsN (ns ++ [n]) s = kidsN ns s + (if dirOf n.p = s then 1 else 0) := by
  simp only [kidsN, List.countP_append, List.countP_cons, List.countP_nil, decide_eq_true_eq]; omega
/-- numbers and texts as great as a machine has them -/
structure WfT (t : Tr) : Prop where
  ses : ∀ s ∈ t.ss, -9223372036854775808 ≤ s ∧ s ≤ 9223372036854775807
  slim : ∀ n ∈ t.ns, n.p.length ≤ 140737488355328 ∧ n.d.length ≤ 140737488355328
theorem good_no {t : Tr} (h : ¬ (zGood t.z = true ∧ OrdN t.ns ∧ SAsc t.ss)) : goodT t = false := by
  rw [goodT_false, good_parts]; exact fun g => h ⟨g.1, g.2.1, g.2.2.1⟩
end Go.Proofs.YtkgaoedlnejigaaDoor

namespace Go.Proofs.YtkgaoedlnejigaaDoor
open Go.RowKit

theorem tdq {z : Int} (h0 : 0 ≤ z) (hm : z ≤ 9223372036854775807) : wrap64 (z.tdiv 2147483648) = z / 2147483648 := by
  rw [Int.tdiv_eq_ediv_of_nonneg h0]; unfold wrap64; omega
set_option maxRecDepth 10000 in
set_option maxHeartbeats 400000 in
theorem rgood_any (z : Int) (hm : z ≤ 9223372036854775807) (w : World) : Calls Tryd.prog 16 #[.int .i64 z] w fun e w' => e = .returned (.bool (zGood z)) ∧ w' = w := by
  by_cases h0 : 0 ≤ z
  · by_cases h1 : z < 4611686018427387904
    · have H := hide (zGood_iff.2 ⟨h0, h1⟩)
      have h2 : decide (z / 2147483648 < 2147483648) = true := decide_eq_true (by omega)
      go_enter Tryd.func16, Tryd.ntmps16
      go_wp2_with fail
      go_ret
      exact ⟨zret_bool (Eq.trans (by first | rfl | exact h2 | (rw [tdq h0 hm]; exact h2)) (unhide H).symm), rfl⟩
    · have H := hide (zGood_no (z := z) (by omega))
      have h2 : decide (z / 2147483648 < 2147483648) = false := decide_eq_false (by omega)
      go_enter Tryd.func16, Tryd.ntmps16
      go_wp2_with fail
      go_ret
      exact ⟨zret_bool (Eq.trans (by first | rfl | exact h2 | (rw [tdq h0 hm]; exact h2)) (unhide H).symm), rfl⟩
  · have H := hide (zGood_no (z := z) (by omega))
    go_enter Tryd.func16, Tryd.ntmps16
    go_wp2_with fail
    go_ret
    exact ⟨zret_bool (by rw [unhide H]), rfl⟩

end Go.Proofs.YtkgaoedlnejigaaDoor
