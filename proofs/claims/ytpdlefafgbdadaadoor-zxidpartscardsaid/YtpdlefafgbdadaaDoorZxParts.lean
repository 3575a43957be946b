/-
  ZxidParts: the law's walk, out of the contracts of Text, Good, Epoch and Count, the program's and the document's own.
-/
import Derived.Test.YtpdlefafgbdadaaDoorZxRefText
namespace Go.Proofs.YtpdlefafgbdadaaDoor
open Go.RowKit

set_option maxHeartbeats 1000000 in
theorem zxidParts_walk (z : Int) (hm : z ≤ 9223372036854775807) (w : World) (htab : Lib.TabIs Tryd.prog w "internal/strconv.uint64pow10" .u64 Lib.pow10Tab) :
    Calls Tryd.prog 3 #[.int .i64 z] w fun e w' => e = .returned (.bool true) ∧ Below w.heap.size w w' := by
  obtain ⟨A, h0⟩ : ∃ A, zText z = A := ⟨_, rfl⟩
  have H0 := hide h0
  clear h0
  obtain ⟨E, h1⟩ : ∃ E, zTextE z = E := ⟨_, rfl⟩
  have H1 := hide h1
  clear h1
  obtain ⟨G, h2⟩ : ∃ G, zGood z = G := ⟨_, rfl⟩
  have H2 := hide h2
  clear h2
  obtain ⟨P, h3⟩ : ∃ P, zEpoch z = P := ⟨_, rfl⟩
  have H3 := hide h3
  clear h3
  obtain ⟨C, h4⟩ : ∃ C, zCount z = C := ⟨_, rfl⟩
  have H4 := hide h4
  clear h4
  have Htab := hide htab
  clear htab
  go_enter Tryd.func3, Tryd.ntmps3
  go_wp2_with fail
  refine (ztext_any z _ (unhide Htab)).mono ?_
  rintro e w1 ⟨rfl, hb1⟩
  rw [unhide H0, unhide H1]
  go_wp2_with fail
  refine (rtext_any z hm _).mono ?_
  rintro e w2 ⟨rfl, hb2⟩
  replace hb2 := zbelow_next hb1 hb2
  clear hb1
  rw [unhide H0, unhide H1]
  go_wp2_with fail
  refine (zgood_any z _).mono ?_
  rintro e w3 ⟨rfl, rfl⟩
  rw [unhide H2]
  go_wp2_with fail
  refine (rgood_any z hm _).mono ?_
  rintro e w3 ⟨rfl, rfl⟩
  rw [unhide H2]
  go_wp2_with fail
  refine (zepoch_any z _).mono ?_
  rintro e w3 ⟨rfl, rfl⟩
  rw [unhide H3]
  go_wp2_with fail
  refine (repoch_any z hm _).mono ?_
  rintro e w3 ⟨rfl, rfl⟩
  rw [unhide H3]
  go_wp2_with fail
  refine (zcount_any z _).mono ?_
  rintro e w3 ⟨rfl, rfl⟩
  rw [unhide H4]
  go_wp2_with fail
  refine (rcount_any z hm _).mono ?_
  rintro e w3 ⟨rfl, rfl⟩
  rw [unhide H4]
  go_wp2_with fail
  refine (zcount_any 5 _).mono ?_
  rintro e w3 ⟨rfl, rfl⟩
  rw [show zCount 5 = 5 from by decide]
  go_wp2_with fail
  go_ret
  exact ⟨rfl, hb2⟩

end Go.Proofs.YtpdlefafgbdadaaDoor
