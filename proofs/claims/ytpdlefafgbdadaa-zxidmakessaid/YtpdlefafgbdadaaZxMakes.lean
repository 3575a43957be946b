/-
  ZxidMakes: the law's walk, out of the contracts of Make, Next and Begin, the program's and the document's own.
-/
import Derived.Test.YtpdlefafgbdadaaZxRefMake
import Derived.Test.YtpdlefafgbdadaaZxNext
namespace Go.Proofs.Ytpdlefafgbdadaa
open Go.RowKit

set_option maxHeartbeats 1000000 in
theorem zxidMakes_walk (a c z : Int) (hm : z ≤ 9223372036854775807) (w : World) : Calls Try.prog 3 #[.int .i64 a, .int .i64 c, .int .i64 z] w fun e w' => e = .returned (.bool true) ∧ Below w.heap.size w w' := by
  obtain ⟨A, h1⟩ : ∃ A, zMake a c = A := ⟨_, rfl⟩
  obtain ⟨B, h2⟩ : ∃ B, zMakeE a c = B := ⟨_, rfl⟩
  obtain ⟨C, h3⟩ : ∃ C, zNext z = C := ⟨_, rfl⟩
  obtain ⟨D, h4⟩ : ∃ D, zNextE z = D := ⟨_, rfl⟩
  obtain ⟨E, h5⟩ : ∃ E, zBegin z = E := ⟨_, rfl⟩
  obtain ⟨F, h6⟩ : ∃ F, zBeginE z = F := ⟨_, rfl⟩
  have H1 := hide h1
  have H2 := hide h2
  have H3 := hide h3
  have H4 := hide h4
  have H5 := hide h5
  have H6 := hide h6
  clear h1 h2 h3 h4 h5 h6
  go_enter Try.func3, Try.ntmps3
  go_wp2_with fail
  refine (zmake_any a c _).mono ?_
  rintro e w1 ⟨rfl, rfl⟩
  rw [unhide H1, unhide H2]
  go_wp2_with fail
  refine (rmake_any a c _).mono ?_
  rintro e w1 ⟨rfl, rfl⟩
  rw [unhide H1, unhide H2]
  go_wp2_with fail
  refine (znext_any z _).mono ?_
  rintro e w1 ⟨rfl, rfl⟩
  rw [unhide H3, unhide H4]
  go_wp2_with fail
  refine (rnext_any z hm _).mono ?_
  rintro e w1 ⟨rfl, rfl⟩
  rw [unhide H3, unhide H4]
  go_wp2_with fail
  refine (zbegin_any z _).mono ?_
  rintro e w1 ⟨rfl, rfl⟩
  rw [unhide H5, unhide H6]
  go_wp2_with fail
  refine (rbegin_any z hm _).mono ?_
  rintro e w1 ⟨rfl, rfl⟩
  rw [unhide H5, unhide H6]
  go_wp2_with fail
  refine (zmake_any 0 5 _).mono ?_
  rintro e w1 ⟨rfl, rfl⟩
  rw [show zMake 0 5 = 5 from by decide, show zMakeE 0 5 = 0 from by decide]
  go_wp2_with fail
  go_ret
  exact ⟨rfl, Below.refl _ _⟩

end Go.Proofs.Ytpdlefafgbdadaa
