/-
  PathChain: the law's walk out of the contracts of Under and Join.
-/
import Derived.Test.YtbhkhchkjckdjabDoorLies
namespace Go.Proofs.YtbhkhchkjckdjabDoor
open Go.RowKit Go.Shelf

set_option maxHeartbeats 1000000 in
theorem pathChain_walk (a b c : List UInt8) (w : World) :
    Calls Tryd.prog 3 #[.string ⟨a.toArray⟩, .string ⟨b.toArray⟩, .string ⟨c.toArray⟩] w fun e w' => e = .returned (.bool true) ∧ Below w.heap.size w w' := by
  have Haa := hide (underB_self a)
  cases hab : underB a b
  · have Hab := hide hab
    clear hab
    go_enter Tryd.func3, Tryd.ntmps3
    go_wp2_with fail
    refine (joins_true _).mono ?_
    rintro e w1 ⟨rfl, hb1⟩
    go_wp2_with fail
    refine (under_any a a _).mono ?_
    rintro e w2 ⟨rfl, hb2⟩
    replace hb2 := below_next hb1 hb2
    clear hb1
    rw [unhide Haa]
    go_wp2_with fail
    refine (under_any a b _).mono ?_
    rintro e w3 ⟨rfl, hb3⟩
    replace hb3 := below_next hb2 hb3
    clear hb2
    rw [unhide Hab]
    go_wp2_with fail
    refine (under_any a b _).mono ?_
    rintro e w4 ⟨rfl, hb4⟩
    replace hb4 := below_next hb3 hb4
    clear hb3
    rw [unhide Hab]
    go_wp2_with fail
    go_ret
    exact ⟨rfl, hb4⟩
  · have Hba := hide (underB_back hab)
    have hbcac : underB b c = false ∨ (underB b c = true ∧ underB a c = true) := by
      cases hbc : underB b c
      · exact .inl rfl
      · exact .inr ⟨rfl, underB_trans hab hbc⟩
    have Hab := hide hab
    clear hab
    go_enter Tryd.func3, Tryd.ntmps3
    go_wp2_with fail
    refine (joins_true _).mono ?_
    rintro e w1 ⟨rfl, hb1⟩
    go_wp2_with fail
    refine (under_any a a _).mono ?_
    rintro e w2 ⟨rfl, hb2⟩
    replace hb2 := below_next hb1 hb2
    clear hb1
    rw [unhide Haa]
    go_wp2_with fail
    refine (under_any a b _).mono ?_
    rintro e w3 ⟨rfl, hb3⟩
    replace hb3 := below_next hb2 hb3
    clear hb2
    rw [unhide Hab]
    go_wp2_with fail
    refine (under_any b a _).mono ?_
    rintro e w4 ⟨rfl, hb4⟩
    replace hb4 := below_next hb3 hb4
    clear hb3
    rw [unhide Hba]
    go_wp2_with fail
    refine (under_any a b _).mono ?_
    rintro e w5 ⟨rfl, hb5⟩
    replace hb5 := below_next hb4 hb5
    clear hb4
    rw [unhide Hab]
    rcases hbcac with hbc | ⟨hbc, hac⟩
    · have Hbc := hide hbc
      clear hbc
      go_wp2_with fail
      refine (under_any b c _).mono ?_
      rintro e w6 ⟨rfl, hb6⟩
      replace hb6 := below_next hb5 hb6
      clear hb5
      rw [unhide Hbc]
      go_wp2_with fail
      go_ret
      exact ⟨rfl, hb6⟩
    · have Hbc := hide hbc
      have Hac := hide hac
      clear hbc hac
      go_wp2_with fail
      refine (under_any b c _).mono ?_
      rintro e w6 ⟨rfl, hb6⟩
      replace hb6 := below_next hb5 hb6
      clear hb5
      rw [unhide Hbc]
      go_wp2_with fail
      refine (under_any a c _).mono ?_
      rintro e w7 ⟨rfl, hb7⟩
      replace hb7 := below_next hb6 hb7
      clear hb6
      rw [unhide Hac]
      go_wp2_with fail
      go_ret
      exact ⟨rfl, hb7⟩

end Go.Proofs.YtbhkhchkjckdjabDoor
