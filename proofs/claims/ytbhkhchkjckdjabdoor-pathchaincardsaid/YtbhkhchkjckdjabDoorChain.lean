/-
  PathChain: what lies below what, and the law's walk out of the contracts of Under and Join.
-/
import Derived.Test.YtbhkhchkjckdjabDoorUnder
namespace Go.Proofs.YtbhkhchkjckdjabDoor
open Go.RowKit Go.Shelf

theorem underB_parts {a b : List UInt8} (h : underB a b = true) : goodB a = true ∧ goodB b = true ∧ a ≠ b ∧ openL b <+: a := by
  simp only [underB, Lib.hasPrefix, Bool.and_eq_true, Bool.not_eq_true', beq_eq_false_iff_ne, List.isPrefixOf_iff_prefix] at h
  exact ⟨h.1.1.1, h.1.1.2, h.1.2, h.2⟩
theorem underB_mk {a b : List UInt8} (ha : goodB a = true) (hb : goodB b = true) (hab : a ≠ b) (h : openL b <+: a) : underB a b = true := by
  simp only [underB, Lib.hasPrefix, Bool.and_eq_true, Bool.not_eq_true', beq_eq_false_iff_ne, List.isPrefixOf_iff_prefix]
  exact ⟨⟨⟨ha, hb⟩, hab⟩, h⟩
theorem goodB_slash {a : List UInt8} (h : goodB a = true) : [47] <+: a := by
  simp only [goodB, Lib.hasPrefix, Bool.and_eq_true, List.isPrefixOf_iff_prefix] at h
  exact h.1.2
theorem underB_lt {a b : List UInt8} (h : underB a b = true) : b.length < a.length := by
  obtain ⟨ha, _, hab, hp⟩ := underB_parts h
  by_cases hb : b = [47]
  · subst hb
    obtain ⟨t, ht⟩ := goodB_slash ha
    cases t with
    | nil => exact absurd ht.symm hab
    | cons c t => rw [← ht]; simp
  · rw [openL_other hb] at hp
    have := hp.length_le
    simp at this
    omega
theorem underB_self (a : List UInt8) : underB a a = false := by
  cases h : underB a a
  · rfl
  · exact absurd (underB_lt h) (Nat.lt_irrefl _)
theorem underB_back {a b : List UInt8} (h : underB a b = true) : underB b a = false := by
  cases h' : underB b a
  · rfl
  · have := underB_lt h; have := underB_lt h'; omega
theorem openL_pos (l : List UInt8) : 1 ≤ (openL l).length := by
  unfold openL
  split <;> simp
theorem underB_trans {a b c : List UInt8} (h : underB a b = true) (k : underB b c = true) : underB a c = true := by
  have h1 := underB_lt h
  have h2 := underB_lt k
  obtain ⟨ha, hb, hab, hp⟩ := underB_parts h
  obtain ⟨_, hc, hbc, hq⟩ := underB_parts k
  refine underB_mk ha hc (by rintro rfl; omega) (hq.trans ?_)
  by_cases hr : b = [47]
  · subst hr
    exact goodB_slash ha
  · rw [openL_other hr] at hp
    exact (List.prefix_append _ _).trans hp

theorem joinS_ab : (⟨(joinS [47, 97] [98]).toArray⟩ : ByteArray) = ⟨#[47, 97, 47, 98]⟩ := by decide +kernel
theorem joinE_ab : joinE [47, 97] [98] = 0 := by decide +kernel

set_option maxHeartbeats 400000 in
theorem joins_true (w : World) : Calls Tryd.prog 5 #[] w fun e w' => e = .returned (.bool true) ∧ Below w.heap.size w w' := by
  go_enter Tryd.func5, Tryd.ntmps5
  go_wp2_with fail
  refine (join_any [47, 97] [98] _ (by decide)).mono ?_
  rintro e w1 ⟨rfl, hb1⟩
  rw [joinS_ab, joinE_ab]
  go_wp2_with fail
  go_ret
  exact ⟨rfl, hb1⟩

theorem below_next {a b c : World} (h : Below a.heap.size a b) (k : Below b.heap.size b c) : Below a.heap.size a c := h.trans (k.mono h.size)

set_option maxHeartbeats 1000000 in
theorem pathChain_walk (a b c : List UInt8) (w : World) :
    Calls Tryd.prog 3 #[.string ⟨a.toArray⟩, .string ⟨b.toArray⟩, .string ⟨c.toArray⟩] w fun e w' => e = .returned (.bool true) ∧ Below w.heap.size w w' := by
  have Haa := hide (underB_self a)
  cases hab : underB a b
  · have Hab := hide hab
    clear hab
    go_enter Tryd.func3, Tryd.ntmps3
    go_wp2_with fail
    refine (joins_true _).mono ?_
    rintro e w1 ⟨rfl, hb1⟩
    go_wp2_with fail
    refine (under_any a a _).mono ?_
    rintro e w2 ⟨rfl, hb2⟩
    replace hb2 := below_next hb1 hb2
    clear hb1
    rw [unhide Haa]
    go_wp2_with fail
    refine (under_any a b _).mono ?_
    rintro e w3 ⟨rfl, hb3⟩
    replace hb3 := below_next hb2 hb3
    clear hb2
    rw [unhide Hab]
    go_wp2_with fail
    refine (under_any a b _).mono ?_
    rintro e w4 ⟨rfl, hb4⟩
    replace hb4 := below_next hb3 hb4
    clear hb3
    rw [unhide Hab]
    go_wp2_with fail
    go_ret
    exact ⟨rfl, hb4⟩
  · have Hba := hide (underB_back hab)
    have hbcac : underB b c = false ∨ (underB b c = true ∧ underB a c = true) := by
      cases hbc : underB b c
      · exact .inl rfl
      · exact .inr ⟨rfl, underB_trans hab hbc⟩
    have Hab := hide hab
    clear hab
    go_enter Tryd.func3, Tryd.ntmps3
    go_wp2_with fail
    refine (joins_true _).mono ?_
    rintro e w1 ⟨rfl, hb1⟩
    go_wp2_with fail
    refine (under_any a a _).mono ?_
    rintro e w2 ⟨rfl, hb2⟩
    replace hb2 := below_next hb1 hb2
    clear hb1
    rw [unhide Haa]
    go_wp2_with fail
    refine (under_any a b _).mono ?_
    rintro e w3 ⟨rfl, hb3⟩
    replace hb3 := below_next hb2 hb3
    clear hb2
    rw [unhide Hab]
    go_wp2_with fail
    refine (under_any b a _).mono ?_
    rintro e w4 ⟨rfl, hb4⟩
    replace hb4 := below_next hb3 hb4
    clear hb3
    rw [unhide Hba]
    go_wp2_with fail
    refine (under_any a b _).mono ?_
    rintro e w5 ⟨rfl, hb5⟩
    replace hb5 := below_next hb4 hb5
    clear hb4
    rw [unhide Hab]
    rcases hbcac with hbc | ⟨hbc, hac⟩
    · have Hbc := hide hbc
      clear hbc
      go_wp2_with fail
      refine (under_any b c _).mono ?_
      rintro e w6 ⟨rfl, hb6⟩
      replace hb6 := below_next hb5 hb6
      clear hb5
      rw [unhide Hbc]
      go_wp2_with fail
      go_ret
      exact ⟨rfl, hb6⟩
    · have Hbc := hide hbc
      have Hac := hide hac
      clear hbc hac
      go_wp2_with fail
      refine (under_any b c _).mono ?_
      rintro e w6 ⟨rfl, hb6⟩
      replace hb6 := below_next hb5 hb6
      clear hb5
      rw [unhide Hbc]
      go_wp2_with fail
      refine (under_any a c _).mono ?_
      rintro e w7 ⟨rfl, hb7⟩
      replace hb7 := below_next hb6 hb7
      clear hb6
      rw [unhide Hac]
      go_wp2_with fail
      go_ret
      exact ⟨rfl, hb7⟩

end Go.Proofs.YtbhkhchkjckdjabDoor
