/-
  What lies below what: nothing below itself, no two below each other, below what is below a third is below that; and what the laws' own question 'joins' answers.
-/
import Derived.Test.YtbhkhchkjckdjabDoorUnder
namespace Go.Proofs.YtbhkhchkjckdjabDoor
open Go.RowKit Go.Shelf

theorem underB_parts {a b : List UInt8} (h : underB a b = true) : goodB a = true ∧ goodB b = true ∧ a ≠ b ∧ openL b <+: a := by
  simp only [underB, Lib.hasPrefix, Bool.and_eq_true, Bool.not_eq_true', beq_eq_false_iff_ne, List.isPrefixOf_iff_prefix] at h
  exact ⟨h.1.1.1, h.1.1.2, h.1.2, h.2⟩
theorem underB_mk {a b : List UInt8} (ha : goodB a = true) (hb : goodB b = true) (hab : a ≠ b) (h : openL b <+: a) : underB a b = true := by
  simp only [underB, Lib.hasPrefix, Bool.and_eq_true, Bool.not_eq_true', beq_eq_false_iff_ne, List.isPrefixOf_iff_prefix]
  exact ⟨⟨⟨ha, hb⟩, hab⟩, h⟩
theorem goodB_slash {a : List UInt8} (h : goodB a = true) : [47] <+: a := by
  simp only [goodB, Lib.hasPrefix, Bool.and_eq_true, List.isPrefixOf_iff_prefix] at h
  exact h.1.2
theorem underB_lt {a b : List UInt8} (h : underB a b = true) : b.length < a.length := by
  obtain ⟨ha, _, hab, hp⟩ := underB_parts h
  by_cases hb : b = [47]
  · subst hb
    obtain ⟨t, ht⟩ := goodB_slash ha
    cases t with
    | nil => exact absurd ht.symm hab
    | cons c t => rw [← ht]; simp
  · rw [openL_other hb] at hp
    have := hp.length_le
    simp at this
    omega
theorem underB_self (a : List UInt8) : underB a a = false := by
  cases h : underB a a
  · rfl
  · exact absurd (underB_lt h) (Nat.lt_irrefl _)
theorem underB_back {a b : List UInt8} (h : underB a b = true) : underB b a = false := by
  cases h' : underB b a
  · rfl
  · have := underB_lt h; have := underB_lt h'; omega
theorem openL_pos (l : List UInt8) : 1 ≤ (openL l).length := by
  unfold openL
  split <;> simp
theorem underB_trans {a b c : List UInt8} (h : underB a b = true) (k : underB b c = true) : underB a c = true := by
  have h1 := underB_lt h
  have h2 := underB_lt k
  obtain ⟨ha, hb, hab, hp⟩ := underB_parts h
  obtain ⟨_, hc, hbc, hq⟩ := underB_parts k
  refine underB_mk ha hc (by rintro rfl; omega) (hq.trans ?_)
  by_cases hr : b = [47]
  · subst hr
    exact goodB_slash ha
  · rw [openL_other hr] at hp
    exact (List.prefix_append _ _).trans hp

theorem joinS_ab : (⟨(joinS [47, 97] [98]).toArray⟩ : ByteArray) = ⟨#[47, 97, 47, 98]⟩ := by decide +kernel
theorem joinE_ab : joinE [47, 97] [98] = 0 := by decide +kernel

set_option maxHeartbeats 400000 in
theorem joins_true (w : World) : Calls Tryd.prog 5 #[] w fun e w' => e = .returned (.bool true) ∧ Below w.heap.size w w' := by
  go_enter Tryd.func5, Tryd.ntmps5
  go_wp2_with fail
  refine (join_any [47, 97] [98] _ (by decide)).mono ?_
  rintro e w1 ⟨rfl, hb1⟩
  rw [joinS_ab, joinE_ab]
  go_wp2_with fail
  go_ret
  exact ⟨rfl, hb1⟩

theorem below_next {a b c : World} (h : Below a.heap.size a b) (k : Below b.heap.size b c) : Below a.heap.size a c := h.trans (k.mono h.size)

end Go.Proofs.YtbhkhchkjckdjabDoor
