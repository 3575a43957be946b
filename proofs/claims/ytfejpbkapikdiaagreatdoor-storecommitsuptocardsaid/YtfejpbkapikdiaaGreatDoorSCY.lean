/-
  What aviaryref.GoodTxn answers, for every transaction up to a bound: the walk.
-/
import Derived.Test.YtfejpbkapikdiaaGreatDoorSCX
namespace Go.Proofs.YtfejpbkapikdiaaGreatDoor
open Go.RowKit
set_option maxRecDepth 10000 in

set_option maxHeartbeats 2000000 in
theorem rgd_any (t : WTxn) (w : World) (hzb : t.z ≤ 9223372036854775807) (hp : t.p.length ≤ 1048576) (hd : t.d.length ≤ 140737488355328) :
    Calls Tryz.prog 45 #[txnV t] w fun e w' => e = .returned (.int .i64 (gdE t)) ∧ Below w.heap.size w w' := by
  cases ho : opB t.o
  · have H := hide (gdE_kind ho)
    have hor := opB_no ho
    clear ho
    obtain ⟨z, o, s, p, d, v, u⟩ := t
    unfold txnV
    replace hor : o < 1 ∨ 5 < o := hor
    rcases hor with hor | hor
    all_goals
      go_enter Tryz.func45, Tryz.ntmps45
      go_wp2_with fail
      go_ret
      exact ⟨ret_gd (unhide H).symm, (Below.refl _ _).alloc (Nat.le_refl _) _⟩
  have hor := opB_iff.1 ho
  have ho1 := hor.1
  have ho2 := hor.2
  have Ho := hide ho
  clear ho hor
  cases hz : zGood t.z
  · have H := hide (gdE_range (unhide Ho) (num_no (.inl hz)))
    have Hz := hide hz
    clear hz
    · obtain ⟨z, o, s, p, d, v, u⟩ := t
      unfold txnV
      have hzd : (ByteArray.mk d.toArray).size = d.length := Lib.size_eq ⟨d.toArray⟩
      replace ho1 : 1 ≤ o := ho1
      replace ho2 : o ≤ 5 := ho2
      replace hd : d.length ≤ 140737488355328 := hd
      go_enter Tryz.func45, Tryz.ntmps45
      go_wp2_with fail
      refine (rgood_any _ hzb _).mono ?_
      rintro e w1 ⟨rfl, rfl⟩
      rw [unhide Hz]
      go_wp2_with fail
      go_ret
      exact ⟨ret_gd (unhide H).symm, (Below.refl _ _).alloc (Nat.le_refl _) _⟩
  cases hs : cntB t.s 1
  · have H := hide (gdE_range (unhide Ho) (num_no (.inr (.inl hs))))
    have Hz := hide hz
    have Hs := hide hs
    clear hz hs
    · obtain ⟨z, o, s, p, d, v, u⟩ := t
      unfold txnV
      have hzd : (ByteArray.mk d.toArray).size = d.length := Lib.size_eq ⟨d.toArray⟩
      replace ho1 : 1 ≤ o := ho1
      replace ho2 : o ≤ 5 := ho2
      replace hd : d.length ≤ 140737488355328 := hd
      go_enter Tryz.func45, Tryz.ntmps45
      go_wp2_with fail
      refine (rgood_any _ hzb _).mono ?_
      rintro e w1 ⟨rfl, rfl⟩
      rw [unhide Hz]
      go_wp2_with fail
      refine (in_any _ _ _).mono ?_
      rintro e w1 ⟨rfl, rfl⟩
      rw [unhide Hs]
      go_wp2_with fail
      go_ret
      exact ⟨ret_gd (unhide H).symm, (Below.refl _ _).alloc (Nat.le_refl _) _⟩
  cases hv : cntB t.v 0
  · have H := hide (gdE_range (unhide Ho) (num_no (.inr (.inr (.inl hv)))))
    have Hz := hide hz
    have Hs := hide hs
    have Hv := hide hv
    clear hz hs hv
    · obtain ⟨z, o, s, p, d, v, u⟩ := t
      unfold txnV
      have hzd : (ByteArray.mk d.toArray).size = d.length := Lib.size_eq ⟨d.toArray⟩
      replace ho1 : 1 ≤ o := ho1
      replace ho2 : o ≤ 5 := ho2
      replace hd : d.length ≤ 140737488355328 := hd
      go_enter Tryz.func45, Tryz.ntmps45
      go_wp2_with fail
      refine (rgood_any _ hzb _).mono ?_
      rintro e w1 ⟨rfl, rfl⟩
      rw [unhide Hz]
      go_wp2_with fail
      refine (in_any _ _ _).mono ?_
      rintro e w1 ⟨rfl, rfl⟩
      rw [unhide Hs]
      go_wp2_with fail
      refine (in_any _ _ _).mono ?_
      rintro e w1 ⟨rfl, rfl⟩
      rw [unhide Hv]
      go_wp2_with fail
      go_ret
      exact ⟨ret_gd (unhide H).symm, (Below.refl _ _).alloc (Nat.le_refl _) _⟩
  cases hu : cntB t.w 0
  · have H := hide (gdE_range (unhide Ho) (num_no (.inr (.inr (.inr hu)))))
    have Hz := hide hz
    have Hs := hide hs
    have Hv := hide hv
    have Hu := hide hu
    clear hz hs hv hu
    · obtain ⟨z, o, s, p, d, v, u⟩ := t
      unfold txnV
      have hzd : (ByteArray.mk d.toArray).size = d.length := Lib.size_eq ⟨d.toArray⟩
      replace ho1 : 1 ≤ o := ho1
      replace ho2 : o ≤ 5 := ho2
      replace hd : d.length ≤ 140737488355328 := hd
      go_enter Tryz.func45, Tryz.ntmps45
      go_wp2_with fail
      refine (rgood_any _ hzb _).mono ?_
      rintro e w1 ⟨rfl, rfl⟩
      rw [unhide Hz]
      go_wp2_with fail
      refine (in_any _ _ _).mono ?_
      rintro e w1 ⟨rfl, rfl⟩
      rw [unhide Hs]
      go_wp2_with fail
      refine (in_any _ _ _).mono ?_
      rintro e w1 ⟨rfl, rfl⟩
      rw [unhide Hv]
      go_wp2_with fail
      refine (in_any _ _ _).mono ?_
      rintro e w1 ⟨rfl, rfl⟩
      rw [unhide Hu]
      go_wp2_with fail
      go_ret
      exact ⟨ret_gd (unhide H).symm, (Below.refl _ _).alloc (Nat.le_refl _) _⟩
  have HN := hide (numB_iff.2 ⟨hz, hs, hv, hu⟩)
  have Hz := hide hz
  have Hs := hide hs
  have Hv := hide hv
  have Hu := hide hu
  clear hz hs hv hu
  by_cases hl : 256 < t.d.length
  · have H := hide (gdE_long (unhide Ho) (unhide HN) hl)
    · obtain ⟨z, o, s, p, d, v, u⟩ := t
      unfold txnV
      replace hl : 256 < d.length := hl
      have hzd : (ByteArray.mk d.toArray).size = d.length := Lib.size_eq ⟨d.toArray⟩
      replace ho1 : 1 ≤ o := ho1
      replace ho2 : o ≤ 5 := ho2
      replace hd : d.length ≤ 140737488355328 := hd
      go_enter Tryz.func45, Tryz.ntmps45
      go_wp2_with fail
      refine (rgood_any _ hzb _).mono ?_
      rintro e w1 ⟨rfl, rfl⟩
      rw [unhide Hz]
      go_wp2_with fail
      refine (in_any _ _ _).mono ?_
      rintro e w1 ⟨rfl, rfl⟩
      rw [unhide Hs]
      go_wp2_with fail
      refine (in_any _ _ _).mono ?_
      rintro e w1 ⟨rfl, rfl⟩
      rw [unhide Hv]
      go_wp2_with fail
      refine (in_any _ _ _).mono ?_
      rintro e w1 ⟨rfl, rfl⟩
      rw [unhide Hu]
      go_wp2_with fail
      go_ret
      exact ⟨ret_gd (unhide H).symm, (Below.refl _ _).alloc (Nat.le_refl _) _⟩
  have hl' : t.d.length ≤ 256 := by omega
  obtain ⟨z, o, s, p, d, v, u⟩ := t
  rcases op_cases (unhide Ho) with h | h | h | h | h <;> (replace h : o = _ := h; subst h)
  · exact rgd_1 z s p d v u w hzb hl' (unhide HN)
  · exact rgd_2 z s p d v u w hzb hl' (unhide HN)
  · exact rgd_3 z s p d v u w hzb hp hl' (unhide HN)
  · exact rgd_4 z s p d v u w hzb hp hl' (unhide HN)
  · exact rgd_5 z s p d v u w hzb hp hl' (unhide HN)

end Go.Proofs.YtfejpbkapikdiaaGreatDoor
