/-
  Plain functions on lists of bytes that the contracts of package path speak of, and what holds of them; no program is named here.
  Locks, lines, barriers, as plain data: what a fence answers, where a node below another lies. No program is named here.
  recipe.Fence, and the document's own: the walks.
  recipe.Ask and recipe.below, and the document's own: the walks.
-/
import Derived.WalkKit
import Derived.Test.YtkgaoedlnejigaaRows
import Derived.WalkSpells
import Derived.WalkLawsBesides
import Derived.Lib.Strings
import Derived.Deep.RegionLaw
namespace Go.Proofs.Ytkgaoedlnejigaa
open Go.RowKit

theorem hide {p : Prop} (h : p) : Hid p := h
theorem unhide {p : Prop} (h : Hid p) : p := h

end Go.Proofs.Ytkgaoedlnejigaa

namespace Go.Proofs.Ytkgaoedlnejigaa
open Go.RowKit

/-- the greater one -/
def fenN (a b : Int) : Int := if a ≤ b then b else a
/-- the path of a step below a node -/
def belL (d m : List UInt8) : List UInt8 := if d = [47] then 47 :: m else d ++ 47 :: m
theorem belL_root (m : List UInt8) : belL [47] m = 47 :: m := by rw [belL, if_pos rfl]
theorem belL_other {d : List UInt8} (h : d ≠ [47]) (m : List UInt8) : belL d m = d ++ 47 :: m := by rw [belL, if_neg h]
theorem rcat (l m : List UInt8) : (ByteArray.mk l.toArray) ++ (ByteArray.mk m.toArray) = ⟨(l ++ m).toArray⟩ := by
  have h : ((ByteArray.mk l.toArray) ++ (ByteArray.mk m.toArray)).data.toList = l ++ m := by simp [ByteArray.data_append]
  exact congrArg (fun l : List UInt8 => ByteArray.mk l.toArray) h
theorem rret_str {a b : ByteArray} (h : a = b) : Ending.returned (.string a) = .returned (.string b) := by rw [h]
end Go.Proofs.Ytkgaoedlnejigaa

namespace Go.Proofs.Ytkgaoedlnejigaa
open Go.RowKit
set_option maxRecDepth 10000 in

set_option maxHeartbeats 400000 in
theorem fence_any (a b : Int) (w : World) :
    Calls Try.prog 4 #[.int .i64 a, .int .i64 b] w fun e w' => e = .returned (.tuple #[.int .i64 (fenN a b), .bool (decide (a ≤ b))]) ∧ w' = w := by
  unfold fenN
  go_enter Try.func4, Try.ntmps4
  go_wp2
  all_goals go_ret2
  all_goals first
    | exact ⟨rfl, rfl⟩
    | (obtain rfl : a = b := (by omega); exact ⟨rfl, rfl⟩)

set_option maxRecDepth 10000 in
set_option maxHeartbeats 400000 in
theorem rfence_any (a b : Int) (w : World) :
    Calls Try.prog 5 #[.int .i64 a, .int .i64 b] w fun e w' => e = .returned (.tuple #[.int .i64 (fenN a b), .bool (decide (a ≤ b))]) ∧ w' = w := by
  unfold fenN
  go_enter Try.func5, Try.ntmps5
  go_wp2
  all_goals go_ret2
  all_goals first
    | exact ⟨rfl, rfl⟩
    | (obtain rfl : a = b := (by omega); exact ⟨rfl, rfl⟩)

set_option maxRecDepth 10000 in
theorem locks_true (w : World) : Calls Try.prog 8 #[] w fun e w' => e = .returned (.bool true) ∧ w' = w := by
  go_enter Try.func8, Try.ntmps8
  go_wp2_with fail
  refine (fence_any _ _ _).mono ?_
  rintro e w1 ⟨rfl, rfl⟩
  rw [show fenN 5 6 = 6 from rfl]
  go_wp2_with fail
  go_ret
  exact ⟨rfl, rfl⟩

end Go.Proofs.Ytkgaoedlnejigaa

namespace Go.Proofs.Ytkgaoedlnejigaa
open Go.RowKit
set_option maxRecDepth 10000 in

set_option maxHeartbeats 400000 in
theorem below_any (d m : List UInt8) (w : World) (hd : d.length ≤ 140737488351232) (hm : m.length ≤ 140737488351232) :
    Calls Try.prog 9 #[.string ⟨d.toArray⟩, .string ⟨m.toArray⟩] w fun e w' => e = .returned (.string ⟨(belL d m).toArray⟩) ∧ w' = w := by
  have hz : (ByteArray.mk d.toArray).size = d.length := Lib.size_eq ⟨d.toArray⟩
  have hy : (ByteArray.mk m.toArray).size = m.length := Lib.size_eq ⟨m.toArray⟩
  by_cases h : d = [47]
  · subst h
    go_enter Try.func9, Try.ntmps9
    go_wp2
    go_ret
    exact ⟨rret_str (by rw [belL_root]; exact rcat [47] m), rfl⟩
  · have h1 : (d == [47]) = false := by simpa using h
    have Ho := hide (belL_other h m)
    clear h
    go_enter Try.func9, Try.ntmps9
    go_wp2
    go_ret
    exact ⟨rret_str (by rw [unhide Ho, show d ++ 47 :: m = (d ++ [47]) ++ m by simp, ← rcat, ← rcat]), rfl⟩

set_option maxRecDepth 10000 in
set_option maxHeartbeats 400000 in
theorem ask_any (s : Int) (d m : List UInt8) (w : World) (hd : d.length ≤ 140737488351232) (hm : m.length ≤ 140737488351232) :
    Calls Try.prog 6 #[.int .i64 s, .string ⟨d.toArray⟩, .string ⟨m.toArray⟩] w fun e w' => e = .returned (.agg #[.int .i64 3, .int .i64 s, .string ⟨(belL d m).toArray⟩, .string ⟨#[]⟩, .int .i64 (-1), .int .i64 3]) ∧ Below w.heap.size w w' := by
  go_enter Try.func6, Try.ntmps6
  go_wp2_with fail
  refine (below_any _ _ _ hd hm).mono ?_
  rintro e w1 ⟨rfl, rfl⟩
  go_wp2_with fail
  exact bodyPost_ret (v := .agg #[.int .i64 3, .int .i64 s, .string ⟨(belL d m).toArray⟩, .string ⟨#[]⟩, .int .i64 (-1), .int .i64 3]) (by simp [results, Try.results6, go_sem]) rfl ⟨rfl, (Below.refl _ w).alloc (Nat.le_refl _) _⟩

set_option maxRecDepth 10000 in
set_option maxHeartbeats 400000 in
theorem rask_any (s : Int) (d m : List UInt8) (w : World) (hd : d.length ≤ 140737488351232) (hm : m.length ≤ 140737488351232) :
    Calls Try.prog 7 #[.int .i64 s, .string ⟨d.toArray⟩, .string ⟨m.toArray⟩] w fun e w' => e = .returned (.agg #[.int .i64 3, .int .i64 s, .string ⟨(belL d m).toArray⟩, .string ⟨#[]⟩, .int .i64 (-1), .int .i64 3]) ∧ Below w.heap.size w w' := by
  have hz : (ByteArray.mk d.toArray).size = d.length := Lib.size_eq ⟨d.toArray⟩
  have hy : (ByteArray.mk m.toArray).size = m.length := Lib.size_eq ⟨m.toArray⟩
  by_cases h : d = [47]
  · subst h
    have Ho := hide (show (ByteArray.mk #[47]) ++ (ByteArray.mk m.toArray) = ⟨(belL [47] m).toArray⟩ by rw [belL_root]; exact rcat [47] m)
    go_enter Try.func7, Try.ntmps7
    go_wp2
    rw [unhide Ho]
    exact bodyPost_ret (v := .agg #[.int .i64 3, .int .i64 s, .string ⟨(belL [47] m).toArray⟩, .string ⟨#[]⟩, .int .i64 (-1), .int .i64 3]) (by simp [results, Try.results7, go_sem]) rfl ⟨rfl, (Below.refl _ w).alloc (Nat.le_refl _) _⟩
  · have h1 : (d == [47]) = false := by simpa using h
    have Ho := hide (show (ByteArray.mk d.toArray) ++ (ByteArray.mk #[47]) ++ (ByteArray.mk m.toArray) = ⟨(belL d m).toArray⟩ by rw [belL_other h, show d ++ 47 :: m = (d ++ [47]) ++ m by simp, ← rcat, ← rcat])
    clear h
    go_enter Try.func7, Try.ntmps7
    go_wp2
    rw [unhide Ho]
    exact bodyPost_ret (v := .agg #[.int .i64 3, .int .i64 s, .string ⟨(belL d m).toArray⟩, .string ⟨#[]⟩, .int .i64 (-1), .int .i64 3]) (by simp [results, Try.results7, go_sem]) rfl ⟨rfl, (Below.refl _ w).alloc (Nat.le_refl _) _⟩

set_option maxRecDepth 10000 in
set_option maxHeartbeats 1000000 in
theorem recipeAsks_walk (s : Int) (d m : List UInt8) (a b : Int) (w : World) (hd : d.length ≤ 140737488351232) (hm : m.length ≤ 140737488351232) :
    Calls Try.prog 3 #[.int .i64 s, .string ⟨d.toArray⟩, .string ⟨m.toArray⟩, .int .i64 a, .int .i64 b] w fun e w' => e = .returned (.bool true) ∧ Below w.heap.size w w' := by
  have CA := hide (fun W => ask_any s d m W hd hm)
  have CR := hide (fun W => rask_any s d m W hd hm)
  clear hd hm
  generalize belL d m = P at CA CR
  go_enter Try.func3, Try.ntmps3
  go_wp2_with fail
  refine (fence_any _ _ _).mono ?_
  rintro e w1 ⟨rfl, rfl⟩
  obtain ⟨F, hF⟩ : ∃ F, fenN a b = F := ⟨_, rfl⟩
  obtain ⟨G, hG⟩ : ∃ G, decide (a ≤ b) = G := ⟨_, rfl⟩
  have CF := hide (fun W => rfence_any a b W)
  rw [hF, hG] at CF
  rw [hF, hG]
  clear hF hG
  go_wp2_with fail
  refine (unhide CF _).mono ?_
  rintro e w2 ⟨rfl, rfl⟩
  go_wp2_with fail
  refine (unhide CA _).mono ?_
  rintro e w3 ⟨rfl, hb3⟩
  go_wp2_with fail
  refine (unhide CR _).mono ?_
  rintro e w4 ⟨rfl, hb4⟩
  go_wp2_with fail
  refine (locks_true _).mono ?_
  rintro e w5 ⟨rfl, rfl⟩
  go_wp2_with fail
  go_ret
  exact ⟨rfl, hb3.trans (hb4.mono hb3.size)⟩
end Go.Proofs.Ytkgaoedlnejigaa
