/-
  PathSplits and PathUnders: the laws' walks out of the contracts of Split, Depth and Under, the program's and the document's own.
-/
import Derived.Test.YtbhkhchkjckdjaaDoorRefDepth
namespace Go.Proofs.YtbhkhchkjckdjaaDoor
open Go.RowKit

theorem split_ab (W : World) : Calls Tryd.prog 13 #[.string ⟨#[47, 97, 47, 98]⟩] W fun e w' => e = .returned (.tuple #[.string ⟨#[47, 97]⟩, .string ⟨#[98]⟩, .int .i64 0]) ∧ Below W.heap.size W w' := by
  have h := split_main [47, 97] [98] W (by decide) (by decide +kernel) (by decide)
  rw [show dirL [47, 97] = [47, 97] from by decide] at h
  exact h
theorem under_a (W : World) : Calls Tryd.prog 21 #[.string ⟨#[47, 97]⟩, .string ⟨#[47]⟩] W fun e w' => e = .returned (.bool true) ∧ Below W.heap.size W w' := by
  have h := under_any [47, 97] [47] W
  rw [show underB [47, 97] [47] = true from by decide +kernel] at h
  exact h

set_option maxHeartbeats 1000000 in
/-- the law, where both Splits and both Depths answer alike -/
theorem splits_same (l A B : List UInt8) (E n F : Int) (w : World)
    (h1 : ∀ W, Calls Tryd.prog 13 #[.string ⟨l.toArray⟩] W fun e w' => e = .returned (.tuple #[.string ⟨A.toArray⟩, .string ⟨B.toArray⟩, .int .i64 E]) ∧ Below W.heap.size W w')
    (h2 : ∀ W, Calls Tryd.prog 14 #[.string ⟨l.toArray⟩] W fun e w' => e = .returned (.tuple #[.string ⟨A.toArray⟩, .string ⟨B.toArray⟩, .int .i64 E]) ∧ Below W.heap.size W w')
    (h3 : ∀ W, Calls Tryd.prog 15 #[.string ⟨l.toArray⟩] W fun e w' => e = .returned (.tuple #[.int .i64 n, .int .i64 F]) ∧ Below W.heap.size W w')
    (h4 : ∀ W, Calls Tryd.prog 16 #[.string ⟨l.toArray⟩] W fun e w' => e = .returned (.tuple #[.int .i64 n, .int .i64 F]) ∧ Below W.heap.size W w') :
    Calls Tryd.prog 4 #[.string ⟨l.toArray⟩] w fun e w' => e = .returned (.bool true) ∧ Below w.heap.size w w' := by
  have H1 := hide h1
  have H2 := hide h2
  have H3 := hide h3
  have H4 := hide h4
  clear h1 h2 h3 h4
  go_enter Tryd.func4, Tryd.ntmps4
  go_wp2_with fail
  refine (unhide H1 _).mono ?_
  rintro e w1 ⟨rfl, hb1⟩
  go_wp2_with fail
  refine (unhide H2 _).mono ?_
  rintro e w2 ⟨rfl, hb2⟩
  replace hb2 := below_next hb1 hb2
  clear hb1
  go_wp2_with fail
  refine (unhide H3 _).mono ?_
  rintro e w3 ⟨rfl, hb3⟩
  replace hb3 := below_next hb2 hb3
  clear hb2
  go_wp2_with fail
  refine (unhide H4 _).mono ?_
  rintro e w4 ⟨rfl, hb4⟩
  replace hb4 := below_next hb3 hb4
  clear hb3
  go_wp2_with fail
  refine (split_ab _).mono ?_
  rintro e w5 ⟨rfl, hb5⟩
  replace hb5 := below_next hb4 hb5
  clear hb4 H1 H2 H3 H4
  go_wp2_with fail
  go_ret
  exact ⟨rfl, hb5⟩

theorem pathSplits_walk (l : List UInt8) (w : World) (hl : l.length ≤ 1048576) :
    Calls Tryd.prog 4 #[.string ⟨l.toArray⟩] w fun e w' => e = .returned (.bool true) ∧ Below w.heap.size w w' := by
  cases hg : goodB l
  · exact splits_same l [] [] 2 0 2 w (fun W => split_bad l W hg) (fun W => refSplit_bad l W hl hg) (fun W => depth_bad l W hg) (fun W => refDepth_bad l W hl hg)
  · by_cases hr : l = [47]
    · subst hr
      exact splits_same [47] [] [] 7 (stepsL [47]).length 0 w (fun W => split_root W) (fun W => refSplit_root W) (fun W => depth_good [47] W hg) (fun W => refDepth_good [47] W hg)
    · obtain ⟨a, b, rfl, hb, _, _, _, _⟩ := good_parts hg hr
      exact splits_same _ (dirL a) b 0 (stepsL (a ++ 47 :: b)).length 0 w (fun W => split_main a b W hb hg hr) (fun W => refSplit_main a b W hb hg hr) (fun W => depth_good _ W hg) (fun W => refDepth_good _ W hg)

set_option maxHeartbeats 1000000 in
theorem pathUnders_walk (l top : List UInt8) (w : World) (hl : l.length ≤ 1048576) (ht : top.length ≤ 1048576) :
    Calls Tryd.prog 6 #[.string ⟨l.toArray⟩, .string ⟨top.toArray⟩] w fun e w' => e = .returned (.bool true) ∧ Below w.heap.size w w' := by
  generalize hu : underB l top = u
  have Hu := hide hu
  clear hu
  go_enter Tryd.func6, Tryd.ntmps6
  go_wp2_with fail
  refine (under_any l top _).mono ?_
  rintro e w1 ⟨rfl, hb1⟩
  rw [unhide Hu]
  go_wp2_with fail
  refine (refUnder_any l top _ hl ht).mono ?_
  rintro e w2 ⟨rfl, hb2⟩
  replace hb2 := below_next hb1 hb2
  clear hb1
  rw [unhide Hu]
  go_wp2_with fail
  refine (under_a _).mono ?_
  rintro e w3 ⟨rfl, hb3⟩
  replace hb3 := below_next hb2 hb3
  clear hb2
  go_wp2_with fail
  go_ret
  exact ⟨rfl, hb3⟩

end Go.Proofs.YtbhkhchkjckdjaaDoor
