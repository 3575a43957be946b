/-
  PathApart and PathJoined: the laws' walks out of the contracts of Split, Join, Depth, Under, Good and Named.
-/
import Derived.Test.YtbhkhchkjckdjaaDoorDepth
namespace Go.Proofs.YtbhkhchkjckdjaaDoor
open Go.RowKit Go.Shelf

theorem list_eq (l : List UInt8) : ((ByteArray.mk l.toArray).data.toList) = l := rfl

set_option maxHeartbeats 1000000 in
theorem pathApart_walk (l : List UInt8) (w : World) :
    Calls Tryd.prog 8 #[.string ⟨l.toArray⟩] w fun e w' => e = .returned (.bool true) ∧ Below w.heap.size w w' := by
  by_cases hroot : l = [47]
  · subst hroot
    go_enter Tryd.func8, Tryd.ntmps8
    go_wp2_with fail
    refine (split_root _).mono ?_
    rintro e w1 ⟨rfl, hb1⟩
    go_wp2_with fail
    refine (good_any _ _).mono ?_
    rintro e w2 ⟨rfl, hb2⟩
    replace hb2 := below_next hb1 hb2
    clear hb1
    rw [show (ByteArray.mk #[47]).data.toList = [47] from rfl, goodB_root]
    go_wp2_with fail
    refine (joins_true _).mono ?_
    rintro e w3 ⟨rfl, hb3⟩
    replace hb3 := below_next hb2 hb3
    clear hb2
    go_wp2_with fail
    go_ret
    exact ⟨rfl, hb3⟩
  have hr1 : (l == [47]) = false := by simpa using hroot
  cases hg : goodB l
  · have Hg := hide hg
    clear hg hroot
    go_enter Tryd.func8, Tryd.ntmps8
    go_wp2_with fail
    refine (split_bad l _ (unhide Hg)).mono ?_
    rintro e w1 ⟨rfl, hb1⟩
    go_wp2_with fail
    refine (good_any _ _).mono ?_
    rintro e w2 ⟨rfl, hb2⟩
    replace hb2 := below_next hb1 hb2
    clear hb1
    rw [list_eq, unhide Hg]
    go_wp2_with fail
    refine (joins_true _).mono ?_
    rintro e w3 ⟨rfl, hb3⟩
    replace hb3 := below_next hb2 hb3
    clear hb2
    go_wp2_with fail
    go_ret
    exact ⟨rfl, hb3⟩
  · obtain ⟨a, b, rfl, hb, hnb, hgd, hj, _⟩ := good_parts hg hroot
    obtain ⟨hs, he⟩ := join_fits (d := dirL a) (m := b) (by rw [hgd, hnb]; rfl) (by rw [hj]; exact goodB_le hg)
    rw [hj] at hs
    have Hs := hide hs
    have He := hide he
    have Hg := hide hg
    have Hb := hide hb
    have Hn := hide hnb
    have Hd := hide hgd
    have Hne := hide hroot
    have hbl := (namedB_le hnb).2
    clear hs he hg hb hnb hgd hroot hj
    go_enter Tryd.func8, Tryd.ntmps8
    go_wp2_with fail
    refine (split_main a b _ (unhide Hb) (unhide Hg) (unhide Hne)).mono ?_
    rintro e w1 ⟨rfl, hb1⟩
    go_wp2_with fail
    refine (joins_true _).mono ?_
    rintro e w2 ⟨rfl, hb2⟩
    replace hb2 := below_next hb1 hb2
    clear hb1
    go_wp2_with fail
    refine (join_any (dirL a) b _ (by omega)).mono ?_
    rintro e w3 ⟨rfl, hb3⟩
    replace hb3 := below_next hb2 hb3
    clear hb2
    rw [unhide Hs, unhide He]
    go_wp2_with fail
    refine (good_any _ _).mono ?_
    rintro e w4 ⟨rfl, hb4⟩
    replace hb4 := below_next hb3 hb4
    clear hb3
    rw [list_eq, unhide Hd]
    go_wp2_with fail
    refine (named_any _ _ (size_le_maxLen (by omega))).mono ?_
    rintro e w5 ⟨rfl, rfl⟩
    rw [list_eq, unhide Hn]
    go_wp2_with fail
    go_ret
    exact ⟨rfl, hb4⟩

set_option maxHeartbeats 1000000 in
theorem pathJoined_walk (d m : List UInt8) (w : World) (hml : m.length ≤ 140737488355328) :
    Calls Tryd.prog 7 #[.string ⟨d.toArray⟩, .string ⟨m.toArray⟩] w fun e w' => e = .returned (.bool true) ∧ Below w.heap.size w w' := by
  by_cases hE : joinE d m = 0
  · have hdn : (goodB d && namedB m) = true := by
      cases h : (goodB d && namedB m)
      · rw [(join_bad h).2] at hE; exact absurd hE (by decide)
      · rfl
    have hfit : (openL d ++ m).length ≤ 200 := by
      apply Nat.le_of_not_lt
      intro h
      rw [(join_long hdn h).2] at hE; exact absurd hE (by decide)
    obtain ⟨hs, he⟩ := join_fits hdn hfit
    rw [Bool.and_eq_true] at hdn
    obtain ⟨hd, hn⟩ := hdn
    obtain ⟨a, e1, hno, hdir, hgs, hne, hst⟩ := join_parts hd hn hfit
    have hu : underB (openL d ++ m) d = true := underB_mk hgs hd (by
      intro e
      have h1 := congrArg List.length hst
      rw [e] at h1
      simp at h1) (List.prefix_append _ _)
    have hu' := underB_back hu
    have hcnt := stepsL_count d
    have hdl := goodB_le hd
    have hlen : ((stepsL (openL d ++ m)).length : Int) = (stepsL d).length + 1 := by rw [hst]; simp
    generalize openL d ++ m = s at *
    have Hs := hide hs
    have He := hide he
    have Hno := hide hno
    have Hgs := hide hgs
    have Hne := hide hne
    have Hd := hide hd
    have Hn := hide hn
    have Hu := hide hu
    have Hu' := hide hu'
    have Hl := hide hlen
    have Hdir := hide hdir
    have E1 := hide e1
    clear hs he hno hgs hne hd hn hu hu' hE hfit hst hlen hdir e1
    generalize hk : (stepsL d).length = k at *
    have Hk := hide hk
    clear hk
    go_enter Tryd.func7, Tryd.ntmps7
    go_wp2_with fail
    refine (join_any d m _ hml).mono ?_
    rintro e w1 ⟨rfl, hb1⟩
    rw [unhide Hs, unhide He]
    go_wp2_with fail
    refine (joins_true _).mono ?_
    rintro e w2 ⟨rfl, hb2⟩
    replace hb2 := below_next hb1 hb2
    clear hb1
    go_wp2_with fail
    have c1 : ∀ W, Calls Tryd.prog 13 #[.string ⟨s.toArray⟩] W fun e w' => e = .returned (.tuple #[.string ⟨d.toArray⟩, .string ⟨m.toArray⟩, .int .i64 0]) ∧ Below W.heap.size W w' := by
      intro W
      have h := split_main a m W (unhide Hno) (by rw [← unhide E1]; exact unhide Hgs) (by rw [← unhide E1]; exact unhide Hne)
      rw [← unhide E1, unhide Hdir] at h
      exact h
    refine (c1 _).mono ?_
    clear c1
    rintro e w3 ⟨rfl, hb3⟩
    replace hb3 := below_next hb2 hb3
    clear hb2
    go_wp2_with fail
    refine (depth_good s _ (unhide Hgs)).mono ?_
    rintro e w4 ⟨rfl, hb4⟩
    replace hb4 := below_next hb3 hb4
    clear hb3
    rw [unhide Hl]
    go_wp2_with fail
    refine (depth_good d _ (unhide Hd)).mono ?_
    rintro e w5 ⟨rfl, hb5⟩
    replace hb5 := below_next hb4 hb5
    clear hb4
    rw [unhide Hk]
    go_wp2_with fail
    refine (under_any s d _).mono ?_
    rintro e w6 ⟨rfl, hb6⟩
    replace hb6 := below_next hb5 hb6
    clear hb5
    rw [unhide Hu]
    go_wp2_with fail
    refine (under_any d s _).mono ?_
    rintro e w7 ⟨rfl, hb7⟩
    replace hb7 := below_next hb6 hb7
    clear hb6
    rw [unhide Hu']
    go_wp2_with fail
    refine (good_any _ _).mono ?_
    rintro e w8 ⟨rfl, hb8⟩
    replace hb8 := below_next hb7 hb8
    clear hb7
    rw [list_eq, unhide Hgs]
    go_wp2_with fail
    go_ret
    exact ⟨rfl, hb8⟩
  · have hs : joinS d m = [] := by
      cases h : (goodB d && namedB m)
      · exact (join_bad h).1
      · by_cases h1 : 200 < (openL d ++ m).length
        · exact (join_long h h1).1
        · exact absurd (join_fits h (by omega)).2 hE
    have Hs := hide hs
    have hE1 : (joinE d m == 0) = false := beq_eq_false_iff_ne.2 hE
    clear hs hE
    generalize hEe : joinE d m = E at hE1
    have HE := hide hEe
    clear hEe
    have hE2 : (E != 0) = true := by rw [bne, hE1]; rfl
    clear hE1
    go_enter Tryd.func7, Tryd.ntmps7
    go_wp2_with fail
    refine (join_any d m _ hml).mono ?_
    rintro e w1 ⟨rfl, hb1⟩
    rw [unhide Hs, unhide HE]
    go_wp2_with fail
    refine (joins_true _).mono ?_
    rintro e w2 ⟨rfl, hb2⟩
    replace hb2 := below_next hb1 hb2
    clear hb1
    go_wp2_with fail
    go_ret
    exact ⟨rfl, hb2⟩

end Go.Proofs.YtbhkhchkjckdjaaDoor
