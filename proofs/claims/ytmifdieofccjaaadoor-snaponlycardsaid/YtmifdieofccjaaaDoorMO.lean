/-
  SnapOnly: the walk.
-/
import Derived.Test.YtmifdieofccjaaaDoorMN
namespace Go.Proofs.YtmifdieofccjaaaDoor
open Go.RowKit

set_option maxRecDepth 20000 in
set_option maxHeartbeats 4000000 in
theorem snapOnly_walk (s : List UInt8) (w : World) (hs : s.length ≤ 140737488355328) :
    Calls Tryd.prog 6 #[.string ⟨s.toArray⟩] w fun e w' => e = .returned (.bool true) ∧ Below w.heap.size w w' := by
  have CR := hide (fun W => sread_any s W hs)
  unfold ReadG at CR
  by_cases h0 : rdE s = 0
  · obtain ⟨g, he⟩ := rd_only h0
    rw [h0] at CR
    obtain ⟨T, hT⟩ : ∃ T, rdT s = T := ⟨_, rfl⟩
    rw [hT] at CR g he
    have CW := hide (fun (W : World) (vn vs : Value) (hn : SeqV W vn T.ns) (hs : SeqV W vs T.ss) => swrite_any T vn vs W hn hs (wf_good g))
    rw [(wr_good g).1, (wr_good g).2, he] at CW
    have CG := hide (fun (W : World) (vn vs : Value) (hn : SeqV W vn T.ns) (hs : SeqV W vs T.ss) => tgood_any T vn vs W hn hs (wf_good g))
    rw [goodT_true.2 g] at CG
    clear g he hT h0
    go_enter Tryd.func6, Tryd.ntmps6
    go_wp2_with fail
    refine (unhide CR _).mono ?_
    rintro e w1 ⟨vn1, vs1, rfl, n1, s1, hb1⟩
    obtain ⟨an, cn, rfl, _⟩ := n1.slice
    obtain ⟨ai, ci, rfl, _⟩ := s1.slice
    obtain ⟨o, ho⟩ : ∃ o : Obj, o = .cells #[.int .i64 T.z, .slice an T.ns.length cn, .slice ai T.ss.length ci] 25 := ⟨_, rfl⟩
    have N1 := hide (n1.seq.next (allocB w1 o))
    have S1 := hide (s1.seq.next (allocB w1 o))
    have B1 := hide (nnext hb1 (allocB w1 o))
    have T1 := hide (heap_alloc_new w1 o)
    rw [ho] at N1 S1 B1 T1
    clear n1 s1 hb1 CR ho
    go_wp2_with fail
    refine (snaps_true _).mono ?_
    rintro e w3 ⟨rfl, hb3⟩
    have B3 := hide (nnext (unhide B1) hb3)
    have N3 := hide ((unhide N1).next hb3)
    have S3 := hide ((unhide S1).next hb3)
    have T3 := hide ((hb3.block _ (by simp)).trans (unhide T1))
    have d0 : w3.cell? ⟨w1.heap.size, 0, none⟩ = some (.int .i64 T.z) := by have h := unhide T3; simp [World.cell?, h]
    have d1 : w3.cell? ⟨w1.heap.size, 1, none⟩ = some (.slice an T.ns.length cn) := by have h := unhide T3; simp [World.cell?, h]
    have d2 : w3.cell? ⟨w1.heap.size, 2, none⟩ = some (.slice ai T.ss.length ci) := by have h := unhide T3; simp [World.cell?, h]
    clear hb3 B1 T1 N1 S1
    go_wp2_with fail
    refine (unhide CW _ _ _ (unhide N3) (unhide S3)).mono ?_
    rintro e w4 ⟨rfl, hb4⟩
    have B4 := hide (nnext (unhide B3) hb4)
    have N4 := hide ((unhide N3).next hb4)
    have S4 := hide ((unhide S3).next hb4)
    have T4 := hide ((hb4.block _ (Array.getElem?_eq_some_iff.1 (unhide T3)).1).trans (unhide T3))
    have e0 : w4.cell? ⟨w1.heap.size, 0, none⟩ = some (.int .i64 T.z) := by have h := unhide T4; simp [World.cell?, h]
    have e1 : w4.cell? ⟨w1.heap.size, 1, none⟩ = some (.slice an T.ns.length cn) := by have h := unhide T4; simp [World.cell?, h]
    have e2 : w4.cell? ⟨w1.heap.size, 2, none⟩ = some (.slice ai T.ss.length ci) := by have h := unhide T4; simp [World.cell?, h]
    clear hb4 B3 T3 N3 S3 d0 d1 d2 CW
    go_wp2_with fail
    refine (unhide CG _ _ _ (unhide N4) (unhide S4)).mono ?_
    rintro e w5 ⟨rfl, hb5⟩
    have B5 := hide (nnext (unhide B4) hb5)
    clear hb5
    go_wp2_with fail
    go_ret
    exact ⟨rfl, unhide B5⟩
  · rw [rd_none h0] at CR
    have hEb : (rdE s != 0) = true := by simpa using h0
    obtain ⟨E, hE⟩ : ∃ E, rdE s = E := ⟨_, rfl⟩
    rw [hE] at CR hEb
    clear hE h0
    go_enter Tryd.func6, Tryd.ntmps6
    go_wp2_with fail
    refine (unhide CR _).mono ?_
    rintro e w1 ⟨vn1, vs1, rfl, n1, s1, hb1⟩
    obtain ⟨an, cn, rfl, _⟩ := n1.slice
    obtain ⟨ai, ci, rfl, _⟩ := s1.slice
    have B1 := hide (nnext hb1 (allocB w1 (.cells #[.int .i64 0, .slice an 0 cn, .slice ai 0 ci] 25)))
    have z1 : tr0.ns.length = 0 := rfl
    have z2 : tr0.ss.length = 0 := rfl
    have z3 : tr0.z = 0 := rfl
    rw [z1, z2, z3]
    clear n1 s1 hb1 CR
    go_wp2_with fail
    refine (snaps_true _).mono ?_
    rintro e w3 ⟨rfl, hb3⟩
    have B3 := hide (nnext (unhide B1) hb3)
    clear hb3 B1
    go_wp2_with fail
    go_ret
    exact ⟨rfl, unhide B3⟩
end Go.Proofs.YtmifdieofccjaaaDoor
