/-
  SnapReads: the walk.
-/
import Derived.Test.YtmifdieofccjaaaDoorMU
import Derived.Test.YtmifdieofccjaaaDoorMS
import Derived.Test.YtmifdieofccjaaaDoorMN
namespace Go.Proofs.YtmifdieofccjaaaDoor
open Go.RowKit

theorem rd_short (s : List UInt8) : (rdT s).ns.length ≤ 140737488355328 ∧ (rdT s).ss.length ≤ 140737488355328 := by
  by_cases h : rdE s = 0
  · obtain ⟨g, _⟩ := rd_only h
    exact ⟨by have := g.nod.few; omega, by have := sasc_len g.ses; omega⟩
  · rw [rd_none h]
    exact ⟨by decide, by decide⟩

set_option maxRecDepth 20000 in
set_option maxHeartbeats 4000000 in
theorem snapReads_walk (s : List UInt8) (w : World) (hs : s.length ≤ 140737488355328) :
    Calls Tryd.prog 4 #[.string ⟨s.toArray⟩] w fun e w' => e = .returned (.bool true) ∧ Below w.heap.size w w' := by
  have C1 := hide (fun W => sread_any s W hs)
  have C2 := hide (fun W => rread_any s W hs)
  have C3 := hide (fun (W : World) (vn vs : Value) (hn : SeqV W vn trNew.ns) (hs : SeqV W vs trNew.ss) => rwrite_good trNew vn vs W hn hs good_trNew)
  have C4 := hide (fun W => sread_any (snapL trNew) W (by rw [snap_new]; decide))
  have CS := hide (fun (vn vs un us : Value) W (hn : SeqV W vn (rdT s).ns) (hs : SeqV W vs (rdT s).ss) (gn : SeqV W un (rdT s).ns) (gs : SeqV W us (rdT s).ss) => rsameT_any (rdT s) vn vs un us W hn hs gn gs (rd_short s).1 (rd_short s).2)
  unfold ReadG at C1 C2 C4
  rw [(rd_back good_trNew).1, (rd_back good_trNew).2] at C4
  obtain ⟨T, hT⟩ : ∃ T, rdT s = T := ⟨_, rfl⟩
  obtain ⟨E, hE⟩ : ∃ T, rdE s = T := ⟨_, rfl⟩
  obtain ⟨O, hO⟩ : ∃ T, snapL trNew = T := ⟨_, rfl⟩
  rw [hT, hE] at C1 C2
  rw [hT] at CS
  rw [hO] at C3 C4
  clear hT hE hO
  go_enter Tryd.func4, Tryd.ntmps4
  go_wp2_with fail
  refine (unhide C1 _).mono ?_
  rintro e w1 ⟨vn1, vs1, rfl, n1, s1, hb1⟩
  obtain ⟨an, cn, rfl, _⟩ := n1.slice
  obtain ⟨ai, ci, rfl, _⟩ := s1.slice
  have A1 := hide (n1.seq.next (allocB w1 (.cells #[.int .i64 T.z, .slice an T.ns.length cn, .slice ai T.ss.length ci] 25)))
  have A2 := hide (s1.seq.next (allocB w1 (.cells #[.int .i64 T.z, .slice an T.ns.length cn, .slice ai T.ss.length ci] 25)))
  have B1 := hide (nnext hb1 (allocB w1 (.cells #[.int .i64 T.z, .slice an T.ns.length cn, .slice ai T.ss.length ci] 25)))
  have T1 := hide (heap_alloc_new w1 (.cells #[.int .i64 T.z, .slice an T.ns.length cn, .slice ai T.ss.length ci] 25))
  clear n1 s1 hb1 C1
  go_wp2_with fail
  refine (unhide C2 _).mono ?_
  rintro e w2 ⟨vn2, vs2, rfl, n2, s2, hb2⟩
  obtain ⟨bn, dn, rfl, _⟩ := n2.slice
  obtain ⟨bi, di, rfl, _⟩ := s2.slice
  have P2 := hide (nnext hb2 (allocB w2 (.cells #[.int .i64 T.z, .slice bn T.ns.length dn, .slice bi T.ss.length di] 25)))
  have D1 := hide (n2.seq.next (allocB w2 (.cells #[.int .i64 T.z, .slice bn T.ns.length dn, .slice bi T.ss.length di] 25)))
  have D2 := hide (s2.seq.next (allocB w2 (.cells #[.int .i64 T.z, .slice bn T.ns.length dn, .slice bi T.ss.length di] 25)))
  have A3 := hide ((unhide A1).next (unhide P2))
  have A4 := hide ((unhide A2).next (unhide P2))
  have B2 := hide (nnext (unhide B1) (unhide P2))
  have T2 := hide (((unhide P2).block _ (Array.getElem?_eq_some_iff.1 (unhide T1)).1).trans (unhide T1))
  have T3 := hide (heap_alloc_new w2 (.cells #[.int .i64 T.z, .slice bn T.ns.length dn, .slice bi T.ss.length di] 25))
  clear n2 s2 hb2 C2 A1 A2 B1 T1 P2
  go_wp2_with fail
  refine (rnew_any _).mono ?_
  rintro e w3 ⟨vn3, vs3, rfl, n3, s3, hb3⟩
  have N3 := hide n3.seq
  have S3 := hide s3.seq
  have A5 := hide ((unhide A3).next hb3)
  have A6 := hide ((unhide A4).next hb3)
  have D3 := hide ((unhide D1).next hb3)
  have D4 := hide ((unhide D2).next hb3)
  have B3 := hide (nnext (unhide B2) hb3)
  have T4 := hide ((hb3.block _ (Array.getElem?_eq_some_iff.1 (unhide T2)).1).trans (unhide T2))
  have T5 := hide ((hb3.block _ (Array.getElem?_eq_some_iff.1 (unhide T3)).1).trans (unhide T3))
  clear n3 s3 hb3 A3 A4 D1 D2 B2 T2 T3
  go_wp2_with fail
  refine (unhide C3 _ _ _ (unhide N3) (unhide S3)).mono ?_
  rintro e w4 ⟨rfl, hb4⟩
  have A7 := hide ((unhide A5).next hb4)
  have A8 := hide ((unhide A6).next hb4)
  have D5 := hide ((unhide D3).next hb4)
  have D6 := hide ((unhide D4).next hb4)
  have B4 := hide (nnext (unhide B3) hb4)
  have T6 := hide ((hb4.block _ (Array.getElem?_eq_some_iff.1 (unhide T4)).1).trans (unhide T4))
  have T7 := hide ((hb4.block _ (Array.getElem?_eq_some_iff.1 (unhide T5)).1).trans (unhide T5))
  clear hb4 A5 A6 D3 D4 B3 T4 T5 N3 S3 C3
  go_wp2_with fail
  refine (unhide C4 _).mono ?_
  rintro e w5 ⟨vn5, vs5, rfl, n5, s5, hb5⟩
  obtain ⟨en, fn, rfl, _⟩ := n5.slice
  obtain ⟨ei, fi, rfl, _⟩ := s5.slice
  have P5 := hide (nnext hb5 (allocB w5 (.cells #[.int .i64 trNew.z, .slice en trNew.ns.length fn, .slice ei trNew.ss.length fi] 25)))
  have A9 := hide ((unhide A7).next (unhide P5))
  have Aa := hide ((unhide A8).next (unhide P5))
  have D7 := hide ((unhide D5).next (unhide P5))
  have D8 := hide ((unhide D6).next (unhide P5))
  have B5 := hide (nnext (unhide B4) (unhide P5))
  have T8 := hide (((unhide P5).block _ (Array.getElem?_eq_some_iff.1 (unhide T6)).1).trans (unhide T6))
  have T9 := hide (((unhide P5).block _ (Array.getElem?_eq_some_iff.1 (unhide T7)).1).trans (unhide T7))
  obtain ⟨w6, hw6⟩ : ∃ w6, w5.alloc (.cells #[.int .i64 trNew.z, .slice en trNew.ns.length fn, .slice ei trNew.ss.length fi] 25) = w6 := ⟨_, rfl⟩
  have Ta := hide (heap_alloc_new w5 (.cells #[.int .i64 trNew.z, .slice en trNew.ns.length fn, .slice ei trNew.ss.length fi] 25))
  rw [hw6] at A9 Aa D7 D8 B5 T8 T9 Ta
  clear n5 s5 hb5 A7 A8 D5 D6 B4 T6 T7 P5 C4
  go_upto_region 5 with fail
  have d0 : w6.cell? ⟨w1.heap.size, 0, none⟩ = some (.int .i64 T.z) := by have h := unhide T8; simp [World.cell?, h]
  have d1 : w6.cell? ⟨w1.heap.size, 1, none⟩ = some (.slice an T.ns.length cn) := by have h := unhide T8; simp [World.cell?, h]
  have d2 : w6.cell? ⟨w1.heap.size, 2, none⟩ = some (.slice ai T.ss.length ci) := by have h := unhide T8; simp [World.cell?, h]
  have e0 : w6.cell? ⟨w2.heap.size, 0, none⟩ = some (.int .i64 T.z) := by have h := unhide T9; simp [World.cell?, h]
  have e1 : w6.cell? ⟨w2.heap.size, 1, none⟩ = some (.slice bn T.ns.length dn) := by have h := unhide T9; simp [World.cell?, h]
  have e2 : w6.cell? ⟨w2.heap.size, 2, none⟩ = some (.slice bi T.ss.length di) := by have h := unhide T9; simp [World.cell?, h]
  have f1 : w6.cell? ⟨w5.heap.size, 1, none⟩ = some (.slice en 1 fn) := by have h := unhide Ta; simp [World.cell?, h, trNew]
  have hl6 := (Array.getElem?_eq_some_iff.1 (unhide Ta)).1
  clear hw6 T8 T9 Ta
  go_wp2_with fail
  refine (unhide CS _ _ _ _ _ (unhide A9) (unhide Aa) (unhide D7) (unhide D8)).mono ?_
  rintro e w7 ⟨rfl, hb7⟩
  have B7 := hide (nnext (unhide B5) hb7)
  have g1 : w7.cell? ⟨w5.heap.size, 1, none⟩ = some (.slice en 1 fn) := (hb7.cell (p := ⟨w5.heap.size, 1, none⟩) hl6).trans f1
  clear hb7 CS d0 d1 d2 e0 e1 e2 f1
  go_wp2_with fail
  go_ret
  exact ⟨rfl, unhide B7⟩
end Go.Proofs.YtmifdieofccjaaaDoor
