/-
  aviarylaw.DiskTurns returns true: the walk.
-/
import Derived.Test.YtbadhnmljlmefaaDRefE
namespace Go.Proofs.Ytbadhnmljlmefaa
open Go.RowKit

set_option maxRecDepth 10000 in
set_option maxHeartbeats 2000000 in
theorem diskTurns_walk (v : Value) (fs : List DF) (name : List UInt8) (n0 : Int) (w : World) (hv : DiskV w v fs) (hs : Slim fs) (hfl : fs.length * 48 ≤ 140737488355328) :
    Calls Try.prog 4 #[.agg #[v], .string ⟨name.toArray⟩, .int .i64 n0] w fun e w' => e = .returned (.bool true) ∧ Below w.heap.size w w' := by
  have CY := fun W (hW : Below w.heap.size w W) => rcopy_any v fs W (hv.next hW) hfl
  obtain ⟨E1, d1, hd1, S1, S2⟩ := both_sync fs name hs (by omega)
  obtain ⟨E2, d2, hd2, U1, U2⟩ := both_cut fs name n0 hs (by omega)
  obtain ⟨E3, d3, hd3, R1, R2⟩ := both_remove fs name hs (by omega)
  have S2' := fun W (hW : Below w.heap.size w W) => S2 v W (hv.next hW)
  have U2' := fun W (hW : Below w.heap.size w W) => U2 v W (hv.next hW)
  have R2' := fun W (hW : Below w.heap.size w W) => R2 v W (hv.next hW)
  have CE1 := fun v1 v2 W (h : DiskV W v1 d1) (h' : DiskV W v2 d1) => rsame_any v1 v2 d1 W hd1 h h'
  have CE2 := fun v1 v2 W (h : DiskV W v1 d2) (h' : DiskV W v2 d2) => rsame_any v1 v2 d2 W hd2 h h'
  have CE3 := fun v1 v2 W (h : DiskV W v1 d3) (h' : DiskV W v2 d3) => rsame_any v1 v2 d3 W hd3 h h'
  obtain ⟨a, n, c, rfl⟩ := disk_slice hv
  have HS1 := hide S1
  have HS2 := hide S2'
  have HU1 := hide U1
  have HU2 := hide U2'
  have HR1 := hide R1
  have HR2 := hide R2'
  have HE1 := hide CE1
  have HE2 := hide CE2
  have HE3 := hide CE3
  have HCY := hide CY
  clear hv hs S1 S2 S2' U1 U2 U2' R1 R2 R2' CE1 CE2 CE3 CY
  go_enter Try.func4, Try.ntmps4
  go_wp2_with fail
  refine (unhide HCY _ ((Below.refl _ _).alloc (Nat.le_refl _) _)).mono ?_
  rintro e w1 ⟨v1, rfl, ho, hb⟩
  have hB := box_then hb
  have X := hide ((BoxAt.new w (.slice a n c)).next hb)
  have D1 := hide ho.disk
  obtain ⟨a1, n1, c1, rfl⟩ := disk_slice ho.disk
  clear hb ho
  go_wp2_with fail
  refine (unhide HS1 _ _ (unhide D1)).mono ?_
  rintro e w2 ⟨a2, n2, c2, rfl, hf, hb⟩
  have hal := (Below.refl w2.heap.size w2).alloc (Nat.le_refl _) (.cells #[.slice a2 n2 c2] 24)
  have hB' := below_next (below_next hB hb) hal
  have X' := hide (((unhide X).next hb).next hal)
  have Y2 := hide (BoxAt.new w2 (.slice a2 n2 c2))
  have F2 := hide ((unhide hf).next hal)
  clear hB X hb hal hf HS1 D1
  have hB := hB'
  have X := X'
  have cx := (unhide X).c
  clear hB' X'
  go_wp2_with fail
  generalize w2.alloc (.cells #[.slice a2 n2 c2] 24) = W2 at *
  refine (unhide HS2 _ hB).mono ?_
  rintro e w3 ⟨a3, n3, c3, rfl, hf, hb⟩
  have hal := (Below.refl w3.heap.size w3).alloc (Nat.le_refl _) (.cells #[.slice a3 n3 c3] 24)
  have hB' := below_next (below_next hB hb) hal
  have X' := hide (((unhide X).next hb).next hal)
  have Z := hide (((unhide Y2).next hb).next hal)
  clear Y2
  have Y2 := Z
  clear Z
  have Z := hide (((unhide F2).next hb).next hal)
  clear F2
  have F2 := Z
  clear Z
  have Y3 := hide (BoxAt.new w3 (.slice a3 n3 c3))
  have F3 := hide ((unhide hf).next hal)
  clear hB X hb hal hf HS2 cx
  have hB := hB'
  have X := X'
  have cx := (unhide X).c
  clear hB' X'
  go_wp2_with fail
  generalize w3.alloc (.cells #[.slice a3 n3 c3] 24) = W3 at *
  refine (unhide HCY _ hB).mono ?_
  rintro e w4 ⟨v4, rfl, ho, hb⟩
  have hB' := below_next hB hb
  have X' := hide ((unhide X).next hb)
  have Z := hide ((unhide Y2).next hb)
  clear Y2
  have Y2 := Z
  clear Z
  have Z := hide ((unhide F2).next hb)
  clear F2
  have F2 := Z
  clear Z
  have Z := hide ((unhide Y3).next hb)
  clear Y3
  have Y3 := Z
  clear Z
  have Z := hide ((unhide F3).next hb)
  clear F3
  have F3 := Z
  clear Z
  clear hB X cx
  have hB := hB'
  have X := X'
  clear hB' X'
  have D4 := hide ho.disk
  obtain ⟨a4, n4, c4, rfl⟩ := disk_slice ho.disk
  clear hb ho
  go_wp2_with fail
  refine (unhide HU1 _ _ (unhide D4)).mono ?_
  rintro e w5 ⟨a5, n5, c5, rfl, hf, hb⟩
  have hal := (Below.refl w5.heap.size w5).alloc (Nat.le_refl _) (.cells #[.slice a5 n5 c5] 24)
  have hB' := below_next (below_next hB hb) hal
  have X' := hide (((unhide X).next hb).next hal)
  have Z := hide (((unhide Y2).next hb).next hal)
  clear Y2
  have Y2 := Z
  clear Z
  have Z := hide (((unhide F2).next hb).next hal)
  clear F2
  have F2 := Z
  clear Z
  have Z := hide (((unhide Y3).next hb).next hal)
  clear Y3
  have Y3 := Z
  clear Z
  have Z := hide (((unhide F3).next hb).next hal)
  clear F3
  have F3 := Z
  clear Z
  have Y5 := hide (BoxAt.new w5 (.slice a5 n5 c5))
  have F5 := hide ((unhide hf).next hal)
  clear hB X hb hal hf HU1 D4
  have hB := hB'
  have X := X'
  have cx := (unhide X).c
  clear hB' X'
  go_wp2_with fail
  generalize w5.alloc (.cells #[.slice a5 n5 c5] 24) = W5 at *
  refine (unhide HU2 _ hB).mono ?_
  rintro e w6 ⟨a6, n6, c6, rfl, hf, hb⟩
  have hal := (Below.refl w6.heap.size w6).alloc (Nat.le_refl _) (.cells #[.slice a6 n6 c6] 24)
  have hB' := below_next (below_next hB hb) hal
  have X' := hide (((unhide X).next hb).next hal)
  have Z := hide (((unhide Y2).next hb).next hal)
  clear Y2
  have Y2 := Z
  clear Z
  have Z := hide (((unhide F2).next hb).next hal)
  clear F2
  have F2 := Z
  clear Z
  have Z := hide (((unhide Y3).next hb).next hal)
  clear Y3
  have Y3 := Z
  clear Z
  have Z := hide (((unhide F3).next hb).next hal)
  clear F3
  have F3 := Z
  clear Z
  have Z := hide (((unhide Y5).next hb).next hal)
  clear Y5
  have Y5 := Z
  clear Z
  have Z := hide (((unhide F5).next hb).next hal)
  clear F5
  have F5 := Z
  clear Z
  have Y6 := hide (BoxAt.new w6 (.slice a6 n6 c6))
  have F6 := hide ((unhide hf).next hal)
  clear hB X hb hal hf HU2 cx
  have hB := hB'
  have X := X'
  have cx := (unhide X).c
  clear hB' X'
  go_wp2_with fail
  generalize w6.alloc (.cells #[.slice a6 n6 c6] 24) = W6 at *
  refine (unhide HCY _ hB).mono ?_
  rintro e w7 ⟨v7, rfl, ho, hb⟩
  have hB' := below_next hB hb
  have X' := hide ((unhide X).next hb)
  have Z := hide ((unhide Y2).next hb)
  clear Y2
  have Y2 := Z
  clear Z
  have Z := hide ((unhide F2).next hb)
  clear F2
  have F2 := Z
  clear Z
  have Z := hide ((unhide Y3).next hb)
  clear Y3
  have Y3 := Z
  clear Z
  have Z := hide ((unhide F3).next hb)
  clear F3
  have F3 := Z
  clear Z
  have Z := hide ((unhide Y5).next hb)
  clear Y5
  have Y5 := Z
  clear Z
  have Z := hide ((unhide F5).next hb)
  clear F5
  have F5 := Z
  clear Z
  have Z := hide ((unhide Y6).next hb)
  clear Y6
  have Y6 := Z
  clear Z
  have Z := hide ((unhide F6).next hb)
  clear F6
  have F6 := Z
  clear Z
  clear hB X cx
  have hB := hB'
  have X := X'
  clear hB' X'
  have D7 := hide ho.disk
  obtain ⟨a7, n7, c7, rfl⟩ := disk_slice ho.disk
  clear hb ho
  go_wp2_with fail
  refine (unhide HR1 _ _ (unhide D7)).mono ?_
  rintro e w8 ⟨a8, n8, c8, rfl, hf, hb⟩
  have hal := (Below.refl w8.heap.size w8).alloc (Nat.le_refl _) (.cells #[.slice a8 n8 c8] 24)
  have hB' := below_next (below_next hB hb) hal
  have X' := hide (((unhide X).next hb).next hal)
  have Z := hide (((unhide Y2).next hb).next hal)
  clear Y2
  have Y2 := Z
  clear Z
  have Z := hide (((unhide F2).next hb).next hal)
  clear F2
  have F2 := Z
  clear Z
  have Z := hide (((unhide Y3).next hb).next hal)
  clear Y3
  have Y3 := Z
  clear Z
  have Z := hide (((unhide F3).next hb).next hal)
  clear F3
  have F3 := Z
  clear Z
  have Z := hide (((unhide Y5).next hb).next hal)
  clear Y5
  have Y5 := Z
  clear Z
  have Z := hide (((unhide F5).next hb).next hal)
  clear F5
  have F5 := Z
  clear Z
  have Z := hide (((unhide Y6).next hb).next hal)
  clear Y6
  have Y6 := Z
  clear Z
  have Z := hide (((unhide F6).next hb).next hal)
  clear F6
  have F6 := Z
  clear Z
  have Y8 := hide (BoxAt.new w8 (.slice a8 n8 c8))
  have F8 := hide ((unhide hf).next hal)
  clear hB X hb hal hf HR1 D7
  have hB := hB'
  have X := X'
  have cx := (unhide X).c
  clear hB' X'
  go_wp2_with fail
  generalize w8.alloc (.cells #[.slice a8 n8 c8] 24) = W8 at *
  refine (unhide HR2 _ hB).mono ?_
  rintro e w9 ⟨a9, n9, c9, rfl, hf, hb⟩
  have hal := (Below.refl w9.heap.size w9).alloc (Nat.le_refl _) (.cells #[.slice a9 n9 c9] 24)
  have hB' := below_next (below_next hB hb) hal
  have X' := hide (((unhide X).next hb).next hal)
  have Z := hide (((unhide Y2).next hb).next hal)
  clear Y2
  have Y2 := Z
  clear Z
  have Z := hide (((unhide F2).next hb).next hal)
  clear F2
  have F2 := Z
  clear Z
  have Z := hide (((unhide Y3).next hb).next hal)
  clear Y3
  have Y3 := Z
  clear Z
  have Z := hide (((unhide F3).next hb).next hal)
  clear F3
  have F3 := Z
  clear Z
  have Z := hide (((unhide Y5).next hb).next hal)
  clear Y5
  have Y5 := Z
  clear Z
  have Z := hide (((unhide F5).next hb).next hal)
  clear F5
  have F5 := Z
  clear Z
  have Z := hide (((unhide Y6).next hb).next hal)
  clear Y6
  have Y6 := Z
  clear Z
  have Z := hide (((unhide F6).next hb).next hal)
  clear F6
  have F6 := Z
  clear Z
  have Z := hide (((unhide Y8).next hb).next hal)
  clear Y8
  have Y8 := Z
  clear Z
  have Z := hide (((unhide F8).next hb).next hal)
  clear F8
  have F8 := Z
  clear Z
  have Y9 := hide (BoxAt.new w9 (.slice a9 n9 c9))
  have F9 := hide ((unhide hf).next hal)
  clear hB X hb hal hf HR2 cx
  have hB := hB'
  have X := X'
  have cx := (unhide X).c
  clear hB' X'
  have y2 := (unhide Y2).c
  have y3 := (unhide Y3).c
  have y5 := (unhide Y5).c
  have y6 := (unhide Y6).c
  have y8 := (unhide Y8).c
  have y9 := (unhide Y9).c
  go_wp2_with fail
  generalize w9.alloc (.cells #[.slice a9 n9 c9] 24) = W9 at *
  refine (unhide HE1 _ _ _ (unhide F2) (unhide F3)).mono ?_
  rintro e z0 ⟨rfl, hb⟩
  have hB' := below_next hB hb
  clear y2
  clear y3
  clear y5
  clear y6
  clear y8
  clear y9
  have Z := hide ((unhide Y5).next hb)
  clear Y5
  have Y5 := Z
  clear Z
  have Z := hide ((unhide F5).next hb)
  clear F5
  have F5 := Z
  clear Z
  have y5 := (unhide Y5).c
  have Z := hide ((unhide Y6).next hb)
  clear Y6
  have Y6 := Z
  clear Z
  have Z := hide ((unhide F6).next hb)
  clear F6
  have F6 := Z
  clear Z
  have y6 := (unhide Y6).c
  have Z := hide ((unhide Y8).next hb)
  clear Y8
  have Y8 := Z
  clear Z
  have Z := hide ((unhide F8).next hb)
  clear F8
  have F8 := Z
  clear Z
  have y8 := (unhide Y8).c
  have Z := hide ((unhide Y9).next hb)
  clear Y9
  have Y9 := Z
  clear Z
  have Z := hide ((unhide F9).next hb)
  clear F9
  have F9 := Z
  clear Z
  have y9 := (unhide Y9).c
  clear HE1 hb hB F2 F3 Y2 Y3
  have hB := hB'
  clear hB'
  go_wp2_with fail
  refine (unhide HE2 _ _ _ (unhide F5) (unhide F6)).mono ?_
  rintro e z1 ⟨rfl, hb⟩
  have hB' := below_next hB hb
  clear y5
  clear y6
  clear y8
  clear y9
  have Z := hide ((unhide Y8).next hb)
  clear Y8
  have Y8 := Z
  clear Z
  have Z := hide ((unhide F8).next hb)
  clear F8
  have F8 := Z
  clear Z
  have y8 := (unhide Y8).c
  have Z := hide ((unhide Y9).next hb)
  clear Y9
  have Y9 := Z
  clear Z
  have Z := hide ((unhide F9).next hb)
  clear F9
  have F9 := Z
  clear Z
  have y9 := (unhide Y9).c
  clear HE2 hb hB F5 F6 Y5 Y6
  have hB := hB'
  clear hB'
  go_wp2_with fail
  refine (unhide HE3 _ _ _ (unhide F8) (unhide F9)).mono ?_
  rintro e z2 ⟨rfl, hb⟩
  have hB' := below_next hB hb
  clear y8
  clear y9
  clear HE3 hb hB F8 F9 Y8 Y9
  have hB := hB'
  clear hB'
  go_wp2_with fail
  refine (here_any _).mono ?_
  rintro e z9 ⟨rfl, hb⟩
  have hB' := below_next hB hb
  clear hb hB
  go_wp2_with fail
  go_ret
  exact ⟨rfl, hB'⟩
end Go.Proofs.Ytbadhnmljlmefaa
