/-
  That wal and aviaryref recover and keep alike; aviarylaw.WalRecovers returns true: the walk.
-/
import Derived.Test.YtpoblkionpgljaaDoorCT
import Derived.Test.YtpoblkionpgljaaDoorCJ
namespace Go.Proofs.YtpoblkionpgljaaDoor
open Go.RowKit

theorem both_rec (fs : List DF) (hs : Slim fs) (hl : fs.length ≤ 140737488355328) : ∃ E ts d, d.length ≤ 1000000 ∧ ts.length ≤ 1000000 ∧ GivesR 20 (fun x => #[x]) fs ts d E ∧ GivesR 21 (fun x => #[x]) fs ts d E := by
  rcases rec_cases fs with ⟨E, h⟩ | ⟨ts, A, B, h⟩
  · exact ⟨E, [], [], by simp, by simp, recover_no hs h, rrecover_no hs hl h⟩
  · exact ⟨0, ts, _, by have := (h.after h.short).few; omega, by have := h.few; omega, recover_yes h, rrecover_yes h⟩
theorem both_keep (fs : List DF) (z : Int) (hs : Slim fs) (hl : fs.length ≤ 140737488355328) : ∃ E d, d.length ≤ 1000000 ∧ GivesD 22 (fun x => #[x, .int .i64 z]) fs d E ∧ GivesD 23 (fun x => #[x, .int .i64 z]) fs d E := by
  rcases rec_cases fs with ⟨E, h⟩ | ⟨ts, A, B, h⟩
  · exact ⟨E, [], by simp, keep_no hs h z, rkeep_no fs z E (rrecover_no hs hl h) (by simpa using recNo_ne h)⟩
  · exact ⟨0, _, by have := (h.after (us := keepL z ts) (Nat.le_trans (keepL_take z ts).2 h.short)).few; omega, keep_yes h z, rkeep_yes h z⟩
theorem last_open (v : Value) (w : World) (hv : LogV w v [tOpen]) :
    Calls Tryd.prog 18 #[v] w fun e w' => e = .returned (.int .i64 1) ∧ w' = w := last_any v [tOpen] w hv

set_option maxRecDepth 10000 in
set_option maxHeartbeats 2000000 in
theorem walRecovers_walk (v : Value) (fs : List DF) (z : Int) (w : World) (hv : DiskV w v fs) (hs : Slim fs) (hfl : fs.length * 48 ≤ 140737488355328) :
    Calls Tryd.prog 5 #[.agg #[v], .int .i64 z] w fun e w' => e = .returned (.bool true) ∧ Below w.heap.size w w' := by
  have CY := fun W (hW : Below w.heap.size w W) => rcopy_any v fs W (hv.next hW) hfl
  obtain ⟨E, ts, d, hd, ht, G1, G2⟩ := both_rec fs hs (by omega)
  obtain ⟨E', d', hd', K1, K2⟩ := both_keep fs z hs (by omega)
  have G2' := fun W (hW : Below w.heap.size w W) => G2 v W (hv.next hW)
  have K2' := fun W (hW : Below w.heap.size w W) => K2 v W (hv.next hW)
  have CL := fun v1 v2 W (h : LogV W v1 ts) (h' : LogV W v2 ts) => rsl_any v1 v2 ts W ht h h'
  have CE := fun v1 v2 W (h : DiskV W v1 d) (h' : DiskV W v2 d) => rsame_any v1 v2 d W hd h h'
  have CE' := fun v1 v2 W (h : DiskV W v1 d') (h' : DiskV W v2 d') => rsame_any v1 v2 d' W hd' h h'
  obtain ⟨a, n, c, rfl⟩ := disk_slice hv
  have HCY := hide CY
  have HG1 := hide G1
  have HG2 := hide G2'
  have HK1 := hide K1
  have HK2 := hide K2'
  have HCL := hide CL
  have HCE := hide CE
  have HCE' := hide CE'
  clear hv hs hfl CY G1 G2 G2' K1 K2 K2' CL CE CE' hd hd' ht
  go_enter Tryd.func5, Tryd.ntmps5
  go_wp2_with fail
  refine (unhide HCY _ ((Below.refl _ _).alloc (Nat.le_refl _) _)).mono ?_
  rintro e w1 ⟨v1, rfl, ho, hb1⟩
  have HB1 := hide (below_next2 ((Below.refl w.heap.size w).alloc (Nat.le_refl _) (.cells #[.slice a n c] 35)) hb1)
  have X1 := hide ((BoxAt.new w (.slice a n c)).next hb1)
  have D1 := hide ho.disk
  obtain ⟨a1, n1, c1, rfl⟩ := disk_slice ho.disk
  clear hb1 ho
  go_wp2_with fail
  refine (unhide HG1 _ _ (unhide D1)).mono ?_
  rintro e w2 ⟨al, kl, cl, a2, n2, c2, rfl, HL2, HD2, hb2⟩
  have hal := (Below.refl w2.heap.size w2).alloc (Nat.le_refl _) (.cells #[.slice a2 n2 c2] 35)
  have HB2 := hide (below_next2 (below_next2 (unhide HB1) hb2) hal)
  have X2 := hide (((unhide X1).next hb2).next hal)
  have Y2 := hide (BoxAt.new w2 (.slice a2 n2 c2))
  have L2 := hide ((unhide HL2).next hal)
  have F2 := hide ((unhide HD2).next hal)
  have cx := (unhide X2).c
  clear hb2 hal HB1 X1 D1 HL2 HD2 HG1
  go_wp2_with fail
  generalize w2.alloc (.cells #[.slice a2 n2 c2] 35) = W2 at *
  refine (unhide HG2 _ (unhide HB2)).mono ?_
  rintro e w3 ⟨am, km, cm, a3, n3, c3, rfl, HL3, HD3, hb3⟩
  have hal := (Below.refl w3.heap.size w3).alloc (Nat.le_refl _) (.cells #[.slice a3 n3 c3] 35)
  have HB3 := hide (below_next2 (below_next2 (unhide HB2) hb3) hal)
  have X3 := hide (((unhide X2).next hb3).next hal)
  have Y3 := hide (((unhide Y2).next hb3).next hal)
  have Z3 := hide (BoxAt.new w3 (.slice a3 n3 c3))
  have L3 := hide (((unhide L2).next hb3).next hal)
  have M3 := hide ((unhide HL3).next hal)
  have F3 := hide (((unhide F2).next hb3).next hal)
  have G3 := hide ((unhide HD3).next hal)
  have cx3 := (unhide X3).c
  clear hb3 hal HB2 X2 Y2 L2 F2 HL3 HD3 HG2 cx
  go_wp2_with fail
  generalize w3.alloc (.cells #[.slice a3 n3 c3] 35) = W3 at *
  refine (unhide HCY _ (unhide HB3)).mono ?_
  rintro e w4 ⟨v4, rfl, ho, hb4⟩
  have HB4 := hide (below_next2 (unhide HB3) hb4)
  have X4 := hide ((unhide X3).next hb4)
  have Y4 := hide ((unhide Y3).next hb4)
  have Z4 := hide ((unhide Z3).next hb4)
  have L4 := hide ((unhide L3).next hb4)
  have M4 := hide ((unhide M3).next hb4)
  have F4 := hide ((unhide F3).next hb4)
  have G4 := hide ((unhide G3).next hb4)
  have D4 := hide ho.disk
  obtain ⟨a4, n4, c4, rfl⟩ := disk_slice ho.disk
  clear hb4 ho HB3 X3 Y3 Z3 L3 M3 F3 G3 HCY cx3
  go_wp2_with fail
  refine (unhide HK1 _ _ (unhide D4)).mono ?_
  rintro e w5 ⟨a5, n5, c5, rfl, HD5, hb5⟩
  have hal := (Below.refl w5.heap.size w5).alloc (Nat.le_refl _) (.cells #[.slice a5 n5 c5] 35)
  have HB5 := hide (below_next2 (below_next2 (unhide HB4) hb5) hal)
  have X5 := hide (((unhide X4).next hb5).next hal)
  have Y5 := hide (((unhide Y4).next hb5).next hal)
  have Z5 := hide (((unhide Z4).next hb5).next hal)
  have V5 := hide (BoxAt.new w5 (.slice a5 n5 c5))
  have L5 := hide (((unhide L4).next hb5).next hal)
  have M5 := hide (((unhide M4).next hb5).next hal)
  have F5 := hide (((unhide F4).next hb5).next hal)
  have G5 := hide (((unhide G4).next hb5).next hal)
  have H5 := hide ((unhide HD5).next hal)
  have cx5 := (unhide X5).c
  clear hb5 hal HB4 X4 Y4 Z4 L4 M4 F4 G4 D4 HD5 HK1
  go_wp2_with fail
  generalize w5.alloc (.cells #[.slice a5 n5 c5] 35) = W5 at *
  refine (unhide HK2 _ (unhide HB5)).mono ?_
  rintro e w6 ⟨a6, n6, c6, rfl, HD6, hb6⟩
  have hal := (Below.refl w6.heap.size w6).alloc (Nat.le_refl _) (.cells #[.slice a6 n6 c6] 35)
  have HB6 := hide (below_next2 (below_next2 (unhide HB5) hb6) hal)
  have Y6 := hide (((unhide Y5).next hb6).next hal)
  have Z6 := hide (((unhide Z5).next hb6).next hal)
  have V6 := hide (((unhide V5).next hb6).next hal)
  have U6 := hide (BoxAt.new w6 (.slice a6 n6 c6))
  have L6 := hide (((unhide L5).next hb6).next hal)
  have M6 := hide (((unhide M5).next hb6).next hal)
  have F6 := hide (((unhide F5).next hb6).next hal)
  have G6 := hide (((unhide G5).next hb6).next hal)
  have H6 := hide (((unhide H5).next hb6).next hal)
  have I6 := hide ((unhide HD6).next hal)
  clear hb6 hal HB5 X5 Y5 Z5 V5 L5 M5 F5 G5 H5 HD6 HK2 cx5
  go_wp2_with fail
  generalize w6.alloc (.cells #[.slice a6 n6 c6] 35) = W6 at *
  refine (unhide HCL _ _ _ (unhide L6) (unhide M6)).mono ?_
  rintro e w7 ⟨rfl, hb7⟩
  have HB7 := hide (below_next2 (unhide HB6) hb7)
  have cy7 := ((unhide Y6).next hb7).c
  have cz7 := ((unhide Z6).next hb7).c
  have V7 := hide ((unhide V6).next hb7)
  have U7 := hide ((unhide U6).next hb7)
  have F7 := hide ((unhide F6).next hb7)
  have G7 := hide ((unhide G6).next hb7)
  have H7 := hide ((unhide H6).next hb7)
  have I7 := hide ((unhide I6).next hb7)
  clear hb7 HB6 Y6 Z6 V6 U6 L6 M6 F6 G6 H6 I6 HCL
  go_wp2_with fail
  refine (unhide HCE _ _ _ (unhide F7) (unhide G7)).mono ?_
  rintro e w8 ⟨rfl, hb8⟩
  have HB8 := hide (below_next2 (unhide HB7) hb8)
  have cv8 := ((unhide V7).next hb8).c
  have cu8 := ((unhide U7).next hb8).c
  have H8 := hide ((unhide H7).next hb8)
  have I8 := hide ((unhide I7).next hb8)
  clear hb8 HB7 V7 U7 F7 G7 H7 I7 HCE cy7 cz7
  go_wp2_with fail
  refine (unhide HCE' _ _ _ (unhide H8) (unhide I8)).mono ?_
  rintro e w9 ⟨rfl, hb9⟩
  have HB9 := hide (below_next2 (unhide HB8) hb9)
  clear hb9 HB8 H8 I8 HCE' cv8 cu8
  go_wp2_with fail
  refine (opened_any _).mono ?_
  rintro e w10 ⟨g, rfl, HO, hb10⟩
  have HB10 := hide (below_next2 (unhide HB9) hb10)
  clear hb10 HB9
  go_wp2_with fail
  refine (last_open _ _ (unhide HO)).mono ?_
  rintro e w11 ⟨rfl, rfl⟩
  clear HO
  go_wp2_with fail
  go_ret
  exact ⟨rfl, unhide HB10⟩
end Go.Proofs.YtpoblkionpgljaaDoor
