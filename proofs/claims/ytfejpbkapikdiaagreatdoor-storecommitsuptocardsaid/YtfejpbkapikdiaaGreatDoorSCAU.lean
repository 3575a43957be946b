/-
  aviarylaw.StoreCommits returns true: the walk.
-/
import Derived.Test.YtfejpbkapikdiaaGreatDoorSCAT
import Derived.Test.YtfejpbkapikdiaaGreatDoorSCAR
namespace Go.Proofs.YtfejpbkapikdiaaGreatDoor
open Go.RowKit

/-- a copy of a server, its rows spelt out -/
def GivesKm (w : World) (s : Sv) (e : Ending) (w' : World) : Prop :=
  ∃ ad nd cd al nl cl an nn cn ai ni ci aw nw cw, e = .returned (.agg #[.bool s.up, .slice ad nd cd, .int .i64 s.id, .int .i64 s.ep, .slice al nl cl, .int .i64 s.dn, .int .i64 s.tr.z, .slice an nn cn, .slice ai ni ci, .slice aw nw cw]) ∧
    Hid (SvV w' (.agg #[.bool s.up, .slice ad nd cd, .int .i64 s.id, .int .i64 s.ep, .slice al nl cl, .int .i64 s.dn, .int .i64 s.tr.z, .slice an nn cn, .slice ai ni ci, .slice aw nw cw]) s) ∧ Below w.heap.size w w'
theorem gives_km {w w' : World} {s : Sv} {e : Ending} (h : GivesC w s e w') : GivesKm w s e w' := by
  obtain ⟨ad, nd, cd, al, cl, an, cn, ai, ci, aw, cw, B1, B2, he, _, _, od, _, ol, _, on, oi, ow, hb⟩ := h
  exact ⟨ad, nd, cd, al, _, cl, an, _, cn, ai, _, ci, aw, _, cw, he, hide ⟨_, _, _, _, _, rfl, seq_disk.1 od.seq, seq_log.1 ol.seq, on.seq, oi.seq, ow.seq⟩, hb⟩

set_option maxRecDepth 10000 in
set_option maxHeartbeats 4000000 in
theorem storeCommits_walk (s : Sv) (v : Value) (n : Int) (w : World) (hv : SvV w v s) (hf : Fits s) (hw : Few s) (hA : ∀ xs, (∀ x ∈ xs, x ∈ s.ts) → CArg s xs) :
    Calls Tryz.prog 3 #[v, .int .i64 n] w fun e w' => e = .returned (.bool true) ∧ Below w.heap.size w w' := by
  have CY := hide (fun W (hW : Below w.heap.size w W) => (rcopyS_any s v W (hv.next hW) hf).mono fun _ _ h => gives_km h)
  obtain ⟨E, s', N', hw', hN', G1, G2⟩ := both_commit s n hf hw hA
  have HG1 := hide G1
  have HG2 := hide (fun W (hW : Below w.heap.size w W) => G2 v W (hv.next hW))
  have HS1 := hide (fun v1 v2 W (h : SvV W v1 s') (h' : SvV W v2 s') => rsameS_any s' v1 v2 W hw' h h')
  have HSN := hide (fun v1 v2 W (h : SeqV W v1 N') (h' : SeqV W v2 N') => rsameN_any v1 v2 N' W h h' hN')
  obtain ⟨ad, nd, cd, al, cl, an, cn, ai, ci, aw, cw, rfl, d1, l1, n1, s1, k1⟩ := hv.five
  clear hv d1 l1 n1 s1 k1 hf hw hw' hA hN' G1 G2
  obtain ⟨up, fs, id, ep, ts, dn, ⟨tz, tns, tss⟩, ws⟩ := s
  simp only at *
  go_enter Tryz.func3, Tryz.ntmps3
  go_upto_region 1 with fail
  have X := hide (Box10.new w up id ep dn tz (.slice ad nd cd) (.slice al ts.length cl) (.slice an tns.length cn) (.slice ai tss.length ci) (.slice aw ws.length cw))
  have HB0 := hide (allocB w (.cells #[.bool up, .slice ad nd cd, .int .i64 id, .int .i64 ep, .slice al ts.length cl, .int .i64 dn, .int .i64 tz, .slice an tns.length cn, .slice ai tss.length ci, .slice aw ws.length cw] 34))
  generalize w.alloc (.cells #[.bool up, .slice ad nd cd, .int .i64 id, .int .i64 ep, .slice al ts.length cl, .int .i64 dn, .int .i64 tz, .slice an tns.length cn, .slice ai tss.length ci, .slice aw ws.length cw] 34) = W0 at *
  obtain ⟨x0, x1, x2, x3, x4, x5, x6, x7, x8, x9⟩ := (unhide X).cells
  go_wp2_with fail
  refine (unhide CY _ (unhide HB0)).mono ?_
  rintro e w1 ⟨bad, bnd, bcd, bal, bnl, bcl, ban, bnn, bcn, bai, bni, bci, baw, bnw, bcw, rfl, S1, hb1⟩
  have HB1 := hide (nnext (unhide HB0) hb1)
  have X1 := hide ((unhide X).next hb1)
  clear hb1 HB0 X CY x0 x1 x2 x3 x4 x5 x6 x7 x8 x9
  go_wp2_with fail
  refine (unhide HG1 _ _ (unhide S1)).mono ?_
  rintro e w3 ⟨v3, a3, c3, rfl, s3v, n3, hb3⟩
  obtain ⟨cad, cnd, ccd, cal, ccl, can, ccn, cai, cci, caw, ccw, rfl, eh1, eh2, eh3, eh4, eh5⟩ := s3v.five
  clear eh1 eh2 eh3 eh4 eh5
  have hal := allocB w3 (.cells #[.bool s'.up, .slice cad cnd ccd, .int .i64 s'.id, .int .i64 s'.ep, .slice cal s'.ts.length ccl, .int .i64 s'.dn, .int .i64 s'.tr.z, .slice can s'.tr.ns.length ccn, .slice cai s'.tr.ss.length cci, .slice caw s'.ws.length ccw] 34)
  have HB3 := hide (nnext (nnext (unhide HB1) hb3) hal)
  have X3 := hide (((unhide X1).next hb3).next hal)
  have A3 := hide (Box10.new w3 s'.up s'.id s'.ep s'.dn s'.tr.z (.slice cad cnd ccd) (.slice cal s'.ts.length ccl) (.slice can s'.tr.ns.length ccn) (.slice cai s'.tr.ss.length cci) (.slice caw s'.ws.length ccw))
  have T3 := hide (s3v.next hal)
  have N3 := hide (n3.next hal)
  clear hb3 hal HB1 X1 S1 HG1 s3v n3
  go_upto_region 2 with fail
  generalize w3.heap.size = ka at *
  generalize w3.alloc (.cells #[.bool s'.up, .slice cad cnd ccd, .int .i64 s'.id, .int .i64 s'.ep, .slice cal s'.ts.length ccl, .int .i64 s'.dn, .int .i64 s'.tr.z, .slice can s'.tr.ns.length ccn, .slice cai s'.tr.ss.length cci, .slice caw s'.ws.length ccw] 34) = W3 at *
  obtain ⟨x0, x1, x2, x3, x4, x5, x6, x7, x8, x9⟩ := (unhide X3).cells
  go_wp2_with fail
  refine (unhide HG2 _ (unhide HB3)).mono ?_
  rintro e w4 ⟨v4, a4, c4, rfl, s4v, n4, hb4⟩
  obtain ⟨ead, eend, ecd, eal, ecl, ean, ecn, eai, eci, eaw, ecw, rfl, eh1, eh2, eh3, eh4, eh5⟩ := s4v.five
  clear eh1 eh2 eh3 eh4 eh5
  have hal := allocB w4 (.cells #[.bool s'.up, .slice ead eend ecd, .int .i64 s'.id, .int .i64 s'.ep, .slice eal s'.ts.length ecl, .int .i64 s'.dn, .int .i64 s'.tr.z, .slice ean s'.tr.ns.length ecn, .slice eai s'.tr.ss.length eci, .slice eaw s'.ws.length ecw] 34)
  have HB4 := hide (nnext (nnext (unhide HB3) hb4) hal)
  have A4 := hide (((unhide A3).next hb4).next hal)
  have T4 := hide (((unhide T3).next hb4).next hal)
  have N4 := hide (((unhide N3).next hb4).next hal)
  have P4 := hide (Box10.new w4 s'.up s'.id s'.ep s'.dn s'.tr.z (.slice ead eend ecd) (.slice eal s'.ts.length ecl) (.slice ean s'.tr.ns.length ecn) (.slice eai s'.tr.ss.length eci) (.slice eaw s'.ws.length ecw))
  have F4 := hide (s4v.next hal)
  have M4 := hide (n4.next hal)
  clear hb4 hal s4v n4 HB3 X3 A3 T3 N3 HG2 x0 x1 x2 x3 x4 x5 x6 x7 x8 x9
  go_upto_region 3 with fail
  generalize w4.heap.size = kp at *
  generalize w4.alloc (.cells #[.bool s'.up, .slice ead eend ecd, .int .i64 s'.id, .int .i64 s'.ep, .slice eal s'.ts.length ecl, .int .i64 s'.dn, .int .i64 s'.tr.z, .slice ean s'.tr.ns.length ecn, .slice eai s'.tr.ss.length eci, .slice eaw s'.ws.length ecw] 34) = W4 at *
  obtain ⟨x0, x1, x2, x3, x4, x5, x6, x7, x8, x9⟩ := (unhide A4).cells
  obtain ⟨y0, y1, y2, y3, y4, y5, y6, y7, y8, y9⟩ := (unhide P4).cells
  go_wp2_with fail
  refine (unhide HS1 _ _ _ (unhide T4) (unhide F4)).mono ?_
  rintro e w7 ⟨rfl, hb7⟩
  have HB7 := hide (nnext (unhide HB4) hb7)
  have N7 := hide ((unhide N4).next hb7)
  have M7 := hide ((unhide M4).next hb7)
  clear hb7 HB4 A4 T4 P4 F4 N4 M4 HS1 x0 x1 x2 x3 x4 x5 x6 x7 x8 x9 y0 y1 y2 y3 y4 y5 y6 y7 y8 y9
  go_wp2_with fail
  refine (unhide HSN _ _ _ (unhide N7) (unhide M7)).mono ?_
  rintro e w9 ⟨rfl, hb9⟩
  have HB9 := hide (nnext (unhide HB7) hb9)
  clear hb9 HB7 N7 M7 HSN
  go_wp2_with fail
  refine (boots_any _).mono ?_
  rintro e w8 ⟨rfl, hb8⟩
  have HB8 := hide (nnext (unhide HB9) hb8)
  clear hb8 HB9
  go_wp2_with fail
  go_ret
  exact ⟨rfl, unhide HB8⟩
end Go.Proofs.YtfejpbkapikdiaaGreatDoor
