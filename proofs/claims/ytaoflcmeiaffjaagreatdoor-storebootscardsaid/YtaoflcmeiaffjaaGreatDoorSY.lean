/-
  That store.Boot and aviaryref.Boot answer alike; aviarylaw.StoreBoots returns true: the walk.
  A disk as an argument: opened into its files; what its weights say of their lengths.
-/
import Derived.Test.YtaoflcmeiaffjaaGreatDoorSN
import Derived.Test.YtaoflcmeiaffjaaGreatDoorSP
import Derived.Test.YtaoflcmeiaffjaaGreatDoorSX
import Derived.Test.YtaoflcmeiaffjaaGreatDoorSH
import Derived.ProofKit
import Derived.OpenShut
import Derived.SizedLaws
import Derived.Deep.Slices
import Derived.Carry
namespace Go.Proofs.YtaoflcmeiaffjaaGreatDoor
open Go.RowKit

theorem few_zero : Few sv0 := ⟨by decide, by decide, by decide, by decide, by decide⟩
theorem both_boot (fs : List DF) (id : Int) (hs : Slim fs) (hl : fs.length ≤ 140737488355328) : ∃ E s, Few s ∧
    (∀ v W, DiskV W v fs → Calls Tryz.prog 7 #[.int .i64 id, .agg #[v]] W (GivesV W s E)) ∧ (∀ v W, DiskV W v fs → Calls Tryz.prog 9 #[.int .i64 id, .agg #[v]] W (GivesV W s E)) := by
  by_cases h0 : id < 0
  · exact ⟨3, sv0, few_zero, fun v W hv => sboot_low v fs id W hv h0, fun v W hv => rboot_low v fs id W hv h0⟩
  by_cases h1 : 3 ≤ id
  · exact ⟨3, sv0, few_zero, fun v W hv => sboot_high v fs id W hv h1, fun v W hv => rboot_high v fs id W hv h1⟩
  obtain ⟨E, ts, d, hd, ht, G1, G2⟩ := both_rec fs hs hl
  by_cases hE : E = 0
  · subst hE
    exact ⟨0, ⟨true, d, id, epochD fs, ts, 0, trNew, []⟩, ⟨hd, ht, by simp [trNew], by simp [trNew], by simp⟩, fun v W hv => sboot_ok v fs d ts id W hv hs (by omega) (by omega) G1, fun v W hv => rboot_ok v fs d ts id W hv hs hl (by omega) (by omega) G2⟩
  · exact ⟨E, sv0, few_zero, fun v W hv => sboot_err v fs d ts id E W hv (by omega) (by omega) hE G1, fun v W hv => rboot_err v fs d ts id E W hv (by omega) (by omega) hE G2⟩

/-- what an empty disk comes up as -/
noncomputable def svUp (id : Int) : Sv := ⟨true, [logF []], id, epochD [], [], 0, trNew, []⟩
theorem boot_none (id : Int) (h0 : 0 ≤ id) (h1 : id < 3) (w : World) : Calls Tryz.prog 7 #[.int .i64 id, .agg #[.slice none 0 0]] w (GivesV w (svUp id) 0) :=
  sboot_ok (.slice none 0 0) [] [logF []] [] id w (DiskV.nil w) (by intro f hf; simp at hf) h0 h1 (recover_yes rec_none)

set_option maxRecDepth 10000 in
set_option maxHeartbeats 1000000 in
theorem boots_any (w : World) : Calls Tryz.prog 16 #[] w fun e w' => e = .returned (.bool true) ∧ Below w.heap.size w w' := by
  have C := fun W => boot_none 1 (by omega) (by omega) W
  go_enter Tryz.func16, Tryz.ntmps16
  go_wp2_with fail
  refine (C _).mono ?_
  rintro e w1 ⟨v1, rfl, hv1, hb1⟩
  obtain ⟨ad, nd, cd, al, cl, an, cn, ai, ci, aw, cw, rfl, _, _, _, _, _⟩ := hv1.five
  simp only [show (svUp 1).up = true from rfl, show (svUp 1).id = 1 from rfl]
  generalize (svUp 1).ep = ep
  generalize (svUp 1).ts.length = nl
  generalize (svUp 1).dn = dn
  generalize (svUp 1).tr.z = tz
  generalize (svUp 1).tr.ns.length = nn
  generalize (svUp 1).tr.ss.length = ni
  generalize (svUp 1).ws.length = nw
  have hB := hide (nnext hb1 (allocB _ (.cells #[.bool true, .slice ad nd cd, .int .i64 1, .int .i64 ep, .slice al nl cl, .int .i64 dn, .int .i64 tz, .slice an nn cn, .slice ai ni ci, .slice aw nw cw] 34)))
  clear hv1 C hb1
  go_wp2_with fail
  go_ret
  exact ⟨rfl, unhide hB⟩

set_option maxRecDepth 10000 in
set_option maxHeartbeats 4000000 in
theorem storeBoots_walk (id ep : Int) (v : Value) (fs : List DF) (w : World) (hv : DiskV w v fs) (hs : Slim fs) (hfl : fs.length * 48 ≤ 140737488355328) (ht : TabP w) :
    Calls Tryz.prog 3 #[.int .i64 id, .agg #[v], .int .i64 ep] w fun e w' => e = .returned (.bool true) ∧ Below w.heap.size w w' := by
  have CY : ∀ W, Below w.heap.size w W → Calls Tryz.prog 8 #[.agg #[v]] W fun e w' => ∃ a1 n1 c1, e = .returned (.agg #[.slice a1 n1 c1]) ∧ Hid (DiskV w' (.slice a1 n1 c1) fs) ∧ Below W.heap.size W w' := fun W hW =>
    (rcopy_any v fs W (hv.next hW) hfl).mono fun e w' ⟨v', he, ho, hb⟩ => by
      obtain ⟨a1, n1, c1, rfl⟩ := disk_slice ho.disk
      exact ⟨a1, n1, c1, he, ho.disk, hb⟩
  obtain ⟨E, s, hf, G1, G2⟩ := both_boot fs id hs (by omega)
  obtain ⟨E', d', hd', _, _, K1, K2⟩ := both_rem fs ep hs (by omega)
  have G2' := fun W (hW : Below w.heap.size w W) => G2 v W (hv.next hW)
  have K1' := fun v1 W (hW : Below w.heap.size w W) (h : DiskV W v1 fs) => K1 v1 W (ht.next hW) h
  have K2' := fun W (hW : Below w.heap.size w W) => K2 v W (ht.next hW) (hv.next hW)
  have CS := fun v1 v2 W (h : SvV W v1 s) (h' : SvV W v2 s) => rsameS_any s v1 v2 W hf h h'
  have CE := fun v1 v2 W (h : DiskV W v1 d') (h' : DiskV W v2 d') => rsame_any v1 v2 d' W hd' h h'
  have P1 := fun v1 W (h : DiskV W v1 fs) => sepoch_any v1 fs W h hs
  have P2 := fun W (hW : Below w.heap.size w W) => repochOf_any v fs W (hv.next hW) hs (by omega)
  generalize epochD fs = q at *
  obtain ⟨a, n, c, rfl⟩ := disk_slice hv
  have HCY := hide CY
  have HG1 := hide G1
  have HG2 := hide G2'
  have HK1 := hide K1'
  have HK2 := hide K2'
  have HCS := hide CS
  have HCE := hide CE
  have HP1 := hide P1
  have HP2 := hide P2
  clear hv hs hfl CY G1 G2 G2' K1 K2 K1' K2' CS CE P1 P2 hf hd' ht
  go_enter Tryz.func3, Tryz.ntmps3
  go_wp2_with fail
  refine (unhide HCY _ (allocB _ _)).mono ?_
  rintro e w1 ⟨a1, n1, c1, rfl, D1, hb1⟩
  have HB1 := hide (nnext (allocB w (.cells #[.slice a n c] 24)) hb1)
  have X1 := hide ((BoxAt.new w (.slice a n c)).next hb1)
  clear hb1
  go_wp2_with fail
  refine (unhide HG1 _ _ (unhide D1)).mono ?_
  rintro e w2 ⟨v2, rfl, s2, hb2⟩
  obtain ⟨aad, and, acd, aal, acl, aan, acn, aai, aci, aaw, acw, rfl, ah1, ah2, ah3, ah4, ah5⟩ := s2.five
  clear ah1 ah2 ah3 ah4 ah5
  have hal := allocB w2 (.cells #[.bool s.up, .slice aad and acd, .int .i64 s.id, .int .i64 s.ep, .slice aal s.ts.length acl, .int .i64 s.dn, .int .i64 s.tr.z, .slice aan s.tr.ns.length acn, .slice aai s.tr.ss.length aci, .slice aaw s.ws.length acw] 34)
  have HB2 := hide (nnext (nnext (unhide HB1) hb2) hal)
  have X2 := hide (((unhide X1).next hb2).next hal)
  have A2 := hide (Box10.new w2 s.up s.id s.ep s.dn s.tr.z (.slice aad and acd) (.slice aal s.ts.length acl) (.slice aan s.tr.ns.length acn) (.slice aai s.tr.ss.length aci) (.slice aaw s.ws.length acw))
  have S2 := hide (s2.next hal)
  have cx := (unhide X2).c
  clear hb2 hal s2 D1 HB1 X1 HG1
  go_wp2_with fail
  generalize w2.heap.size = ka at *
  generalize w2.alloc (.cells #[.bool s.up, .slice aad and acd, .int .i64 s.id, .int .i64 s.ep, .slice aal s.ts.length acl, .int .i64 s.dn, .int .i64 s.tr.z, .slice aan s.tr.ns.length acn, .slice aai s.tr.ss.length aci, .slice aaw s.ws.length acw] 34) = W2 at *
  refine (unhide HG2 _ (unhide HB2)).mono ?_
  rintro e w3 ⟨v3, rfl, s3, hb3⟩
  obtain ⟨bad, bnd, bcd, bal, bcl, ban, bcn, bai, bci, baw, bcw, rfl, bh1, bh2, bh3, bh4, bh5⟩ := s3.five
  clear bh1 bh2 bh3 bh4 bh5
  have hal := allocB w3 (.cells #[.bool s.up, .slice bad bnd bcd, .int .i64 s.id, .int .i64 s.ep, .slice bal s.ts.length bcl, .int .i64 s.dn, .int .i64 s.tr.z, .slice ban s.tr.ns.length bcn, .slice bai s.tr.ss.length bci, .slice baw s.ws.length bcw] 34)
  have HB3 := hide (nnext (nnext (unhide HB2) hb3) hal)
  have X3 := hide (((unhide X2).next hb3).next hal)
  have A3 := hide (((unhide A2).next hb3).next hal)
  have S3 := hide (((unhide S2).next hb3).next hal)
  have B3 := hide (Box10.new w3 s.up s.id s.ep s.dn s.tr.z (.slice bad bnd bcd) (.slice bal s.ts.length bcl) (.slice ban s.tr.ns.length bcn) (.slice bai s.tr.ss.length bci) (.slice baw s.ws.length bcw))
  have T3 := hide (s3.next hal)
  clear hb3 hal s3 HB2 X2 A2 S2 HG2 cx
  have cx := (unhide X3).c
  go_wp2_with fail
  generalize w3.heap.size = kb at *
  generalize w3.alloc (.cells #[.bool s.up, .slice bad bnd bcd, .int .i64 s.id, .int .i64 s.ep, .slice bal s.ts.length bcl, .int .i64 s.dn, .int .i64 s.tr.z, .slice ban s.tr.ns.length bcn, .slice bai s.tr.ss.length bci, .slice baw s.ws.length bcw] 34) = W3 at *
  refine (unhide HCY _ (unhide HB3)).mono ?_
  rintro e w4 ⟨a4, n4, c4, rfl, D4, hb4⟩
  have HB4 := hide (nnext (unhide HB3) hb4)
  have X4 := hide ((unhide X3).next hb4)
  have A4 := hide ((unhide A3).next hb4)
  have S4 := hide ((unhide S3).next hb4)
  have B4 := hide ((unhide B3).next hb4)
  have T4 := hide ((unhide T3).next hb4)
  clear hb4 HB3 X3 A3 S3 B3 T3 cx
  go_wp2_with fail
  refine (unhide HK1 _ _ (unhide HB4) (unhide D4)).mono ?_
  rintro e w5 ⟨a5, n5, c5, rfl, D5, hb5⟩
  have hal := allocB w5 (.cells #[.slice a5 n5 c5] 24)
  have HB5 := hide (nnext (nnext (unhide HB4) hb5) hal)
  have X5 := hide (((unhide X4).next hb5).next hal)
  have A5 := hide (((unhide A4).next hb5).next hal)
  have S5 := hide (((unhide S4).next hb5).next hal)
  have B5 := hide (((unhide B4).next hb5).next hal)
  have T5 := hide (((unhide T4).next hb5).next hal)
  have P5 := hide (BoxAt.new w5 (.slice a5 n5 c5))
  have F5 := hide ((unhide D5).next hal)
  clear hb5 hal HB4 X4 A4 S4 B4 T4 D4 D5 HK1
  have cx := (unhide X5).c
  go_wp2_with fail
  generalize w5.heap.size = kp at *
  generalize w5.alloc (.cells #[.slice a5 n5 c5] 24) = W5 at *
  refine (unhide HK2 _ (unhide HB5)).mono ?_
  rintro e w6 ⟨a6, n6, c6, rfl, D6, hb6⟩
  have hal := allocB w6 (.cells #[.slice a6 n6 c6] 24)
  have HB6 := hide (nnext (nnext (unhide HB5) hb6) hal)
  have X6 := hide (((unhide X5).next hb6).next hal)
  have A6 := hide (((unhide A5).next hb6).next hal)
  have S6 := hide (((unhide S5).next hb6).next hal)
  have B6 := hide (((unhide B5).next hb6).next hal)
  have T6 := hide (((unhide T5).next hb6).next hal)
  have P6 := hide (((unhide P5).next hb6).next hal)
  have F6 := hide (((unhide F5).next hb6).next hal)
  have Q6 := hide (BoxAt.new w6 (.slice a6 n6 c6))
  have G6 := hide ((unhide D6).next hal)
  clear hb6 hal HB5 X5 A5 S5 B5 T5 P5 F5 D6 HK2 cx
  go_upto_region 5 with fail
  generalize w6.heap.size = kq at *
  generalize w6.alloc (.cells #[.slice a6 n6 c6] 24) = W6 at *
  have keep : ∀ V, Below W6.heap.size W6 V → V.cell? ⟨ka, 0, none⟩ = some (.bool s.up) ∧ V.cell? ⟨ka, 1, none⟩ = some (.slice aad and acd) ∧ V.cell? ⟨ka, 2, none⟩ = some (.int .i64 s.id) ∧ V.cell? ⟨ka, 3, none⟩ = some (.int .i64 s.ep) ∧ V.cell? ⟨ka, 4, none⟩ = some (.slice aal s.ts.length acl) ∧ V.cell? ⟨ka, 5, none⟩ = some (.int .i64 s.dn) ∧ V.cell? ⟨ka, 6, none⟩ = some (.int .i64 s.tr.z) ∧ V.cell? ⟨ka, 7, none⟩ = some (.slice aan s.tr.ns.length acn) ∧ V.cell? ⟨ka, 8, none⟩ = some (.slice aai s.tr.ss.length aci) ∧ V.cell? ⟨ka, 9, none⟩ = some (.slice aaw s.ws.length acw) ∧ V.cell? ⟨kb, 0, none⟩ = some (.bool s.up) ∧ V.cell? ⟨kb, 1, none⟩ = some (.slice bad bnd bcd) ∧ V.cell? ⟨kb, 2, none⟩ = some (.int .i64 s.id) ∧ V.cell? ⟨kb, 3, none⟩ = some (.int .i64 s.ep) ∧ V.cell? ⟨kb, 4, none⟩ = some (.slice bal s.ts.length bcl) ∧ V.cell? ⟨kb, 5, none⟩ = some (.int .i64 s.dn) ∧ V.cell? ⟨kb, 6, none⟩ = some (.int .i64 s.tr.z) ∧ V.cell? ⟨kb, 7, none⟩ = some (.slice ban s.tr.ns.length bcn) ∧ V.cell? ⟨kb, 8, none⟩ = some (.slice bai s.tr.ss.length bci) ∧ V.cell? ⟨kb, 9, none⟩ = some (.slice baw s.ws.length bcw) ∧ V.cell? ⟨kp, 0, none⟩ = some (.slice a5 n5 c5) ∧ V.cell? ⟨kq, 0, none⟩ = some (.slice a6 n6 c6) ∧ V.cell? ⟨w.heap.size, 0, none⟩ = some (.slice a n c) := by
    intro V hV
    obtain ⟨x0, x1, x2, x3, x4, x5, x6, x7, x8, x9⟩ := ((unhide A6).next hV).cells
    obtain ⟨y0, y1, y2, y3, y4, y5, y6, y7, y8, y9⟩ := ((unhide B6).next hV).cells
    exact ⟨x0, x1, x2, x3, x4, x5, x6, x7, x8, x9, y0, y1, y2, y3, y4, y5, y6, y7, y8, y9, ((unhide P6).next hV).c, ((unhide Q6).next hV).c, ((unhide X6).next hV).c⟩
  have HK := hide keep
  have SS := hide (fun V (hV : Below W6.heap.size W6 V) => unhide HCS _ _ V ((unhide S6).next hV) ((unhide T6).next hV))
  have SD := hide (fun V (hV : Below W6.heap.size W6 V) => unhide HCE _ _ V ((unhide F6).next hV) ((unhide G6).next hV))
  have SC := hide (fun V (hV : Below W6.heap.size W6 V) => unhide HCY V (nnext (unhide HB6) hV))
  have SP := hide (fun V (hV : Below W6.heap.size W6 V) => unhide HP2 V (nnext (unhide HB6) hV))
  clear keep HCS HCE HCY HP2 A6 B6 P6 Q6 X6 S6 T6 F6 G6
  go_region_held3 (fun w' => w'.cell? ⟨ka, 0, none⟩ = some (.bool s.up) ∧ w'.cell? ⟨ka, 1, none⟩ = some (.slice aad and acd) ∧ w'.cell? ⟨ka, 2, none⟩ = some (.int .i64 s.id) ∧ w'.cell? ⟨ka, 3, none⟩ = some (.int .i64 s.ep) ∧ w'.cell? ⟨ka, 4, none⟩ = some (.slice aal s.ts.length acl) ∧ w'.cell? ⟨ka, 5, none⟩ = some (.int .i64 s.dn) ∧ w'.cell? ⟨ka, 6, none⟩ = some (.int .i64 s.tr.z) ∧ w'.cell? ⟨ka, 7, none⟩ = some (.slice aan s.tr.ns.length acn) ∧ w'.cell? ⟨ka, 8, none⟩ = some (.slice aai s.tr.ss.length aci) ∧ w'.cell? ⟨ka, 9, none⟩ = some (.slice aaw s.ws.length acw) ∧ w'.cell? ⟨kb, 0, none⟩ = some (.bool s.up) ∧ w'.cell? ⟨kb, 1, none⟩ = some (.slice bad bnd bcd) ∧ w'.cell? ⟨kb, 2, none⟩ = some (.int .i64 s.id) ∧ w'.cell? ⟨kb, 3, none⟩ = some (.int .i64 s.ep) ∧ w'.cell? ⟨kb, 4, none⟩ = some (.slice bal s.ts.length bcl) ∧ w'.cell? ⟨kb, 5, none⟩ = some (.int .i64 s.dn) ∧ w'.cell? ⟨kb, 6, none⟩ = some (.int .i64 s.tr.z) ∧ w'.cell? ⟨kb, 7, none⟩ = some (.slice ban s.tr.ns.length bcn) ∧ w'.cell? ⟨kb, 8, none⟩ = some (.slice bai s.tr.ss.length bci) ∧ w'.cell? ⟨kb, 9, none⟩ = some (.slice baw s.ws.length bcw) ∧ w'.cell? ⟨kp, 0, none⟩ = some (.slice a5 n5 c5) ∧ w'.cell? ⟨kq, 0, none⟩ = some (.slice a6 n6 c6) ∧ w'.cell? ⟨w.heap.size, 0, none⟩ = some (.slice a n c)) (first | with_reducible exact unhide HK _ (Below.refl _ _).drew | with_reducible exact unhide HK _ (Below.refl _ _) | with_reducible exact unhide HK _ (unhide B12) | with_reducible exact unhide HK _ (unhide B11) | with_reducible exact unhide HK _ (unhide B10) | with_reducible exact unhide HK _ (unhide B9) | with_reducible exact unhide HK _ (unhide B8) | with_reducible exact unhide HK _ (unhide B7)) (first
    | (go_at_call 12; refine (unhide SS _ (Below.refl _ _).drew).mono ?_; rintro e w7 ⟨rfl, hb7⟩; have B7 := hide (nbelow_drew hb7); clear hb7)
    | (go_at_call 13; refine (unhide SD _ (unhide B7)).mono ?_; rintro e w8 ⟨rfl, hb8⟩; have B8 := hide (nnext (unhide B7) hb8); clear hb8)
    | (go_at_call 8; refine (unhide SC _ (unhide B8)).mono ?_; rintro e w9 ⟨a9, n9, c9, rfl, D9, hb9⟩; have B9 := hide (nnext (unhide B8) hb9); clear hb9)
    | (go_at_call 14; refine (unhide HP1 _ _ (unhide D9)).mono ?_; rintro e w10 ⟨rfl, hb10⟩; have B10 := hide (nnext (unhide B9) hb10); clear hb10)
    | (go_at_call 15; refine (unhide SP _ (unhide B10)).mono ?_; rintro e w11 ⟨rfl, hb11⟩; have B11 := hide (nnext (unhide B10) hb11); clear hb11)
    | (go_at_call 16; refine (boots_any _).mono ?_; rintro e w12 ⟨rfl, hb12⟩; have B12 := hide (nnext (unhide B11) hb12); clear hb12))
  all_goals
    go_wp2_with fail
    go_ret
    exact ⟨rfl, nnext (unhide HB6) (unhide B12)⟩

end Go.Proofs.YtaoflcmeiaffjaaGreatDoor

namespace Go.Proofs.YtaoflcmeiaffjaaGreatDoor
open Go.ChangeShapes Go.WideShapes Go.ChangeAt Go.RowKit Go.ChangeMaps

theorem cellsStr1 : Tryz.prog.cellsOf 9 = 1 := by kernel_rfl
theorem cellsFile : Tryz.prog.cellsOf 72 = 3 := by kernel_rfl
theorem cellsSl : Tryz.prog.cellsOf 22 = 1 := by kernel_rfl
theorem cellsDisk : Tryz.prog.cellsOf 24 = 1 := by kernel_rfl
theorem bytesFile : Tryz.prog.bytesOf 72 = 48 := by kernel_rfl
theorem laidOut : laidOutB Tryz.prog = true := by kernel_rfl
theorem list_of1 (s : ByteArray) : ∃ l : List UInt8, s = ⟨l.toArray⟩ := ⟨s.data.toList, rfl⟩

section
variable {H : Type} {enc : TypeId × Value → H} {W : World} {base : Nat} {spare : Nat → Bool} {held : Bool}
def fileD (f : DF) : DataW H := .agg [.lit (.string f.n), .lit (.string f.s), .lit (.string f.t)]
theorem open_file {n : Nat} {cs : List Value} {x : DataW H × List MemPlace} (hl : cs.length = 3) (h : DataW.trod enc Tryz.prog W base spare held n 72 cs = some x) : ∃ f : DF, cs = fcells f ∧ x.1 = fileD f := by
  match cs, hl with
  | [c0, c1, c2], _ =>
    obtain ⟨xs, k, _, hx, _, hlen, hfs⟩ := DataW.trod_struct Tryz.underlying72 h
    match xs, hlen with
    | [y0, y1, y2], _ =>
      obtain ⟨s0, e0, rfl, _⟩ := DataW.trod_string Tryz.underlying9 (show DataW.trod enc Tryz.prog W base spare held k 9 [c0] = some y0 by simpa [cellsStr1] using hfs 0 _ rfl)
      obtain ⟨s1, e1, rfl, _⟩ := DataW.trod_string Tryz.underlying9 (show DataW.trod enc Tryz.prog W base spare held k 9 [c1] = some y1 by simpa [cellsStr1] using hfs 1 _ rfl)
      obtain ⟨s2, e2, rfl, _⟩ := DataW.trod_string Tryz.underlying9 (show DataW.trod enc Tryz.prog W base spare held k 9 [c2] = some y2 by simpa [cellsStr1] using hfs 2 _ rfl)
      simp only [List.cons.injEq, and_true] at e0 e1 e2
      subst e0 e1 e2
      obtain ⟨l0, rfl⟩ := list_of1 s0
      obtain ⟨l1, rfl⟩ := list_of1 s1
      obtain ⟨l2, rfl⟩ := list_of1 s2
      subst hx
      exact ⟨⟨l0, l1, l2⟩, rfl, rfl⟩
theorem weights_file (f : DF) : DataW.weights Tryz.prog 72 (fileD f : DataW H) = [f.n.length, f.s.length, f.t.length] := by
  simp [DataW.weights, fileD, Tryz.underlying72, DataW.weightsEach]
theorem weightsAll_mem {e : TypeId} : ∀ (l : List (DataW H)) (d : DataW H) (x : Nat), d ∈ l → x ∈ DataW.weights Tryz.prog e d → x ∈ DataW.weightsAll Tryz.prog e l
  | d' :: r, d, x, h, hx => by
    rw [DataW.weightsAll]
    rcases List.mem_cons.1 h with rfl | h
    · exact List.mem_append.2 (.inl hx)
    · exact List.mem_append.2 (.inr (weightsAll_mem r d x h hx))
instance : Inhabited (DataW H) := ⟨.nil⟩

set_option maxRecDepth 10000 in
theorem open_disk {r : Reach} {b0 : Nat} {v : Value} {d : DataW H} {p : List MemPlace}
    (hv : Value.okWide Tryz.prog W r b0 24 v) (h : DataW.Trod enc Tryz.prog W base spare held 24 v d p) :
    ∃ c fs, v = .agg #[c] ∧ DiskV W c fs ∧ ∀ M, (∀ x ∈ DataW.weights Tryz.prog 24 d, x ≤ M) → (∀ f ∈ fs, f.n.length ≤ M ∧ f.s.length ≤ M ∧ f.t.length ≤ M) ∧ fs.length * 48 ≤ M := by
  obtain ⟨cs, rfl, hsz⟩ := okWide_struct Tryz.underlying24 hv
  have hsz1 : cs.size = 1 := hsz.trans cellsDisk
  obtain ⟨l⟩ := cs
  match l, hsz1 with
  | [c0], _ =>
    obtain ⟨fuel, hf⟩ := h
    obtain ⟨y0, n, hx, _, hy⟩ := trod_struct1 Tryz.underlying24 hf
    have hy' : DataW.trod enc Tryz.prog W base spare held n 22 [c0] = some y0 := by simpa [Value.cells, cellsSl] using hy
    simp only [Prod.mk.injEq] at hx
    obtain ⟨rfl, rfl⟩ := hx
    rcases Go.Deep.open_slice Tryz.underlying22 hy' with ⟨h1, rfl⟩ | ⟨a, len, cap, m, k, D, Pl, h1, hb, hl, hm, hmm, rfl, hel⟩
    · simp only [List.cons.injEq, and_true] at h1
      subst h1
      exact ⟨_, [], rfl, DiskV.nil W, fun M _ => ⟨by simp, by simp⟩⟩
    · simp only [List.cons.injEq, and_true] at h1
      subst h1
      have hlm : len ≤ m := by rw [hmm]; split <;> omega
      have each : ∀ i, i < len → ∃ f : DF, (∀ c, c < 3 → W.cell? (a.add (i * 3 + c)) = (fcells f)[c]?) ∧ D i = fileD f := by
        intro i hi
        obtain ⟨cs', g1, g2⟩ := hel i (by omega)
        rw [cellsFile] at g1
        obtain ⟨_, hlen, hcell⟩ := World.cells?_some g1
        obtain ⟨f, rfl, hd⟩ := open_file hlen g2
        refine ⟨f, fun c hc => ?_, hd⟩
        have := hcell c hc
        rwa [Go.Deep.add_add] at this
      obtain ⟨F, hF⟩ := Go.Deep.choose_lt each
      refine ⟨_, (List.range len).map F, rfl, ?_, ?_⟩
      · by_cases h0 : len = 0
        · subst h0
          exact .inl ⟨some a, cap, rfl, rfl, hm⟩
        · have c0 := (hF 0 (by omega)).1 0 (by decide)
          obtain ⟨b, off, sp⟩ := a
          have hsp : sp = none := by
            cases sp with
            | none => rfl
            | some s => simp [World.cell?, Addr.add, fcells] at c0; split at c0 <;> simp at c0
          subst hsp
          have hblt : b < W.heap.size := World.block_lt_of_cell? W _ (show W.cell? ((⟨b, off, none⟩ : Addr).add (0 * 3 + 0)) = some _ from c0) |> fun h => by simpa [Addr.add] using h
          refine .inr ⟨b, off, cap, by simp, by simpa using hl, hm, hblt, by simp; omega, fun j u hj => ?_⟩
          have hjl : j < len * 3 := by
            have := (List.getElem?_eq_some_iff.1 hj).1
            rw [cellsF_length] at this
            simpa using this
          have hi : j / 3 < len := by omega
          have hg := cellsF_get ((List.range len).map F) (j / 3) (F (j / 3)) (by simp [hi]) (j % 3) (by omega)
          rw [show j / 3 * 3 + j % 3 = j by omega, hj] at hg
          have := (hF (j / 3) hi).1 (j % 3) (by omega)
          rw [show j / 3 * 3 + j % 3 = j by omega, Addr.add_lit, ← hg] at this
          exact this
      · intro M hM
        have hw : DataW.weights Tryz.prog 24 (.agg [.slice ((List.range len).map D) ((List.range (m - len)).map fun j => D (len + j))] : DataW H) =
            (len + (m - len)) * 48 :: (DataW.weightsAll Tryz.prog 72 ((List.range len).map D) ++ DataW.weightsAll Tryz.prog 72 ((List.range (m - len)).map fun j => D (len + j))) := by
          simp [DataW.weights, Tryz.underlying24, Tryz.underlying22, DataW.weightsEach, bytesFile]
        rw [hw] at hM
        refine ⟨fun f hf => ?_, ?_⟩
        · obtain ⟨i, hi, rfl⟩ := List.mem_map.1 hf
          have hi' : i < len := by simpa using hi
          have key : ∀ x ∈ DataW.weights Tryz.prog 72 (D i), x ≤ M := fun x hx => hM x (List.mem_cons_of_mem _ (List.mem_append.2 (.inl (weightsAll_mem _ (D i) x (List.mem_map.2 ⟨i, hi, rfl⟩) hx))))
          rw [(hF i hi').2, weights_file] at key
          exact ⟨key _ (by simp), key _ (by simp), key _ (by simp)⟩
        · have := hM _ (List.mem_cons_self ..)
          simp only [List.length_map, List.length_range]
          omega
theorem sized_disk {ts : List TypeId} {ds : List (DataW H)} (h : (DataW.weightsEach Tryz.prog ts ds).all (· ≤ reachBytes) = true) {j : Nat} {d : DataW H} (ht : ts[j]? = some 24) (hd : ds[j]? = some d) : ∀ x ∈ DataW.weights Tryz.prog 24 d, x ≤ 140737488351232 := by
  intro x hx
  have e : reachBytes = 140737488351232 := by decide
  have h1 := List.all_eq_true.1 h _ (DataW.weights_mem_each ht hd x hx)
  rw [e] at h1
  simpa using h1
end
end Go.Proofs.YtaoflcmeiaffjaaGreatDoor
