/-
  What aviaryref.EpochOf and aviaryref.Boot answer: the walks.
-/
import Derived.Test.YtaoflcmeiaffjaaGreatDoorSM
namespace Go.Proofs.YtaoflcmeiaffjaaGreatDoor
open Go.RowKit

theorem zRead_top (l : List UInt8) : zRead l ≤ 9223372036854775807 := by
  unfold zRead
  split
  · unfold zMake
    split
    · rename_i h
      have h1 := zIn_iff.1 (show zIn (num (cutA l) : Int) = true by simp at h; exact h.1)
      have h2 := zIn_iff.1 (show zIn (num (cutZ l) : Int) = true by simp at h; exact h.2)
      omega
    · omega
  · omega
set_option maxRecDepth 10000 in
set_option maxHeartbeats 1000000 in
theorem repochOf_any (v : Value) (fs : List DF) (w : World) (hv : DiskV w v fs) (hs : Slim fs) (hl : fs.length ≤ 140737488355328) :
    Calls Tryz.prog 15 #[.agg #[v]] w fun e w' => e = .returned (.int .i64 (epochD fs)) ∧ Below w.heap.size w w' := by
  have CR := fun W (h : DiskV W v fs) => rread_any v fs epochN W h hs hl
  have hlen := readD_len fs epochN
  have HE := hide (epochD_err (fs := fs))
  have hd : epochD fs = zEpoch (zRead (readD fs epochN).1) := rfl
  generalize epochD fs = D at *
  generalize readD fs epochN = R at *
  obtain ⟨s, E⟩ := R
  simp only at CR hlen HE hd
  simp only [show epochN.toArray = #[101, 112, 111, 99, 104] from rfl] at CR
  have HV := hide hv
  obtain ⟨a, n, c, rfl⟩ := disk_slice hv
  clear hv hs hl
  by_cases hE : E = 0
  · subst hE
    have CZ := fun W => zrread_any s W (by omega)
    have CE := fun W => repoch_any (zRead s) (zRead_top s) W
    rw [← hd] at CE
    generalize zRead s = z at *
    generalize zReadE s = ze at *
    clear hd hlen HE
    go_enter Tryz.func15, Tryz.ntmps15
    go_wp2_with fail
    refine (CR _ ((unhide HV).next (allocB _ _))).mono ?_
    rintro e w1 ⟨rfl, hb1⟩
    have hB1 := nbox_then hb1
    clear hb1 CR
    go_wp2_with fail
    refine (CZ _).mono ?_
    rintro e w2 ⟨rfl, hb2⟩
    have hB2 := nnext hB1 hb2
    clear hb2 hB1 CZ
    go_wp2_with fail
    refine (CE _).mono ?_
    rintro e w3 ⟨rfl, rfl⟩
    go_wp2_with fail
    go_ret
    exact ⟨rfl, hB2⟩
  · have hne : (E != 0) = true := by simpa using hE
    have h0 := unhide HE hE
    subst h0
    clear hd hlen HE hE
    go_enter Tryz.func15, Tryz.ntmps15
    go_wp2_with fail
    refine (CR _ ((unhide HV).next (allocB _ _))).mono ?_
    rintro e w1 ⟨rfl, hb1⟩
    have hB1 := nbox_then hb1
    clear hb1 CR
    go_wp2_with fail
    go_ret
    exact ⟨rfl, hB1⟩

set_option maxRecDepth 10000 in
set_option maxHeartbeats 4000000 in
theorem rboot_ok (v : Value) (fs d : List DF) (ts : List WTxn) (id : Int) (w : World) (hv : DiskV w v fs) (hs : Slim fs) (hl : fs.length ≤ 140737488355328) (h0 : 0 ≤ id) (h1 : id < 3) (G : GivesW 29 (fun x => #[x]) fs ts d 0) :
    Calls Tryz.prog 9 #[.int .i64 id, .agg #[v]] w (GivesV w ⟨true, d, id, epochD fs, ts, 0, trNew, []⟩ 0) := by
  have CE := fun W (hW : Below w.heap.size w W) => repochOf_any v fs W (hv.next hW) hs hl
  generalize epochD fs = ep at *
  have HV := hide hv
  have HG := hide G
  obtain ⟨a, n, c, rfl⟩ := disk_slice hv
  clear hv G hs hl
  go_enter Tryz.func9, Tryz.ntmps9
  go_upto_region 2 with fail
  have X := hide (KBox.start w (.slice a n c))
  generalize (w.alloc (.cells #[.slice a n c] 24)).alloc (.cells #[.bool false, .slice none 0 0, .int .i64 0, .int .i64 0, .slice none 0 0, .int .i64 0, .int .i64 0, .slice none 0 0, .slice none 0 0, .slice none 0 0] 34) = W0 at *
  go_wp2_with fail
  refine (unhide HG _ _ ((unhide HV).next (unhide X).below)).mono ?_
  rintro e w1 ⟨al, kl, cl, a1, n1, c1, rfl, HL1, HD1, hb1⟩
  have X1 := hide (((unhide X).next hb1).next (allocB w1 (.cells #[.slice a1 n1 c1] 24)))
  have A1 := hide (BoxAt.new w1 (.slice a1 n1 c1))
  have L1 := hide ((unhide HL1).next (allocB w1 (.cells #[.slice a1 n1 c1] 24)))
  have D1 := hide ((unhide HD1).next (allocB w1 (.cells #[.slice a1 n1 c1] 24)))
  clear hb1 X HL1 HD1 HG HV
  go_upto_region 6 with fail
  generalize w1.heap.size = q1 at *
  generalize w1.alloc (.cells #[.slice a1 n1 c1] 24) = W2 at *
  have keep : ∀ V, Below W2.heap.size W2 V → V.cell? ⟨q1, 0, none⟩ = some (.slice a1 n1 c1) ∧ V.cell? ⟨w.heap.size, 0, none⟩ = some (.slice a n c) := fun V hV => ⟨((unhide A1).next hV).c, ((unhide X1).d.next hV).c⟩
  have HK := hide keep
  have HT := hide (fun W => (rnew_any W).mono fun _ _ h => gives_new h)
  have HE := hide CE
  clear keep CE
  obtain ⟨k0, k1⟩ := unhide HK _ (Below.refl _ _)
  go_region_with (first
    | (go_at_call 15; refine (unhide HE _ (by first | with_reducible exact (unhide X1).below.drew | with_reducible exact (unhide X1).below)).mono ?_; rintro e w2 ⟨rfl, hb2⟩; have B2 := hide (nbelow_drew hb2); obtain ⟨l0, l1⟩ := unhide HK _ (unhide B2); clear hb2)
    | (go_at_call 30; refine (unhide HT _).mono ?_; rintro e w3 ⟨an, cn, ai, ci, rfl, ON, OI, hb3⟩; have B3 := hide (nnext (unhide B2) hb3); have X3 := hide ((unhide X1).next (unhide B3)); obtain ⟨r0, r1, r2, r3, r4, r5, r6, r7, r8, r9⟩ := (unhide X3).r.cells; have rf0 := (unhide X3).r.froz 0; have rf1 := (unhide X3).r.froz 1; have rf2 := (unhide X3).r.froz 2; have rf3 := (unhide X3).r.froz 3; have rf4 := (unhide X3).r.froz 4; have rf5 := (unhide X3).r.froz 5; have rf6 := (unhide X3).r.froz 6; have rf7 := (unhide X3).r.froz 7; have rf8 := (unhide X3).r.froz 8; have rf9 := (unhide X3).r.froz 9; obtain ⟨m0, m1⟩ := unhide HK _ (unhide B3); have hB2 := hide (unhide B2).size; clear hb3))
  all_goals
    go_wp2_with fail
    refine bodyPost_ret (v := .tuple #[.agg #[.bool true, .slice a1 n1 c1, .int .i64 id, .int .i64 ep, .slice al kl cl, .int .i64 0, .int .i64 0, .slice an 1 cn, .slice ai 0 ci, .slice none 0 0], .int .i64 0]) (by simp [results, Tryz.results9, go_sem, r0, r1, r2, r3, r4, r5, r6, r7, r8, r9]) rfl ⟨_, rfl, ?_, put10_below (unhide X3).below (by omega) _ _ _ _ _ _ _ _ _ _⟩
    exact put10_new (s := ⟨true, d, id, ep, ts, 0, trNew, []⟩) (unhide X3).r.dumb ((unhide D1).next (unhide B3)) ((unhide L1).next (unhide B3)) (unhide ON) (unhide OI).seq (away_own (unhide OI) (Nat.lt_of_lt_of_le (unhide X1).r.lt (unhide hB2))) (SeqV.nil _)

end Go.Proofs.YtaoflcmeiaffjaaGreatDoor
