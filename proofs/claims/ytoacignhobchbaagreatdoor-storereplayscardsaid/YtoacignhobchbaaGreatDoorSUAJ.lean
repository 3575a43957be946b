/-
  What store.Boot and aviaryref.Boot answer: the walks.
-/
import Derived.Test.YtoacignhobchbaaGreatDoorSUX
import Derived.Test.YtoacignhobchbaaGreatDoorSUAH
import Derived.Test.YtoacignhobchbaaGreatDoorSUAI
import Derived.Test.YtoacignhobchbaaGreatDoorSUAC
namespace Go.Proofs.YtoacignhobchbaaGreatDoor
open Go.RowKit

/-- blocks of a call that is handed a disk and gives a server: the disk's, the result's -/
structure KBox (w W : World) (v : Value) : Prop where
  below : Below w.heap.size w W
  d : BoxAt W w.heap.size v
  r : Box10 W (w.heap.size + 1) false (.slice none 0 0) 0 0 (.slice none 0 0) 0 0 (.slice none 0 0) (.slice none 0 0) (.slice none 0 0)
theorem KBox.next {w W V : World} {v : Value} (h : KBox w W v) (hb : Below W.heap.size W V) : KBox w V v := ⟨nnext h.below hb, h.d.next hb, h.r.next hb⟩
theorem KBox.start (w : World) (v : Value) : KBox w ((w.alloc (.cells #[v] 28)).alloc (.cells #[.bool false, .slice none 0 0, .int .i64 0, .int .i64 0, .slice none 0 0, .int .i64 0, .int .i64 0, .slice none 0 0, .slice none 0 0, .slice none 0 0] 36)) v := by
  refine ⟨nnext (allocB _ _) (allocB _ _), (BoxAt.new w v).next (allocB _ _), ?_⟩
  have h := Box10.new (w.alloc (.cells #[v] 28)) false 0 0 0 0 (.slice none 0 0) (.slice none 0 0) (.slice none 0 0) (.slice none 0 0) (.slice none 0 0)
  rw [show (w.alloc (.cells #[v] 28)).heap.size = w.heap.size + 1 by simp] at h
  exact h
/-- the refused one -/
theorem KBox.zero {w W : World} {v : Value} (h : KBox w W v) : Below w.heap.size w (put10 W (w.heap.size + 1) (.bool false) (.slice none 0 0) (.int .i64 0) (.int .i64 0) (.slice none 0 0) (.int .i64 0) (.int .i64 0) (.slice none 0 0) (.slice none 0 0) (.slice none 0 0)) := put10_below h.below (by omega) _ _ _ _ _ _ _ _ _ _

/-- a new tree, spelt out -/
def GivesN (w : World) (e : Ending) (w' : World) : Prop :=
  ∃ an cn ai ci, e = .returned (.agg #[.int .i64 0, .slice an 1 cn, .slice ai 0 ci]) ∧ Hid (SeqV w' (.slice an 1 cn) trNew.ns) ∧ Hid (OwnS w' w.heap.size (.slice ai 0 ci) trNew.ss) ∧ Below w.heap.size w w'
theorem gives_new {w w' : World} {e : Ending} (h : GivesT w trNew e w') : GivesN w e w' := by
  obtain ⟨vn, vs, rfl, h1, h2, h3⟩ := h
  obtain ⟨an, cn, rfl, _⟩ := h1.slice
  obtain ⟨ai, ci, rfl, _⟩ := h2.slice
  exact ⟨an, cn, ai, ci, rfl, h1.seq, h2, h3⟩

set_option maxRecDepth 10000 in
set_option maxHeartbeats 4000000 in
theorem sboot_ok (v : Value) (fs d : List DF) (ts : List WTxn) (id : Int) (w : World) (hv : DiskV w v fs) (hs : Slim fs) (h0 : 0 ≤ id) (h1 : id < 3) (G : GivesW 27 (fun x => #[x]) fs ts d 0) :
    Calls Tryz.prog 15 #[.int .i64 id, .agg #[v]] w (GivesV w ⟨true, d, id, epochD fs, ts, 0, trNew, []⟩ 0) := by
  have CE := fun W (hW : Below w.heap.size w W) => sepoch_any v fs W (hv.next hW) hs
  generalize epochD fs = ep at *
  have HV := hide hv
  have HG := hide G
  obtain ⟨a, n, c, rfl⟩ := disk_slice hv
  clear hv G hs
  go_enter Tryz.func15, Tryz.ntmps15
  go_upto_region 2 with fail
  have X := hide (KBox.start w (.slice a n c))
  generalize (w.alloc (.cells #[.slice a n c] 28)).alloc (.cells #[.bool false, .slice none 0 0, .int .i64 0, .int .i64 0, .slice none 0 0, .int .i64 0, .int .i64 0, .slice none 0 0, .slice none 0 0, .slice none 0 0] 36) = W0 at *
  go_wp2_with fail
  refine (unhide HG _ _ ((unhide HV).next (unhide X).below)).mono ?_
  rintro e w1 ⟨al, kl, cl, a1, n1, c1, rfl, HL1, HD1, hb1⟩
  have X1 := hide (((unhide X).next hb1).next (allocB w1 (.cells #[.slice a1 n1 c1] 28)))
  have A1 := hide (BoxAt.new w1 (.slice a1 n1 c1))
  have L1 := hide ((unhide HL1).next (allocB w1 (.cells #[.slice a1 n1 c1] 28)))
  have D1 := hide ((unhide HD1).next (allocB w1 (.cells #[.slice a1 n1 c1] 28)))
  have cd1 := (unhide X1).d.c
  clear hb1 X HL1 HD1 HG
  go_wp2_with fail
  generalize w1.alloc (.cells #[.slice a1 n1 c1] 28) = W1 at *
  refine (CE _ (unhide X1).below).mono ?_
  rintro e w2 ⟨rfl, hb2⟩
  have hal := allocB w2 (.cells #[.int .i64 id, .int .i64 ep, .slice al kl cl, .int .i64 0] 30)
  have X2 := hide (((unhide X1).next hb2).next hal)
  have A2 := hide (((unhide A1).next hb2).next hal)
  have L2 := hide (((unhide L1).next hb2).next hal)
  have D2 := hide (((unhide D1).next hb2).next hal)
  have P2 := hide (heap_alloc_new w2 (.cells #[.int .i64 id, .int .i64 ep, .slice al kl cl, .int .i64 0] 30))
  clear hb2 hal X1 A1 L1 D1 CE cd1 HV
  go_upto_region 7 with fail
  generalize w1.heap.size = q1 at *
  generalize w2.heap.size = q2 at *
  generalize w2.alloc (.cells #[.int .i64 id, .int .i64 ep, .slice al kl cl, .int .i64 0] 30) = W2 at *
  have keep : ∀ V, Below W2.heap.size W2 V → V.cell? ⟨q1, 0, none⟩ = some (.slice a1 n1 c1) ∧ V.cell? ⟨q2, 0, none⟩ = some (.int .i64 id) ∧ V.cell? ⟨q2, 1, none⟩ = some (.int .i64 ep) ∧ V.cell? ⟨q2, 2, none⟩ = some (.slice al kl cl) ∧ V.cell? ⟨q2, 3, none⟩ = some (.int .i64 0) := by
    intro V hV
    have h2 := unhide P2
    have h3 : V.heap[q2]? = some (.cells #[.int .i64 id, .int .i64 ep, .slice al kl cl, .int .i64 0] 30) := (hV.block q2 (Array.getElem?_eq_some_iff.1 h2).1).trans h2
    refine ⟨((unhide A2).next hV).c, ?_, ?_, ?_, ?_⟩ <;> simp [World.cell?, h3]
  have HK := hide keep
  have HT := hide (fun W => (tnew_any W).mono fun _ _ h => gives_new h)
  clear keep
  obtain ⟨k0, k1, k2, k3, k4⟩ := unhide HK _ (Below.refl _ _)
  go_region_with (first
    | (go_at_call 12; refine (unhide HT _).mono ?_; rintro e w3 ⟨an, cn, ai, ci, rfl, ON, OI, hb3⟩; have B3 := hide (nbelow_drew hb3); have X3 := hide ((unhide X2).next (unhide B3)); obtain ⟨r0, r1, r2, r3, r4, r5, r6, r7, r8, r9⟩ := (unhide X3).r.cells; have rf0 := (unhide X3).r.froz 0; have rf1 := (unhide X3).r.froz 1; have rf2 := (unhide X3).r.froz 2; have rf3 := (unhide X3).r.froz 3; have rf4 := (unhide X3).r.froz 4; have rf5 := (unhide X3).r.froz 5; have rf6 := (unhide X3).r.froz 6; have rf7 := (unhide X3).r.froz 7; have rf8 := (unhide X3).r.froz 8; have rf9 := (unhide X3).r.froz 9; obtain ⟨m0, m1, m2, m3, m4⟩ := unhide HK _ (unhide B3); clear hb3))
  all_goals
    go_wp2_with fail
    refine bodyPost_ret (v := .tuple #[.agg #[.bool true, .slice a1 n1 c1, .int .i64 id, .int .i64 ep, .slice al kl cl, .int .i64 0, .int .i64 0, .slice an 1 cn, .slice ai 0 ci, .slice none 0 0], .int .i64 0]) (by simp [results, Tryz.results15, go_sem, r0, r1, r2, r3, r4, r5, r6, r7, r8, r9]) rfl ⟨_, rfl, ?_, put10_below (unhide X3).below (by omega) _ _ _ _ _ _ _ _ _ _⟩
    exact put10_new (s := ⟨true, d, id, ep, ts, 0, trNew, []⟩) (unhide X3).r.dumb ((unhide D2).next (unhide B3)) ((unhide L2).next (unhide B3)) (unhide ON) (unhide OI).seq (away_own (unhide OI) (unhide X2).r.lt) (SeqV.nil _)

end Go.Proofs.YtoacignhobchbaaGreatDoor
