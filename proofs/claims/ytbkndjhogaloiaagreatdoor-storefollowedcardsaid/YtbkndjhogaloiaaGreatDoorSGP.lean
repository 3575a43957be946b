/-
  What store.Crash and aviaryref.CrashServer answer: the walks.
-/
import Derived.Test.YtbkndjhogaloiaaGreatDoorSGM
import Derived.Test.YtbkndjhogaloiaaGreatDoorSGO
namespace Go.Proofs.YtbkndjhogaloiaaGreatDoor
open Go.RowKit

theorem CB.zero {w W : World} {up : Bool} {id ep dn z : Int} {vd vl vn vs vw : Value} (h : CB w W up vd id ep vl dn z vn vs vw) : Below w.heap.size w (put10 W (w.heap.size + 1) (.bool false) (.slice none 0 0) (.int .i64 0) (.int .i64 0) (.slice none 0 0) (.int .i64 0) (.int .i64 0) (.slice none 0 0) (.slice none 0 0) (.slice none 0 0)) := put10_below h.below (by omega) _ _ _ _ _ _ _ _ _ _

set_option maxRecDepth 10000 in
set_option maxHeartbeats 4000000 in
theorem scrash_ok (s : Sv) (v : Value) (d : List DF) (keep : Int) (w : World) (hv : SvV w v s) (G : GivesD 19 (fun x => #[x, .int .i64 keep]) s.fs d 0) :
    Calls Tryz.prog 8 #[v, .int .i64 keep] w (GivesV w ⟨false, d, s.id, 0, [], 0, trNew, []⟩ 0) := by
  obtain ⟨ad, nd, cd, al, cl, an, cn, ai, ci, aw, cw, rfl, d1, l1, n1, s1, k1⟩ := hv.five
  have HD := hide (fun W (hW : Below w.heap.size w W) => G _ W (d1.next hW))
  clear hv d1 l1 n1 s1 k1 G
  obtain ⟨up, fs, id, ep, ts, dn, ⟨tz, tns, tss⟩, ws⟩ := s
  simp only at *
  go_enter Tryz.func8, Tryz.ntmps8
  go_wp2_with fail
  have X0 := CB.start w up id ep dn tz (.slice ad nd cd) (.slice al ts.length cl) (.slice an tns.length cn) (.slice ai tss.length ci) (.slice aw ws.length cw)
  generalize (w.alloc (.cells #[.bool up, .slice ad nd cd, .int .i64 id, .int .i64 ep, .slice al ts.length cl, .int .i64 dn, .int .i64 tz, .slice an tns.length cn, .slice ai tss.length ci, .slice aw ws.length cw] 35)).alloc (.cells #[.bool false, .slice none 0 0, .int .i64 0, .int .i64 0, .slice none 0 0, .int .i64 0, .int .i64 0, .slice none 0 0, .slice none 0 0, .slice none 0 0] 35) = W0 at *
  have HX0 := hide X0
  obtain ⟨x0, x1, x2, x3, x4, x5, x6, x7, x8, x9⟩ := X0.s.cells
  clear X0
  refine (unhide HD _ (unhide HX0).below).mono ?_
  rintro e w1 ⟨a1, n1, c1, rfl, D1, hb1⟩
  have hal := allocB w1 (.cells #[.slice a1 n1 c1] 26)
  have X1 := hide (((unhide HX0).next hb1).next hal)
  have A1 := hide (BoxAt.new w1 (.slice a1 n1 c1))
  have F1 := hide ((unhide D1).next hal)
  clear hb1 hal HX0 HD D1 x0 x1 x2 x3 x4 x5 x6 x7 x8 x9
  go_upto_region 4 with fail
  generalize w1.heap.size = q1 at *
  generalize w1.alloc (.cells #[.slice a1 n1 c1] 26) = W1 at *
  have keep : ∀ V, Below W1.heap.size W1 V → V.cell? ⟨q1, 0, none⟩ = some (.slice a1 n1 c1) ∧ V.cell? ⟨w.heap.size, 2, none⟩ = some (.int .i64 id) := fun V hV => ⟨((unhide A1).next hV).c, ((unhide X1).s.next hV).cells.2.2.1⟩
  have HK := hide keep
  have HT := hide (fun W => (tnew_any W).mono fun _ _ h => gives_new h)
  clear keep
  obtain ⟨k0, k1⟩ := unhide HK _ (Below.refl _ _)
  go_region_with (first
    | (go_at_call 20; refine (unhide HT _).mono ?_; rintro e w3 ⟨bn, en, bi, ei, rfl, ON, OI, hb3⟩; have B3 := hide (nbelow_drew hb3); have X3 := hide ((unhide X1).next (unhide B3)); obtain ⟨r0, r1, r2, r3, r4, r5, r6, r7, r8, r9⟩ := (unhide X3).r.cells; have rf0 := (unhide X3).r.froz 0; have rf1 := (unhide X3).r.froz 1; have rf2 := (unhide X3).r.froz 2; have rf3 := (unhide X3).r.froz 3; have rf4 := (unhide X3).r.froz 4; have rf5 := (unhide X3).r.froz 5; have rf6 := (unhide X3).r.froz 6; have rf7 := (unhide X3).r.froz 7; have rf8 := (unhide X3).r.froz 8; have rf9 := (unhide X3).r.froz 9; obtain ⟨m0, m1⟩ := unhide HK _ (unhide B3); clear hb3))
  all_goals
    go_wp2_with fail
    refine bodyPost_ret (v := .tuple #[.agg #[.bool false, .slice a1 n1 c1, .int .i64 id, .int .i64 0, .slice none 0 0, .int .i64 0, .int .i64 0, .slice bn 1 en, .slice bi 0 ei, .slice none 0 0], .int .i64 0]) (by simp [results, Tryz.results8, go_sem, r0, r1, r2, r3, r4, r5, r6, r7, r8, r9]) rfl ⟨_, rfl, ?_, put10_below (unhide X3).below (by omega) _ _ _ _ _ _ _ _ _ _⟩
    exact put10_new (s := ⟨false, d, id, 0, [], 0, trNew, []⟩) (unhide X3).r.dumb ((unhide F1).next (unhide B3)) (LogV.nil _) (unhide ON) (unhide OI).seq (away_own (unhide OI) (unhide X1).r.lt) (SeqV.nil _)

end Go.Proofs.YtbkndjhogaloiaaGreatDoor
