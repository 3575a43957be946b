/-
  What the methods of a nil world answer, and the law WorldNil: the walks.
  A slice of elements that are laid in a row, as an argument: opened, with what is known of each.
  A deed, and a list of deeds, as arguments: opened; what their weights say of their lengths.
-/
import Derived.Test.YtnlnojjaebojfaaGreatDoorWND
import Derived.Test.YtnlnojjaebojfaaGreatDoorWNB
import Derived.Test.YtnlnojjaebojfaaGreatDoorRows
import Derived.ProofKit
import Derived.OpenShut
import Derived.SizedLaws
import Derived.Deep.Slices
import Derived.Carry
namespace Go.Proofs.YtnlnojjaebojfaaGreatDoor
open Go.RowKit

/-- a reply with a code, all else zero -/
def refV (E : Int) : Value := .agg #[.int .i64 E, .int .i64 0, .string ⟨#[]⟩, .string ⟨#[]⟩, .int .i64 0, .int .i64 0, .int .i64 0, .int .i64 0, .int .i64 0, .int .i64 0, .int .i64 0, .slice none 0 0]
set_option maxRecDepth 10000 in
set_option maxHeartbeats 1000000 in
theorem refused_any (E : Int) (w : World) : Calls Tryz.prog 11 #[.int .i64 E] w fun e w' => e = .returned (refV E) ∧ Below w.heap.size w w' := by
  unfold refV
  go_enter Tryz.func11, Tryz.ntmps11
  go_wp2_with fail
  refine bodyPost_ret (v := .agg #[.int .i64 E, .int .i64 0, .string ⟨#[]⟩, .string ⟨#[]⟩, .int .i64 0, .int .i64 0, .int .i64 0, .int .i64 0, .int .i64 0, .int .i64 0, .int .i64 0, .slice none 0 0]) (by simp [results, Tryz.results11, go_sem]) rfl ⟨rfl, ?_⟩
  first | exact Below.refl _ _ | exact allocB _ _ | exact nnext (allocB _ _) (by assumption) | exact (by assumption)
set_option maxRecDepth 10000 in
set_option maxHeartbeats 1000000 in
theorem do_nil (d : Dd) (w : World) : Calls Tryz.prog 4 #[.pointer none, ddV d] w fun e w' => e = .returned (refV 14) ∧ Below w.heap.size w w' := by
  have C := hide (fun W => refused_any 14 W)
  unfold refV at *
  unfold ddV
  go_enter Tryz.func4, Tryz.ntmps4
  go_wp2_with fail
  have B0 := hide (nnext (allocB w (.cells #[.int .i64 d.k, .int .i64 d.c, .int .i64 d.s, .int .i64 d.q.o, .int .i64 d.q.s, .string ⟨d.q.p.toArray⟩, .string ⟨d.q.d.toArray⟩, .int .i64 d.q.v, .int .i64 d.q.f, .int .i64 d.lo, .int .i64 d.sl, .int .i64 d.ke, .bool d.wt] 25)) (allocB _ (.cells #[.int .i64 0, .int .i64 0, .string ⟨#[]⟩, .string ⟨#[]⟩, .int .i64 0, .int .i64 0, .int .i64 0, .int .i64 0, .int .i64 0, .int .i64 0, .int .i64 0, .slice none 0 0] 32)))
  have R0 := hide (RpB.new (w.alloc (.cells #[.int .i64 d.k, .int .i64 d.c, .int .i64 d.s, .int .i64 d.q.o, .int .i64 d.q.s, .string ⟨d.q.p.toArray⟩, .string ⟨d.q.d.toArray⟩, .int .i64 d.q.v, .int .i64 d.q.f, .int .i64 d.lo, .int .i64 d.sl, .int .i64 d.ke, .bool d.wt] 25)))
  refine (unhide C _).mono ?_
  rintro e w1 ⟨rfl, hb⟩
  have R1 := (unhide R0).next hb
  simp only [World.alloc, Array.size_push] at R1
  obtain ⟨⟨c0, c1, c2, c3, c4, c5⟩, c6, c7, c8, c9, c10, c11⟩ := R1.cells
  have f0 := R1.froz 0
  have f1 := R1.froz 1
  have f2 := R1.froz 2
  have f3 := R1.froz 3
  have f4 := R1.froz 4
  have f5 := R1.froz 5
  have f6 := R1.froz 6
  have f7 := R1.froz 7
  have f8 := R1.froz 8
  have f9 := R1.froz 9
  have f10 := R1.froz 10
  have f11 := R1.froz 11
  have B1 := hide (nnext (unhide B0) hb)
  clear hb R1 B0 R0 C
  go_wp2_with fail
  refine bodyPost_ret (v := .agg #[.int .i64 14, .int .i64 0, .string ⟨#[]⟩, .string ⟨#[]⟩, .int .i64 0, .int .i64 0, .int .i64 0, .int .i64 0, .int .i64 0, .int .i64 0, .int .i64 0, .slice none 0 0]) (by simp [results, Tryz.results4, go_sem, c0, c1, c2, c3, c4, c5, c6, c7, c8, c9, c10, c11]) rfl ⟨rfl, ?_⟩
  exact putR_below (unhide B1) (by simp) _ _ _ _ _ _ _ _ _ _ _ _
set_option maxRecDepth 10000 in
set_option maxHeartbeats 1000000 in
theorem leader_nil (w : World) : Calls Tryz.prog 5 #[.pointer none] w fun e w' => e = .returned (.int .i64 (-1)) ∧ Below w.heap.size w w' := by
  go_enter Tryz.func5, Tryz.ntmps5
  go_wp2_with fail
  go_ret
  exact ⟨rfl, Below.refl _ _⟩
set_option maxRecDepth 10000 in
set_option maxHeartbeats 1000000 in
theorem ack_nil (w : World) : Calls Tryz.prog 6 #[.pointer none] w fun e w' => e = .returned (.slice none 0 0) ∧ Below w.heap.size w w' := by
  go_enter Tryz.func6, Tryz.ntmps6
  go_wp2_with fail
  go_ret
  exact ⟨rfl, Below.refl _ _⟩
set_option maxRecDepth 10000 in
set_option maxHeartbeats 1000000 in
theorem server_nil (i : Int) (w : World) : Calls Tryz.prog 8 #[.pointer none, .int .i64 i] w fun e w' => e = .returned svZ ∧ Below w.heap.size w w' := by
  unfold svZ
  go_enter Tryz.func8, Tryz.ntmps8
  go_wp2_with fail
  refine bodyPost_ret (v := .agg #[.bool false, .slice none 0 0, .int .i64 0, .int .i64 0, .slice none 0 0, .int .i64 0, .int .i64 0, .slice none 0 0, .slice none 0 0, .slice none 0 0]) (by simp [results, Tryz.results8, go_sem]) rfl ⟨rfl, ?_⟩
  first | exact Below.refl _ _ | exact allocB _ _ | exact nnext (allocB _ _) (by assumption) | exact (by assumption)
set_option maxRecDepth 10000 in
set_option maxHeartbeats 1000000 in
theorem client_nil (i : Int) (w : World) : Calls Tryz.prog 10 #[.pointer none, .int .i64 i] w fun e w' => e = .returned (clV 0 0 (.slice none 0 0)) ∧ Below w.heap.size w w' := by
  unfold clV
  go_enter Tryz.func10, Tryz.ntmps10
  go_wp2_with fail
  refine bodyPost_ret (v := .agg #[.int .i64 0, .int .i64 0, .slice none 0 0]) (by simp [results, Tryz.results10, go_sem]) rfl ⟨rfl, ?_⟩
  first | exact Below.refl _ _ | exact allocB _ _ | exact nnext (allocB _ _) (by assumption) | exact (by assumption)
theorem few_none : Few sv0 := ⟨by simp [sv0], by simp [sv0], by simp [sv0, tr0], by simp [sv0, tr0], by simp [sv0]⟩
set_option maxRecDepth 10000 in
set_option maxHeartbeats 2000000 in
theorem worldNil_walk (d : Dd) (i : Int) (w : World) : Calls Tryz.prog 3 #[ddV d, .int .i64 i] w fun e w' => e = .returned (.bool true) ∧ Below w.heap.size w w' := by
  have CD := hide (fun W => do_nil d W)
  have CL := hide (fun W => leader_nil W)
  have CA := hide (fun W => ack_nil W)
  have CS := hide (fun W => server_nil i W)
  have CC := hide (fun W => client_nil i W)
  have CX := hide (fun W => rsameS_any sv0 svZ svZ W few_none (SvV.zero W) (SvV.zero W))
  have CY := hide (fun W => rsameC_any 0 0 (.slice none 0 0) (.slice none 0 0) [] W (SeqV.nil W) (SeqV.nil W) (by simp))
  have hfd : ∀ (x0 x1 x2 x3 x4 x5 x6 x7 x8 x9 x10 x11 : Value) (w : World), (Instr.field 32 (.agg #[x0, x1, x2, x3, x4, x5, x6, x7, x8, x9, x10, x11]) 0).run Tryz.prog w = .ok x0 w := fun _ _ _ _ _ _ _ _ _ _ _ _ _ => by kernel_rfl
  unfold ddV refV at *
  unfold svZ clV at *
  go_enter Tryz.func3, Tryz.ntmps3
  go_wp2_with fail
  refine (unhide CD _).mono ?_
  rintro e w1 ⟨rfl, hb1⟩
  have B1 := hide hb1
  clear hb1
  go_wp2_with fail
  refine (unhide CL _).mono ?_
  rintro e w2 ⟨rfl, hb2⟩
  have B2 := hide (nnext (unhide B1) hb2)
  clear hb2
  go_wp2_with fail
  refine (unhide CA _).mono ?_
  rintro e w3 ⟨rfl, hb3⟩
  have B3 := hide (nnext (unhide B2) hb3)
  clear hb3
  go_wp2_with fail
  refine (unhide CS _).mono ?_
  rintro e w4 ⟨rfl, hb4⟩
  have B4 := hide (nnext (unhide B3) hb4)
  clear hb4
  go_wp2_with fail
  refine (unhide CX _).mono ?_
  rintro e w5 ⟨rfl, hb5⟩
  have B5 := hide (nnext (unhide B4) hb5)
  clear hb5
  go_wp2_with fail
  refine (unhide CC _).mono ?_
  rintro e w6 ⟨rfl, hb6⟩
  have B6 := hide (nnext (unhide B5) hb6)
  clear hb6
  go_wp2_with fail
  refine (unhide CY _).mono ?_
  rintro e w7 ⟨rfl, hb7⟩
  have B7 := hide (nnext (unhide B6) hb7)
  clear hb7
  go_wp2_with fail
  go_ret
  exact ⟨rfl, nnext (allocB _ _) (unhide B7)⟩
end Go.Proofs.YtnlnojjaebojfaaGreatDoor

namespace Go.Proofs.YtnlnojjaebojfaaGreatDoor
open Go.ChangeShapes Go.WideShapes Go.ChangeAt Go.RowKit Go.ChangeMaps

theorem zlaidOut : laidOutB Tryz.prog = true := by kernel_rfl
theorem zlist_of (s : ByteArray) : ∃ l : List UInt8, s = ⟨l.toArray⟩ := ⟨s.data.toList, rfl⟩
section
variable {H : Type} {enc : TypeId × Value → H} {W : World} {base : Nat} {spare : Nat → Bool} {held : Bool}
theorem zsized {ts : List TypeId} {ds : List (DataW H)} (h : (DataW.weightsEach Tryz.prog ts ds).all (· ≤ reachBytes) = true) {j : Nat} {T : TypeId} {d : DataW H} (ht : ts[j]? = some T) (hd : ds[j]? = some d) : ∀ x ∈ DataW.weights Tryz.prog T d, x ≤ 140737488351232 := by
  intro x hx
  have e : reachBytes = 140737488351232 := by decide
  have h1 := List.all_eq_true.1 h _ (DataW.weights_mem_each ht hd x hx)
  rw [e] at h1
  simpa using h1
end
end Go.Proofs.YtnlnojjaebojfaaGreatDoor

namespace Go.Proofs.YtnlnojjaebojfaaGreatDoor
open Go.ChangeShapes Go.WideShapes Go.ChangeAt Go.RowKit Go.ChangeMaps

theorem dcellsStr : Tryz.prog.cellsOf 9 = 1 := by kernel_rfl
theorem dcellsInt : Tryz.prog.cellsOf 3 = 1 := by kernel_rfl
theorem dcellsBool : Tryz.prog.cellsOf 4 = 1 := by kernel_rfl
theorem dcellsRq : Tryz.prog.cellsOf 23 = 6 := by kernel_rfl
theorem dcellsDd : Tryz.prog.cellsOf 25 = 13 := by kernel_rfl
/-- the numbers of a deed are int64 -/
structure DdI (d : Dd) : Prop where
  k : (Lit.int .i64 d.k).wf = true
  c : (Lit.int .i64 d.c).wf = true
  s : (Lit.int .i64 d.s).wf = true
  o : (Lit.int .i64 d.q.o).wf = true
  qs : (Lit.int .i64 d.q.s).wf = true
  v : (Lit.int .i64 d.q.v).wf = true
  f : (Lit.int .i64 d.q.f).wf = true
  lo : (Lit.int .i64 d.lo).wf = true
  sl : (Lit.int .i64 d.sl).wf = true
  ke : (Lit.int .i64 d.ke).wf = true
def dd0 : Dd := ⟨0, 0, 0, ⟨0, 0, [], [], 0, 0⟩, 0, 0, 0, false⟩

section
variable {H : Type} {enc : TypeId × Value → H} {W : World} {base : Nat} {spare : Nat → Bool} {held : Bool}
set_option maxRecDepth 10000 in
theorem dopen_rq {n : Nat} {c0 c1 c2 c3 c4 c5 : Value} {x : DataW H × List MemPlace} (h : DataW.trod enc Tryz.prog W base spare held n 23 [c0, c1, c2, c3, c4, c5] = some x) :
    ∃ f : Rq, (c0 = .int .i64 f.o ∧ c1 = .int .i64 f.s ∧ c2 = .string ⟨f.p.toArray⟩ ∧ c3 = .string ⟨f.d.toArray⟩ ∧ c4 = .int .i64 f.v ∧ c5 = .int .i64 f.f) ∧ ((Lit.int .i64 f.o).wf = true ∧ (Lit.int .i64 f.s).wf = true ∧ (Lit.int .i64 f.v).wf = true ∧ (Lit.int .i64 f.f).wf = true) ∧ ∀ M, (∀ y ∈ DataW.weights Tryz.prog 23 x.1, y ≤ M) → f.p.length ≤ M ∧ f.d.length ≤ M := by
  obtain ⟨xs, k, _, hx, _, hlen, hfs⟩ := DataW.trod_struct Tryz.underlying23 h
  match xs, hlen with
  | [y0, y1, y2, y3, y4, y5], _ =>
    obtain ⟨o, e0, rfl, w0⟩ := DataW.trod_int Tryz.underlying3 (show DataW.trod enc Tryz.prog W base spare held k 3 [c0] = some y0 by simpa [dcellsInt] using hfs 0 _ rfl)
    obtain ⟨s, e1, rfl, w1⟩ := DataW.trod_int Tryz.underlying3 (show DataW.trod enc Tryz.prog W base spare held k 3 [c1] = some y1 by simpa [dcellsInt] using hfs 1 _ rfl)
    obtain ⟨p', e2, rfl, _⟩ := DataW.trod_string Tryz.underlying9 (show DataW.trod enc Tryz.prog W base spare held k 9 [c2] = some y2 by simpa [dcellsInt, dcellsStr] using hfs 2 _ rfl)
    obtain ⟨d', e3, rfl, _⟩ := DataW.trod_string Tryz.underlying9 (show DataW.trod enc Tryz.prog W base spare held k 9 [c3] = some y3 by simpa [dcellsInt, dcellsStr] using hfs 3 _ rfl)
    obtain ⟨v', e4, rfl, w4⟩ := DataW.trod_int Tryz.underlying3 (show DataW.trod enc Tryz.prog W base spare held k 3 [c4] = some y4 by simpa [dcellsInt, dcellsStr] using hfs 4 _ rfl)
    obtain ⟨u', e5, rfl, w5⟩ := DataW.trod_int Tryz.underlying3 (show DataW.trod enc Tryz.prog W base spare held k 3 [c5] = some y5 by simpa [dcellsInt, dcellsStr] using hfs 5 _ rfl)
    simp only [List.cons.injEq, and_true] at e0 e1 e2 e3 e4 e5
    subst e0 e1 e2 e3 e4 e5
    obtain ⟨pl, rfl⟩ := zlist_of p'
    obtain ⟨dl, rfl⟩ := zlist_of d'
    subst hx
    refine ⟨⟨o, s, pl, dl, v', u'⟩, ⟨rfl, rfl, rfl, rfl, rfl, rfl⟩, ⟨w0, w1, w4, w5⟩, fun M hM => ?_⟩
    simp only [DataW.weights, Tryz.underlying23, List.map_cons, List.map_nil, DataW.weightsEach] at hM
    simpa using hM
set_option maxRecDepth 10000 in
set_option maxHeartbeats 1000000 in
theorem dopen_dd {n : Nat} {cs : List Value} {x : DataW H × List MemPlace} (hl : cs.length = 13) (h : DataW.trod enc Tryz.prog W base spare held n 25 cs = some x) :
    ∃ f : Dd, cs = ddcells f ∧ DdI f ∧ ∀ M, (∀ y ∈ DataW.weights Tryz.prog 25 x.1, y ≤ M) → f.q.p.length ≤ M ∧ f.q.d.length ≤ M := by
  match cs, hl with
  | [c0, c1, c2, c3, c4, c5, c6, c7, c8, c9, c10, c11, c12], _ =>
    obtain ⟨xs, k, _, hx, _, hlen, hfs⟩ := DataW.trod_struct Tryz.underlying25 h
    match xs, hlen with
    | [y0, y1, y2, y3, y4, y5, y6, y7], _ =>
      obtain ⟨k', e0, rfl, w0⟩ := DataW.trod_int Tryz.underlying3 (show DataW.trod enc Tryz.prog W base spare held k 3 [c0] = some y0 by simpa [dcellsInt] using hfs 0 _ rfl)
      obtain ⟨c', e1, rfl, w1⟩ := DataW.trod_int Tryz.underlying3 (show DataW.trod enc Tryz.prog W base spare held k 3 [c1] = some y1 by simpa [dcellsInt] using hfs 1 _ rfl)
      obtain ⟨s', e2, rfl, w2⟩ := DataW.trod_int Tryz.underlying3 (show DataW.trod enc Tryz.prog W base spare held k 3 [c2] = some y2 by simpa [dcellsInt] using hfs 2 _ rfl)
      obtain ⟨q, ⟨q0, q1, q2, q3, q4, q5⟩, ⟨g0, g1, g2, g3⟩, hq⟩ := dopen_rq (show DataW.trod enc Tryz.prog W base spare held k 23 [c3, c4, c5, c6, c7, c8] = some y3 by simpa [dcellsInt, dcellsRq] using hfs 3 _ rfl)
      obtain ⟨lo, e4, rfl, w4⟩ := DataW.trod_int Tryz.underlying3 (show DataW.trod enc Tryz.prog W base spare held k 3 [c9] = some y4 by simpa [dcellsInt, dcellsRq] using hfs 4 _ rfl)
      obtain ⟨sl, e5, rfl, w5⟩ := DataW.trod_int Tryz.underlying3 (show DataW.trod enc Tryz.prog W base spare held k 3 [c10] = some y5 by simpa [dcellsInt, dcellsRq] using hfs 5 _ rfl)
      obtain ⟨ke, e6, rfl, w6⟩ := DataW.trod_int Tryz.underlying3 (show DataW.trod enc Tryz.prog W base spare held k 3 [c11] = some y6 by simpa [dcellsInt, dcellsRq] using hfs 6 _ rfl)
      obtain ⟨wt, e7, rfl⟩ := DataW.trod_bool Tryz.underlying4 (show DataW.trod enc Tryz.prog W base spare held k 4 [c12] = some y7 by simpa [dcellsInt, dcellsRq, dcellsBool] using hfs 7 _ rfl)
      simp only [List.cons.injEq, and_true] at e0 e1 e2 e4 e5 e6 e7
      subst e0 e1 e2 e4 e5 e6 e7 q0 q1 q2 q3 q4 q5
      subst hx
      refine ⟨⟨k', c', s', q, lo, sl, ke, wt⟩, rfl, ⟨w0, w1, w2, g0, g1, g2, g3, w4, w5, w6⟩, fun M hM => hq M fun y hy => hM y ?_⟩
      simp only [DataW.weights, Tryz.underlying25, List.map_cons, List.map_nil, DataW.weightsEach]
      simp [hy]
set_option maxRecDepth 10000 in
theorem open_deed {r : Reach} {b0 : Nat} {v : Value} {d : DataW H} {p : List MemPlace} (hv : Value.okWide Tryz.prog W r b0 25 v) (h : DataW.Trod enc Tryz.prog W base spare held 25 v d p) :
    ∃ e : Dd, v = ddV e ∧ DdI e ∧ ∀ M, (∀ y ∈ DataW.weights Tryz.prog 25 d, y ≤ M) → e.q.p.length ≤ M ∧ e.q.d.length ≤ M := by
  obtain ⟨cs, rfl, hsz⟩ := okWide_struct Tryz.underlying25 hv
  obtain ⟨fuel, hf⟩ := h
  obtain ⟨f, h1, h2, h3⟩ := dopen_dd (hsz.trans dcellsDd) (show DataW.trod enc Tryz.prog W base spare held fuel 25 cs.toList = some (d, p) by simpa [Value.cells] using hf)
  refine ⟨f, ?_, h2, h3⟩
  obtain ⟨l⟩ := cs
  simp only at h1
  subst h1
  rfl
end
end Go.Proofs.YtnlnojjaebojfaaGreatDoor
