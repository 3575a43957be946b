/-
  Proved: for every input whose letters and values are together at most 1048576 the law StoreFollows returns true and leaves its arguments as they were (the card: what the listed tables hold is tied to the program's text).
-/
import Derived.Test.YthkggmmalffcdaaGreatDoorCards
import Derived.Test.YthkggmmalffcdaaGreatDoorTie
import Derived.Test.YthkggmmalffcdaaGreatDoorSFAK
import Derived.WalkKit
import Derived.ProofKit
import Derived.OpenShut
import Derived.SizedLaws
import Derived.Deep.DeepHandedRow
import Derived.Lib.LaidTab
import Derived.Test.YthkggmmalffcdaaGreatDoorSFAL
namespace Go.Proofs.YthkggmmalffcdaaGreatDoor
open Go.ChangeShapes Go.WideShapes Go.ChangeAt Go.RowKit Go.ChangeMaps

namespace rowStoreFollowsUpto
theorem own : ownKnob Tryz.prog.godebug = none := by kernel_rfl
theorem list_of (s : ByteArray) : ∃ l : List UInt8, s = ⟨l.toArray⟩ := ⟨s.data.toList, rfl⟩
theorem gTabType : (Tryz.prog.globals[1]?).map (·.type) = some 225 := by kernel_rfl
theorem cellsTab : Tryz.prog.cellsOf 225 = 20 := by kernel_rfl
theorem cellsU64 : Tryz.prog.cellsOf 214 = 1 := by kernel_rfl
theorem tail {P : Program} {x : String × DataW Unit} {r : List (String × DataW Unit)} {w : World} (h : laidMet P (x :: r) w) : laidMet P r w := by
  obtain ⟨ps, ⟨g, t, cs, fuel, p, q, hg, ht, hvar, hd, hrest, rfl⟩, hnd, hok⟩ := h
  exact ⟨q, hrest, (List.nodup_append.1 hnd).2.1, fun b off hm => hok b off (List.mem_append.2 (.inr hm))⟩
/-- the table of powers of ten, third on the row's list -/
theorem table {W : World} (h : laidMetH Tryz.prog Rows.storeFollowsUptoRow.laid W) : Lib.TabIs Tryz.prog W "internal/strconv.uint64pow10" .u64 Lib.pow10Tab :=
  Lib.tabIs_of_head zgPow gTabType Tryz.underlying225 Tryz.underlying214 cellsU64 cellsTab (tail (tail h))

set_option maxRecDepth 10000 in
theorem contract (H : Type) (enc : TypeId × Value → H) (W : World) (base : Nat) (args : Array Value) (ds gs : List (DataW H)) (before : List MemPlace)
    (hval : ∀ (j : Nat) t v, Tryz.f4.params[j]? = some t → args[j]? = some v → Value.okWide Tryz.prog W .any base t v)
    (hW : DataW.Whole enc Tryz.prog Tryz.f4.params.toList Rows.storeFollowsSpec.vars false W args.toList ds gs before)
    (hsz : (DataW.weightsEach Tryz.prog (Tryz.f4.params.toList ++ Rows.storeFollowsSpec.plain.varTypes Tryz.prog) (ds ++ gs)).all (· ≤ reachBytes) = true)
    (hL : laidMetH Tryz.prog Rows.storeFollowsUptoRow.laid W) (_hsh : W.ShapedOpen Tryz.prog) (hk : Rows.uptoSmall H (ds ++ gs) = true) :
    Calls Tryz.prog 4 args W fun e W' => ∃ v, e = .returned v ∧ Rows.storeFollowsSpec.post enc Tryz.prog Tryz.f4 false true false false W args v W' := by
  have hW' := hW
  obtain ⟨p, q, hA0, hV, rfl, hfz, hnd⟩ := hW
  have hA : DataW.TrodAll enc Tryz.prog W 0 (fun _ => true) true Tryz.f4.params.toList args.toList ds p := hA0
  rw [Tryz.params4] at hA hval hsz
  obtain ⟨v0, vs0, d0, ds0, p0, q0, hargs, rfl, rfl, g0, r0⟩ := trodAll_cons hA
  obtain ⟨v1, vs1, d1, ds1, p1, q1, rfl, rfl, rfl, g1, r1⟩ := trodAll_cons r0
  obtain ⟨v2, vs2, d2, ds2, p2, q2, rfl, rfl, rfl, g2, r2⟩ := trodAll_cons r1
  obtain ⟨rfl, rfl, rfl⟩ := trodAll_nil r2
  obtain rfl : args = #[v0, v1, v2] := by cases args; simp_all
  obtain ⟨rfl, rfl⟩ := trodVars_none hV
  have gk0 := g0
  obtain ⟨sv0, hv0, hB0⟩ := open_server (hval 0 34 v0 rfl rfl) g0
  have gk1 := g1
  obtain ⟨ts1, hv1, hl1, hx1⟩ := open_slog (hval 1 25 v1 rfl rfl) g1
  obtain ⟨x2, rfl, rfl, rfl, w2⟩ := open_int Tryz.underlying3 (hval 2 3 v2 rfl rfl) g2
  clear hA0
  simp only [List.append_nil] at hW'
  have hlt0 : ∀ y ∈ p0, y.block < W.heap.size := fun y hy => by simpa using hW'.lt y (by simp [hy])
  have hlt1 : ∀ y ∈ p1, y.block < W.heap.size := fun y hy => by simpa using hW'.lt y (by simp [hy])
  have bulk : Rows.uptoBulkAll ([d0, d1, .lit (.int .i64 x2)] : List (DataW H)) ≤ 1048576 := of_decide_eq_true hk
  simp only [Rows.uptoBulkAll, Rows.uptoBulk] at bulk
  replace bulk : Rows.uptoBulk d0 + Rows.uptoBulk d1 ≤ 1048576 := by simp at bulk; omega
  refine (storeFollows_walk sv0 v0 v1 ts1 x2 W hv0 hv1 (table hL) (hB0.fits (by omega)) (hB0.few (by omega)) (by have := hB0.l; omega) (fun x hx => ⟨(hx1 x hx).1, by have := (hx1 x hx).2; omega, by have := (hx1 x hx).2; omega⟩)).mono fun e W' ⟨he, hb⟩ => ?_
  subst he
  exact ⟨_, rfl, _, _, _, [], _, [], hW', trodAll_cons_mk (shut_bool Tryz.underlying4 _) trodAll_mk0,
    trodAll_cons_mk (Below.trod nlaidOut (by kernel_rfl) (of_decide_eq_true (by kernel_rfl)) gk0 hb hlt0) (trodAll_cons_mk (Below.trod nlaidOut (by kernel_rfl) (of_decide_eq_true (by kernel_rfl)) gk1 hb hlt1) (trodAll_cons_mk (shut_int Tryz.underlying3 w2) trodAll_mk0)), rfl, hb.frame _, fun h => by cases h⟩

/-- A world for the witness: the listed tables hold what their initialisers lay. -/
def layCells (vs : Array Value) : Obj → Obj
  | .cells _ t frozen => .cells vs t frozen
  | o => o
def cellsA : DataW Unit → List Value
  | .lit (.int k z) => [.int k z]
  | _ => []
def cellsB : DataW Unit → List Value
  | .agg ps => ps.flatMap cellsA
  | d => cellsA d
def cellsD : DataW Unit → List Value
  | .agg ps => ps.flatMap cellsB
  | d => cellsA d
noncomputable def laidWorld (os : Os) : World :=
  { World.holding Tryz.prog os ⟨#[], #[], []⟩ with heap := ((((((World.holding Tryz.prog os ⟨#[], #[], []⟩).heap.modify 2 (layCells (cellsD Rows.laid_math_bits_deBruijn32tab).toArray)).modify 3 (layCells (cellsD Rows.laid_math_bits_deBruijn64tab).toArray)).modify 1 (layCells (cellsD Rows.laid_internal_strconv_uint64pow10).toArray)).modify 5 (layCells (cellsD Rows.laid_unicode_utf8_acceptRanges).toArray)).modify 4 (layCells (cellsD Rows.laid_unicode_utf8_first).toArray)) }
theorem laid_met (os : Os) : laidMet Tryz.prog Rows.storeFollowsUptoRow.laid ((laidWorld os).forCall (fun _ _ => 0) ⟨#[], #[.agg #[.bool false, .slice none 0 0, .int .i64 0, .int .i64 0, .slice none 0 0, .int .i64 0, .int .i64 0, .slice none 0 0, .slice none 0 0, .slice none 0 0], .slice none 0 0, .int .i64 0], []⟩).memory :=
  laidMet_of_run' 8 (by kernel_rfl) (by kernel_rfl)
theorem reads (os : Os) {H : Type} (enc : TypeId × Value → H) : ∃ places, DataW.whole enc Tryz.prog ((laidWorld os).forCall (fun _ _ => 0) ⟨#[], #[.agg #[.bool false, .slice none 0 0, .int .i64 0, .int .i64 0, .slice none 0 0, .int .i64 0, .int .i64 0, .slice none 0 0, .slice none 0 0, .slice none 0 0], .slice none 0 0, .int .i64 0], []⟩).memory Tryz.f4.params.toList Rows.storeFollowsSpec.vars false #[Value.agg #[.bool false, .slice none 0 0, .int .i64 0, .int .i64 0, .slice none 0 0, .int .i64 0, .int .i64 0, .slice none 0 0, .slice none 0 0, .slice none 0 0], .slice none 0 0, .int .i64 0].toList 8 = some ([.agg [.lit (.bool false), .agg [.nil], .agg [.lit (.int .i64 0), .lit (.int .i64 0), .nil, .lit (.int .i64 0)], .agg [.lit (.int .i64 0), .nil, .nil], .nil], .nil, .lit (.int .i64 0)], [], places) :=
  ⟨[], by kernel_rfl⟩

set_option maxRecDepth 100000 in
theorem lifted (os : Os) (started : os.Started) (H : Type) (enc : TypeId × Value → H) (F : Stop.Interp) :
    ReturnsInHanded {} Tryz.checked os 4 .any ((Rows.OpenSpec.upto Rows.storeFollowsSpec).preRow enc Tryz.prog Tryz.f4 Rows.storeFollowsUptoRow.domain false Rows.storeFollowsUptoRow.laid) (((Rows.OpenSpec.upto Rows.storeFollowsSpec).at F).post enc Tryz.prog Tryz.f4 false true false false) := by
  obtain ⟨places, hx⟩ := reads os enc
  refine returnsInHanded_of_row (C := Tryz.checked) (s := Rows.OpenSpec.upto Rows.storeFollowsSpec) own started (by kernel_rfl) Tryz.func4
    (witness_row_at (enc := enc) (C := Tryz.checked) false (laidWorld os) #[.agg #[.bool false, .slice none 0 0, .int .i64 0, .int .i64 0, .slice none 0 0, .int .i64 0, .int .i64 0, .slice none 0 0, .slice none 0 0, .slice none 0 0], .slice none 0 0, .int .i64 0] rfl (by kernel_rfl) (by kernel_rfl) (by kernel_rfl)
      (OpenSpec.preRow_of_cond 8 hx (by kernel_rfl) (fun k hk => by cases hk; kernel_rfl) (by kernel_rfl) (laid_met os))) ?_
  intro W base args ds gs before hval hW _ hcond hsz hL hsh _
  exact contract H enc W base args ds gs before hval hW hsz hL hsh (hcond _ rfl)

theorem said : Rows.StoreFollowsUptoSaid :=
  OpenClaim.holds_of_cond 4 Tryz.f4 rfl rfl rfl rfl rfl rfl rfl ⟨rfl, rfl, rfl, rfl, rfl⟩ rfl rfl rfl rfl rfl (by kernel_rfl) Tryz.func4 (by kernel_rfl)
    (of_decide_eq_true (by kernel_rfl)) (by unfold Func.isWrapper; first | (rw [if_pos (by decide +kernel)]; kernel_rfl) | (rw [if_neg (by decide +kernel)]; exact ⟨rfl, rfl⟩))
    (fun os started H enc _ F => by rw [OpenClaim.pre_eq_preRow]; exact lifted os started H enc F)

theorem plain (f : FuncId) (fn : Func) (hf : Tryz.pinned.checked.prog.funcNamed "aviary/aviarylaw.StoreFollows" = some f) (hfn : Tryz.pinned.checked.prog.funcs[f]? = some fn) :
    false = Tryz.pinned.checked.prog.looks [] ∧ ∀ (j : Nat) t, fn.params[j]? = some t → Tryz.pinned.checked.prog.wantsStandIn t = false := by
  obtain rfl : f = 4 := Option.some.inj ((show Tryz.prog.funcNamed "aviary/aviarylaw.StoreFollows" = some 4 by kernel_rfl).symm.trans hf) |>.symm
  obtain rfl : fn = Tryz.f4 := (Option.some.inj (Tryz.func4.symm.trans hfn)).symm
  refine ⟨by kernel_rfl, fun j t ht => ?_⟩
  rw [Tryz.params4] at ht
  have hm : t = 34 ∨ t = 25 ∨ t = 3 := by simpa using Array.mem_of_getElem? ht
  rcases hm with rfl | rfl | rfl
  · exact (show Tryz.prog.wantsStandIn 34 = false by kernel_rfl)
  · exact (show Tryz.prog.wantsStandIn 25 = false by kernel_rfl)
  · exact (show Tryz.prog.wantsStandIn 3 = false by kernel_rfl)
end rowStoreFollowsUpto

/-- THE CARD of StoreFollows -/
theorem storeFollowsUpto_card : Rows.StoreFollowsUptoCardSaid :=
  Claim7.holds_tied_plain_at .later [] _ _ _ _ rowStoreFollowsUpto.said (fun _ h => by cases h) (by kernel_rfl) (fun _ h => by cases h) storeFollowsUpto_row_tie rfl ⟨rfl, rfl⟩ (by kernel_rfl) rfl rowStoreFollowsUpto.plain (by kernel_rfl)
end Go.Proofs.YthkggmmalffcdaaGreatDoor
