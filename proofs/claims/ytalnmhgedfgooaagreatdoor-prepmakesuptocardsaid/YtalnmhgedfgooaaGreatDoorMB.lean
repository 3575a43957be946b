/-
  A law of 'for x := range seq' for an iterator that keeps cells of its own: the iterator's steps (St) and the rounds (Kp) each name what they leave alone.
  What strings.SplitSeq's iterator gives at one byte, a slash, and what path.steps' iterator gives: for every loop body.
  What path.steps' iterator gives: the steps of a text, in order, to every loop body.
  What path.Good answers, for every text: the walk.
  What is known of paths beside the walks: pieces, bounds, clones; shared by the texts of several packages.
  What path.opening, path.Under and path.Join answer, for all texts: the walks.
  What lies below what: nothing below itself, no two below each other, below what is below a third is below that; and what the laws' own question 'joins' answers.
  What path.Split answers, for every text: the last slash, and the walk.
  What path.Depth answers, for every text: the walk.
  What wire.counted and wire.formed answer, for every transaction: the walks.
  What wire.Good answers, for every transaction: the walk.
-/
import Derived.RangeFuncNested
import Derived.RangeFuncBound
import Derived.RangeFuncCalls
import Derived.RangeFuncBox
import Derived.Shelf.Abstract
import Derived.WalkKit
import Derived.OwnWalkIn
import Derived.Test.YtalnmhgedfgooaaGreatDoorRows
import Derived.Test.YtalnmhgedfgooaaGreatDoorShelf
import Derived.Test.YtalnmhgedfgooaaGreatDoorMA
import Derived.Shelf.RegionOpen
import Derived.TacticsInMore
import Derived.LoopNIn
import Derived.LoopIn
import Derived.Lib.QuietBelow
import Derived.Lib.LastIndexByte
namespace Go.Proofs.YtalnmhgedfgooaaGreatDoor
open Go.RowKit

/-- Blocks from n1 on that lay lie as they lay. -/
structure Above (n1 : Nat) (W W' : World) : Prop where
  size : W.heap.size ≤ W'.heap.size
  block : ∀ k, n1 ≤ k → k < W.heap.size → W'.heap[k]? = W.heap[k]?
theorem Above.refl (n1 : Nat) (W : World) : Above n1 W W := ⟨Nat.le_refl _, fun _ _ _ => rfl⟩
theorem Above.trans {n1 : Nat} {A B C : World} (h : Above n1 A B) (k : Above n1 B C) : Above n1 A C :=
  ⟨Nat.le_trans h.size k.size, fun i hi hl => (k.block i hi (Nat.lt_of_lt_of_le hl h.size)).trans (h.block i hi hl)⟩
theorem Above.putObj {n1 l : Nat} (W : World) (o : Obj) (h : l < n1) : Above n1 W (W.putObj l o) :=
  ⟨by simp, fun k hk _ => World.putObj_heap_other (by omega)⟩
theorem Above.setCell {n1 : Nat} (W : World) {p : Addr} (v : Value) (h : p.block < n1) : Above n1 W (W.setCell p v) :=
  ⟨(KeepsWalks.setCell W p v).size, fun k hk _ => Below.heap_setCell W p v k (by omega)⟩

/-- What an iterator value gives, in order, to every loop body: the iterator's own steps are St, a round keeps Kp. -/
def SeqX {α : Type} (F : Fence) (n : Nat) (P : Program) (g : Nat) (lb : Array Value) (encs : α → Array Value) (St Kp : World → World → Prop) (xs : List α) (W : World) : Prop :=
  ∀ (l : Nat) (J Jx : List α → World → Prop), (∀ s A B, J s A → St A B → J s B) → (∀ s A B, Jx s A → St A B → Jx s B) →
    (∀ pre x W1, J pre W1 → pre ++ [x] <+: xs → YieldAt F (n - 1) P l (encs x) W1 fun e W' =>
      (e = .returned (.bool true) ∧ J (pre ++ [x]) W' ∧ Kp W1 W') ∨ (e = .returned (.bool false) ∧ Jx (pre ++ [x]) W' ∧ Kp W1 W')) →
    J [] W →
    CallsIn F n P g (#[.func (.yield l) #[] #[]] ++ lb) W fun e W' => (∃ v, e = .returned v) ∧ (J xs W' ∨ ∃ pre, pre <+: xs ∧ Jx pre W')

/-- How the body of a round may be left: D and l, the loop's own two blocks, lie as they lay. -/
def postX {α : Type} (D l : Nat) (Kp : World → World → Prop) (I : List α → World → Prop) (Ix : Code → List α → World → Prop) (xs : List α) (W : World) : Exit → Act → World → Prop
  | .normal, _, W' => W'.heap[D]? = W.heap[D]? ∧ W'.heap[l]? = W.heap[l]? ∧ Kp W W' ∧ I xs W'
  | .ret, _, W' => W'.heap[D]? = W.heap[D]? ∧ W'.heap[l]? = W.heap[l]? ∧ Kp W W' ∧ Ix .ret xs W'
  | .exit id, _, W' => W'.heap[D]? = W.heap[D]? ∧ W'.heap[l]? = W.heap[l]? ∧ Kp W W' ∧ Ix (.exit id) xs W'
  | .goto t, _, W' => W'.heap[D]? = W.heap[D]? ∧ W'.heap[l]? = W.heap[l]? ∧ Kp W W' ∧ Ix (.goto t) xs W'
  | .panic _, _, _ => False
  | .outgrown, _, _ => False

variable {F : Fence} {n : Nat} {P : Program}

theorem wpIn_rangeFunc_X {α : Type} {g : Operand} {ps : Array Tmp} {assign body : Code} {Q : Exit → Act → World → Prop} {a : Act} {w : World}
    (hro : F.round = none) (h1 : 1 ≤ n) {gf : Nat} {lb : Array Value} (hg : a.eval g = .func (.func gf) #[] lb) (hFg : F.fn gf) (eg : ∀ args w, (callFunc gf args).run P w = .ok (.enter gf args) w)
    {encs : α → Array Value} {St Kp : World → World → Prop} {xs : List α}
    (hseq : ∀ o1 o2, SeqX F (n - 1) P gf lb encs St Kp xs ((w.alloc o1).alloc o2))
    (hSt : ∀ A B k, St A B → k = w.heap.size ∨ k = w.heap.size + 1 → k < A.heap.size → B.heap[k]? = A.heap[k]?)
    (hKt : ∀ A B C, Kp A B → Kp B C → Kp A C) (hKb : ∀ W o, Kp W (W.putObj (w.heap.size + 1) o)) (hps : ∀ x, (encs x).size = ps.size)
    (I : List α → World → Prop) (Ix : Code → List α → World → Prop) (hI : ∀ s A B, I s A → St A B → I s B) (hIx : ∀ c s A B, Ix c s A → St A B → Ix c s B)
    (hIp : ∀ s A o, I s A → I s (A.putObj (w.heap.size + 1) o)) (hIxp : ∀ c s A o, Ix c s A → Ix c s (A.putObj (w.heap.size + 1) o))
    (h0 : ∀ o1 o2, I [] ((w.alloc o1).alloc o2)) (a₁ : α → Act)
    (hassign : ∀ (x : α) (W : World) (K : Act → World → Prop), K (a₁ x) W →
      assign.wpIn (F.inRound (w.heap.size + 1)) (n - 1 - 1) P (Exit.then K (fun _ _ _ => False)) { tmps := (ps.zip (encs x)).foldl (fun t (p, v) => t.setIfInBounds p v) a.tmps, defers := [] } W)
    (hbody : ∀ (pre : List α) (x : α) (W : World), I pre W → pre ++ [x] <+: xs → w.heap.size + 1 < W.heap.size →
      body.wpIn (F.inRound (w.heap.size + 1)) (n - 1 - 1) P (postX w.heap.size (w.heap.size + 1) Kp I Ix (pre ++ [x]) W) (a₁ x) W)
    (hdone : ∀ (W : World), I xs W → W.heap[w.heap.size]? = some (.deferred (some [])) → Q .normal { a with defers := { target := .collected w.heap.size, args := #[] } :: a.defers } W)
    (hstop : ∀ (c : Code) (pre : List α) (W : World), pre <+: xs → Ix c pre W → W.heap[w.heap.size]? = some (.deferred (some [])) → c.wpIn F n P Q { a with defers := { target := .collected w.heap.size, args := #[] } :: a.defers } W) :
    (Code.rangeFunc g ps assign body).wpIn F n P Q a w := by
  refine wpIn_rangeFunc ?_
  intro fn hfn
  rw [hro]
  obtain ⟨rec, hrec⟩ : ∃ rec : LoopState → Option Code → Loop, rec = fun st pe => { state := st, pending := pe, fn, tmps := a.tmps, params := ps, assign, body, defers := w.heap.size } := ⟨_, rfl⟩
  obtain ⟨W1, hW1⟩ : ∃ W1, (w.alloc (.deferred (some []))).alloc (.loop (rec .ready none)) = W1 := ⟨_, rfl⟩
  have hL1 : W1.heap[w.heap.size + 1]? = some (.loop (rec .ready none)) := by
    rw [← hW1]; have := World.alloc_heap_new (w.alloc (.deferred (some []))) (.loop (rec .ready none)); rwa [World.size_alloc] at this
  have hK1 : W1.heap[w.heap.size]? = some (.deferred (some [])) := by
    rw [← hW1]; exact (Below.heap_alloc _ _ _ (by simp)).trans (World.alloc_heap_new w _)
  have hI1 : I [] W1 := by rw [← hW1]; exact h0 _ _
  have hS1 : SeqX F (n - 1) P gf lb encs St Kp xs W1 := by rw [← hW1]; exact hseq _ _
  refine ⟨w.heap.size + 1, [{ target := .collected w.heap.size, args := #[] }], W1, { target := .fn (.func gf) lb, args := #[.func (.yield (w.heap.size + 1)) #[] #[]] }, W1, gf,
    #[.func (.yield (w.heap.size + 1)) #[] #[]] ++ lb, W1, ?_, ?_, ?_, ?_, fun _ => h1, ?_⟩
  · rw [← hW1, hrec]; exact run_enterLoop_outer _ _ _ _ _
  · simp only [resolve, hg]
    simp [go_sem]
  · intro f' hf'; simp [Target.leads] at hf'; subst hf'; exact hFg
  · simp [invoke, go_sem, eg]
  · refine (hS1 (w.heap.size + 1)
      (fun pre W => I pre W ∧ W.heap[w.heap.size + 1]? = some (.loop (rec .ready none)) ∧ W.heap[w.heap.size]? = some (.deferred (some [])))
      (fun pre W => ∃ c, Ix c pre W ∧ W.heap[w.heap.size + 1]? = some (.loop (rec .done (some c))) ∧ W.heap[w.heap.size]? = some (.deferred (some [])))
      (fun s A B hs hg' => ⟨hI s A B hs.1 hg', (hSt A B _ hg' (.inr rfl) (Array.getElem?_eq_some_iff.1 hs.2.1).1).trans hs.2.1, (hSt A B _ hg' (.inl rfl) (Array.getElem?_eq_some_iff.1 hs.2.2).1).trans hs.2.2⟩)
      (fun s A B hs hg' => by
        obtain ⟨c, hc, hl, hk⟩ := hs
        exact ⟨c, hIx c s A B hc hg', (hSt A B _ hg' (.inr rfl) (Array.getElem?_eq_some_iff.1 hl).1).trans hl, (hSt A B _ hg' (.inl rfl) (Array.getElem?_eq_some_iff.1 hk).1).trans hk⟩)
      ?_ ⟨hI1, hL1, hK1⟩).mono ?_
    · rintro pre x W ⟨hi, hl, hk⟩ hlen
      have hlt : w.heap.size + 1 < W.heap.size := (Array.getElem?_eq_some_iff.1 hl).1
      have hy := run_yield (P := P) (args := encs x) hl (by rw [hrec]; exact hps x)
      rw [hrec] at hy
      refine ⟨fn, _, assign, body, hy, roundIn_of_wpIn hfn (hassign x W _ ⟨_, run_beginRound hl (by rw [hrec]), ?_⟩)⟩
      have hl2 : (W.putObj (w.heap.size + 1) (.loop { rec .ready none with state := .busy })).heap[w.heap.size + 1]? = some (.loop { rec .ready none with state := .busy }) := World.putObj_heap_same hlt
      have hk2 : (W.putObj (w.heap.size + 1) (.loop { rec .ready none with state := .busy })).heap[w.heap.size]? = some (.deferred (some [])) := (World.putObj_heap_other (by omega)).trans hk
      have hw2 : Kp W (W.putObj (w.heap.size + 1) (.loop { rec .ready none with state := .busy })) := hKb _ _
      refine wpIn_mono (hbody pre x _ (hIp _ _ _ hi) hlen (by simpa using hlt)) ?_
      have fin : ∀ (jump : Option Code) (W3 : World), W3.heap[w.heap.size]? = some (.deferred (some [])) → W3.heap[w.heap.size + 1]? = some (.loop { rec .ready none with state := .busy }) →
          (Instr.endRound (w.heap.size + 1) jump).run P W3 = .ok (.bool jump.isNone) (W3.putObj (w.heap.size + 1) (.loop (rec (if jump.isNone then .ready else .done) jump))) ∧
          (W3.putObj (w.heap.size + 1) (.loop (rec (if jump.isNone then .ready else .done) jump))).heap[w.heap.size + 1]? = some (.loop (rec (if jump.isNone then .ready else .done) jump)) ∧
          (W3.putObj (w.heap.size + 1) (.loop (rec (if jump.isNone then .ready else .done) jump))).heap[w.heap.size]? = some (.deferred (some [])) := fun jump W3 hk3 hl3 => by
        have := run_endRound (P := P) jump hl3
        rw [hrec] at this ⊢
        exact ⟨this, World.putObj_heap_same (Array.getElem?_eq_some_iff.1 hl3).1, (World.putObj_heap_other (by omega)).trans hk3⟩
      rintro e a3 W3 hp
      cases e with
      | normal =>
        obtain ⟨hD3, hl3, hkp3, hi3⟩ := hp
        obtain ⟨hr, hl4, hk4⟩ := fin none W3 (hD3.trans hk2) (hl3.trans hl2)
        exact ⟨_, _, hr, .inl ⟨rfl, ⟨hIp _ _ _ hi3, hl4, hk4⟩, hKt _ _ _ (hKt _ _ _ hw2 hkp3) (hKb _ _)⟩⟩
      | ret =>
        obtain ⟨hD3, hl3, hkp3, hi3⟩ := hp
        obtain ⟨hr, hl4, hk4⟩ := fin (some .ret) W3 (hD3.trans hk2) (hl3.trans hl2)
        exact ⟨_, _, hr, .inr ⟨rfl, ⟨.ret, hIxp _ _ _ _ hi3, hl4, hk4⟩, hKt _ _ _ (hKt _ _ _ hw2 hkp3) (hKb _ _)⟩⟩
      | exit id =>
        obtain ⟨hD3, hl3, hkp3, hi3⟩ := hp
        obtain ⟨hr, hl4, hk4⟩ := fin (some (.exit id)) W3 (hD3.trans hk2) (hl3.trans hl2)
        exact ⟨_, _, hr, .inr ⟨rfl, ⟨.exit id, hIxp _ _ _ _ hi3, hl4, hk4⟩, hKt _ _ _ (hKt _ _ _ hw2 hkp3) (hKb _ _)⟩⟩
      | goto t =>
        obtain ⟨hD3, hl3, hkp3, hi3⟩ := hp
        obtain ⟨hr, hl4, hk4⟩ := fin (some (.goto t)) W3 (hD3.trans hk2) (hl3.trans hl2)
        exact ⟨_, _, hr, .inr ⟨rfl, ⟨.goto t, hIxp _ _ _ _ hi3, hl4, hk4⟩, hKt _ _ _ (hKt _ _ _ hw2 hkp3) (hKb _ _)⟩⟩
      | panic ch => exact hp.elim
      | outgrown => exact hp.elim
    · rintro e W2 ⟨⟨v, rfl⟩, (⟨hi, hl, hk⟩ | ⟨pre, hSp, c, hi, hl, hk⟩)⟩
      · exact ⟨none, _, by have := run_endLoop (P := P) hl (by rw [hrec]; simp); rw [hrec] at this; exact this, hdone _ (hIp _ _ _ hi) ((World.putObj_heap_other (by omega)).trans hk)⟩
      · exact ⟨some c, _, by have := run_endLoop (P := P) hl (by rw [hrec]; simp); rw [hrec] at this; exact this, hstop c pre _ hSp (hIxp _ _ _ _ hi) ((World.putObj_heap_other (by omega)).trans hk)⟩

end Go.Proofs.YtalnmhgedfgooaaGreatDoor

namespace Go.Proofs.YtalnmhgedfgooaaGreatDoor
open Go.RowKit Go.Shelf
attribute [local go_sem] Oper.semAt_some

/-- the length of the text in a box -/
def lenAt (w : World) (b : Nat) : Nat := match w.cell? ⟨b, 0, none⟩ with
  | some (.string s) => s.size
  | _ => 0
theorem lenAt_of {w : World} {b : Nat} {t : TypeId} {s : ByteArray} (h : Boxed w b t (.string s)) : lenAt w b = s.size := by
  simp [lenAt, h.cell]

theorem Boxed.of_heap {W W' : World} {B : Nat} {t : TypeId} {v : Value} (h : Boxed W B t v) (e : W'.heap[B]? = W.heap[B]?) : Boxed W' B t v := e.trans h

theorem cut_front (r : List UInt8) (i : Nat) : (ByteArray.mk r.toArray).extract 0 i = ⟨(r.take i).toArray⟩ := by
  have := Lib.extract_data ⟨r.toArray⟩ 0 i
  rw [List.drop_zero, Nat.sub_zero] at this
  exact congrArg (fun l : List UInt8 => ByteArray.mk l.toArray) this
theorem cut_back (r : List UInt8) (i : Nat) : (ByteArray.mk r.toArray).extract i r.length = ⟨(r.drop i).toArray⟩ := by
  have := Lib.extract_data ⟨r.toArray⟩ i r.length
  rw [List.take_of_length_le (by simp)] at this
  exact congrArg (fun l : List UInt8 => ByteArray.mk l.toArray) this
theorem wide_depth (n : Nat) : Fence.wide.depth.isSome = true → 1 ≤ n := fun h => by cases h

set_option maxRecDepth 100000 in
set_option maxHeartbeats 1000000 in
theorem splitSeq_gives (n Bsep Bs Bv : Nat) (s : List UInt8) (W : World) (h1 : Bs ≠ Bsep) (h2 : Bs ≠ Bv) (hlen : s.length ≤ 1000000)
    (b1 : Boxed W Bsep 9 (.string ⟨#[47]⟩)) (b2 : Boxed W Bs 9 (.string ⟨s.toArray⟩)) (b3 : Boxed W Bv 3 (.int .i64 0)) :
    SeqX Fence.wide n Tryz.prog 117 #[.pointer (some ⟨Bsep, 0, none⟩), .pointer (some ⟨Bs, 0, none⟩), .pointer (some ⟨Bv, 0, none⟩)] (fun x : List UInt8 => #[.string ⟨x.toArray⟩])
      (fun A B => ∃ v, B = A.setCell ⟨Bs, 0, none⟩ v) (fun A B => ∀ k, k = Bsep ∨ k = Bs ∨ k = Bv → B.heap[k]? = A.heap[k]?) (splitL s) W := by
  intro l J Jx hJ hJx hY h0
  refine callsIn_of_wp Tryz.func117 rfl trivial ?_ rfl
  simp only [Tryz.ntmps117, List.size_toArray, List.length_cons, List.length_nil, Nat.reduceAdd, Nat.reduceSub, Array.replicate_succ, Array.replicate_zero, List.push_toArray, List.append_toArray, List.nil_append, List.cons_append]
  have c1 := b1.cell
  have HY := hide hY
  have HJ := hide hJ
  have HJx := hide hJx
  clear hY hJ hJx
  gi_wp2
  clear c1
  gi_loopw [7] (fun _ wr => ∃ (pre : List (List UInt8)) (r : List UInt8), splitL s = pre ++ splitL r ∧ r.length ≤ 1000000 ∧ Boxed wr Bsep 9 (.string ⟨#[47]⟩) ∧ Boxed wr Bs 9 (.string ⟨r.toArray⟩) ∧ Boxed wr Bv 3 (.int .i64 0) ∧ J pre wr)
    (fun _ wr => lenAt wr Bs)
  case atStart => exact ⟨[], s, rfl, hlen, b1, b2, b3, h0⟩
  case round =>
    clear b1 b2 b3 h0 hlen
    obtain ⟨pre, r, hpre, hlen, b1, b2, b3, hJs⟩ := hrel
    have Hpre := hide hpre
    clear hpre
    have c1 := b1.cell
    have c2 := b2.cell
    have c3 := b3.cell
    have f2 := b2.frozen
    have hz : (ByteArray.mk r.toArray).size = r.length := Lib.size_eq ⟨r.toArray⟩
    rcases indexByte_cases r with hi | ⟨i, hi⟩
    · have Hs := hide (splitL_none r hi)
      have Hi := hide hi
      clear hi
      obtain ⟨fn, tmps, assign, body, hy, hR⟩ := unhide HY pre r wr hJs (by rw [unhide Hpre, unhide Hs]; exact List.prefix_refl _)
      gi_wp2_with fail
      refine ⟨trivial, wide_depth _, (callsIn_wide.2 (Tryz.strings_Index_one _ _ _)).mono ?_⟩
      rintro e w' ⟨rfl, rfl⟩
      rw [show (ByteArray.mk r.toArray).data.toList = r from rfl, unhide Hi]
      gi_wp2
      refine ⟨wide_depth _, hR.mono ?_⟩
      rintro e W3 (⟨rfl, hJ3, _⟩ | ⟨rfl, hJx3, _⟩)
      · gi_wp2
        go_end0
        exact ⟨⟨_, rfl⟩, .inl (by rw [unhide Hpre, unhide Hs]; exact hJ3)⟩
      · gi_wp2
        go_end0
        exact ⟨⟨_, rfl⟩, .inr ⟨_, by rw [unhide Hpre, unhide Hs]; exact List.prefix_refl _, hJx3⟩⟩
    · obtain ⟨hil, hsp⟩ := splitL_some r i hi
      have Hs := hide hsp
      have Hi := hide hi
      clear hi hsp
      obtain ⟨fn, tmps, assign, body, hy, hR⟩ := unhide HY pre (r.take i) wr hJs (by rw [unhide Hpre, unhide Hs]; simp)
      gi_wp2_with fail
      refine ⟨trivial, wide_depth _, (callsIn_wide.2 (Tryz.strings_Index_one _ _ _)).mono ?_⟩
      rintro e w' ⟨rfl, rfl⟩
      rw [show (ByteArray.mk r.toArray).data.toList = r from rfl, unhide Hi]
      rw [← cut_front r i] at hy
      gi_wp2
      refine ⟨wide_depth _, hR.mono ?_⟩
      rintro e W3 (⟨rfl, hJ3, hk3⟩ | ⟨rfl, hJx3, hk3⟩)
      · have d1 := Boxed.of_heap b1 (hk3 Bsep (.inl rfl))
        have d2 := Boxed.of_heap b2 (hk3 Bs (.inr (.inl rfl)))
        have d3 := Boxed.of_heap b3 (hk3 Bv (.inr (.inr rfl)))
        have Hl := hide (lenAt_of b2)
        clear c1 c2 c3 f2 b1 b2 b3 hk3 hy hR
        have c1 := d1.cell
        have c2 := d2.cell
        have f2 := d2.frozen
        gi_wp2
        rw [cut_back]
        refine ⟨⟨pre ++ [r.take i], r.drop (i + 1), by rw [unhide Hpre, unhide Hs]; simp, by simp; omega, Boxed.of_heap d1 (Below.heap_setCell W3 _ _ Bsep (Ne.symm h1)), d2.set _,
          Boxed.of_heap d3 (Below.heap_setCell W3 _ _ Bv (Ne.symm h2)), unhide HJ _ _ _ hJ3 ⟨_, rfl⟩⟩, ?_⟩
        rw [lenAt_of (d2.set _), unhide Hl]
        show (r.drop (i + 1)).toArray.size < r.toArray.size
        simp; omega
      · gi_wp2
        refine bodyPost_ret (results_none rfl _ _ _) rfl ?_
        exact ⟨⟨_, rfl⟩, .inr ⟨pre ++ [r.take i], by rw [unhide Hpre, unhide Hs]; simp, hJx3⟩⟩

end Go.Proofs.YtalnmhgedfgooaaGreatDoor

namespace Go.Proofs.YtalnmhgedfgooaaGreatDoor
open Go.RowKit Go.Shelf
attribute [local go_sem] Oper.semAt_some

theorem below_putObj {n1 l : Nat} (W : World) (o : Obj) (h : n1 ≤ l) : Below n1 W (W.putObj l o) :=
  ⟨rfl, rfl, rfl, by simp, fun k hk => World.putObj_heap_other (by omega)⟩
theorem boxed_putObj {W : World} {B l : Nat} {t : TypeId} {v : Value} (o : Obj) (h : Boxed W B t v) (hne : B ≠ l) : Boxed (W.putObj l o) B t v := (World.putObj_heap_other hne).trans h

set_option maxHeartbeats 400000 in
theorem splitSeq_makes (s sep : ByteArray) (w : World) :
    Calls Tryz.prog 96 #[.string s, .string sep] w fun e w' =>
      e = .returned (.func (.func 117) #[] #[.pointer (some ⟨w.heap.size + 1, 0, none⟩), .pointer (some ⟨w.heap.size, 0, none⟩), .pointer (some ⟨w.heap.size + 1 + 1, 0, none⟩)]) ∧
      w' = ((w.alloc (.cells #[.string s] 9)).alloc (.cells #[.string sep] 9)).alloc (.cells #[.int .i64 0] 3) := by
  go_enter Tryz.func96, Tryz.ntmps96
  go_wp2
  go_ret
  exact ⟨rfl, rfl⟩

theorem round_wide {n m l0 : Nat} {P : Program} {l : Nat} {f : FuncId} {tmps : Array Value} {assign body : Code} {w : World} {R : Ending → World → Prop} (h : RoundIn Fence.wide n P l f tmps assign body w R) : RoundIn (Fence.wide.inRound l0) m P l f tmps assign body w R :=
  ⟨h.1, fun c cs _ => h.2 c cs (room_wide _)⟩

theorem four_boxes (W : World) (v0 v1 v2 v3 : Value) (t0 t1 t2 t3 : TypeId) (W0 : World) (h : (((W.alloc (.cells #[v0] t0)).alloc (.cells #[v1] t1)).alloc (.cells #[v2] t2)).alloc (.cells #[v3] t3) = W0) :
    W0.heap.size = W.heap.size + 4 ∧ Boxed W0 W.heap.size t0 v0 ∧ Boxed W0 (W.heap.size + 1) t1 v1 ∧ Boxed W0 (W.heap.size + 2) t2 v2 ∧ Boxed W0 (W.heap.size + 3) t3 v3 ∧ Below W.heap.size W W0 := by
  subst h
  refine ⟨by simp, (((Boxed.new W t0 v0).alloc _).alloc _).alloc _, ?_, ?_, ?_, ?_⟩
  · have := Boxed.new (W.alloc (.cells #[v0] t0)) t1 v1
    rw [World.size_alloc] at this
    exact (this.alloc _).alloc _
  · have := Boxed.new ((W.alloc (.cells #[v0] t0)).alloc (.cells #[v1] t1)) t2 v2
    rw [World.size_alloc, World.size_alloc] at this
    exact this.alloc _
  · have := Boxed.new (((W.alloc (.cells #[v0] t0)).alloc (.cells #[v1] t1)).alloc (.cells #[v2] t2)) t3 v3
    rw [World.size_alloc, World.size_alloc, World.size_alloc] at this
    exact this
  · exact ((((Below.refl _ W).alloc (Nat.le_refl _) _).alloc (by simp) _).alloc (by simp; omega) _).alloc (by simp; omega) _

set_option maxRecDepth 100000 in
set_option maxHeartbeats 1000000 in
theorem steps_gives (n Bp : Nat) (s : List UInt8) (W : World) (hn : 1 ≤ n) (hlen : s.length ≤ 1000000) (bp : Boxed W Bp 9 (.string ⟨s.toArray⟩)) :
    SeqX Fence.wide n Tryz.prog 95 #[.pointer (some ⟨Bp, 0, none⟩)] (fun x : List UInt8 => #[.string ⟨x.toArray⟩])
      (Below W.heap.size) (Above W.heap.size) (stepsL s) W := by
  intro l J Jx hJ hJx hY h0
  refine callsIn_of_wp_marks Tryz.func95 rfl trivial ?_ rfl
  simp only [Tryz.ntmps95, List.size_toArray, List.length_cons, List.length_nil, Nat.reduceAdd, Nat.reduceSub, Array.replicate_succ, Array.replicate_zero, List.push_toArray, List.append_toArray, List.nil_append, List.cons_append]
  have cp := bp.cell
  have cp' := (bp.alloc (.cells #[.func (.yield l) #[] #[]] 57)).cell
  have HY := hide hY
  have HJ := hide hJ
  have HJx := hide hJx
  clear hY hJ hJx
  by_cases hroot : s = [47]
  · subst hroot
    gi_wp2
    refine ⟨_, results_none rfl _ _ _, ⟨_, rfl⟩, .inl ?_⟩
    exact unhide HJ _ _ _ h0 ((Below.refl _ W).alloc (Nat.le_refl _) _)
  · have hr1 : (s == [47]) = false := by simpa using hroot
    have Hst : Hid (stepsL s = splitL (Lib.trimPrefix s [47])) := by rw [stepsL, if_neg hroot]; exact rfl
    clear hroot
    gi_wp2_with fail
    refine ⟨trivial, (callsIn_wide.2 (Tryz.strings_TrimPrefix _ _ _)).mono ?_⟩
    rintro e w' ⟨rfl, rfl⟩
    rw [show (ByteArray.mk s.toArray).data.toList = s from rfl, show (ByteArray.mk #[47]).data.toList = [47] from rfl]
    generalize hR : Lib.trimPrefix s [47] = R
    have hRl : R.length ≤ 1000000 := by
      have := Lib.trimPrefix_le s [47]
      rw [← hR]; omega
    have Hst' : Hid (stepsL s = splitL R) := by rw [← hR]; exact Hst
    clear hR Hst hr1 cp cp'
    gi_wp2_with fail
    refine ⟨trivial, (callsIn_wide.2 (splitSeq_makes _ _ _)).mono ?_⟩
    rintro e w' ⟨rfl, rfl⟩
    gi_wp2_with fail
    generalize hW0 : (((W.alloc (.cells #[.func (.yield l) #[] #[]] 57)).alloc (.cells #[.string ⟨R.toArray⟩] 9)).alloc (.cells #[.string ⟨#[47]⟩] 9)).alloc (.cells #[.int .i64 0] 3) = W0
    obtain ⟨hsz, k0, k1, k2, k3, kb⟩ := four_boxes _ _ _ _ _ _ _ _ _ W0 hW0
    clear hW0
    refine wpIn_rangeFunc_X (α := List UInt8) rfl hn (gf := 117) (lb := #[.pointer (some ⟨W.heap.size + 2, 0, none⟩), .pointer (some ⟨W.heap.size + 1, 0, none⟩), .pointer (some ⟨W.heap.size + 3, 0, none⟩)]) rfl trivial (enters_of Tryz.func117 (by kernel_rfl) rfl)
      (fun o1 o2 => splitSeq_gives (n - 1) (W.heap.size + 2) (W.heap.size + 1) (W.heap.size + 3) R _ (by omega) (by omega) hRl ((k2.alloc o1).alloc o2) ((k1.alloc o1).alloc o2) ((k3.alloc o1).alloc o2))
      (fun A B k hs hk hl => by obtain ⟨v, rfl⟩ := hs; exact Below.heap_setCell A _ _ k (by show k ≠ W.heap.size + 1; omega))
      (fun A B C h k i hi => (k i hi).trans (h i hi)) (fun A o k hk => World.putObj_heap_other (by omega)) (fun _ => rfl)
      (fun pre A => J pre A ∧ Boxed A W.heap.size 57 (.func (.yield l) #[] #[]))
      (fun c pre A => c = .ret ∧ Jx pre A)
      (fun pre A B hs hg => by
        obtain ⟨v, rfl⟩ := hg
        exact ⟨unhide HJ _ _ _ hs.1 ((Below.refl _ A).setCell (p := ⟨W.heap.size + 1, 0, none⟩) (by simp) v), Boxed.of_heap hs.2 (Below.heap_setCell A _ _ _ (by show W.heap.size ≠ W.heap.size + 1; omega))⟩)
      (fun c pre A B hs hg => by
        obtain ⟨v, rfl⟩ := hg
        exact ⟨hs.1, unhide HJx _ _ _ hs.2 ((Below.refl _ A).setCell (p := ⟨W.heap.size + 1, 0, none⟩) (by simp) v)⟩)
      (fun pre A o hs => ⟨unhide HJ _ _ _ hs.1 (below_putObj A o (by omega)), boxed_putObj o hs.2 (by omega)⟩)
      (fun c pre A o hs => ⟨hs.1, unhide HJx _ _ _ hs.2 (below_putObj A o (by omega))⟩)
      (fun o1 o2 => ⟨unhide HJ _ _ _ h0 ((kb.alloc (by omega) o1).alloc (by simp; omega) o2), (k0.alloc o1).alloc o2⟩)
      (fun x => { tmps := #[.func (.yield l) #[] #[], .pointer (some ⟨Bp, 0, none⟩), .pointer (some ⟨W.heap.size, 0, none⟩), .string ⟨x.toArray⟩, .string ⟨s.toArray⟩, .bool false, .string ⟨s.toArray⟩, .string ⟨R.toArray⟩,
        .func (.func 117) #[] #[.pointer (some ⟨W.heap.size + 2, 0, none⟩), .pointer (some ⟨W.heap.size + 1, 0, none⟩), .pointer (some ⟨W.heap.size + 3, 0, none⟩)], .string ⟨x.toArray⟩, undef, undef, undef, undef], defers := [] })
      ?assign ?body ?done ?stop
    case assign =>
      intro x A K hK
      gi_wp2
      exact hK
    case body =>
      rintro pre x A ⟨hJA, hbx⟩ hpre hlt
      have cx := hbx.cell
      obtain ⟨fn, tmps, assign, body, hy, hR⟩ := unhide HY pre x A hJA (by rw [unhide Hst']; exact hpre)
      gi_wp2
      refine ⟨wide_depth _, (round_wide hR).mono ?_⟩
      rintro e W3 (⟨rfl, hJ3, hk3⟩ | ⟨rfl, hJx3, hk3⟩)
      · gi_wp2
        exact ⟨hk3.block _ (by omega) (by omega), hk3.block _ (by omega) (by omega), fun k hk => hk3.block k (by omega) (by omega), hJ3, Boxed.of_heap hbx (hk3.block _ (Nat.le_refl _) (by omega))⟩
      · gi_wp2
        exact ⟨hk3.block _ (by omega) (by omega), hk3.block _ (by omega) (by omega), fun k hk => hk3.block k (by omega) (by omega), rfl, hJx3⟩
    case done =>
      rintro A ⟨hJA, hbx⟩ hK
      gi_wp2
      refine ⟨by simp, .inl ⟨_, _, rfl, run_takeDeferred hK, ?_⟩⟩
      refine ⟨_, results_none rfl _ _ _, ⟨_, rfl⟩, .inl ?_⟩
      rw [unhide Hst']
      exact unhide HJ _ _ _ hJA (below_putObj A _ (by omega))
    case stop =>
      rintro c pre A hpre ⟨rfl, hJA⟩ hK
      gi_wp2
      refine ⟨by simp, .inl ⟨_, _, rfl, run_takeDeferred hK, ?_⟩⟩
      refine ⟨_, results_none rfl _ _ _, ⟨_, rfl⟩, .inr ⟨pre, by rw [unhide Hst']; exact hpre, ?_⟩⟩
      exact unhide HJx _ _ _ hJA (below_putObj A _ (by omega))

end Go.Proofs.YtalnmhgedfgooaaGreatDoor

namespace Go.Proofs.YtalnmhgedfgooaaGreatDoor
open Go.RowKit Go.Shelf
attribute [local go_sem] Oper.semAt_some

set_option maxHeartbeats 400000 in
theorem steps_makes (s : ByteArray) (w : World) :
    Calls Tryz.prog 81 #[.string s] w fun e w' =>
      e = .returned (.func (.func 95) #[] #[.pointer (some ⟨w.heap.size, 0, none⟩)]) ∧ w' = w.alloc (.cells #[.string s] 9) := by
  go_enter Tryz.func81, Tryz.ntmps81
  go_wp2
  go_ret
  exact ⟨rfl, rfl⟩

theorem two_boxes (W : World) (v0 v1 : Value) (t0 t1 : TypeId) (W0 : World) (h : (W.alloc (.cells #[v0] t0)).alloc (.cells #[v1] t1) = W0) :
    W0.heap.size = W.heap.size + 2 ∧ Boxed W0 W.heap.size t0 v0 ∧ Boxed W0 (W.heap.size + 1) t1 v1 ∧ Below W.heap.size W W0 := by
  subst h
  refine ⟨by simp, (Boxed.new W t0 v0).alloc _, ?_, ?_⟩
  · have := Boxed.new (W.alloc (.cells #[v0] t0)) t1 v1
    rw [World.size_alloc] at this
    exact this
  · exact ((Below.refl _ W).alloc (Nat.le_refl _) _).alloc (by simp) _

theorem goodB_long {l : List UInt8} (h : 200 < l.length) : goodB l = false := by
  simp only [goodB, show ¬ l.length ≤ 200 from by omega, decide_false, Bool.false_and]
theorem goodB_front {l : List UInt8} (h : Lib.hasPrefix l [47] = false) : goodB l = false := by
  simp only [goodB, h, Bool.and_false, Bool.false_and]
theorem goodB_mid {l : List UInt8} (h0 : l.length ≤ 200) (h : Lib.hasPrefix l [47] = true) : goodB l = (stepsL l).all namedB := by
  simp only [goodB, h0, h, decide_true, Bool.true_and]
theorem stepsL_length (l : List UInt8) : ∀ p ∈ stepsL l, p.length ≤ l.length := by
  intro p hp
  unfold stepsL at hp
  split at hp
  · simp at hp
  · have h1 := splitL_length _ p hp
    have h2 := Lib.trimPrefix_le l [47]
    omega
theorem all_false_of_prefix {pre xs : List (List UInt8)} (h : pre <+: xs) (h1 : pre.all namedB = false) : xs.all namedB = false := by
  obtain ⟨t, rfl⟩ := h
  rw [List.all_append, h1, Bool.false_and]

theorem ba_list (s : ByteArray) : ∃ l : List UInt8, s = ⟨l.toArray⟩ := ⟨s.data.toList, rfl⟩

set_option maxRecDepth 100000 in
set_option maxHeartbeats 1000000 in
theorem good_main (l : List UInt8) (w : World) (h0 : l.length ≤ 200) (hp : Lib.hasPrefix l [47] = true) :
    Calls Tryz.prog 64 #[.string ⟨l.toArray⟩] w fun e w' => e = .returned (.bool ((stepsL l).all namedB)) ∧ Below w.heap.size w w' := by
  refine (callsIn_wide (n := 6)).1 ?_
  refine callsIn_of_wp_marks Tryz.func64 rfl trivial ?_ rfl
  simp only [Tryz.ntmps64, List.size_toArray, List.length_cons, List.length_nil, Nat.reduceAdd, Nat.reduceSub, Array.replicate_succ, Array.replicate_zero, List.push_toArray, List.append_toArray, List.nil_append, List.cons_append]
  have hz : (ByteArray.mk l.toArray).size = l.length := Lib.size_eq ⟨l.toArray⟩
  have Hp := hide hp
  clear hp
  gi_wp2_with fail
  refine ⟨trivial, (callsIn_wide.2 (Tryz.strings_HasPrefix _ _ _)).mono ?_⟩
  rintro e w' ⟨rfl, rfl⟩
  rw [show (ByteArray.mk l.toArray).data.toList = l from rfl, show (ByteArray.mk #[47]).data.toList = [47] from rfl, unhide Hp]
  gi_wp2_with fail
  refine ⟨trivial, (callsIn_wide.2 (steps_makes _ _)).mono ?_⟩
  rintro e w' ⟨rfl, rfl⟩
  gi_wp2_with fail
  generalize hW0 : (w.alloc (.cells #[.bool false] 4)).alloc (.cells #[.string ⟨l.toArray⟩] 9) = W0
  obtain ⟨hsz, k0, k1, kb⟩ := two_boxes _ _ _ _ _ W0 hW0
  clear hW0
  refine wpIn_rangeFunc_X (α := List UInt8) (encs := fun x => #[.string ⟨x.toArray⟩]) rfl (by omega) (gf := 95) (lb := #[.pointer (some ⟨w.heap.size + 1, 0, none⟩)]) rfl trivial (enters_of Tryz.func95 (by kernel_rfl) rfl)
    (St := Below (W0.heap.size + 1 + 1)) (Kp := Above (W0.heap.size + 1 + 1)) (xs := stepsL l)
    (fun o1 o2 => by
      have h := steps_gives 5 (w.heap.size + 1) l ((W0.alloc o1).alloc o2) (by omega) (by omega) ((k1.alloc o1).alloc o2)
      rw [World.size_alloc, World.size_alloc] at h
      exact h)
    (fun A B k hs hk _ => hs.block k (by omega))
    (fun A B C h k => h.trans k) (fun A o => Above.putObj A o (by omega)) (fun _ => rfl)
    (fun pre A => Below w.heap.size w A ∧ Boxed A w.heap.size 4 (.bool false) ∧ pre.all namedB = true)
    (fun c pre A => c = .ret ∧ Below w.heap.size w A ∧ Boxed A w.heap.size 4 (.bool false) ∧ pre.all namedB = false)
    (fun pre A B hs hg => ⟨hs.1.trans (hg.mono (by omega)), Boxed.of_heap hs.2.1 (hg.block _ (by omega)), hs.2.2⟩)
    (fun c pre A B hs hg => ⟨hs.1, hs.2.1.trans (hg.mono (by omega)), Boxed.of_heap hs.2.2.1 (hg.block _ (by omega)), hs.2.2.2⟩)
    (fun pre A o hs => ⟨hs.1.trans (below_putObj A o (by omega)), boxed_putObj o hs.2.1 (by omega), hs.2.2⟩)
    (fun c pre A o hs => ⟨hs.1, hs.2.1.trans (below_putObj A o (by omega)), boxed_putObj o hs.2.2.1 (by omega), hs.2.2.2⟩)
    (fun o1 o2 => ⟨(kb.alloc (by omega) o1).alloc (by simp; omega) o2, (k0.alloc o1).alloc o2, rfl⟩)
    (fun x => { tmps := #[.string ⟨l.toArray⟩, undef, .pointer (some ⟨w.heap.size, 0, none⟩), .string ⟨x.toArray⟩, .string ⟨l.toArray⟩, .int .i64 l.length, .bool (decide (200 < (l.length : Int))), .bool (decide (200 < (l.length : Int))), .string ⟨l.toArray⟩, .bool true, .bool false,
      .bool (decide (200 < (l.length : Int))), .string ⟨l.toArray⟩, .func (.func 95) #[] #[.pointer (some ⟨w.heap.size + 1, 0, none⟩)], .string ⟨x.toArray⟩, undef, undef, undef], defers := [] })
    ?assign ?body ?done ?stop
  case assign =>
    intro x A K hK
    gi_wp2
    exact hK
  case body =>
    rintro pre x A ⟨hB, hbx, hall⟩ hpre hlt
    have cx := hbx.cell
    have fx := hbx.frozen
    have hxl : x.length ≤ 200 := by
      have := stepsL_length l x (hpre.subset (by simp))
      omega
    have hxs : (ByteArray.mk x.toArray).size ≤ maxLen := by
      unfold maxLen
      rw [Lib.size_eq]
      show x.length ≤ _
      omega
    have Hall := hide hall
    clear hall
    gi_wp2_with fail
    refine ⟨trivial, (CallsIn.inRound _ (callsIn_wide.2 (named_any _ _ hxs))).mono ?_⟩
    rintro e w' ⟨rfl, rfl⟩
    rw [show (ByteArray.mk x.toArray).data.toList = x from rfl]
    cases hx : namedB x
    · gi_wp2
      refine ⟨Below.heap_setCell _ _ _ _ (by show W0.heap.size ≠ w.heap.size; omega), Below.heap_setCell _ _ _ _ (by show W0.heap.size + 1 ≠ w.heap.size; omega), Above.setCell _ _ (by show w.heap.size < _; omega), rfl, hB.setCell (p := ⟨w.heap.size, 0, none⟩) (Nat.le_refl _) _, hbx.set _, ?_⟩
      rw [List.all_append, unhide Hall]; simp [hx]
    · gi_wp2
      refine ⟨rfl, rfl, Above.refl _ _, hB, hbx, ?_⟩
      rw [List.all_append, unhide Hall]; simp [hx]
  case done =>
    rintro A ⟨hB, hbx, hall⟩ hK
    have cx := hbx.cell
    have fx := hbx.frozen
    have Hall := hide hall
    clear hall
    gi_wp2
    have hK' : (A.setCell ⟨w.heap.size, 0, none⟩ (.bool true)).heap[W0.heap.size]? = some (.deferred (some [])) := (Below.heap_setCell _ _ _ _ (by show W0.heap.size ≠ w.heap.size; omega)).trans hK
    have hc := (boxed_putObj (l := W0.heap.size) (.deferred none) (hbx.set (.bool true)) (by omega)).cell
    refine ⟨by simp, .inl ⟨_, _, rfl, run_takeDeferred hK', ?_⟩⟩
    refine ⟨.bool true, ?_, by rw [unhide Hall], (hB.setCell (p := ⟨w.heap.size, 0, none⟩) (Nat.le_refl _) _).trans (below_putObj _ _ (by omega))⟩
    simp [results, Tryz.f64, go_sem, hc]
  case stop =>
    rintro c pre A hpre ⟨rfl, hB, hbx, hall⟩ hK
    have Hall := hide (all_false_of_prefix hpre hall)
    clear hall
    gi_wp2
    have hc := (boxed_putObj (l := W0.heap.size) (.deferred none) hbx (by omega)).cell
    refine ⟨by simp, .inl ⟨_, _, rfl, run_takeDeferred hK, ?_⟩⟩
    refine ⟨.bool false, ?_, by rw [unhide Hall], hB.trans (below_putObj _ _ (by omega))⟩
    simp [results, Tryz.f64, go_sem, hc]

set_option maxHeartbeats 400000 in
theorem good_long (l : List UInt8) (w : World) (h0 : 200 < l.length) :
    Calls Tryz.prog 64 #[.string ⟨l.toArray⟩] w fun e w' => e = .returned (.bool false) ∧ Below w.heap.size w w' := by
  have hz : (ByteArray.mk l.toArray).size = l.length := Lib.size_eq ⟨l.toArray⟩
  go_enter Tryz.func64, Tryz.ntmps64
  go_wp2_with fail
  exact bodyPost_ret (v := .bool false) (by simp [results, Tryz.f64, go_sem]) rfl ⟨rfl, (Below.refl _ _).alloc (Nat.le_refl _) _⟩

set_option maxHeartbeats 400000 in
theorem good_front (l : List UInt8) (w : World) (h0 : l.length ≤ 200) (hp : Lib.hasPrefix l [47] = false) :
    Calls Tryz.prog 64 #[.string ⟨l.toArray⟩] w fun e w' => e = .returned (.bool false) ∧ Below w.heap.size w w' := by
  have hz : (ByteArray.mk l.toArray).size = l.length := Lib.size_eq ⟨l.toArray⟩
  have Hp := hide hp
  clear hp
  go_enter Tryz.func64, Tryz.ntmps64
  go_wp2_with fail
  refine (Tryz.strings_HasPrefix _ _ _).mono ?_
  rintro e w' ⟨rfl, rfl⟩
  rw [show (ByteArray.mk l.toArray).data.toList = l from rfl, show (ByteArray.mk #[47]).data.toList = [47] from rfl, unhide Hp]
  go_wp2_with fail
  exact bodyPost_ret (v := .bool false) (by simp [results, Tryz.f64, go_sem]) rfl ⟨rfl, (Below.refl _ _).alloc (Nat.le_refl _) _⟩

/-- WHAT path.Good ANSWERS -/
theorem good_any (s : ByteArray) (w : World) : Calls Tryz.prog 64 #[.string s] w fun e w' => e = .returned (.bool (goodB s.data.toList)) ∧ Below w.heap.size w w' := by
  obtain ⟨l, rfl⟩ := ba_list s
  show Calls _ _ _ _ fun e w' => e = .returned (.bool (goodB l)) ∧ _
  by_cases h0 : 200 < l.length
  · rw [goodB_long h0]; exact good_long l w h0
  · cases hp : Lib.hasPrefix l [47]
    · rw [goodB_front hp]; exact good_front l w (by omega) hp
    · rw [goodB_mid (by omega) hp]; exact good_main l w (by omega) hp

end Go.Proofs.YtalnmhgedfgooaaGreatDoor

namespace Go.Proofs.YtalnmhgedfgooaaGreatDoor
open Go.RowKit Go.Shelf

theorem ret_str {a b : ByteArray} (h : a = b) : Ending.returned (.string a) = .returned (.string b) := by rw [h]
theorem cat_one (l m : List UInt8) : (ByteArray.mk l.toArray) ++ (ByteArray.mk m.toArray) = ⟨(l ++ m).toArray⟩ := by
  have h : ((ByteArray.mk l.toArray) ++ (ByteArray.mk m.toArray)).data.toList = l ++ m := by simp [ByteArray.data_append]
  exact congrArg (fun l : List UInt8 => ByteArray.mk l.toArray) h
theorem goodB_le {l : List UInt8} (h : goodB l = true) : l.length ≤ 200 := by
  simp only [goodB, Bool.and_eq_true, decide_eq_true_eq] at h
  exact h.1.1
theorem namedB_le {l : List UInt8} (h : namedB l = true) : 1 ≤ l.length ∧ l.length ≤ 40 := by
  simp only [namedB, Bool.and_eq_true, decide_eq_true_eq] at h
  exact ⟨h.1.1, h.1.2⟩

theorem ret_strE {a b : ByteArray} {i j : Int} (h : a = b) (h' : i = j) : Ending.returned (.tuple #[.string a, .int .i64 i]) = .returned (.tuple #[.string b, .int .i64 j]) := by rw [h, h']
theorem size_le_maxLen {m : List UInt8} (h : m.length ≤ 140737488355328) : (ByteArray.mk m.toArray).size ≤ maxLen := by
  unfold maxLen
  rw [Lib.size_eq]
  show m.length ≤ _
  omega

theorem below_next {a b c : World} (h : Below a.heap.size a b) (k : Below b.heap.size b c) : Below a.heap.size a c := h.trans (k.mono h.size)

theorem splitL_tail : ∀ (a b : List UInt8), 47 ∉ b → splitL (a ++ 47 :: b) = splitL a ++ [b]
  | [], b, hb => by
    have h : ∀ l : List UInt8, 47 ∉ l → splitL l = [l] := by
      intro l
      induction l with
      | nil => intro _; rfl
      | cons c l ih => intro h; exact splitL_other (by rintro rfl; simp at h) (ih (by simp at h; exact h.2))
    simp [splitL_slash, h b hb, splitL]
  | c :: a, b, hb => by
    have ih := splitL_tail a b hb
    by_cases hc : c = 47
    · subst hc
      rw [List.cons_append, splitL_slash, splitL_slash, ih]; rfl
    · cases hl : splitL a with
      | nil => exact absurd hl (splitL_ne a)
      | cons p ps =>
        rw [hl] at ih
        rw [List.cons_append, splitL_other hc ih, splitL_other hc hl]; rfl
theorem splitL_no : ∀ l : List UInt8, 47 ∉ l → splitL l = [l]
  | [], _ => rfl
  | c :: l, h => splitL_other (by rintro rfl; simp at h) (splitL_no l (by simp at h; exact h.2))
theorem last_slash : ∀ l : List UInt8, 47 ∈ l → ∃ a b, l = a ++ 47 :: b ∧ 47 ∉ b
  | [], h => by simp at h
  | c :: l, h => by
    by_cases hl : 47 ∈ l
    · obtain ⟨a, b, e, hb⟩ := last_slash l hl
      exact ⟨c :: a, b, by rw [e]; rfl, hb⟩
    · have hc : c = 47 := by
        rcases List.mem_cons.1 h with e | e
        · exact e.symm
        · exact absurd e hl
      exact ⟨[], l, by rw [hc]; rfl, hl⟩
theorem goodB_cons (r : List UInt8) (hr : r ≠ []) : goodB (47 :: r) = (decide (r.length + 1 ≤ 200) && (splitL r).all namedB) := by
  have h1 : Lib.hasPrefix (47 :: r) [47] = true := by simp [Lib.hasPrefix, List.isPrefixOf]
  have h2 : stepsL (47 :: r) = splitL r := by
    rw [stepsL, if_neg (by simp [hr]), Lib.trimPrefix, if_pos h1]; rfl
  simp only [goodB, h1, h2, Bool.and_true, List.length_cons]
theorem goodB_root : goodB [47] = true := by decide +kernel
theorem not_named_nil : namedB [] = false := by decide +kernel
theorem named_no_slash {b : List UInt8} (h : namedB b = true) : 47 ∉ b := by
  intro hm
  simp only [namedB, Bool.and_eq_true, List.all_eq_true] at h
  have := h.2 47 hm
  revert this; decide

set_option maxHeartbeats 400000 in
theorem clone_any (s : ByteArray) (w : World) (hs : s.size ≤ 281474976710656) :
    Calls Tryz.prog 68 #[.string s] w fun e w' => e = .returned (.string s) ∧ Below w.heap.size w w' := by
  go_enter Tryz.func68, Tryz.ntmps68
  go_wp2_with fail
  refine (Tryz.stringslite_Clone s _ hs).mono ?_
  rintro e w1 ⟨rfl, hb1⟩
  go_wp2_with fail
  go_ret
  exact ⟨rfl, hb1⟩

end Go.Proofs.YtalnmhgedfgooaaGreatDoor

namespace Go.Proofs.YtalnmhgedfgooaaGreatDoor
open Go.RowKit Go.Shelf

/-- what all paths below a path begin with -/
def openL (l : List UInt8) : List UInt8 := if l = [47] then [47] else l ++ [47]
theorem openL_root : openL [47] = [47] := by rw [openL, if_pos rfl]
theorem openL_other {l : List UInt8} (h : l ≠ [47]) : openL l = l ++ [47] := by rw [openL, if_neg h]
theorem openL_length (l : List UInt8) : (openL l).length ≤ l.length + 1 := by
  unfold openL
  split
  · simp
  · simp
def underB (a b : List UInt8) : Bool := goodB a && goodB b && !(a == b) && Lib.hasPrefix a (openL b)

set_option maxHeartbeats 400000 in
theorem opening_any (l : List UInt8) (w : World) (hl : l.length ≤ 140737488355328) :
    Calls Tryz.prog 103 #[.string ⟨l.toArray⟩] w fun e w' => e = .returned (.string ⟨(openL l).toArray⟩) ∧ w' = w := by
  have hz : (ByteArray.mk l.toArray).size = l.length := Lib.size_eq ⟨l.toArray⟩
  by_cases h : l = [47]
  · subst h
    go_enter Tryz.func103, Tryz.ntmps103
    go_wp2
    go_ret
    exact ⟨ret_str (by rw [openL_root]), rfl⟩
  · have h1 : (l == [47]) = false := by simpa using h
    have Ho := hide (openL_other h)
    clear h
    go_enter Tryz.func103, Tryz.ntmps103
    go_wp2
    go_ret
    exact ⟨ret_str (by rw [unhide Ho]; exact cat_one l [47]), rfl⟩

/-- what Join answers: the path, or nothing; and the error's number -/
def joinS (d m : List UInt8) : List UInt8 := if goodB d && namedB m then (if (openL d ++ m).length ≤ 200 then openL d ++ m else []) else []
def joinE (d m : List UInt8) : Int := if goodB d && namedB m then (if (openL d ++ m).length ≤ 200 then 0 else 1) else 2
theorem join_bad {d m : List UInt8} (h : (goodB d && namedB m) = false) : joinS d m = [] ∧ joinE d m = 2 := by
  unfold joinS joinE
  rw [h]
  exact ⟨rfl, rfl⟩
theorem join_long {d m : List UInt8} (h : (goodB d && namedB m) = true) (h1 : 200 < (openL d ++ m).length) : joinS d m = [] ∧ joinE d m = 1 := by
  unfold joinS joinE
  rw [if_pos h, if_pos h, if_neg (by omega), if_neg (by omega)]
  exact ⟨rfl, rfl⟩
theorem join_fits {d m : List UInt8} (h : (goodB d && namedB m) = true) (h1 : (openL d ++ m).length ≤ 200) : joinS d m = openL d ++ m ∧ joinE d m = 0 := by
  unfold joinS joinE
  rw [if_pos h, if_pos h, if_pos h1, if_pos h1]
  exact ⟨rfl, rfl⟩
set_option maxHeartbeats 1000000 in
theorem join_any (d m : List UInt8) (w : World) (hm : m.length ≤ 140737488355328) :
    Calls Tryz.prog 87 #[.string ⟨d.toArray⟩, .string ⟨m.toArray⟩] w fun e w' => e = .returned (.tuple #[.string ⟨(joinS d m).toArray⟩, .int .i64 (joinE d m)]) ∧ Below w.heap.size w w' := by
  cases hd : goodB d
  · obtain ⟨h1, h2⟩ := join_bad (d := d) (m := m) (by rw [hd]; rfl)
    have H1 := hide h1
    have H2 := hide h2
    have Hd := hide hd
    clear h1 h2 hd
    go_enter Tryz.func87, Tryz.ntmps87
    go_wp2_with fail
    refine (good_any _ _).mono ?_
    rintro e w1 ⟨rfl, hb1⟩
    rw [show (ByteArray.mk d.toArray).data.toList = d from rfl, unhide Hd]
    go_wp2_with fail
    go_ret2
    exact ⟨ret_strE (by rw [unhide H1]) (unhide H2).symm, hb1⟩
  cases hn : namedB m
  · obtain ⟨h1, h2⟩ := join_bad (d := d) (m := m) (by rw [hn, Bool.and_false])
    have H1 := hide h1
    have H2 := hide h2
    have Hd := hide hd
    have Hn := hide hn
    clear h1 h2 hd hn
    go_enter Tryz.func87, Tryz.ntmps87
    go_wp2_with fail
    refine (good_any _ _).mono ?_
    rintro e w1 ⟨rfl, hb1⟩
    rw [show (ByteArray.mk d.toArray).data.toList = d from rfl, unhide Hd]
    go_wp2_with fail
    refine (named_any _ _ (size_le_maxLen hm)).mono ?_
    rintro e w2 ⟨rfl, rfl⟩
    rw [show (ByteArray.mk m.toArray).data.toList = m from rfl, unhide Hn]
    go_wp2_with fail
    go_ret2
    exact ⟨ret_strE (by rw [unhide H1]) (unhide H2).symm, hb1⟩
  have hdl := goodB_le hd
  have hml := namedB_le hn
  have hol := openL_length d
  have hdn : (goodB d && namedB m) = true := by rw [hd, hn]; rfl
  have Hd := hide hd
  have Hn := hide hn
  clear hd hn
  generalize hO : openL d = O at hol
  have HO := hide hO
  clear hO
  have hz : ((ByteArray.mk O.toArray) ++ (ByteArray.mk m.toArray)).size = O.length + m.length := by rw [cat_one, Lib.size_eq]; show (O ++ m).length = _; simp
  by_cases hf : O.length + m.length ≤ 200
  · obtain ⟨h1, h2⟩ := join_fits hdn (by rw [unhide HO]; simpa using hf)
    have H1 := hide h1
    have H2 := hide h2
    clear h1 h2 hdn
    go_enter Tryz.func87, Tryz.ntmps87
    go_wp2_with fail
    refine (good_any _ _).mono ?_
    rintro e w1 ⟨rfl, hb1⟩
    rw [show (ByteArray.mk d.toArray).data.toList = d from rfl, unhide Hd]
    go_wp2_with fail
    refine (named_any _ _ (size_le_maxLen hm)).mono ?_
    rintro e w2 ⟨rfl, rfl⟩
    rw [show (ByteArray.mk m.toArray).data.toList = m from rfl, unhide Hn]
    go_wp2_with fail
    refine (opening_any _ _ (by omega)).mono ?_
    rintro e w3 ⟨rfl, rfl⟩
    rw [unhide HO]
    go_wp2_with fail
    go_ret2
    exact ⟨ret_strE (by rw [unhide H1, unhide HO]; exact cat_one O m) (unhide H2).symm, hb1⟩
  · obtain ⟨h1, h2⟩ := join_long hdn (by rw [unhide HO]; simp; omega)
    have H1 := hide h1
    have H2 := hide h2
    clear h1 h2 hdn
    go_enter Tryz.func87, Tryz.ntmps87
    go_wp2_with fail
    refine (good_any _ _).mono ?_
    rintro e w1 ⟨rfl, hb1⟩
    rw [show (ByteArray.mk d.toArray).data.toList = d from rfl, unhide Hd]
    go_wp2_with fail
    refine (named_any _ _ (size_le_maxLen hm)).mono ?_
    rintro e w2 ⟨rfl, rfl⟩
    rw [show (ByteArray.mk m.toArray).data.toList = m from rfl, unhide Hn]
    go_wp2_with fail
    refine (opening_any _ _ (by omega)).mono ?_
    rintro e w3 ⟨rfl, rfl⟩
    rw [unhide HO]
    go_wp2_with fail
    go_ret2
    exact ⟨ret_strE (by rw [unhide H1]) (unhide H2).symm, hb1⟩

end Go.Proofs.YtalnmhgedfgooaaGreatDoor

namespace Go.Proofs.YtalnmhgedfgooaaGreatDoor
open Go.RowKit Go.Shelf

theorem underB_parts {a b : List UInt8} (h : underB a b = true) : goodB a = true ∧ goodB b = true ∧ a ≠ b ∧ openL b <+: a := by
  simp only [underB, Lib.hasPrefix, Bool.and_eq_true, Bool.not_eq_true', beq_eq_false_iff_ne, List.isPrefixOf_iff_prefix] at h
  exact ⟨h.1.1.1, h.1.1.2, h.1.2, h.2⟩
theorem underB_mk {a b : List UInt8} (ha : goodB a = true) (hb : goodB b = true) (hab : a ≠ b) (h : openL b <+: a) : underB a b = true := by
  simp only [underB, Lib.hasPrefix, Bool.and_eq_true, Bool.not_eq_true', beq_eq_false_iff_ne, List.isPrefixOf_iff_prefix]
  exact ⟨⟨⟨ha, hb⟩, hab⟩, h⟩
theorem goodB_slash {a : List UInt8} (h : goodB a = true) : [47] <+: a := by
  simp only [goodB, Lib.hasPrefix, Bool.and_eq_true, List.isPrefixOf_iff_prefix] at h
  exact h.1.2
theorem underB_lt {a b : List UInt8} (h : underB a b = true) : b.length < a.length := by
  obtain ⟨ha, _, hab, hp⟩ := underB_parts h
  by_cases hb : b = [47]
  · subst hb
    obtain ⟨t, ht⟩ := goodB_slash ha
    cases t with
    | nil => exact absurd ht.symm hab
    | cons c t => rw [← ht]; simp
  · rw [openL_other hb] at hp
    have := hp.length_le
    simp at this
    omega
theorem underB_self (a : List UInt8) : underB a a = false := by
  cases h : underB a a
  · rfl
  · exact absurd (underB_lt h) (Nat.lt_irrefl _)
theorem underB_back {a b : List UInt8} (h : underB a b = true) : underB b a = false := by
  cases h' : underB b a
  · rfl
  · have := underB_lt h; have := underB_lt h'; omega
theorem openL_pos (l : List UInt8) : 1 ≤ (openL l).length := by
  unfold openL
  split <;> simp
theorem underB_trans {a b c : List UInt8} (h : underB a b = true) (k : underB b c = true) : underB a c = true := by
  have h1 := underB_lt h
  have h2 := underB_lt k
  obtain ⟨ha, hb, hab, hp⟩ := underB_parts h
  obtain ⟨_, hc, hbc, hq⟩ := underB_parts k
  refine underB_mk ha hc (by rintro rfl; omega) (hq.trans ?_)
  by_cases hr : b = [47]
  · subst hr
    exact goodB_slash ha
  · rw [openL_other hr] at hp
    exact (List.prefix_append _ _).trans hp

theorem joinS_ab : (⟨(joinS [47, 97] [98]).toArray⟩ : ByteArray) = ⟨#[47, 97, 47, 98]⟩ := by decide +kernel
theorem joinE_ab : joinE [47, 97] [98] = 0 := by decide +kernel

end Go.Proofs.YtalnmhgedfgooaaGreatDoor

namespace Go.Proofs.YtalnmhgedfgooaaGreatDoor
open Go.RowKit Go.Shelf

theorem lastIndex_eq (a b : List UInt8) (hb : 47 ∉ b) : Lib.lastIndexByte ⟨(a ++ 47 :: b).toArray⟩ 47 = a.length := by
  have hat : ∀ j, j < (a ++ 47 :: b).length → ((ByteArray.mk (a ++ 47 :: b).toArray).data[j]!) = (a ++ 47 :: b)[j]! := fun j hj => by simp
  rcases Lib.lastIndexByte_spec ⟨(a ++ 47 :: b).toArray⟩ 47 with ⟨_, h⟩ | ⟨i, hi, e, hc, hn⟩
  · exact absurd (by simp) (h a.length (by show a.length < (a ++ 47 :: b).toArray.size; simp))
  · rw [e]
    have hi' : i < (a ++ 47 :: b).length := by
      have : i < (a ++ 47 :: b).toArray.size := hi
      simpa using this
    have h1 : a.length ≤ i := by
      apply Nat.le_of_not_lt
      intro hlt
      exact hn a.length hlt (by show a.length < (a ++ 47 :: b).toArray.size; simp) (by simp)
    by_cases h2 : i = a.length
    · rw [h2]
    · exfalso
      apply hb
      have hlt : i - a.length - 1 < b.length := by simp at hi'; omega
      have hb' : (a ++ 47 :: b)[i]! = b[i - a.length - 1]! := by
        rw [List.getElem!_eq_getElem?_getD, List.getElem!_eq_getElem?_getD, List.getElem?_append_right h1]
        obtain ⟨k, hk⟩ : ∃ k, i - a.length = k + 1 := ⟨i - a.length - 1, by omega⟩
        rw [hk]; simp
      rw [hat i hi', hb'] at hc
      have hm : b[i - a.length - 1]! ∈ b := by
        rw [List.getElem!_eq_getElem?_getD, List.getElem?_eq_getElem hlt]; simp
      have : b[i - a.length - 1]! = 47 := by
        apply UInt8.toNat_inj.1
        show _ = 47
        omega
      rwa [this] at hm

theorem cut_first (a b : List UInt8) : (ByteArray.mk (a ++ 47 :: b).toArray).extract 0 a.length = ⟨a.toArray⟩ := by
  rw [cut_front]; simp
theorem cut_last (a b : List UInt8) : (ByteArray.mk (a ++ 47 :: b).toArray).extract (a.length + 1) (a.length + b.length + 1) = ⟨b.toArray⟩ := by
  have := cut_back (a ++ 47 :: b) (a.length + 1)
  rw [show (a ++ 47 :: b).length = a.length + b.length + 1 from by simp; omega] at this
  rw [this]
  have e : (a ++ 47 :: b).drop (a.length + 1) = b := by rw [← List.drop_drop]; simp
  rw [e]

/-- a path's parent, out of what stands ahead of its last slash -/
def dirL (a : List UInt8) : List UInt8 := if a = [] then [47] else a
theorem dirL_nil : dirL [] = [47] := by rw [dirL, if_pos rfl]
theorem dirL_other {a : List UInt8} (h : a ≠ []) : dirL a = a := by rw [dirL, if_neg h]
theorem ret_three {a b c d : ByteArray} {i j : Int} (h : a = b) (h1 : c = d) (h' : i = j) : Ending.returned (.tuple #[.string a, .string c, .int .i64 i]) = .returned (.tuple #[.string b, .string d, .int .i64 j]) := by rw [h, h1, h']

set_option maxRecDepth 20000 in
set_option maxHeartbeats 1000000 in
theorem split_main (a b : List UInt8) (w : World) (hb : 47 ∉ b) (hg : goodB (a ++ 47 :: b) = true) (hne : a ++ 47 :: b ≠ [47]) :
    Calls Tryz.prog 69 #[.string ⟨(a ++ 47 :: b).toArray⟩] w fun e w' =>
      e = .returned (.tuple #[.string ⟨(dirL a).toArray⟩, .string ⟨b.toArray⟩, .int .i64 0]) ∧ Below w.heap.size w w' := by
  have hl : a.length + b.length + 1 ≤ 200 := by have := goodB_le hg; simp at this; omega
  have hne1 : (a ++ 47 :: b == [47]) = false := by simpa using hne
  have Hg := hide hg
  have Hi := hide (lastIndex_eq a b hb)
  clear hg hne hb
  have hz : (ByteArray.mk (a ++ 47 :: b).toArray).size = a.length + b.length + 1 := by rw [Lib.size_eq]; show (a ++ 47 :: b).length = _; simp; omega
  have Hc1 := hide (cut_first a b)
  have Hc2 := hide (cut_last a b)
  generalize a ++ 47 :: b = l at *
  go_enter Tryz.func69, Tryz.ntmps69
  go_wp2_with fail
  refine (good_any _ _).mono ?_
  rintro e w1 ⟨rfl, hb1⟩
  rw [show (ByteArray.mk l.toArray).data.toList = l from rfl, unhide Hg]
  go_wp2_with fail
  refine (Tryz.strings_LastIndexByte _ _ (by omega) _).mono ?_
  rintro e w2 ⟨rfl, rfl⟩
  rw [unhide Hi]
  go_wp2_with fail
  have cA : ∀ d os, Calls Tryz.prog 68 #[.string ((ByteArray.mk l.toArray).extract 0 a.length)] (Sort.grow (redrawn w2 d) os) fun e w'' => e = .returned (.string ⟨a.toArray⟩) ∧ ∃ p : Regrown, w'' = Sort.grow (redrawn w2 p.d) p.os :=
    fun d os => Calls.regrown_of (by rw [unhide Hc1]; exact clone_any _ _ (by rw [Lib.size_eq]; show a.length ≤ _; omega))
  have cB : ∀ d os, Calls Tryz.prog 68 #[.string ((ByteArray.mk l.toArray).extract (a.length + 1) (a.length + b.length + 1))] (Sort.grow (redrawn w2 d) os) fun e w'' => e = .returned (.string ⟨b.toArray⟩) ∧ ∃ p : Regrown, w'' = Sort.grow (redrawn w2 p.d) p.os :=
    fun d os => Calls.regrown_of (by rw [unhide Hc2]; exact clone_any _ _ (by rw [Lib.size_eq]; show b.length ≤ _; omega))
  have n1 : (a.length : Int) ≤ a.length + b.length + 1 := by omega
  have n2 : (a.length : Int) ≤ a.length + b.length := by omega
  have n3 : IntKind.i64.wrap ((a.length : Int) + 1) = (a.length : Int) + 1 := by rw [IntKind.wrap_i64]; omega
  have n4 : (0 : Int) ≤ (a.length : Int) + 1 := by omega
  refine wp_region_quiet_below (by kernel_rfl) (by kernel_rfl) ?_
  repeat (quiet_step (first | exact cA _ _ | exact cB _ _))
  refine wpQuiet_nil ?_
  intro _ hw'
  obtain ⟨⟨dq, osq⟩, hw''⟩ := hw'
  subst hw''
  clear cA cB
  have hb2 : Below w.heap.size w (Sort.grow (redrawn w2 dq) osq) := below_next hb1 (below_regrown w2 dq osq)
  cases he : a.isEmpty
  · go_wp2
    go_ret3
    exact ⟨ret_three (by rw [dirL_other (by rintro rfl; simp at he)]) rfl rfl, hb2⟩
  · obtain rfl : a = [] := by simpa using he
    go_wp2
    go_ret3
    exact ⟨ret_three (by rw [dirL_nil]) rfl rfl, hb2⟩

set_option maxHeartbeats 400000 in
theorem split_bad (l : List UInt8) (w : World) (hg : goodB l = false) :
    Calls Tryz.prog 69 #[.string ⟨l.toArray⟩] w fun e w' => e = .returned (.tuple #[.string ⟨#[]⟩, .string ⟨#[]⟩, .int .i64 2]) ∧ Below w.heap.size w w' := by
  have Hg := hide hg
  clear hg
  go_enter Tryz.func69, Tryz.ntmps69
  go_wp2_with fail
  refine (good_any _ _).mono ?_
  rintro e w1 ⟨rfl, hb1⟩
  rw [show (ByteArray.mk l.toArray).data.toList = l from rfl, unhide Hg]
  go_wp2_with fail
  go_ret3
  exact ⟨rfl, hb1⟩

set_option maxHeartbeats 400000 in
theorem split_root (w : World) :
    Calls Tryz.prog 69 #[.string ⟨#[47]⟩] w fun e w' => e = .returned (.tuple #[.string ⟨#[]⟩, .string ⟨#[]⟩, .int .i64 7]) ∧ Below w.heap.size w w' := by
  go_enter Tryz.func69, Tryz.ntmps69
  go_wp2_with fail
  refine (good_any _ _).mono ?_
  rintro e w1 ⟨rfl, hb1⟩
  rw [show (ByteArray.mk #[47]).data.toList = [47] from rfl, goodB_root]
  go_wp2_with fail
  go_ret3
  exact ⟨rfl, hb1⟩

end Go.Proofs.YtalnmhgedfgooaaGreatDoor

namespace Go.Proofs.YtalnmhgedfgooaaGreatDoor
open Go.RowKit Go.Shelf
attribute [local go_sem] Oper.semAt_some

theorem ret_ints {a b i j : Int} (h : a = b) (h' : i = j) : Ending.returned (.tuple #[.int .i64 a, .int .i64 i]) = .returned (.tuple #[.int .i64 b, .int .i64 j]) := by rw [h, h']
theorem splitL_count (l : List UInt8) : (splitL l).length ≤ l.length + 1 := by
  induction l with
  | nil => simp [splitL]
  | cons c l ih =>
    by_cases hc : c = 47
    · subst hc; rw [splitL_slash]; simp; omega
    · cases hl : splitL l with
      | nil => exact absurd hl (splitL_ne l)
      | cons p ps => rw [splitL_other hc hl]; rw [hl] at ih; simp at ih ⊢; omega
theorem stepsL_count (l : List UInt8) : (stepsL l).length ≤ l.length + 1 := by
  unfold stepsL
  split
  · simp
  · have h1 := splitL_count (Lib.trimPrefix l [47])
    have h2 := Lib.trimPrefix_le l [47]
    omega

/-- What a path is made of: what stands ahead of its last slash, and its last step. -/
theorem pgood_parts {l : List UInt8} (hg : goodB l = true) (hne : l ≠ [47]) :
    ∃ a b, l = a ++ 47 :: b ∧ 47 ∉ b ∧ namedB b = true ∧ goodB (dirL a) = true ∧ openL (dirL a) ++ b = l ∧ stepsL l = stepsL (dirL a) ++ [b] := by
  obtain ⟨r, rfl⟩ : ∃ r, l = 47 :: r := by
    obtain ⟨t, ht⟩ := goodB_slash hg
    exact ⟨t, ht.symm⟩
  have hr : r ≠ [] := by rintro rfl; exact hne rfl
  rw [goodB_cons r hr, Bool.and_eq_true, decide_eq_true_eq] at hg
  obtain ⟨hlen, hall⟩ := hg
  have hst : stepsL (47 :: r) = splitL r := by
    rw [stepsL, if_neg hne, Lib.trimPrefix, if_pos (by simp [Lib.hasPrefix, List.isPrefixOf])]; rfl
  obtain ⟨a, b, e, hb⟩ := last_slash (47 :: r) (by simp)
  refine ⟨a, b, e, hb, ?_⟩
  cases a with
  | nil =>
    simp only [List.nil_append, List.cons.injEq, true_and] at e
    subst e
    rw [splitL_no r hb] at hall hst
    refine ⟨by simpa using hall, by rw [dirL_nil]; exact goodB_root, by rw [dirL_nil, openL_root]; rfl, ?_⟩
    rw [hst, dirL_nil, stepsL, if_pos rfl]; rfl
  | cons c a =>
    simp only [List.cons_append, List.cons.injEq] at e
    obtain ⟨rfl, rfl⟩ := e
    rw [splitL_tail a b hb] at hall hst
    rw [List.all_append, Bool.and_eq_true] at hall
    have ha : a ≠ [] := by
      rintro rfl
      have h := hall.1
      rw [show splitL [] = [[]] from rfl] at h
      simp [not_named_nil] at h
    have hd : dirL (47 :: a) = 47 :: a := dirL_other (by simp)
    have hd1 : (47 :: a : List UInt8) ≠ [47] := by simp [ha]
    refine ⟨by simpa using hall.2, ?_, ?_, ?_⟩
    · rw [hd, goodB_cons a ha, hall.1, Bool.and_true, decide_eq_true_eq]
      simp at hlen; omega
    · rw [hd, openL_other hd1]; simp
    · rw [hst, hd, stepsL, if_neg hd1, Lib.trimPrefix, if_pos (by simp [Lib.hasPrefix, List.isPrefixOf])]; rfl

/-- What comes of a path and a step more. -/
theorem join_parts {d m : List UInt8} (hd : goodB d = true) (hm : namedB m = true) (hl : (openL d ++ m).length ≤ 200) :
    ∃ a, openL d ++ m = a ++ 47 :: m ∧ 47 ∉ m ∧ dirL a = d ∧ goodB (openL d ++ m) = true ∧ openL d ++ m ≠ [47] ∧ stepsL (openL d ++ m) = stepsL d ++ [m] := by
  have hno := named_no_slash hm
  have hm1 := (namedB_le hm).1
  have hmn : m ≠ [] := by rintro rfl; simp at hm1
  obtain ⟨r, rfl⟩ : ∃ r, d = 47 :: r := by
    obtain ⟨t, ht⟩ := goodB_slash hd
    exact ⟨t, ht.symm⟩
  by_cases hr : r = []
  · subst hr
    rw [openL_root] at hl ⊢
    have hne : ([47] ++ m : List UInt8) ≠ [47] := by simp [hmn]
    have hst : stepsL ([47] ++ m) = [m] := by
      rw [stepsL, if_neg hne, Lib.trimPrefix, if_pos (by simp [Lib.hasPrefix, List.isPrefixOf])]
      exact splitL_no m hno
    refine ⟨[], rfl, hno, dirL_nil, ?_, hne, ?_⟩
    · show goodB (47 :: m) = true
      rw [goodB_cons m hmn, splitL_no m hno]
      simp at hl
      simp [hm]; omega
    · rw [hst, stepsL, if_pos rfl]; rfl
  · have hd1 : (47 :: r : List UInt8) ≠ [47] := by simp [hr]
    rw [openL_other hd1] at hl ⊢
    have e : (47 :: r) ++ [47] ++ m = 47 :: (r ++ 47 :: m) := by simp
    have hst : stepsL (47 :: (r ++ 47 :: m)) = splitL r ++ [m] := by
      rw [stepsL, if_neg (by simp), Lib.trimPrefix, if_pos (by simp [Lib.hasPrefix, List.isPrefixOf])]
      exact splitL_tail r m hno
    have hd2 := hd
    rw [goodB_cons r hr, Bool.and_eq_true, decide_eq_true_eq] at hd2
    refine ⟨47 :: r, by simp, hno, dirL_other (by simp), ?_, by simp, ?_⟩
    · rw [e, goodB_cons _ (by simp), splitL_tail r m hno, List.all_append, hd2.2]
      simp at hl
      simp [hm]; omega
    · rw [e, hst, stepsL, if_neg hd1, Lib.trimPrefix, if_pos (by simp [Lib.hasPrefix, List.isPrefixOf])]; rfl

end Go.Proofs.YtalnmhgedfgooaaGreatDoor

namespace Go.Proofs.YtalnmhgedfgooaaGreatDoor
open Go.RowKit

theorem bcell {W w1 : World} (hb : Below W.heap.size W w1) : (∀ b o, b < W.heap.size → w1.cell? ⟨b, o, none⟩ = W.cell? ⟨b, o, none⟩) ∧ (∀ b o, b < W.heap.size → w1.frozen? ⟨b, o, none⟩ = W.frozen? ⟨b, o, none⟩) :=
  ⟨fun b o h => hb.cell (p := ⟨b, o, none⟩) h, fun b o h => hb.frozen (p := ⟨b, o, none⟩) h⟩

set_option maxHeartbeats 400000 in
theorem counted_any (n k : Int) (w : World) :
    Calls Tryz.prog 36 #[.int .i64 n, .int .i64 k] w fun e w' => e = .returned (.bool (cntB n k)) ∧ w' = w := by
  go_enter Tryz.func36, Tryz.ntmps36
  go_wp2
  all_goals go_ret
  all_goals exact ⟨zret_bool (by rw [Bool.eq_iff_iff, cntB_iff]; simp; try omega), rfl⟩

theorem box_then {w : World} {o : Obj} {w1 : World} (h : Below (w.alloc o).heap.size (w.alloc o) w1) : Below w.heap.size w w1 :=
  ((Below.refl _ _).alloc (Nat.le_refl _) _).trans (h.mono (by simp))
theorem op_cases {o : Int} (h : opB o = true) : o = 1 ∨ o = 2 ∨ o = 3 ∨ o = 4 ∨ o = 5 := by have := opB_iff.1 h; omega

theorem fm_1 (z s : Int) (p d : List UInt8) (v u : Int) : fmB ⟨z, 1, s, p, d, v, u⟩ = (p == [] && d == [] && v == 0 && u == 0) := rfl
theorem fm_2 (z s : Int) (p d : List UInt8) (v u : Int) : fmB ⟨z, 2, s, p, d, v, u⟩ = (p == [] && d == [] && v == 0 && u == 0) := rfl
theorem fm_3 (z s : Int) (p d : List UInt8) (v u : Int) : fmB ⟨z, 3, s, p, d, v, u⟩ = (goodB p && !(p == [47]) && v == 0) := rfl
theorem fm_4 (z s : Int) (p d : List UInt8) (v u : Int) : fmB ⟨z, 4, s, p, d, v, u⟩ = (goodB p && !(p == [47]) && d == [] && v == 0 && u == 0) := rfl
theorem fm_5 (z s : Int) (p d : List UInt8) (v u : Int) : fmB ⟨z, 5, s, p, d, v, u⟩ = (goodB p && u == 0) := rfl

set_option maxHeartbeats 1000000 in
theorem formed_1 (z s : Int) (p d : List UInt8) (v u : Int) (w : World) :
    Calls Tryz.prog 37 #[.agg #[.int .i64 z, .int .i64 1, .int .i64 s, .string ⟨p.toArray⟩, .string ⟨d.toArray⟩, .int .i64 v, .int .i64 u]] w fun e w' => e = .returned (.bool (fmB ⟨z, 1, s, p, d, v, u⟩)) ∧ Below w.heap.size w w' := by
  rw [fm_1]
  cases hg : goodB p
  all_goals
    have Hg := hide hg
    clear hg
    go_enter Tryz.func37, Tryz.ntmps37
    go_wp2_with fail
    refine (good_any _ _).mono ?_
    rintro e w1 ⟨rfl, hb1⟩
    have hbz := box_then hb1
    obtain ⟨hc, hf⟩ := bcell hb1
    rw [show (ByteArray.mk p.toArray).data.toList = p from rfl, unhide Hg]
    go_wp2_with fail
    all_goals go_ret
    all_goals (clear hc hf hb1)
    all_goals (refine ⟨zret_bool ?_, hbz⟩; clear hbz Hg; simp [*])

set_option maxHeartbeats 1000000 in
theorem formed_2 (z s : Int) (p d : List UInt8) (v u : Int) (w : World) :
    Calls Tryz.prog 37 #[.agg #[.int .i64 z, .int .i64 2, .int .i64 s, .string ⟨p.toArray⟩, .string ⟨d.toArray⟩, .int .i64 v, .int .i64 u]] w fun e w' => e = .returned (.bool (fmB ⟨z, 2, s, p, d, v, u⟩)) ∧ Below w.heap.size w w' := by
  rw [fm_2]
  cases hg : goodB p
  all_goals
    have Hg := hide hg
    clear hg
    go_enter Tryz.func37, Tryz.ntmps37
    go_wp2_with fail
    refine (good_any _ _).mono ?_
    rintro e w1 ⟨rfl, hb1⟩
    have hbz := box_then hb1
    obtain ⟨hc, hf⟩ := bcell hb1
    rw [show (ByteArray.mk p.toArray).data.toList = p from rfl, unhide Hg]
    go_wp2_with fail
    all_goals go_ret
    all_goals (clear hc hf hb1)
    all_goals (refine ⟨zret_bool ?_, hbz⟩; clear hbz Hg; simp [*])

set_option maxHeartbeats 1000000 in
theorem formed_3 (z s : Int) (p d : List UInt8) (v u : Int) (w : World) :
    Calls Tryz.prog 37 #[.agg #[.int .i64 z, .int .i64 3, .int .i64 s, .string ⟨p.toArray⟩, .string ⟨d.toArray⟩, .int .i64 v, .int .i64 u]] w fun e w' => e = .returned (.bool (fmB ⟨z, 3, s, p, d, v, u⟩)) ∧ Below w.heap.size w w' := by
  rw [fm_3]
  cases hg : goodB p
  all_goals
    have Hg := hide hg
    clear hg
    go_enter Tryz.func37, Tryz.ntmps37
    go_wp2_with fail
    refine (good_any _ _).mono ?_
    rintro e w1 ⟨rfl, hb1⟩
    have hbz := box_then hb1
    obtain ⟨hc, hf⟩ := bcell hb1
    rw [show (ByteArray.mk p.toArray).data.toList = p from rfl, unhide Hg]
    go_wp2_with fail
    all_goals go_ret
    all_goals (clear hc hf hb1)
    all_goals (refine ⟨zret_bool ?_, hbz⟩; clear hbz Hg; simp [*])

set_option maxHeartbeats 1000000 in
theorem formed_4 (z s : Int) (p d : List UInt8) (v u : Int) (w : World) :
    Calls Tryz.prog 37 #[.agg #[.int .i64 z, .int .i64 4, .int .i64 s, .string ⟨p.toArray⟩, .string ⟨d.toArray⟩, .int .i64 v, .int .i64 u]] w fun e w' => e = .returned (.bool (fmB ⟨z, 4, s, p, d, v, u⟩)) ∧ Below w.heap.size w w' := by
  rw [fm_4]
  cases hg : goodB p
  all_goals
    have Hg := hide hg
    clear hg
    go_enter Tryz.func37, Tryz.ntmps37
    go_wp2_with fail
    refine (good_any _ _).mono ?_
    rintro e w1 ⟨rfl, hb1⟩
    have hbz := box_then hb1
    obtain ⟨hc, hf⟩ := bcell hb1
    rw [show (ByteArray.mk p.toArray).data.toList = p from rfl, unhide Hg]
    go_wp2_with fail
    all_goals go_ret
    all_goals (clear hc hf hb1)
    all_goals (refine ⟨zret_bool ?_, hbz⟩; clear hbz Hg; simp [*])

end Go.Proofs.YtalnmhgedfgooaaGreatDoor

namespace Go.Proofs.YtalnmhgedfgooaaGreatDoor
open Go.RowKit

set_option maxHeartbeats 1000000 in
theorem formed_5 (z s : Int) (p d : List UInt8) (v u : Int) (w : World) :
    Calls Tryz.prog 37 #[.agg #[.int .i64 z, .int .i64 5, .int .i64 s, .string ⟨p.toArray⟩, .string ⟨d.toArray⟩, .int .i64 v, .int .i64 u]] w fun e w' => e = .returned (.bool (fmB ⟨z, 5, s, p, d, v, u⟩)) ∧ Below w.heap.size w w' := by
  rw [fm_5]
  cases hg : goodB p
  all_goals
    have Hg := hide hg
    clear hg
    go_enter Tryz.func37, Tryz.ntmps37
    go_wp2_with fail
    refine (good_any _ _).mono ?_
    rintro e w1 ⟨rfl, hb1⟩
    have hbz := box_then hb1
    have hz1 : w.heap.size < w1.heap.size := by have := hb1.size; simp at this; omega
    obtain ⟨hc, hf⟩ := bcell hb1
    rw [show (ByteArray.mk p.toArray).data.toList = p from rfl, unhide Hg]
    go_wp2_with fail
    all_goals
      refine (good_any _ _).mono ?_
      rintro e w2 ⟨rfl, hb2⟩
      have hbz2 := below_next hbz hb2
      obtain ⟨hc2, hf2⟩ := bcell hb2
      rw [show (ByteArray.mk p.toArray).data.toList = p from rfl, unhide Hg]
      go_wp2_with fail
    all_goals go_ret
    all_goals (clear hc hf hb1 hc2 hf2 hb2 hbz)
    all_goals (refine ⟨zret_bool ?_, hbz2⟩; clear hbz2 Hg; simp [*])

theorem formed_any (t : WTxn) (w : World) (ht : opB t.o = true) :
    Calls Tryz.prog 37 #[txnV t] w fun e w' => e = .returned (.bool (fmB t)) ∧ Below w.heap.size w w' := by
  obtain ⟨z, o, s, p, d, v, u⟩ := t
  rcases op_cases ht with h | h | h | h | h <;> (replace h : o = _ := h; subst h)
  · exact formed_1 z s p d v u w
  · exact formed_2 z s p d v u w
  · exact formed_3 z s p d v u w
  · exact formed_4 z s p d v u w
  · exact formed_5 z s p d v u w

theorem opB_no {o : Int} (h : opB o = false) : o < 1 ∨ 5 < o := by
  by_cases h1 : 1 ≤ o ∧ o ≤ 5
  · rw [opB_iff.2 h1] at h; exact absurd h (by decide)
  · omega
theorem ret_gd {a b : Int} (h : a = b) : Ending.returned (.int .i64 a) = .returned (.int .i64 b) := by rw [h]

theorem num_no {t : WTxn} (h : zGood t.z = false ∨ cntB t.s 1 = false ∨ cntB t.v 0 = false ∨ cntB t.w 0 = false) : numB t = false := by
  rcases h with h | h | h | h <;> simp [numB, h]

set_option maxHeartbeats 2000000 in
theorem wgood_any (t : WTxn) (w : World) (hd : t.d.length ≤ 140737488355328) :
    Calls Tryz.prog 15 #[txnV t] w fun e w' => e = .returned (.int .i64 (gdE t)) ∧ Below w.heap.size w w' := by
  cases ho : opB t.o
  · have H := hide (gdE_kind ho)
    have hor := opB_no ho
    clear ho
    obtain ⟨z, o, s, p, d, v, u⟩ := t
    unfold txnV
    replace hor : o < 1 ∨ 5 < o := hor
    rcases hor with hor | hor
    all_goals
      go_enter Tryz.func15, Tryz.ntmps15
      go_wp2_with fail
      go_ret
      exact ⟨ret_gd (unhide H).symm, (Below.refl _ _).alloc (Nat.le_refl _) _⟩
  have hor := opB_iff.1 ho
  have ho1 := hor.1
  have ho2 := hor.2
  have Ho := hide ho
  clear ho hor
  cases hz : zGood t.z
  · have H := hide (gdE_range (unhide Ho) (num_no (.inl hz)))
    have Hz := hide hz
    clear hz
    · obtain ⟨z, o, s, p, d, v, u⟩ := t
      unfold txnV
      have hzd : (ByteArray.mk d.toArray).size = d.length := Lib.size_eq ⟨d.toArray⟩
      replace ho1 : 1 ≤ o := ho1
      replace ho2 : o ≤ 5 := ho2
      replace hd : d.length ≤ 140737488355328 := hd
      go_enter Tryz.func15, Tryz.ntmps15
      go_wp2_with fail
      refine (zgood_any _ _).mono ?_
      rintro e w1 ⟨rfl, rfl⟩
      rw [unhide Hz]
      go_wp2_with fail
      go_ret
      exact ⟨ret_gd (unhide H).symm, (Below.refl _ _).alloc (Nat.le_refl _) _⟩
  cases hs : cntB t.s 1
  · have H := hide (gdE_range (unhide Ho) (num_no (.inr (.inl hs))))
    have Hz := hide hz
    have Hs := hide hs
    clear hz hs
    · obtain ⟨z, o, s, p, d, v, u⟩ := t
      unfold txnV
      have hzd : (ByteArray.mk d.toArray).size = d.length := Lib.size_eq ⟨d.toArray⟩
      replace ho1 : 1 ≤ o := ho1
      replace ho2 : o ≤ 5 := ho2
      replace hd : d.length ≤ 140737488355328 := hd
      go_enter Tryz.func15, Tryz.ntmps15
      go_wp2_with fail
      refine (zgood_any _ _).mono ?_
      rintro e w1 ⟨rfl, rfl⟩
      rw [unhide Hz]
      go_wp2_with fail
      refine (counted_any _ _ _).mono ?_
      rintro e w1 ⟨rfl, rfl⟩
      rw [unhide Hs]
      go_wp2_with fail
      go_ret
      exact ⟨ret_gd (unhide H).symm, (Below.refl _ _).alloc (Nat.le_refl _) _⟩
  cases hv : cntB t.v 0
  · have H := hide (gdE_range (unhide Ho) (num_no (.inr (.inr (.inl hv)))))
    have Hz := hide hz
    have Hs := hide hs
    have Hv := hide hv
    clear hz hs hv
    · obtain ⟨z, o, s, p, d, v, u⟩ := t
      unfold txnV
      have hzd : (ByteArray.mk d.toArray).size = d.length := Lib.size_eq ⟨d.toArray⟩
      replace ho1 : 1 ≤ o := ho1
      replace ho2 : o ≤ 5 := ho2
      replace hd : d.length ≤ 140737488355328 := hd
      go_enter Tryz.func15, Tryz.ntmps15
      go_wp2_with fail
      refine (zgood_any _ _).mono ?_
      rintro e w1 ⟨rfl, rfl⟩
      rw [unhide Hz]
      go_wp2_with fail
      refine (counted_any _ _ _).mono ?_
      rintro e w1 ⟨rfl, rfl⟩
      rw [unhide Hs]
      go_wp2_with fail
      refine (counted_any _ _ _).mono ?_
      rintro e w1 ⟨rfl, rfl⟩
      rw [unhide Hv]
      go_wp2_with fail
      go_ret
      exact ⟨ret_gd (unhide H).symm, (Below.refl _ _).alloc (Nat.le_refl _) _⟩
  cases hu : cntB t.w 0
  · have H := hide (gdE_range (unhide Ho) (num_no (.inr (.inr (.inr hu)))))
    have Hz := hide hz
    have Hs := hide hs
    have Hv := hide hv
    have Hu := hide hu
    clear hz hs hv hu
    · obtain ⟨z, o, s, p, d, v, u⟩ := t
      unfold txnV
      have hzd : (ByteArray.mk d.toArray).size = d.length := Lib.size_eq ⟨d.toArray⟩
      replace ho1 : 1 ≤ o := ho1
      replace ho2 : o ≤ 5 := ho2
      replace hd : d.length ≤ 140737488355328 := hd
      go_enter Tryz.func15, Tryz.ntmps15
      go_wp2_with fail
      refine (zgood_any _ _).mono ?_
      rintro e w1 ⟨rfl, rfl⟩
      rw [unhide Hz]
      go_wp2_with fail
      refine (counted_any _ _ _).mono ?_
      rintro e w1 ⟨rfl, rfl⟩
      rw [unhide Hs]
      go_wp2_with fail
      refine (counted_any _ _ _).mono ?_
      rintro e w1 ⟨rfl, rfl⟩
      rw [unhide Hv]
      go_wp2_with fail
      refine (counted_any _ _ _).mono ?_
      rintro e w1 ⟨rfl, rfl⟩
      rw [unhide Hu]
      go_wp2_with fail
      go_ret
      exact ⟨ret_gd (unhide H).symm, (Below.refl _ _).alloc (Nat.le_refl _) _⟩
  have HN := hide (numB_iff.2 ⟨hz, hs, hv, hu⟩)
  have Hz := hide hz
  have Hs := hide hs
  have Hv := hide hv
  have Hu := hide hu
  clear hz hs hv hu
  by_cases hl : 256 < t.d.length
  · have H := hide (gdE_long (unhide Ho) (unhide HN) hl)
    · obtain ⟨z, o, s, p, d, v, u⟩ := t
      unfold txnV
      replace hl : 256 < d.length := hl
      have hzd : (ByteArray.mk d.toArray).size = d.length := Lib.size_eq ⟨d.toArray⟩
      replace ho1 : 1 ≤ o := ho1
      replace ho2 : o ≤ 5 := ho2
      replace hd : d.length ≤ 140737488355328 := hd
      go_enter Tryz.func15, Tryz.ntmps15
      go_wp2_with fail
      refine (zgood_any _ _).mono ?_
      rintro e w1 ⟨rfl, rfl⟩
      rw [unhide Hz]
      go_wp2_with fail
      refine (counted_any _ _ _).mono ?_
      rintro e w1 ⟨rfl, rfl⟩
      rw [unhide Hs]
      go_wp2_with fail
      refine (counted_any _ _ _).mono ?_
      rintro e w1 ⟨rfl, rfl⟩
      rw [unhide Hv]
      go_wp2_with fail
      refine (counted_any _ _ _).mono ?_
      rintro e w1 ⟨rfl, rfl⟩
      rw [unhide Hu]
      go_wp2_with fail
      go_ret
      exact ⟨ret_gd (unhide H).symm, (Below.refl _ _).alloc (Nat.le_refl _) _⟩
  cases hfm : fmB t
  · have H := hide (gdE_form (unhide Ho) (unhide HN) (by omega) hfm)
    have Hf := hide hfm
    clear hfm
    · obtain ⟨z, o, s, p, d, v, u⟩ := t
      unfold txnV
      replace hl : ¬ 256 < d.length := hl
      have hzd : (ByteArray.mk d.toArray).size = d.length := Lib.size_eq ⟨d.toArray⟩
      replace ho1 : 1 ≤ o := ho1
      replace ho2 : o ≤ 5 := ho2
      replace hd : d.length ≤ 140737488355328 := hd
      go_enter Tryz.func15, Tryz.ntmps15
      go_wp2_with fail
      refine (zgood_any _ _).mono ?_
      rintro e w1 ⟨rfl, rfl⟩
      rw [unhide Hz]
      go_wp2_with fail
      refine (counted_any _ _ _).mono ?_
      rintro e w1 ⟨rfl, rfl⟩
      rw [unhide Hs]
      go_wp2_with fail
      refine (counted_any _ _ _).mono ?_
      rintro e w1 ⟨rfl, rfl⟩
      rw [unhide Hv]
      go_wp2_with fail
      refine (counted_any _ _ _).mono ?_
      rintro e w1 ⟨rfl, rfl⟩
      rw [unhide Hu]
      go_wp2_with fail
      refine (formed_any ⟨z, o, s, p, d, v, u⟩ _ (unhide Ho)).mono ?_
      rintro e w2 ⟨rfl, hb2⟩
      have hbz := box_then hb2
      rw [unhide Hf]
      go_wp2_with fail
      go_ret
      exact ⟨ret_gd (unhide H).symm, hbz⟩
  · have H := hide (gdE_ok (unhide Ho) (unhide HN) (by omega) hfm)
    have Hf := hide hfm
    clear hfm
    · obtain ⟨z, o, s, p, d, v, u⟩ := t
      unfold txnV
      replace hl : ¬ 256 < d.length := hl
      have hzd : (ByteArray.mk d.toArray).size = d.length := Lib.size_eq ⟨d.toArray⟩
      replace ho1 : 1 ≤ o := ho1
      replace ho2 : o ≤ 5 := ho2
      replace hd : d.length ≤ 140737488355328 := hd
      go_enter Tryz.func15, Tryz.ntmps15
      go_wp2_with fail
      refine (zgood_any _ _).mono ?_
      rintro e w1 ⟨rfl, rfl⟩
      rw [unhide Hz]
      go_wp2_with fail
      refine (counted_any _ _ _).mono ?_
      rintro e w1 ⟨rfl, rfl⟩
      rw [unhide Hs]
      go_wp2_with fail
      refine (counted_any _ _ _).mono ?_
      rintro e w1 ⟨rfl, rfl⟩
      rw [unhide Hv]
      go_wp2_with fail
      refine (counted_any _ _ _).mono ?_
      rintro e w1 ⟨rfl, rfl⟩
      rw [unhide Hu]
      go_wp2_with fail
      refine (formed_any ⟨z, o, s, p, d, v, u⟩ _ (unhide Ho)).mono ?_
      rintro e w2 ⟨rfl, hb2⟩
      have hbz := box_then hb2
      rw [unhide Hf]
      go_wp2_with fail
      go_ret
      exact ⟨ret_gd (unhide H).symm, hbz⟩

end Go.Proofs.YtalnmhgedfgooaaGreatDoor
