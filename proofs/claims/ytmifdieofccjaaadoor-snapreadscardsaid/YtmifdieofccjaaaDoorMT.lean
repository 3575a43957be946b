/-
  aviaryref's taker and signed: the walks.
  aviaryref.ReadSnap: the walk.
-/
import Derived.Test.YtmifdieofccjaaaDoorMM
import Derived.Test.YtmifdieofccjaaaDoorMR
namespace Go.Proofs.YtmifdieofccjaaaDoor
open Go.RowKit
/-- a taker's two cells -/
def Tkr (W : World) (g : Nat) (r : List UInt8) (b : Bool) : Prop := W.heap[g]? = some (.cells #[.string ⟨r.toArray⟩, .bool b] 56 (0, 0))
theorem Tkr.c0 {W : World} {g : Nat} {r : List UInt8} {b : Bool} (h : Tkr W g r b) : W.cell? ⟨g, 0, none⟩ = some (.string ⟨r.toArray⟩) := by unfold Tkr at h; simp [World.cell?, h]
theorem Tkr.c1 {W : World} {g : Nat} {r : List UInt8} {b : Bool} (h : Tkr W g r b) : W.cell? ⟨g, 1, none⟩ = some (.bool b) := by unfold Tkr at h; simp [World.cell?, h]
theorem Tkr.f {W : World} {g : Nat} {r : List UInt8} {b : Bool} (h : Tkr W g r b) (j : Nat) : W.frozen? ⟨g, j, none⟩ = false := by unfold Tkr at h; simp [World.frozen?, h]
theorem Tkr.s0 {W : World} {g : Nat} {r : List UInt8} {b : Bool} (h : Tkr W g r b) (r' : List UInt8) : Tkr (W.setCell ⟨g, 0, none⟩ (.string ⟨r'.toArray⟩)) g r' b := cur_set _ h
theorem Tkr.s1 {W : World} {g : Nat} {r : List UInt8} {b : Bool} (h : Tkr W g r b) (b' : Bool) : Tkr (W.setCell ⟨g, 1, none⟩ (.bool b')) g r b' := cur_set _ h
theorem Tkr.kept {W V : World} {g B : Nat} {r : List UInt8} {b : Bool} (h : Tkr W g r b) (hb : Below B W V) (hg : g < B) : Tkr V g r b := (hb.block _ hg).trans h
def tkA (k : Nat) (r : List UInt8) (b : Bool) : List UInt8 := if b = true ∨ r.length < k then [] else r.take k
def tkR (k : Nat) (r : List UInt8) (b : Bool) : List UInt8 := if b = true ∨ r.length < k then r else r.drop k
theorem rdok_take (k : Nat) (r : List UInt8) (b : Bool) : RdOk (tk k) r b (tkA k r b) (tkR k r b) (b || decide (r.length < k)) := by
  refine ⟨fun hb => by rw [hb]; rfl, fun hb => ⟨fun a0 x h => ?_, fun h => ?_⟩⟩
  · by_cases hk : k ≤ r.length
    · rw [tk_front hk] at h
      simp only [Option.some.injEq, Prod.mk.injEq] at h
      have hn : ¬ (b = true ∨ r.length < k) := by rw [hb]; simp; omega
      refine ⟨by rw [tkA, if_neg hn]; exact h.1, by rw [tkR, if_neg hn]; exact h.2, by rw [hb, decide_eq_false (by omega)]; rfl⟩
    · rw [tk_none (by omega)] at h
      cases h
  · by_cases hk : k ≤ r.length
    · rw [tk_front hk] at h
      cases h
    · rw [decide_eq_true (by omega), Bool.or_true]
theorem tkA_len (k : Nat) (r : List UInt8) (b : Bool) : (tkA k r b).length ≤ k := by
  unfold tkA
  split
  · exact Nat.zero_le _
  · rw [List.length_take]; omega
set_option maxHeartbeats 1000000 in
theorem take_any (g n : Nat) (r : List UInt8) (b : Bool) (w : World) (hn : n ≤ 140737488355328) (hc : Tkr w g r b) :
    Calls Tryd.prog 36 #[.pointer (some ⟨g, 0, none⟩), .int .i64 n] w fun e w' => e = .returned (.string ⟨(tkA n r b).toArray⟩) ∧ Tkr w' g (tkR n r b) (b || decide (r.length < n)) ∧ Only g w w' := by
  have hz : (ByteArray.mk r.toArray).size = r.length := Lib.size_eq ⟨r.toArray⟩
  have h0 := hc.c0
  have h1 := hc.c1
  have hf0 := hc.f 0
  have hf1 := hc.f 1
  have HC := hide hc
  clear hc
  cases b with
  | true =>
    go_enter Tryd.func36, Tryd.ntmps36
    go_wp2
    go_ret
    refine ⟨ret_txt (by rw [tkA, if_pos (.inl rfl)]), ?_, (Only.refl g w).setCell 1 _⟩
    rw [tkR, if_pos (.inl rfl)]
    exact (unhide HC).s1 true
  | false =>
    by_cases hlt : r.length < n
    · go_enter Tryd.func36, Tryd.ntmps36
      go_wp2
      go_ret
      refine ⟨ret_txt (by rw [tkA, if_pos (.inr hlt)]), ?_, (Only.refl g w).setCell 1 _⟩
      rw [tkR, if_pos (.inr hlt), decide_eq_true hlt]
      exact (unhide HC).s1 true
    · have hno : ¬ (false = true ∨ r.length < n) := by simp; omega
      go_enter Tryd.func36, Tryd.ntmps36
      go_wp2
      go_ret
      refine ⟨ret_txt (by rw [tkA, if_neg hno]; exact ex_front r n), ?_, (Only.refl g w).setCell 0 _⟩
      rw [tkR, if_neg hno, ex_back, decide_eq_false hlt]
      exact (unhide HC).s0 _

theorem u64_c {a b : Int} (h : a = b) : Value.int .u64 a = .int .u64 b := by rw [h]
set_option maxHeartbeats 1000000 in
theorem signed_any (l : List UInt8) (w : World) (hs : l.length ≤ 8) :
    Calls Tryd.prog 35 #[.string ⟨l.toArray⟩] w fun e w' => e = .returned (.int .i64 (wrap64 (un l : Nat))) ∧ Below w.heap.size w w' := by
  have hz : (ByteArray.mk l.toArray).size = l.length := Lib.size_eq ⟨l.toArray⟩
  have hconv : ∀ W s, (convert 9 66 (.string s)).run Tryd.prog W = .ok (.slice (some ⟨W.heap.size, 0, none⟩) s.size (grownCap W s.size 0 5)) (Lib.bytesWorld W 5 s) := fun W s =>
    Lib.run_convert_string_bytes W 9 66 5 s Tryd.underlying9 Tryd.underlying66 Tryd.underlying5
  go_enter Tryd.func35, Tryd.ntmps35
  go_wp2
  generalize hW1 : Lib.bytesWorld w 5 ⟨l.toArray⟩ = W1
  have Hcell : Hid (∀ j (hj : j < l.length), W1.cell? ⟨w.heap.size, j, none⟩ = some (.int .u8 (l[j].toNat : Int))) := hide (fun j hj => by
    rw [← hW1]; exact bytes_cell w 5 ⟨l.toArray⟩ l rfl j hj)
  have hB1 : Below w.heap.size w W1 := by rw [← hW1]; exact bytes_below _ _ _
  clear hW1 hconv
  go_loop [3, 9] (fun t i => ∃ k : Nat, k ≤ l.length ∧ i = .int .i64 k ∧ t = .int .u64 (un (l.take k) : Nat)) (fun _ i => l.length - (intOf i).toNat)
  case atStart => exact ⟨0, Nat.zero_le _, rfl, u64_c (by simp [un])⟩
  case round =>
    obtain ⟨k, hk, rfl, rfl⟩ := hrel
    by_cases hlt : k < l.length
    · have hc := unhide Hcell k hlt
      have Hs := hide (un_take l k hlt)
      have hsm := un_small (l := l.take k) (by rw [List.length_take]; omega)
      obtain ⟨x, hx⟩ : ∃ x, un (l.take k) = x := ⟨_, rfl⟩
      rw [hx] at hsm Hs ⊢
      clear hx
      have hb := l[k].toNat_lt
      generalize l[k] = c at hc Hs hb
      go_wp2
      refine ⟨⟨k + 1, by omega, by go_num, u64_c ?_⟩, by simp [intOf]; omega⟩
      rw [unhide Hs]
      omega
    · obtain rfl : k = l.length := by omega
      rw [List.take_length]
      go_wp2
      go_ret
      exact ⟨rfl, hB1⟩
end Go.Proofs.YtmifdieofccjaaaDoor

namespace Go.Proofs.YtmifdieofccjaaaDoor
open Go.RowKit

/-- the answer's box, the tree's box q with rows of the call's own, the taker g -/
structure RdS (w W : World) (g q B : Nat) (r : List UInt8) (b : Bool) (z : Int) (ns : List Nd) (ss : List Int) (vn vs : Value) : Prop where
  x0 : W.heap[w.heap.size]? = some (.cells #[.int .i64 0, .slice none 0 0, .slice none 0 0] 25 (0, 0))
  x : W.heap[q]? = some (.cells #[.int .i64 z, vn, vs] 25 (0, 0))
  n : OwnS W B vn ns
  s : OwnS W B vs ss
  ne : ∀ k, vn.ownBlock = some k → vs.ownBlock ≠ some k
  c : Tkr W g r b
  gl : w.heap.size < g
  ql : w.heap.size < q
  gq : g ≠ q
  gB : g < B
  qB : q < B
  b : Below w.heap.size w W
section
variable {w W V : World} {g q B : Nat} {r r' : List UInt8} {b b' : Bool} {z : Int} {ns : List Nd} {ss : List Int} {vn vs : Value}
theorem RdS.lt (h : RdS w W g q B r b z ns ss vn vs) : q < W.heap.size ∧ g < W.heap.size ∧ w.heap.size < W.heap.size := ⟨(Array.getElem?_eq_some_iff.1 h.x).1, (Array.getElem?_eq_some_iff.1 h.c).1, (Array.getElem?_eq_some_iff.1 h.x0).1⟩
theorem RdS.cur (h : RdS w W g q B r b z ns ss vn vs) (hc : Tkr V g r' b') (ho : Only g W V) : RdS w V g q B r' b' z ns ss vn vs := by
  have h1 := h.gl
  have h2 := h.gq
  have h3 := h.gB
  have gr : W.grownBy V (some g) := ⟨ho.os, ho.tape, ho.output, Nat.le_of_eq ho.size.symm, fun k _ hk => ho.block k (fun e => hk (by rw [e]))⟩
  exact ⟨(ho.block _ (by omega)).trans h.x0, (ho.block _ (fun e => h2 e.symm)).trans h.x, h.n.grown gr (fun k e e2 => by have := own_lt h.n e; simp only [Option.some.injEq] at e2; omega), h.s.grown gr (fun k e e2 => by have := own_lt h.s e; simp only [Option.some.injEq] at e2; omega), h.ne, hc, h1, h.ql, h2, h3, h.qB, ho.below h.b (by omega)⟩
theorem RdS.next (h : RdS w W g q B r b z ns ss vn vs) (hb : Below W.heap.size W V) : RdS w V g q B r b z ns ss vn vs :=
  ⟨(hb.block _ h.lt.2.2).trans h.x0, (hb.block _ h.lt.1).trans h.x, h.n.next hb, h.s.next hb, h.ne, (hb.block _ h.lt.2.1).trans h.c, h.gl, h.ql, h.gq, h.gB, h.qB, nnext h.b hb⟩
theorem RdS.cells (h : RdS w W g q B r b z ns ss vn vs) : W.cell? ⟨q, 0, none⟩ = some (.int .i64 z) ∧ W.cell? ⟨q, 1, none⟩ = some vn ∧ W.cell? ⟨q, 2, none⟩ = some vs := by
  have h1 := h.x
  refine ⟨?_, ?_, ?_⟩ <;> simp [World.cell?, h1]
theorem RdS.f (h : RdS w W g q B r b z ns ss vn vs) (j : Nat) : W.frozen? ⟨q, j, none⟩ = false := by
  have h1 := h.x
  simp [World.frozen?, h1]
theorem RdS.zb (h : RdS w W g q B r b z ns ss vn vs) : ZB w W := ⟨h.x0, h.b⟩
/-- a cell of another block is written -/
theorem RdS.set (h : RdS w W g q B r b z ns ss vn vs) {k : Nat} (j : Nat) (v : Value) (hk : B ≤ k) (h1 : vn.ownBlock ≠ some k) (h2 : vs.ownBlock ≠ some k) : RdS w (W.setCell ⟨k, j, none⟩ v) g q B r b z ns ss vn vs := by
  have e1 := h.gl
  have e2 := h.ql
  have e3 := h.gB
  have e4 := h.qB
  exact ⟨(Below.heap_setCell _ _ _ _ (by simp only; omega)).trans h.x0, (Below.heap_setCell _ _ _ _ (by simp only; omega)).trans h.x, h.n.other h1 _, h.s.other h2 _, h.ne, (Below.heap_setCell _ _ _ _ (by simp only; omega)).trans h.c, e1, e2, h.gq, e3, e4, h.b.setCell (by simp only; omega) _⟩
theorem RdS.seenS (h : RdS w W g q B r b z ns ss vn vs) (hg : W.grownBy V vs.ownBlock) : V.cell? ⟨q, 2, none⟩ = some vs ∧ V.frozen? ⟨q, 2, none⟩ = false := by
  have h1 := (hg.block _ h.lt.1 (fun e => by have := own_lt h.s e.symm; have := h.qB; omega)).trans h.x
  refine ⟨?_, ?_⟩ <;> simp [World.cell?, World.frozen?, h1]
theorem RdS.seenN (h : RdS w W g q B r b z ns ss vn vs) (hg : W.grownBy V vn.ownBlock) : V.cell? ⟨q, 1, none⟩ = some vn ∧ V.frozen? ⟨q, 1, none⟩ = false := by
  have h1 := (hg.block _ h.lt.1 (fun e => by have := own_lt h.n e.symm; have := h.qB; omega)).trans h.x
  refine ⟨?_, ?_⟩ <;> simp [World.cell?, World.frozen?, h1]
theorem RdS.addS (h : RdS w W g q B r b z ns ss vn vs) {ss' : List Int} {vs' : Value} (hg : W.grownBy V vs.ownBlock) (ho : OwnS V B vs' ss') (hl : vs'.ownBlock = vs.ownBlock ∨ vs'.ownBlock = some W.heap.size) : RdS w (V.setCell ⟨q, 2, none⟩ vs') g q B r b z ns ss' vn vs' := by
  have e1 := h.gl
  have e2 := h.ql
  have e3 := h.gB
  have e4 := h.qB
  have e5 := h.gq
  have off : ∀ k, k < B → some k ≠ vs.ownBlock := fun k hk e => by have := own_lt h.s e.symm; omega
  refine ⟨(Below.heap_setCell _ _ _ _ (by simp only; omega)).trans ((hg.block _ h.lt.2.2 (off _ (by omega))).trans h.x0), ?_, (h.n.grown hg (fun k e e2 => h.ne k e e2.symm)).other (fun e => by have := own_lt h.n e; simp only at this; omega) _, ho.other (fun e => by have := own_lt ho e; simp only at this; omega) _, ?_, ?_, e1, e2, e5, e3, e4, ?_⟩
  · rw [cur_set _ ((hg.block _ h.lt.1 (off _ e4)).trans h.x)]
    simp
  · intro k e e6
    rcases hl with e7 | e7
    · rw [e7] at e6
      exact h.ne k e e6
    · rw [e7] at e6
      have := own_lt h.n e
      simp only [Option.some.injEq] at e6
      omega
  · exact (Below.heap_setCell _ _ _ _ (by simp only; omega)).trans ((hg.block _ h.lt.2.1 (off _ e3)).trans h.c)
  · exact (h.b.grown hg (by have := h.b.size; omega) (fun k hk => by have := own_lt h.s hk; omega)).setCell (by simp only; omega) _
theorem RdS.addN (h : RdS w W g q B r b z ns ss vn vs) {ns' : List Nd} {vn' : Value} (hg : W.grownBy V vn.ownBlock) (ho : OwnS V B vn' ns') (hl : vn'.ownBlock = vn.ownBlock ∨ vn'.ownBlock = some W.heap.size) : RdS w (V.setCell ⟨q, 1, none⟩ vn') g q B r b z ns' ss vn' vs := by
  have e1 := h.gl
  have e2 := h.ql
  have e3 := h.gB
  have e4 := h.qB
  have e5 := h.gq
  have off : ∀ k, k < B → some k ≠ vn.ownBlock := fun k hk e => by have := own_lt h.n e.symm; omega
  refine ⟨(Below.heap_setCell _ _ _ _ (by simp only; omega)).trans ((hg.block _ h.lt.2.2 (off _ (by omega))).trans h.x0), ?_, ho.other (fun e => by have := own_lt ho e; simp only at this; omega) _, (h.s.grown hg (fun k e e2 => h.ne k e2.symm e)).other (fun e => by have := own_lt h.s e; simp only at this; omega) _, ?_, ?_, e1, e2, e5, e3, e4, ?_⟩
  · rw [cur_set _ ((hg.block _ h.lt.1 (off _ e4)).trans h.x)]
    simp
  · intro k e e6
    rcases hl with e7 | e7
    · rw [e7] at e
      exact h.ne k e e6
    · rw [e7] at e
      have := own_lt h.s e6
      simp only [Option.some.injEq] at e
      omega
  · exact (Below.heap_setCell _ _ _ _ (by simp only; omega)).trans ((hg.block _ h.lt.2.1 (off _ e3)).trans h.c)
  · exact (h.b.grown hg (by have := h.b.size; omega) (fun k hk => by have := own_lt h.n hk; omega)).setCell (by simp only; omega) _
end
end Go.Proofs.YtmifdieofccjaaaDoor
