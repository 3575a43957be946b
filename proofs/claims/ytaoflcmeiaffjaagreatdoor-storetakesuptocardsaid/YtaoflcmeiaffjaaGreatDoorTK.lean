/-
  A tree under change: how a growth lies in memory, which blocks a step may touch; what tell and parentChanges do: the walks.
  What slices.Clone of numbers and tree.begun do: the walks.
  Copies of a tree (aviarykeep.own, aviaryref.CopyTree), tree.New and tree.Get: the walks.
-/
import Derived.Test.YtaoflcmeiaffjaaGreatDoorTJ
import Derived.Deep.RegionHeld3
import Derived.Deep.CutRange
namespace Go.Proofs.YtaoflcmeiaffjaaGreatDoor
open Go.RowKit

/-- block b is a growth -/
structure Grow (W : World) (F : Nat → Prop) (b : Nat) (z : Int) (vn vs ve : Value) (ns : List Nd) (ss : List Int) (es : List Ev) : Prop where
  blk : W.heap[b]? = some (.cells #[.int .i64 z, vn, vs, ve] 139 (0, 0))
  fb : F b
  n : OwnS W 0 vn ns
  s : OwnS W 0 vs ss
  e : OwnS W 0 ve es
  fn : ∀ k, vn.ownBlock = some k → F k ∧ k ≠ b
  fs : ∀ k, vs.ownBlock = some k → F k ∧ k ≠ b
  fe : ∀ k, ve.ownBlock = some k → F k ∧ k ≠ b
  an : ∀ k, vn.ownBlock = some k → vs.ownBlock ≠ some k ∧ ve.ownBlock ≠ some k
  asn : ∀ k, vs.ownBlock = some k → ve.ownBlock ≠ some k
theorem Grow.lt {W : World} {F : Nat → Prop} {b : Nat} {z : Int} {vn vs ve : Value} {ns : List Nd} {ss : List Int} {es : List Ev} (h : Grow W F b z vn vs ve ns ss es) : b < W.heap.size := (Array.getElem?_eq_some_iff.1 h.blk).1
theorem Grow.next {W V : World} {F : Nat → Prop} {b : Nat} {z : Int} {vn vs ve : Value} {ns : List Nd} {ss : List Int} {es : List Ev} (h : Grow W F b z vn vs ve ns ss es) (hb : Below W.heap.size W V) : Grow V F b z vn vs ve ns ss es :=
  ⟨(hb.block _ h.lt).trans h.blk, h.fb, h.n.next hb, h.s.next hb, h.e.next hb, h.fn, h.fs, h.fe, h.an, h.asn⟩
theorem Grow.drew {W : World} {F : Nat → Prop} {b : Nat} {z : Int} {vn vs ve : Value} {ns : List Nd} {ss : List Int} {es : List Ev} (h : Grow W F b z vn vs ve ns ss es) : Grow W.drew F b z vn vs ve ns ss es := h.next (Below.refl _ _).drew
theorem Grow.cut {W : World} {F G : Nat → Prop} {b : Nat} {z : Int} {vn vs ve : Value} {ns : List Nd} {ss : List Int} {es : List Ev} (h : Grow W F b z vn vs ve ns ss es) (hg : ∀ k, k < W.heap.size → F k → G k) : Grow W G b z vn vs ve ns ss es :=
  ⟨h.blk, hg b h.lt h.fb, h.n, h.s, h.e, fun k hk => ⟨hg k (h.n.low k hk) (h.fn k hk).1, (h.fn k hk).2⟩, fun k hk => ⟨hg k (h.s.low k hk) (h.fs k hk).1, (h.fs k hk).2⟩, fun k hk => ⟨hg k (h.e.low k hk) (h.fe k hk).1, (h.fe k hk).2⟩, h.an, h.asn⟩
theorem Grow.c0 {W : World} {F : Nat → Prop} {b : Nat} {z : Int} {vn vs ve : Value} {ns : List Nd} {ss : List Int} {es : List Ev} (h : Grow W F b z vn vs ve ns ss es) : W.cell? ⟨b, 0, none⟩ = some (.int .i64 z) := by simp [World.cell?, h.blk]
theorem Grow.c1 {W : World} {F : Nat → Prop} {b : Nat} {z : Int} {vn vs ve : Value} {ns : List Nd} {ss : List Int} {es : List Ev} (h : Grow W F b z vn vs ve ns ss es) : W.cell? ⟨b, 1, none⟩ = some vn := by simp [World.cell?, h.blk]
theorem Grow.c2 {W : World} {F : Nat → Prop} {b : Nat} {z : Int} {vn vs ve : Value} {ns : List Nd} {ss : List Int} {es : List Ev} (h : Grow W F b z vn vs ve ns ss es) : W.cell? ⟨b, 2, none⟩ = some vs := by simp [World.cell?, h.blk]
theorem Grow.c3 {W : World} {F : Nat → Prop} {b : Nat} {z : Int} {vn vs ve : Value} {ns : List Nd} {ss : List Int} {es : List Ev} (h : Grow W F b z vn vs ve ns ss es) : W.cell? ⟨b, 3, none⟩ = some ve := by simp [World.cell?, h.blk]
theorem Grow.fz {W : World} {F : Nat → Prop} {b : Nat} {z : Int} {vn vs ve : Value} {ns : List Nd} {ss : List Int} {es : List Ev} (h : Grow W F b z vn vs ve ns ss es) (j : Nat) : W.frozen? ⟨b, j, none⟩ = false := by simp [World.frozen?, h.blk]
/-- new events -/
theorem Grow.ev {W V : World} {F : Nat → Prop} {b : Nat} {z : Int} {vn vs ve ve' : Value} {ns : List Nd} {ss : List Int} {es es' : List Ev} (h : Grow W F b z vn vs ve ns ss es) (hF : ∀ k, W.heap.size ≤ k → F k) (hg : W.grownBy V ve.ownBlock) (he : OwnS V 0 ve' es') (hl : ve'.ownBlock = ve.ownBlock ∨ ve'.ownBlock = some W.heap.size) :
    Grow (V.setCell ⟨b, 3, none⟩ ve') F b z vn vs ve' ns ss es' := by
  have hbe : some b ≠ ve.ownBlock := fun e => (h.fe b e.symm).2 rfl
  have hb := h.lt
  have hne : ∀ k, ve'.ownBlock = some k → F k ∧ k ≠ b ∧ vn.ownBlock ≠ some k ∧ vs.ownBlock ≠ some k := by
    intro k hk
    rcases hl with e | e
    · rw [e] at hk
      exact ⟨(h.fe k hk).1, (h.fe k hk).2, fun hn => (h.an k hn).2 hk, fun hs => h.asn k hs hk⟩
    · rw [e] at hk
      cases hk
      exact ⟨hF _ (Nat.le_refl _), by omega, fun hn => by have := h.n.low _ hn; omega, fun hs => by have := h.s.low _ hs; omega⟩
  refine ⟨?_, h.fb, ?_, ?_, ?_, h.fn, h.fs, fun k hk => ⟨(hne k hk).1, (hne k hk).2.1⟩, fun k hk => ⟨(h.an k hk).1, fun e => (hne k e).2.2.1 hk⟩, fun k hk e => (hne k e).2.2.2 hk⟩
  · rw [block_set ve' ((hg.block b hb hbe).trans h.blk)]
    rfl
  · exact (h.n.grown hg (fun k hk e => (h.an k hk).2 e.symm)).other (fun e => (h.fn b e).2 rfl) _
  · exact (h.s.grown hg (fun k hk e => h.asn k hk e.symm)).other (fun e => (h.fs b e).2 rfl) _
  · exact he.other (fun e => (hne b e).2.1 rfl) _
/-- new nodes -/
theorem Grow.nd {W V : World} {F : Nat → Prop} {b : Nat} {z : Int} {vn vs ve vn' : Value} {ns ns' : List Nd} {ss : List Int} {es : List Ev} (h : Grow W F b z vn vs ve ns ss es) (hF : ∀ k, W.heap.size ≤ k → F k) (hg : W.grownBy V vn.ownBlock) (hn' : OwnS V 0 vn' ns') (hl : vn'.ownBlock = vn.ownBlock ∨ ∃ k, W.heap.size ≤ k ∧ vn'.ownBlock = some k) :
    Grow (V.setCell ⟨b, 1, none⟩ vn') F b z vn' vs ve ns' ss es := by
  have hbn : some b ≠ vn.ownBlock := fun e => (h.fn b e.symm).2 rfl
  have hb := h.lt
  have hne : ∀ k, vn'.ownBlock = some k → F k ∧ k ≠ b ∧ vs.ownBlock ≠ some k ∧ ve.ownBlock ≠ some k := by
    intro k hk
    rcases hl with e | ⟨j, hj, e⟩
    · rw [e] at hk
      exact ⟨(h.fn k hk).1, (h.fn k hk).2, (h.an k hk).1, (h.an k hk).2⟩
    · rw [e] at hk
      cases hk
      exact ⟨hF _ hj, by omega, fun hs => by have := h.s.low _ hs; omega, fun hs => by have := h.e.low _ hs; omega⟩
  refine ⟨?_, h.fb, ?_, ?_, ?_, fun k hk => ⟨(hne k hk).1, (hne k hk).2.1⟩, h.fs, h.fe, fun k hk => (hne k hk).2.2, h.asn⟩
  · rw [block_set vn' ((hg.block b hb hbn).trans h.blk)]
    rfl
  · exact hn'.other (fun e => (hne b e).2.1 rfl) _
  · exact (h.s.grown hg (fun k hk e => (h.an k e.symm).1 hk)).other (fun e => (h.fs b e).2 rfl) _
  · exact (h.e.grown hg (fun k hk e => (h.an k e.symm).2 hk)).other (fun e => (h.fe b e).2 rfl) _
/-- new sessions -/
theorem Grow.se {W V : World} {F : Nat → Prop} {b : Nat} {z : Int} {vn vs ve vs' : Value} {ns : List Nd} {ss ss' : List Int} {es : List Ev} (h : Grow W F b z vn vs ve ns ss es) (hF : ∀ k, W.heap.size ≤ k → F k) (hg : W.grownBy V vs.ownBlock) (hn' : OwnS V 0 vs' ss') (hl : vs'.ownBlock = vs.ownBlock ∨ ∃ k, W.heap.size ≤ k ∧ vs'.ownBlock = some k) :
    Grow (V.setCell ⟨b, 2, none⟩ vs') F b z vn vs' ve ns ss' es := by
  have hbn : some b ≠ vs.ownBlock := fun e => (h.fs b e.symm).2 rfl
  have hb := h.lt
  have hne : ∀ k, vs'.ownBlock = some k → F k ∧ k ≠ b ∧ vn.ownBlock ≠ some k ∧ ve.ownBlock ≠ some k := by
    intro k hk
    rcases hl with e | ⟨j, hj, e⟩
    · rw [e] at hk
      exact ⟨(h.fs k hk).1, (h.fs k hk).2, fun hn => (h.an k hn).1 hk, h.asn k hk⟩
    · rw [e] at hk
      cases hk
      exact ⟨hF _ hj, by omega, fun hs => by have := h.n.low _ hs; omega, fun hs => by have := h.e.low _ hs; omega⟩
  refine ⟨?_, h.fb, ?_, ?_, ?_, h.fn, fun k hk => ⟨(hne k hk).1, (hne k hk).2.1⟩, h.fe, fun k hk => ⟨fun e => (hne k e).2.2.1 hk, (h.an k hk).2⟩, fun k hk => (hne k hk).2.2.2⟩
  · rw [block_set vs' ((hg.block b hb hbn).trans h.blk)]
    rfl
  · exact (h.n.grown hg (fun k hk e => (h.an k hk).1 e.symm)).other (fun e => (h.fn b e).2 rfl) _
  · exact hn'.other (fun e => (hne b e).2.1 rfl) _
  · exact (h.e.grown hg (fun k hk e => h.asn k e.symm hk)).other (fun e => (h.fe b e).2 rfl) _
/-- a cell of a node -/
theorem Grow.put {W : World} {F : Nat → Prop} {b : Nat} {z : Int} {g cap : Nat} {vs ve : Value} {A B : List Nd} {n m : Nd} {ss : List Int} {es : List Ev} {l : Nat} (h : Grow W F b z (.slice (some ⟨g, 0, none⟩) l cap) vs ve (A ++ n :: B) ss es) {c : Nat} (hc : c < 9) {v : Value} (hm : ncells m = (ncells n).set c v) :
    Grow (W.setCell ⟨g, A.length * 9 + c, none⟩ v) F b z (.slice (some ⟨g, 0, none⟩) l cap) vs ve (A ++ m :: B) ss es := by
  have hgb := (h.fn g rfl).2
  refine ⟨(Below.heap_setCell W ⟨g, _, none⟩ v b (fun e => hgb e.symm)).trans h.blk, h.fb, ?_, ?_, ?_, h.fn, h.fs, h.fe, h.an, h.asn⟩
  · rcases h.n with ⟨h1, _⟩ | ⟨g', cap', h1, h2, h3⟩
    · cases h1
    · simp only [Value.slice.injEq, Option.some.injEq, Addr.mk.injEq, and_true] at h1
      obtain ⟨rfl, rfl, rfl⟩ := h1
      refine .inr ⟨g, cap, by simp, h2, ?_⟩
      exact h3.set (c := c) (by exact hc) hm
  · exact h.s.other (fun e => (h.an g rfl).1 e) _
  · exact h.e.other (fun e => (h.an g rfl).2 e) _
theorem Grow.nrow {W : World} {F : Nat → Prop} {b : Nat} {z : Int} {vn vs ve : Value} {ns : List Nd} {ss : List Int} {es : List Ev} (h : Grow W F b z vn vs ve ns ss es) (h0 : ns ≠ []) : ∃ g cap, vn = .slice (some ⟨g, 0, none⟩) ns.length cap ∧ OwnR W g cap ns ∧ g ≠ b ∧ F g := by
  rcases h.n with ⟨_, h1⟩ | ⟨g, cap, rfl, _, h3⟩
  · exact absurd h1 h0
  · exact ⟨g, cap, rfl, h3, (h.fn g rfl).2, (h.fn g rfl).1⟩

/- tell -/
theorem step_app_ev {w : World} {ops : Array Oper} {o : Oper} {a : Act} {K : Act → World → Prop} {Q : Exit → Act → World → Prop} {E : Prop} (hgd : Region.wanted o (yielded ops a.tmps) = true) (s x : Operand)
    (ho : o.op = .call { callee := .builtin .append, args := #[s, x], argTypes := #[79, 79] })
    (v : Value) (es : List Ev) (hs : a.eval s = v) (hown : OwnS w 0 v es)
    (q : Nat) (hx : a.eval x = .slice (some ⟨q, 0, none⟩) 1 1) (t : Ev) (hnews : OneR w q t) (hl : es.length ≤ 100000)
    (h : ∀ a' c' w', OwnS w' 0 (.slice a' (es.length + 1) c') (es ++ [t]) → w.grownBy w' v.ownBlock → ((Value.slice a' (es.length + 1) c').ownBlock = v.ownBlock ∨ (Value.slice a' (es.length + 1) c').ownBlock = some w.heap.size) → K (a.put o.dst (.slice a' (es.length + 1) c')) w') :
    if Region.wanted o (yielded ops a.tmps) = true then Oper.wp Tryz.prog o a w K Q else E := by
  rw [if_pos hgd]
  obtain ⟨i0, hi0, hz0, hz1, hz2⟩ := einfo
  obtain ⟨v', w', hr, h2, h3, _, h5⟩ := run_append_own_at (P := Tryz.prog) w 0 79 o.type 87 i0 _ 2 24 Tryz.underlying79 hi0 hz0 hz1 hz2 rfl (by decide) v es.length (cellsL es) hown.row ⟨q, 0, none⟩ 1 1 (ecells t) rfl (one_news hnews) (Lay.one t) (by simp only [maxLen]; omega) (by omega) (Nat.zero_le _)
  have h2' : OwnS w' 0 v' (es ++ [t]) := OwnS.of_row (by rw [List.length_append, cellsL_snoc]; exact h2)
  obtain ⟨a', c', rfl, _⟩ := h2'.slice
  have hlen : (es ++ [t]).length = es.length + 1 := by simp
  rw [hlen] at h2' hr h5
  unfold Oper.wp execOp
  simp only [ho, resolve, invoke, builtin, Sem.run_bind, Sem.run_pure, Result.andThen_ok, List.map_toArray, List.map_cons, List.map_nil, hs, hx, hr]
  exact h a' c' w' h2' h3 h5

set_option maxRecDepth 20000 in
set_option maxHeartbeats 2000000 in
theorem tell_any (F : Nat → Prop) (b : Nat) (z : Int) (vn vs ve : Value) (ns : List Nd) (ss : List Int) (es : List Ev) (kind : Int) (p : List UInt8) (w : World)
    (h : Grow w F b z vn vs ve ns ss es) (hF : ∀ k, w.heap.size ≤ k → F k) (hp : p.length ≤ 140737488355328) (hl : es.length ≤ 100000) :
    Calls Tryz.prog 189 #[.pointer (some ⟨b, 0, none⟩), .int .i64 kind, .string ⟨p.toArray⟩] w fun e w' =>
      e = .returned (.tuple #[]) ∧ ∃ ve', Grow w' F b z vn vs ve' ns ss (es ++ [⟨kind, p⟩]) ∧ Touch F w w' := by
  have C := fun W => nclone_any p W (by omega)
  have c3 := h.c3
  have f3 := h.fz 3
  have HG := hide h
  have HF := hide hF
  obtain ⟨ea, ec, rfl, _⟩ := h.e.slice
  have K1 := hide (fun w1 (hb1 : Below w.heap.size w w1) => (⟨(h.next hb1).c3, (h.next hb1).fz 3, (h.next hb1).lt, ((h.next hb1).next (allocB _ _)).c3⟩ : w1.cell? ⟨b, 3, none⟩ = some (.slice ea es.length ec) ∧ w1.frozen? ⟨b, 3, none⟩ = false ∧ b < w1.heap.size ∧ (w1.alloc (.cells #[.int .i64 kind, .string ⟨p.toArray⟩] 87)).cell? ⟨b, 3, none⟩ = some (.slice ea es.length ec)))
  have KE := hide (fun w1 (hb1 : Below w.heap.size w w1) => (h.next hb1).e.next (allocB w1 (.cells #[.int .i64 kind, .string ⟨p.toArray⟩] 87)))
  have K2 : ∀ (w1 w2 : World) (a2 : Option Addr) (c2 : Nat), Below w.heap.size w w1 → OwnS w2 0 (.slice a2 (es.length + 1) c2) (es ++ [⟨kind, p⟩]) → (w1.alloc (.cells #[.int .i64 kind, .string ⟨p.toArray⟩] 87)).grownBy w2 (Value.slice ea es.length ec).ownBlock →
      ((Value.slice a2 (es.length + 1) c2).ownBlock = (Value.slice ea es.length ec).ownBlock ∨ (Value.slice a2 (es.length + 1) c2).ownBlock = some (w1.alloc (.cells #[.int .i64 kind, .string ⟨p.toArray⟩] 87)).heap.size) →
      w2.cell? ⟨b, 3, none⟩ = some (.slice ea es.length ec) ∧ w2.frozen? ⟨b, 3, none⟩ = false ∧ Grow (w2.setCell ⟨b, 3, none⟩ (.slice a2 (es.length + 1) c2)) F b z vn vs (.slice a2 (es.length + 1) c2) ns ss (es ++ [⟨kind, p⟩]) ∧ Touch F w (w2.setCell ⟨b, 3, none⟩ (.slice a2 (es.length + 1) c2)) := by
    intro w1 w2 a2 c2 hb1 ho2 hg2 hl2
    have g1 := (h.next hb1).next (allocB w1 (.cells #[.int .i64 kind, .string ⟨p.toArray⟩] 87))
    have n3 : ¬ (Value.slice ea es.length ec).ownBlock = some b := fun e => (h.fe b e).2 rfl
    refine ⟨hg2.cell g1.c3 (fun e => n3 e.symm), (World.frozen?_of_block (hg2.block b g1.lt (fun e => n3 e.symm))).trans (g1.fz 3), g1.ev (fun k hk => hF k (by have := hb1.size; simp at hk; omega)) hg2 ho2 hl2, ?_⟩
    exact (((Touch.of_below hb1).trans (Touch.of_below (allocB _ _))).trans (Touch.of_grown hg2 (fun k e => (h.fe k e).1))).trans (Touch.set h.fb _)
  have HK2 := hide K2
  clear h hF hp K2
  go_enter Tryz.func189, Tryz.ntmps189
  go_wp2_with fail
  go_region_law (first
    | (refine step_app_ev (by kernel_rfl) _ _ (by rfl) (.slice ea es.length ec) es (by rfl) (unhide KE w1 (unhide HB1)) w1.heap.size (by rfl) ⟨kind, p⟩ (one_new w1 kind p) hl ?_; intro a2 c2 w2 ho2 hg2 hl2; obtain ⟨m3, l3, g2, t2⟩ := unhide HK2 w1 w2 a2 c2 (unhide HB1) ho2 hg2 hl2; have HG2 := hide g2; have HT2 := hide t2; clear ho2 hg2 hl2 g2 t2)
    | (go_simp; refine (C _).mono ?_; rintro e w1 ⟨rfl, hb1⟩; have HB1 : Hid (Below w.heap.size w w1) := (by first | exact hb1 | exact nbelow_drew hb1); obtain ⟨d3, k3, hbn, d3a⟩ := unhide K1 w1 (unhide HB1); clear hb1))
  all_goals go_wp2_with fail
  all_goals go_end0
  all_goals exact ⟨rfl, _, unhide HG2, unhide HT2⟩
end Go.Proofs.YtaoflcmeiaffjaaGreatDoor

namespace Go.Proofs.YtaoflcmeiaffjaaGreatDoor
open Go.RowKit
set_option maxRecDepth 10000 in

set_option maxHeartbeats 2000000 in
theorem iclone_some (a : Addr) (cap : Nat) (ss : List Int) (w : World) (hl : ss.length ≤ 2147483647) (hc : ∀ j u, (cellsL ss)[j]? = some u → w.cell? (a.add j) = some u) :
    Calls Tryz.prog 104 #[.slice (some a) ss.length cap] w fun e w' => ∃ v', e = .returned v' ∧ OwnS w' w.heap.size v' ss ∧ Below w.heap.size w w' := by
  have q22 : ∀ (w : World) (a : Option Addr) (n c n' c' : Nat), (binOp .eql 29 (.slice a n c) (.slice none n' c')).run Tryz.prog w = .ok (.bool a.isNone) w := fun w a n c n' c' => Lib.run_eql_slice_nil w _ _ a n c n' c' Tryz.underlying29
  have H : Hid (∀ j u, (cellsL ss)[j]? = some u → w.cell? (a.add j) = some u) := hc
  clear hc
  obtain ⟨i0, hi0, hz0, hz1, hz2⟩ := iinfo
  go_enter Tryz.func104, Tryz.ntmps104
  go_wp2_with (at_builtin; refine wpList_append_own _ rfl _ _ 29 rfl w.heap.size 3 i0 _ 1 8 Tryz.underlying29 hi0 hz0 hz1 hz2 rfl (by decide) _ _ _ rfl (World.ownsRow_made w #[] 0 (Nat.le_refl _) (Nat.zero_le _) (by simp)) a ss.length cap (cellsL ss) rfl ?qc1 ?qc2 ?qc3 ?qc4 ?qc5 ?qc6 ?_)
  case qc1 => exact (cellsI_length ss).trans (Nat.mul_one _).symm
  case qc2 =>
    intro j u hj
    exact Lib.cell?_alloc_some _ (H.out j u hj)
  case qc3 => exact cellsL_one ss
  case qc4 => simp only [maxLen]; omega
  case qc5 => omega
  case qc6 => simp
  intro v' w1 hown hgrow hnil
  go_wp2
  go_ret
  refine ⟨v', rfl, OwnS.of_row hown, ?_⟩
  exact ((Below.refl _ w).alloc (Nat.le_refl _) _).grown hgrow (by simp) (by intro k hk; simp [Value.ownBlock] at hk; omega)
set_option maxRecDepth 10000 in
set_option maxHeartbeats 400000 in
theorem iclone_nil (n c : Nat) (w : World) :
    Calls Tryz.prog 104 #[.slice none n c] w fun e w' => e = .returned (.slice none 0 0) ∧ w' = w := by
  have q22 : ∀ (w : World) (a : Option Addr) (n c n' c' : Nat), (binOp .eql 29 (.slice a n c) (.slice none n' c')).run Tryz.prog w = .ok (.bool a.isNone) w := fun w a n c n' c' => Lib.run_eql_slice_nil w _ _ a n c n' c' Tryz.underlying29
  go_enter Tryz.func104, Tryz.ntmps104
  go_wp2
  go_ret
  exact ⟨rfl, rfl⟩
theorem iclone_any (v : Value) (ss : List Int) (w : World) (hv : SeqV w v ss) (hl : ss.length ≤ 2147483647) :
    Calls Tryz.prog 104 #[v] w fun e w' => ∃ v', e = .returned v' ∧ OwnS w' w.heap.size v' ss ∧ Below w.heap.size w w' := by
  rcases hv with ⟨a, cap, rfl, rfl, _⟩ | ⟨b, off, cap, rfl, _, _, hb, _, hr⟩
  · cases a with
    | none => exact (iclone_nil 0 cap w).mono fun e w' ⟨he, hw⟩ => ⟨_, he, .inl ⟨rfl, rfl⟩, by rw [hw]; exact Below.refl _ _⟩
    | some a => exact iclone_some a cap [] w (by simp) (fun j u h => by simp [cellsL_nil] at h)
  · exact iclone_some ⟨b, off, none⟩ cap ss w hl (fun j u h => by rw [Addr.add_lit]; exact hr j u h)

theorem step_app_nd {w : World} {ops : Array Oper} {o : Oper} {a : Act} {K : Act → World → Prop} {Q : Exit → Act → World → Prop} {E : Prop} (hgd : Region.wanted o (yielded ops a.tmps) = true) (s x : Operand)
    (ho : o.op = .call { callee := .builtin .append, args := #[s, x], argTypes := #[28, 28] })
    (v : Value) (ns : List Nd) (hs : a.eval s = v) (hown : OwnS w 0 v ns)
    (q : Nat) (hx : a.eval x = .slice (some ⟨q, 0, none⟩) 1 1) (t : Nd) (hnews : OneR w q t) (hl : ns.length ≤ 100000)
    (h : ∀ a' c' w', OwnS w' 0 (.slice a' (ns.length + 1) c') (ns ++ [t]) → w.grownBy w' v.ownBlock → ((Value.slice a' (ns.length + 1) c').ownBlock = v.ownBlock ∨ (Value.slice a' (ns.length + 1) c').ownBlock = some w.heap.size) → K (a.put o.dst (.slice a' (ns.length + 1) c')) w') :
    if Region.wanted o (yielded ops a.tmps) = true then Oper.wp Tryz.prog o a w K Q else E := by
  rw [if_pos hgd]
  obtain ⟨i0, hi0, hz0, hz1, hz2⟩ := ninfo
  obtain ⟨v', w', hr, h2, h3, _, h5⟩ := run_append_own_at (P := Tryz.prog) w 0 28 o.type 97 i0 _ 9 88 Tryz.underlying28 hi0 hz0 hz1 hz2 rfl (by decide) v ns.length (cellsL ns) hown.row ⟨q, 0, none⟩ 1 1 (ncells t) rfl (one_news hnews) (Lay.one t) (by simp only [maxLen]; omega) (by omega) (Nat.zero_le _)
  have h2' : OwnS w' 0 v' (ns ++ [t]) := OwnS.of_row (by rw [List.length_append, cellsL_snoc]; exact h2)
  obtain ⟨a', c', rfl, _⟩ := h2'.slice
  have hlen : (ns ++ [t]).length = ns.length + 1 := by simp
  rw [hlen] at h2' hr h5
  unfold Oper.wp execOp
  simp only [ho, resolve, invoke, builtin, Sem.run_bind, Sem.run_pure, Result.andThen_ok, List.map_toArray, List.map_cons, List.map_nil, hs, hx, hr]
  exact h a' c' w' h2' h3 h5
theorem one_newN (w : World) (n : Nd) : OneR (w.alloc (.cells #[.string ⟨n.p.toArray⟩, .string ⟨n.d.toArray⟩, .int .i64 n.c, .int .i64 n.m, .int .i64 n.q, .int .i64 n.v, .int .i64 n.k, .int .i64 n.o, .int .i64 n.n] 97)) w.heap.size n := heap_alloc_new w _

set_option maxRecDepth 20000 in
set_option maxHeartbeats 4000000 in
theorem begun_any (t : Tr) (vn vs : Value) (z : Int) (w : World) (hn : SeqV w vn t.ns) (hs : SeqV w vs t.ss) (hl : t.ns.length ≤ 400) (hls : t.ss.length ≤ 2147483647) (hslim : ∀ n ∈ t.ns, n.p.length ≤ 140737488355328 ∧ n.d.length ≤ 140737488355328) :
    Calls Tryz.prog 109 #[.agg #[.int .i64 t.z, vn, vs], .int .i64 z] w fun e w' =>
      ∃ b vn' vs', e = .returned (.pointer (some ⟨b, 0, none⟩)) ∧ Grow w' (fun k => w.heap.size ≤ k) b z vn' vs' (.slice none 0 0) t.ns t.ss [] ∧ Below w.heap.size w w' := by
  have CC := hide (fun n (hn : n ∈ t.ns) W => tcopied_any n W (hslim n hn).1 (hslim n hn).2)
  have CI := hide (fun W (hW : Below w.heap.size w W) => iclone_any vs t.ss W (hs.next hW) hls)
  have KR : ∀ W, Below w.heap.size w W → ∀ k x, t.ns[k]? = some x → ∃ b off cap, vn = .slice (some ⟨b, off, none⟩) t.ns.length cap ∧ b < w.heap.size ∧ RowAt W b off (cellsL t.ns) := fun W hW k x hx => by
    obtain ⟨b, off, cap, e, hb, hr, _, _⟩ := seq_row hn (fun h0 => by obtain ⟨h1, _⟩ := List.getElem?_eq_some_iff.1 hx; rw [h0] at h1; simp at h1)
    exact ⟨b, off, cap, e, hb, hr.kept hW hb⟩
  have HKR := hide KR
  obtain ⟨na, nc, rfl⟩ := seq_slice hn
  obtain ⟨sa, sc, rfl⟩ := seq_slice hs
  clear hn hs hslim KR
  unfold nodeV at CC
  have S0 : ∀ W, W = (w.alloc (.cells #[.int .i64 t.z, .slice na t.ns.length nc, .slice sa t.ss.length sc] 31)).alloc (.cells #[.int .i64 z, .slice none 0 0, .slice none 0 0, .slice none 0 0] 139) →
      Grow W (fun k => w.heap.size + 1 ≤ k) (w.heap.size + 1) z (.slice none 0 0) (.slice none 0 0) (.slice none 0 0) [] [] [] ∧ Touch (fun k => w.heap.size + 1 ≤ k) (w.alloc (.cells #[.int .i64 t.z, .slice na t.ns.length nc, .slice sa t.ss.length sc] 31)) W := by
    rintro W rfl
    refine ⟨⟨?_, Nat.le_refl _, .inl ⟨rfl, rfl⟩, .inl ⟨rfl, rfl⟩, .inl ⟨rfl, rfl⟩, (by intro k hk; cases hk), (by intro k hk; cases hk), (by intro k hk; cases hk), (by intro k hk; cases hk), (by intro k hk; cases hk)⟩, ?_⟩
    · have := heap_alloc_new (w.alloc (.cells #[.int .i64 t.z, .slice na t.ns.length nc, .slice sa t.ss.length sc] 31)) (.cells #[.int .i64 z, .slice none 0 0, .slice none 0 0, .slice none 0 0] 139)
      rw [show (w.alloc (.cells #[.int .i64 t.z, .slice na t.ns.length nc, .slice sa t.ss.length sc] 31)).heap.size = w.heap.size + 1 by simp] at this
      exact this
    · exact Touch.of_below (allocB _ _)
  have HS0 := hide S0
  have BX : ∀ W, Touch (fun k => w.heap.size + 1 ≤ k) (w.alloc (.cells #[.int .i64 t.z, .slice na t.ns.length nc, .slice sa t.ss.length sc] 31)) W → Below w.heap.size w W ∧ W.cell? ⟨w.heap.size, 2, none⟩ = some (.slice sa t.ss.length sc) ∧ w.heap.size + 1 ≤ W.heap.size := by
    intro W h
    have hb : W.heap[w.heap.size]? = _ := (h.block w.heap.size (by simp) (by omega)).trans (heap_alloc_new w _)
    refine ⟨(allocB w _).trans (h.below (by simp) (fun k hk => by omega)), by simp [World.cell?, hb], by have := h.size; simpa using this⟩
  have HBX := hide BX
  clear S0 BX
  go_enter Tryz.func109, Tryz.ntmps109
  go_wp2_with fail
  go_loopg [18] t.ns.length (fun kx s18 wr => ∃ (k : Nat) (vn' : Value), s18 = .int .i64 k ∧ k ≤ t.ns.length ∧ t.ns.length - k ≤ kx ∧ Hid (Grow wr (fun k => w.heap.size + 1 ≤ k) (w.heap.size + 1) z vn' (.slice none 0 0) (.slice none 0 0) (t.ns.take k) [] []) ∧ Hid (Touch (fun k => w.heap.size + 1 ≤ k) (w.alloc (.cells #[.int .i64 t.z, .slice na t.ns.length nc, .slice sa t.ss.length sc] 31)) wr))
  case atStart =>
    obtain ⟨g0, t0⟩ := unhide HS0 _ rfl
    exact ⟨0, _, rfl, Nat.zero_le _, Nat.le_refl _, hide g0, hide t0⟩
  case round =>
    obtain ⟨k, vn', rfl, hk, hg, hG, hT⟩ := hrel
    obtain ⟨hBw, hc2, hsz⟩ := unhide HBX wr (unhide hT)
    have HBw := hide hBw
    by_cases hlt : k < t.ns.length
    · obtain ⟨x, hx⟩ : ∃ x, t.ns[k]? = some x := ⟨_, List.getElem?_eq_getElem hlt⟩
      obtain ⟨b, off, cap, he, hb, q⟩ := unhide HKR wr hBw k x hx
      simp only [Value.slice.injEq] at he
      obtain ⟨rfl, _, rfl⟩ := he
      have d0 := q.n0 hx
      have d1 := q.n1 hx
      have d2 := q.n2 hx
      have d3 := q.n3 hx
      have d4 := q.n4 hx
      have d5 := q.n5 hx
      have d6 := q.n6 hx
      have d7 := q.n7 hx
      have d8 := q.n8 hx
      have hbw : b < wr.heap.size := by omega
      have CX := fun W => unhide CC x (List.mem_of_getElem? hx) W
      have HT1 := hide (show t.ns.take (k + 1) = t.ns.take k ++ [x] by rw [List.take_add_one, hx]; rfl)
      have hlk : (t.ns.take k).length ≤ 400 := by simp; omega
      obtain ⟨P, hP⟩ : ∃ P, t.ns.take k = P := ⟨_, rfl⟩
      rw [hP] at hG hlk HT1
      clear q hx hP
      obtain ⟨va, vc, rfl, _⟩ := (unhide hG).n.slice
      have h := unhide hG
      have c1 := h.c1
      have f1 := h.fz 1
      have K1 := hide (fun w1 (hb1 : Below wr.heap.size wr w1) => (⟨(h.next hb1).c1, (h.next hb1).fz 1, (h.next hb1).lt, ((h.next hb1).next (allocB _ _)).c1⟩ : w1.cell? ⟨w.heap.size + 1, 1, none⟩ = some (.slice va P.length vc) ∧ w1.frozen? ⟨w.heap.size + 1, 1, none⟩ = false ∧ w.heap.size + 1 < w1.heap.size ∧ (w1.alloc (.cells #[.string ⟨x.p.toArray⟩, .string ⟨x.d.toArray⟩, .int .i64 x.c, .int .i64 x.m, .int .i64 x.q, .int .i64 x.v, .int .i64 x.k, .int .i64 x.o, .int .i64 x.n] 97)).cell? ⟨w.heap.size + 1, 1, none⟩ = some (.slice va P.length vc)))
      have KE := hide (fun w1 (hb1 : Below wr.heap.size wr w1) => (h.next hb1).n.next (allocB w1 (.cells #[.string ⟨x.p.toArray⟩, .string ⟨x.d.toArray⟩, .int .i64 x.c, .int .i64 x.m, .int .i64 x.q, .int .i64 x.v, .int .i64 x.k, .int .i64 x.o, .int .i64 x.n] 97)))
      have K2 : ∀ (w1 w2 : World) (a2 : Option Addr) (c2 : Nat), Below wr.heap.size wr w1 → OwnS w2 0 (.slice a2 (P.length + 1) c2) (P ++ [x]) → (w1.alloc (.cells #[.string ⟨x.p.toArray⟩, .string ⟨x.d.toArray⟩, .int .i64 x.c, .int .i64 x.m, .int .i64 x.q, .int .i64 x.v, .int .i64 x.k, .int .i64 x.o, .int .i64 x.n] 97)).grownBy w2 (Value.slice va P.length vc).ownBlock →
          ((Value.slice a2 (P.length + 1) c2).ownBlock = (Value.slice va P.length vc).ownBlock ∨ (Value.slice a2 (P.length + 1) c2).ownBlock = some (w1.alloc (.cells #[.string ⟨x.p.toArray⟩, .string ⟨x.d.toArray⟩, .int .i64 x.c, .int .i64 x.m, .int .i64 x.q, .int .i64 x.v, .int .i64 x.k, .int .i64 x.o, .int .i64 x.n] 97)).heap.size) →
          w2.cell? ⟨w.heap.size + 1, 1, none⟩ = some (.slice va P.length vc) ∧ w2.frozen? ⟨w.heap.size + 1, 1, none⟩ = false ∧ Grow (w2.setCell ⟨w.heap.size + 1, 1, none⟩ (.slice a2 (P.length + 1) c2)) (fun k => w.heap.size + 1 ≤ k) (w.heap.size + 1) z (.slice a2 (P.length + 1) c2) (.slice none 0 0) (.slice none 0 0) (P ++ [x]) [] [] ∧ Touch (fun k => w.heap.size + 1 ≤ k) wr (w2.setCell ⟨w.heap.size + 1, 1, none⟩ (.slice a2 (P.length + 1) c2)) := by
        intro w1 w2 a2 c2 hb1 ho2 hg2 hl2
        have g1 := (h.next hb1).next (allocB w1 (.cells #[.string ⟨x.p.toArray⟩, .string ⟨x.d.toArray⟩, .int .i64 x.c, .int .i64 x.m, .int .i64 x.q, .int .i64 x.v, .int .i64 x.k, .int .i64 x.o, .int .i64 x.n] 97))
        have n3 : ¬ (Value.slice va P.length vc).ownBlock = some (w.heap.size + 1) := fun e => (h.fn _ e).2 rfl
        refine ⟨hg2.cell g1.c1 (fun e => n3 e.symm), (World.frozen?_of_block (hg2.block _ g1.lt (fun e => n3 e.symm))).trans (g1.fz 1), g1.nd (fun k hk => by have := hb1.size; simp at hk; omega) hg2 ho2 ?_, ?_⟩
        · rcases hl2 with e | e
          · exact .inl e
          · exact .inr ⟨_, Nat.le_refl _, e⟩
        · exact (((Touch.of_below hb1).trans (Touch.of_below (allocB _ _))).trans (Touch.of_grown hg2 (fun k e => (h.fn k e).1))).trans (Touch.set h.fb _)
      have HK2 := hide K2
      have hbn : w.heap.size + 1 ≠ wr.heap.size := by have := h.lt; omega
      have hbl := h.lt
      clear h K2
      go_wp2_with fail
      go_region_law (first
        | (refine step_app_nd (by kernel_rfl) _ _ (by rfl) (.slice va P.length vc) P (by rfl) (unhide KE w1 (unhide HB1)) w1.heap.size (by rfl) x (one_newN w1 x) (by omega) ?_; intro a2 c2 w2 ho2 hg2 hl2; obtain ⟨m3, l3, g2, t2⟩ := unhide HK2 w1 w2 a2 c2 (unhide HB1) ho2 hg2 hl2; have HG2 := hide g2; have HT2 := hide ((unhide hT).trans t2); clear ho2 hg2 hl2 g2 t2)
        | (go_simp; refine (CX _).mono ?_; rintro e w1 ⟨rfl, hb1⟩; have HB1 : Hid (Below wr.heap.size wr w1) := (by first | exact nbox_then (nbelow_drew hb1) | exact nbox_then hb1); obtain ⟨e3, k3, hbn2, d3a⟩ := unhide K1 w1 (unhide HB1); clear hb1))
      all_goals
        go_wp2_with fail
        go_roundg (t.ns.length - (k + 1))
        case measure => omega
        case rel => exact ⟨k + 1, _, rfl, by omega, Nat.le_refl _, (by rw [unhide HT1]; exact HG2), HT2⟩
    · obtain rfl : k = t.ns.length := by omega
      clear hBw
      go_wp2_with fail
      refine (unhide CI wr (unhide HBw)).mono ?_
      rintro e w1 ⟨vs', rfl, ho, hb1⟩
      have h := (unhide hG).next hb1
      have c2 := h.c2
      have f2 := h.fz 2
      have g2 := (unhide hG).se (V := w1) (vs' := vs') (ss' := t.ss) (fun k hk => by omega) ⟨hb1.os, hb1.tape, hb1.output, hb1.size, fun k hk _ => hb1.block k hk⟩ (ho.lower (Nat.zero_le _)) (by
        rcases ho with ⟨rfl, _⟩ | ⟨g, cap, rfl, hB, _⟩
        · exact .inl rfl
        · exact .inr ⟨g, hB, rfl⟩)
      have hne : w.heap.size + 1 ≠ w.heap.size := by omega
      rw [List.take_length] at g2
      have HG2 := hide (g2.cut (G := fun k => w.heap.size ≤ k) (fun k _ hk => by omega))
      have HB2 := hide (nnext (unhide HBw) hb1)
      obtain ⟨sa', sc', rfl, _⟩ := ho.slice
      clear h g2 ho hb1
      go_wp2_with fail
      go_ret
      exact ⟨w.heap.size + 1, _, _, rfl, unhide HG2, (unhide HB2).setCell (by simp) _⟩

end Go.Proofs.YtaoflcmeiaffjaaGreatDoor

namespace Go.Proofs.YtaoflcmeiaffjaaGreatDoor
open Go.RowKit

/- append(nil, l...) -/
theorem run_copyN (W : World) (ty : TypeId) (v : Value) (xs : List Nd) (hv : SeqV W v xs) (hl : xs.length * 88 ≤ 140737488355328) :
    ∃ v' w', (Builtin.append_ #[28, 28] ty #[.slice none 0 0, v]).run Tryz.prog W = .ok v' w' ∧ OwnS w' W.heap.size v' xs ∧ W.grownBy w' none := by
  obtain ⟨i0, hi0, hz0, hz1, hz2⟩ := ninfo
  have main : ∀ (a : Addr) (cap : Nat), v = .slice (some a) xs.length cap → (∀ j u, (cellsL xs)[j]? = some u → W.cell? (a.add j) = some u) →
      ∃ v' w', (Builtin.append_ #[28, 28] ty #[.slice none 0 0, v]).run Tryz.prog W = .ok v' w' ∧ OwnS w' W.heap.size v' xs ∧ W.grownBy w' none := by
    intro a cap e hc
    subst e
    obtain ⟨v', w', h1, h2, h3, _⟩ := run_append_own (P := Tryz.prog) W W.heap.size 28 ty 97 i0 _ 9 88 Tryz.underlying28 hi0 hz0 hz1 hz2 rfl (by decide) (.slice none 0 0) 0 [] (World.ownsRow_nil _ _ _ _) a xs.length cap (cellsL xs) (cellsL_length xs) hc (cellsL_one xs)
      (by simp only [maxLen]; omega) (by omega) (Nat.le_refl _)
    refine ⟨v', w', h1, OwnS.of_row (by simp only [List.nil_append, Nat.zero_add] at h2; exact h2), h3⟩
  rcases hv with ⟨a, cap, rfl, rfl, _⟩ | ⟨b, off, cap, rfl, _, _, _, _, hr⟩
  · cases a with
    | none =>
      refine ⟨.slice none 0 0, W, ?_, .inl ⟨rfl, rfl⟩, ⟨rfl, rfl, rfl, Nat.le_refl _, fun _ _ _ => rfl⟩⟩
      simp [Builtin.append_, run_underlying Tryz.underlying28, sizeOf, typeInfo, hi0, Builtin.lenOf, Builtin.firstCells]
    | some a => exact main a cap rfl (fun j u h => by simp [cellsL] at h)
  · exact main ⟨b, off, none⟩ cap rfl (fun j u h => by rw [Addr.add_lit]; exact hr j u h)
theorem wpList_copyN {w : World} {ops : Array Oper} {rest : List Oper} {o : Oper} {a : Act} {Q : Exit → Act → World → Prop} (hgd : Region.wanted o (yielded ops a.tmps) = true) (s x : Operand)
    (ho : o.op = .call { callee := .builtin .append, args := #[s, x], argTypes := #[28, 28] })
    (hs : a.eval s = .slice none 0 0) (v : Value) (hx : a.eval x = v) (xs : List Nd) (hv : SeqV w v xs) (hl : xs.length * 88 ≤ 140737488355328)
    (h : ∀ v' w', OwnS w' w.heap.size v' xs → w.grownBy w' none → wpList Tryz.prog ops Q rest (a.put o.dst v') w') : wpList Tryz.prog ops Q (o :: rest) a w := by
  obtain ⟨v', w', hr, h2, h3⟩ := run_copyN w o.type v xs hv hl
  refine wpList_step fun K hK => ?_
  rw [if_pos hgd]
  unfold Oper.wp execOp
  simp only [ho, resolve, invoke, builtin, Sem.run_bind, Sem.run_pure, Result.andThen_ok, List.map_toArray, List.map_cons, List.map_nil, hs, hx, hr]
  exact hK _ _ (h v' w' h2 h3)
theorem step_copyN {w : World} {ops : Array Oper} {o : Oper} {a : Act} {K : Act → World → Prop} {Q : Exit → Act → World → Prop} {E : Prop} (hgd : Region.wanted o (yielded ops a.tmps) = true) (s x : Operand)
    (ho : o.op = .call { callee := .builtin .append, args := #[s, x], argTypes := #[28, 28] })
    (hs : a.eval s = .slice none 0 0) (v : Value) (hx : a.eval x = v) (xs : List Nd) (hv : SeqV w v xs) (hl : xs.length * 88 ≤ 140737488355328)
    (h : ∀ a' c' w', OwnS w' w.heap.size (.slice a' xs.length c') xs → w.grownBy w' none → K (a.put o.dst (.slice a' xs.length c')) w') :
    if Region.wanted o (yielded ops a.tmps) = true then Oper.wp Tryz.prog o a w K Q else E := by
  rw [if_pos hgd]
  obtain ⟨v', w', hr, h2, h3⟩ := run_copyN w o.type v xs hv hl
  obtain ⟨a', c', rfl, _⟩ := h2.slice
  unfold Oper.wp execOp
  simp only [ho, resolve, invoke, builtin, Sem.run_bind, Sem.run_pure, Result.andThen_ok, List.map_toArray, List.map_cons, List.map_nil, hs, hx, hr]
  exact h a' c' w' h2 h3
theorem run_copyI (W : World) (ty : TypeId) (v : Value) (xs : List Int) (hv : SeqV W v xs) (hl : xs.length * 8 ≤ 140737488355328) :
    ∃ v' w', (Builtin.append_ #[29, 29] ty #[.slice none 0 0, v]).run Tryz.prog W = .ok v' w' ∧ OwnS w' W.heap.size v' xs ∧ W.grownBy w' none := by
  obtain ⟨i0, hi0, hz0, hz1, hz2⟩ := iinfo
  have main : ∀ (a : Addr) (cap : Nat), v = .slice (some a) xs.length cap → (∀ j u, (cellsL xs)[j]? = some u → W.cell? (a.add j) = some u) →
      ∃ v' w', (Builtin.append_ #[29, 29] ty #[.slice none 0 0, v]).run Tryz.prog W = .ok v' w' ∧ OwnS w' W.heap.size v' xs ∧ W.grownBy w' none := by
    intro a cap e hc
    subst e
    obtain ⟨v', w', h1, h2, h3, _⟩ := run_append_own (P := Tryz.prog) W W.heap.size 29 ty 3 i0 _ 1 8 Tryz.underlying29 hi0 hz0 hz1 hz2 rfl (by decide) (.slice none 0 0) 0 [] (World.ownsRow_nil _ _ _ _) a xs.length cap (cellsL xs) (cellsL_length xs) hc (cellsL_one xs)
      (by simp only [maxLen]; omega) (by omega) (Nat.le_refl _)
    refine ⟨v', w', h1, OwnS.of_row (by simp only [List.nil_append, Nat.zero_add] at h2; exact h2), h3⟩
  rcases hv with ⟨a, cap, rfl, rfl, _⟩ | ⟨b, off, cap, rfl, _, _, _, _, hr⟩
  · cases a with
    | none =>
      refine ⟨.slice none 0 0, W, ?_, .inl ⟨rfl, rfl⟩, ⟨rfl, rfl, rfl, Nat.le_refl _, fun _ _ _ => rfl⟩⟩
      simp [Builtin.append_, run_underlying Tryz.underlying29, sizeOf, typeInfo, hi0, Builtin.lenOf, Builtin.firstCells]
    | some a => exact main a cap rfl (fun j u h => by simp [cellsL] at h)
  · exact main ⟨b, off, none⟩ cap rfl (fun j u h => by rw [Addr.add_lit]; exact hr j u h)
theorem wpList_copyI {w : World} {ops : Array Oper} {rest : List Oper} {o : Oper} {a : Act} {Q : Exit → Act → World → Prop} (hgd : Region.wanted o (yielded ops a.tmps) = true) (s x : Operand)
    (ho : o.op = .call { callee := .builtin .append, args := #[s, x], argTypes := #[29, 29] })
    (hs : a.eval s = .slice none 0 0) (v : Value) (hx : a.eval x = v) (xs : List Int) (hv : SeqV w v xs) (hl : xs.length * 8 ≤ 140737488355328)
    (h : ∀ v' w', OwnS w' w.heap.size v' xs → w.grownBy w' none → wpList Tryz.prog ops Q rest (a.put o.dst v') w') : wpList Tryz.prog ops Q (o :: rest) a w := by
  obtain ⟨v', w', hr, h2, h3⟩ := run_copyI w o.type v xs hv hl
  refine wpList_step fun K hK => ?_
  rw [if_pos hgd]
  unfold Oper.wp execOp
  simp only [ho, resolve, invoke, builtin, Sem.run_bind, Sem.run_pure, Result.andThen_ok, List.map_toArray, List.map_cons, List.map_nil, hs, hx, hr]
  exact hK _ _ (h v' w' h2 h3)
theorem step_copyI {w : World} {ops : Array Oper} {o : Oper} {a : Act} {K : Act → World → Prop} {Q : Exit → Act → World → Prop} {E : Prop} (hgd : Region.wanted o (yielded ops a.tmps) = true) (s x : Operand)
    (ho : o.op = .call { callee := .builtin .append, args := #[s, x], argTypes := #[29, 29] })
    (hs : a.eval s = .slice none 0 0) (v : Value) (hx : a.eval x = v) (xs : List Int) (hv : SeqV w v xs) (hl : xs.length * 8 ≤ 140737488355328)
    (h : ∀ a' c' w', OwnS w' w.heap.size (.slice a' xs.length c') xs → w.grownBy w' none → K (a.put o.dst (.slice a' xs.length c')) w') :
    if Region.wanted o (yielded ops a.tmps) = true then Oper.wp Tryz.prog o a w K Q else E := by
  rw [if_pos hgd]
  obtain ⟨v', w', hr, h2, h3⟩ := run_copyI w o.type v xs hv hl
  obtain ⟨a', c', rfl, _⟩ := h2.slice
  unfold Oper.wp execOp
  simp only [ho, resolve, invoke, builtin, Sem.run_bind, Sem.run_pure, Result.andThen_ok, List.map_toArray, List.map_cons, List.map_nil, hs, hx, hr]
  exact h a' c' w' h2 h3

/-- a tree's box at q, a box for the answer behind it -/
structure OB (w W : World) (z : Int) (vn vs : Value) : Prop where
  t : W.heap[w.heap.size]? = some (.cells #[.int .i64 z, vn, vs] 31 (0, 0))
  r : W.heap[w.heap.size + 1]? = some (.cells #[.int .i64 0, .slice none 0 0, .slice none 0 0] 31 (0, 0))
  b : Below w.heap.size w W
theorem OB.new (w : World) (z : Int) (vn vs : Value) : OB w ((w.alloc (.cells #[.int .i64 z, vn, vs] 31)).alloc (.cells #[.int .i64 0, .slice none 0 0, .slice none 0 0] 31)) z vn vs := by
  refine ⟨?_, ?_, nnext (allocB _ _) (allocB _ _)⟩
  · rw [(allocB _ _).block _ (by simp)]
    exact heap_alloc_new w _
  · have h := heap_alloc_new (w.alloc (.cells #[.int .i64 z, vn, vs] 31)) (.cells #[.int .i64 0, .slice none 0 0, .slice none 0 0] 31)
    rw [show (w.alloc (.cells #[.int .i64 z, vn, vs] 31)).heap.size = w.heap.size + 1 by simp] at h
    exact h
theorem OB.lt {w W : World} {z : Int} {vn vs : Value} (h : OB w W z vn vs) : w.heap.size + 1 < W.heap.size := (Array.getElem?_eq_some_iff.1 h.r).1
theorem OB.next {w W V : World} {z : Int} {vn vs : Value} (h : OB w W z vn vs) (hb : Below W.heap.size W V) : OB w V z vn vs := by
  have := h.lt
  exact ⟨(hb.block _ (by omega)).trans h.t, (hb.block _ (by omega)).trans h.r, nnext h.b hb⟩
theorem OB.drew {w W : World} {z : Int} {vn vs : Value} (h : OB w W z vn vs) : OB w W.drew z vn vs := h.next (Below.refl _ _).drew
theorem grown_below {W V : World} (h : W.grownBy V none) : Below W.heap.size W V := ⟨h.os, h.tape, h.output, h.size, fun k hk => h.block k hk (by simp)⟩
theorem OB.grown {w W V : World} {z : Int} {vn vs : Value} (h : OB w W z vn vs) (hg : W.grownBy V none) : OB w V z vn vs := h.next (grown_below hg)
theorem OB.cells {w W : World} {z : Int} {vn vs : Value} (h : OB w W z vn vs) : W.cell? ⟨w.heap.size, 0, none⟩ = some (.int .i64 z) ∧ W.cell? ⟨w.heap.size, 1, none⟩ = some vn ∧ W.cell? ⟨w.heap.size, 2, none⟩ = some vs ∧ W.frozen? ⟨w.heap.size, 1, none⟩ = false ∧ W.frozen? ⟨w.heap.size, 2, none⟩ = false := by
  have h1 := h.t
  refine ⟨?_, ?_, ?_, ?_, ?_⟩ <;> simp [World.cell?, World.frozen?, h1]
theorem OB.res {w W : World} {z : Int} {vn vs : Value} (h : OB w W z vn vs) : W.cell? ⟨w.heap.size + 1, 0, none⟩ = some (.int .i64 0) ∧ W.cell? ⟨w.heap.size + 1, 1, none⟩ = some (.slice none 0 0) ∧ W.cell? ⟨w.heap.size + 1, 2, none⟩ = some (.slice none 0 0) ∧ W.frozen? ⟨w.heap.size + 1, 0, none⟩ = false ∧ W.frozen? ⟨w.heap.size + 1, 1, none⟩ = false ∧ W.frozen? ⟨w.heap.size + 1, 2, none⟩ = false := by
  have h1 := h.r
  refine ⟨?_, ?_, ?_, ?_, ?_, ?_⟩ <;> simp [World.cell?, World.frozen?, h1]
theorem OB.put {w W : World} {z : Int} {vn vs : Value} (h : OB w W z vn vs) (v : Value) (c : Nat) (vn' vs' : Value) (hc : (#[.int .i64 z, vn, vs] : Array Value).set! c v = #[.int .i64 z, vn', vs']) : OB w (W.setCell ⟨w.heap.size, c, none⟩ v) z vn' vs' := by
  refine ⟨?_, (Below.heap_setCell _ _ _ _ (by simp)).trans h.r, h.b.setCell (by simp) _⟩
  rw [block_set v h.t, ← hc]
  simp
/-- copied, but for the answer -/
def OwnQ (w : World) (z : Int) (ns : List Nd) (ss : List Int) (wx : World) : Prop :=
  ∃ an cn ai ci, OB w wx z (.slice an ns.length cn) (.slice ai ss.length ci) ∧ OwnS wx (w.heap.size + 2) (.slice an ns.length cn) ns ∧ OwnS wx (w.heap.size + 2) (.slice ai ss.length ci) ss
theorem own_fin {w W : World} {z : Int} {vn vs : Value} {an ai : Option Addr} {cn ci : Nat} {ns : List Nd} {ss : List Int} (h : OB w W z vn vs) (hn : OwnS W (w.heap.size + 2) (.slice an ns.length cn) ns) (hs : OwnS W (w.heap.size + 2) (.slice ai ss.length ci) ss) :
    OwnQ w z ns ss ((W.setCell ⟨w.heap.size, 1, none⟩ (.slice an ns.length cn)).setCell ⟨w.heap.size, 2, none⟩ (.slice ai ss.length ci)) := by
  have no : ∀ {α : Type} [Lay α] {v : Value} {xs : List α}, OwnS W (w.heap.size + 2) v xs → v.ownBlock ≠ some w.heap.size := by
    intro α _ v xs ho e
    rcases ho with ⟨rfl, _⟩ | ⟨g, cap, rfl, hB, _⟩
    · cases e
    · simp [Value.ownBlock] at e; omega
  exact ⟨an, cn, ai, ci, (h.put _ 1 _ _ rfl).put _ 2 _ _ rfl, (hn.other (no hn) _).other (no hn) _, (hs.other (no hs) _).other (no hs) _⟩
theorem OwnQ.next {w W V : World} {z : Int} {ns : List Nd} {ss : List Int} (h : OwnQ w z ns ss W) (hb : Below W.heap.size W V) : OwnQ w z ns ss V := by
  obtain ⟨an, cn, ai, ci, h1, h2, h3⟩ := h
  exact ⟨an, cn, ai, ci, h1.next hb, h2.next hb, h3.next hb⟩
theorem own_low {α : Type} [Lay α] {w W : World} {v : Value} {xs : List α} {B : Nat} (h : OwnS W B v xs) (hB : w.heap.size + 2 ≤ B) : OwnS W (w.heap.size + 2) v xs := h.lower hB
/-- what a copy gives -/
def GivesT (w : World) (t : Tr) (e : Ending) (w' : World) : Prop :=
  ∃ vn vs, e = .returned (.agg #[.int .i64 t.z, vn, vs]) ∧ OwnS w' w.heap.size vn t.ns ∧ OwnS w' w.heap.size vs t.ss ∧ Below w.heap.size w w'
theorem gives_copy {w W : World} {t : Tr} {an ai : Option Addr} {cn ci : Nat} {v0 v1 v2 : Value} (h : OB w W t.z (.slice an t.ns.length cn) (.slice ai t.ss.length ci)) (hn : OwnS W (w.heap.size + 2) (.slice an t.ns.length cn) t.ns) (hs : OwnS W (w.heap.size + 2) (.slice ai t.ss.length ci) t.ss) :
    GivesT w t (.returned (.agg #[.int .i64 t.z, .slice an t.ns.length cn, .slice ai t.ss.length ci])) (((W.setCell ⟨w.heap.size + 1, 0, none⟩ v0).setCell ⟨w.heap.size + 1, 1, none⟩ v1).setCell ⟨w.heap.size + 1, 2, none⟩ v2) := by
  have no : ∀ {α : Type} [Lay α] {v : Value} {xs : List α}, OwnS W (w.heap.size + 2) v xs → v.ownBlock ≠ some (w.heap.size + 1) := by
    intro α _ v xs ho e
    rcases ho with ⟨rfl, _⟩ | ⟨g, cap, rfl, hB, _⟩
    · cases e
    · simp [Value.ownBlock] at e; omega
  exact ⟨_, _, rfl, (((hn.lower (by omega)).other (no hn) _).other (no hn) _).other (no hn) _, (((hs.lower (by omega)).other (no hs) _).other (no hs) _).other (no hs) _, ((h.b.setCell (by simp) _).setCell (by simp) _).setCell (by simp) _⟩

set_option maxRecDepth 20000 in
set_option maxHeartbeats 2000000 in
theorem rcopyT_any (t : Tr) (vn vs : Value) (w : World) (hn : SeqV w vn t.ns) (hs : SeqV w vs t.ss) (hl : t.ns.length * 88 ≤ 140737488355328) (hls : t.ss.length * 8 ≤ 140737488355328) :
    Calls Tryz.prog 52 #[.agg #[.int .i64 t.z, vn, vs]] w (GivesT w t) := by
  have HN := hide (fun W (hW : Below w.heap.size w W) => hn.next hW)
  have HS := hide (fun W (hW : Below w.heap.size w W) => hs.next hW)
  obtain ⟨na, nc, rfl⟩ := seq_slice hn
  obtain ⟨sa, sc, rfl⟩ := seq_slice hs
  have O0 := hide (OB.new w t.z (.slice na t.ns.length nc) (.slice sa t.ss.length sc))
  clear hn hs
  go_enter Tryz.func52, Tryz.ntmps52
  go_wp2_with (at_builtin; refine wpList_copyN (by kernel_rfl) _ _ rfl rfl (.slice na t.ns.length nc) rfl t.ns (unhide HN _ (unhide O0).b) hl ?_)
  intro vN wN ho hg
  have ON := hide ((unhide O0).grown hg)
  have GN := hide (ho.lower (C := w.heap.size + 2) (by simp))
  obtain ⟨an, cn, rfl, _⟩ := ho.slice
  have q1 := (unhide ON).put (.slice an t.ns.length cn) 1 _ _ rfl
  have GN1 := hide ((unhide GN).other (a := ⟨w.heap.size, 1, none⟩) (by
    intro e
    rcases unhide GN with ⟨h, _⟩ | ⟨g, cap, h, hB, _⟩
    · rw [h] at e; cases e
    · rw [h] at e; simp [Value.ownBlock] at e; omega) (.slice an t.ns.length cn))
  have HO1 := hide q1
  obtain ⟨n0, n1, n2, n3, n4⟩ := (unhide ON).cells
  obtain ⟨m0, m1, m2, m3, m4⟩ := q1.cells
  clear ho hg q1
  go_wp2_with (at_builtin; refine wpList_copyI (by kernel_rfl) _ _ rfl rfl (.slice sa t.ss.length sc) rfl t.ss (unhide HS _ (unhide HO1).b) hls ?_)
  intro vI wI ho hg
  have OI := (unhide HO1).grown hg
  have SI := (unhide ON).lt
  have GI := ho.lower (C := w.heap.size + 2) SI
  have GN2 := (unhide GN1).next (grown_below hg)
  obtain ⟨ai, ci, rfl, _⟩ := ho.slice
  have nI : (Value.slice ai t.ss.length ci).ownBlock ≠ some w.heap.size := by
    intro e
    rcases GI with ⟨h, _⟩ | ⟨g, cap, h, hB, _⟩
    · rw [h] at e; cases e
    · rw [h] at e; simp [Value.ownBlock] at e; omega
  have nN : (Value.slice an t.ns.length cn).ownBlock ≠ some w.heap.size := by
    intro e
    rcases GN2 with ⟨h, _⟩ | ⟨g, cap, h, hB, _⟩
    · rw [h] at e; cases e
    · rw [h] at e; simp [Value.ownBlock] at e; omega
  have Q : Hid (OwnQ w t.z t.ns t.ss (wI.setCell ⟨w.heap.size, 2, none⟩ (.slice ai t.ss.length ci))) := ⟨an, cn, ai, ci, OI.put _ 2 _ _ rfl, GN2.other nN _, GI.other nI _⟩
  obtain ⟨i0, i1, i2, i3, i4⟩ := OI.cells
  clear ho hg GI GN2 nI nN OI HN HS O0 ON GN GN1 HO1
  go_upto_region 3 with fail
  generalize hwq : wI.setCell ⟨w.heap.size, 2, none⟩ (.slice ai t.ss.length ci) = wq at *
  · have hq := Q
    clear hwq Q
    obtain ⟨an, cn, ai, ci, q, qn, qs⟩ := unhide hq
    obtain ⟨c0, c1, c2, _, _⟩ := q.cells
    obtain ⟨r0, r1, r2, f0, f1, f2⟩ := q.res
    have FIN := hide (fun (v0 v1 v2 : Value) => gives_copy (v0 := v0) (v1 := v1) (v2 := v2) (t := t) q qn qs)
    have hne : w.heap.size ≠ w.heap.size + 1 := by omega
    clear q qn qs hq
    go_wp2_with fail
    exact bodyPost_ret (v := .agg #[.int .i64 t.z, .slice an t.ns.length cn, .slice ai t.ss.length ci]) (by simp [results, Tryz.results52, go_sem, r0, r1, r2]) rfl (unhide FIN _ _ _)

/- New, Get -/
theorem one_root (w : World) : OwnS (w.alloc (.cells #[.string ⟨#[47]⟩, .string ⟨#[]⟩, .int .i64 0, .int .i64 0, .int .i64 0, .int .i64 0, .int .i64 0, .int .i64 0, .int .i64 0] 97)) w.heap.size (.slice (some ⟨w.heap.size, 0, none⟩) 1 1) [nroot] :=
  .inr ⟨w.heap.size, 1, rfl, Nat.le_refl _, [], by rw [heap_alloc_new]; rfl, by decide, by decide, by decide⟩
set_option maxRecDepth 20000 in
set_option maxHeartbeats 1000000 in
theorem tnew_any (w : World) : Calls Tryz.prog 28 #[] w (GivesT w trNew) := by
  have H : Hid (GivesT w trNew (.returned (.agg #[.int .i64 0, .slice (some ⟨w.heap.size + 1, 0, none⟩) 1 1, .slice none 0 0])) ((w.alloc (.cells #[.int .i64 0, .slice (some ⟨w.heap.size + 1, 0, none⟩) 1 1, .slice none 0 0] 31)).alloc (.cells #[.string ⟨#[47]⟩, .string ⟨#[]⟩, .int .i64 0, .int .i64 0, .int .i64 0, .int .i64 0, .int .i64 0, .int .i64 0, .int .i64 0] 97))) := by
    have h := one_root (w.alloc (.cells #[.int .i64 0, .slice (some ⟨w.heap.size + 1, 0, none⟩) 1 1, .slice none 0 0] 31))
    rw [show (w.alloc (.cells #[.int .i64 0, .slice (some ⟨w.heap.size + 1, 0, none⟩) 1 1, .slice none 0 0] 31)).heap.size = w.heap.size + 1 by simp] at h
    exact ⟨_, _, rfl, h.lower (by omega), .inl ⟨rfl, rfl⟩, nnext (allocB _ _) (allocB _ _)⟩
  go_enter Tryz.func28, Tryz.ntmps28
  go_wp2_with fail
  exact bodyPost_ret (v := .agg #[.int .i64 0, .slice (some ⟨w.heap.size + 1, 0, none⟩) 1 1, .slice none 0 0]) (by simp [results, Tryz.results28, go_sem]) rfl (unhide H)
set_option maxRecDepth 20000 in
set_option maxHeartbeats 1000000 in
theorem rnew_any (w : World) : Calls Tryz.prog 30 #[] w (GivesT w trNew) := by
  have H : Hid (GivesT w trNew (.returned (.agg #[.int .i64 0, .slice (some ⟨w.heap.size + 1, 0, none⟩) 1 1, .slice none 0 0])) ((w.alloc (.cells #[.int .i64 0, .slice (some ⟨w.heap.size + 1, 0, none⟩) 1 1, .slice none 0 0] 31)).alloc (.cells #[.string ⟨#[47]⟩, .string ⟨#[]⟩, .int .i64 0, .int .i64 0, .int .i64 0, .int .i64 0, .int .i64 0, .int .i64 0, .int .i64 0] 97))) := by
    have h := one_root (w.alloc (.cells #[.int .i64 0, .slice (some ⟨w.heap.size + 1, 0, none⟩) 1 1, .slice none 0 0] 31))
    rw [show (w.alloc (.cells #[.int .i64 0, .slice (some ⟨w.heap.size + 1, 0, none⟩) 1 1, .slice none 0 0] 31)).heap.size = w.heap.size + 1 by simp] at h
    exact ⟨_, _, rfl, h.lower (by omega), .inl ⟨rfl, rfl⟩, nnext (allocB _ _) (allocB _ _)⟩
  go_enter Tryz.func30, Tryz.ntmps30
  go_wp2_with fail
  exact bodyPost_ret (v := .agg #[.int .i64 0, .slice (some ⟨w.heap.size + 1, 0, none⟩) 1 1, .slice none 0 0]) (by simp [results, Tryz.results30, go_sem]) rfl (unhide H)

end Go.Proofs.YtaoflcmeiaffjaaGreatDoor
