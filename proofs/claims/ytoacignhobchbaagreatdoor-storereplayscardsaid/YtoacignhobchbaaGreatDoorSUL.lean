/-
  A tree under change: how a growth lies in memory, which blocks a step may touch; what tell and parentChanges do: the walks.
  What growth's parentChanges does: the walks.
  What growth's remove does: the walks.
-/
import Derived.Test.YtoacignhobchbaaGreatDoorSUK
import Derived.Deep.RegionHeld3
namespace Go.Proofs.YtoacignhobchbaaGreatDoor
open Go.RowKit

/-- block b is a growth -/
structure Grow (W : World) (F : Nat → Prop) (b : Nat) (z : Int) (vn vs ve : Value) (ns : List Nd) (ss : List Int) (es : List Ev) : Prop where
  blk : W.heap[b]? = some (.cells #[.int .i64 z, vn, vs, ve] 77 (0, 0))
  fb : F b
  n : OwnS W 0 vn ns
  s : OwnS W 0 vs ss
  e : OwnS W 0 ve es
  fn : ∀ k, vn.ownBlock = some k → F k ∧ k ≠ b
  fs : ∀ k, vs.ownBlock = some k → F k ∧ k ≠ b
  fe : ∀ k, ve.ownBlock = some k → F k ∧ k ≠ b
  an : ∀ k, vn.ownBlock = some k → vs.ownBlock ≠ some k ∧ ve.ownBlock ≠ some k
  asn : ∀ k, vs.ownBlock = some k → ve.ownBlock ≠ some k
theorem Grow.lt {W : World} {F : Nat → Prop} {b : Nat} {z : Int} {vn vs ve : Value} {ns : List Nd} {ss : List Int} {es : List Ev} (h : Grow W F b z vn vs ve ns ss es) : b < W.heap.size := (Array.getElem?_eq_some_iff.1 h.blk).1
theorem Grow.next {W V : World} {F : Nat → Prop} {b : Nat} {z : Int} {vn vs ve : Value} {ns : List Nd} {ss : List Int} {es : List Ev} (h : Grow W F b z vn vs ve ns ss es) (hb : Below W.heap.size W V) : Grow V F b z vn vs ve ns ss es :=
  ⟨(hb.block _ h.lt).trans h.blk, h.fb, h.n.next hb, h.s.next hb, h.e.next hb, h.fn, h.fs, h.fe, h.an, h.asn⟩
theorem Grow.drew {W : World} {F : Nat → Prop} {b : Nat} {z : Int} {vn vs ve : Value} {ns : List Nd} {ss : List Int} {es : List Ev} (h : Grow W F b z vn vs ve ns ss es) : Grow W.drew F b z vn vs ve ns ss es := h.next (Below.refl _ _).drew
theorem Grow.cut {W : World} {F G : Nat → Prop} {b : Nat} {z : Int} {vn vs ve : Value} {ns : List Nd} {ss : List Int} {es : List Ev} (h : Grow W F b z vn vs ve ns ss es) (hg : ∀ k, k < W.heap.size → F k → G k) : Grow W G b z vn vs ve ns ss es :=
  ⟨h.blk, hg b h.lt h.fb, h.n, h.s, h.e, fun k hk => ⟨hg k (h.n.low k hk) (h.fn k hk).1, (h.fn k hk).2⟩, fun k hk => ⟨hg k (h.s.low k hk) (h.fs k hk).1, (h.fs k hk).2⟩, fun k hk => ⟨hg k (h.e.low k hk) (h.fe k hk).1, (h.fe k hk).2⟩, h.an, h.asn⟩
theorem Grow.c0 {W : World} {F : Nat → Prop} {b : Nat} {z : Int} {vn vs ve : Value} {ns : List Nd} {ss : List Int} {es : List Ev} (h : Grow W F b z vn vs ve ns ss es) : W.cell? ⟨b, 0, none⟩ = some (.int .i64 z) := by simp [World.cell?, h.blk]
theorem Grow.c1 {W : World} {F : Nat → Prop} {b : Nat} {z : Int} {vn vs ve : Value} {ns : List Nd} {ss : List Int} {es : List Ev} (h : Grow W F b z vn vs ve ns ss es) : W.cell? ⟨b, 1, none⟩ = some vn := by simp [World.cell?, h.blk]
theorem Grow.c2 {W : World} {F : Nat → Prop} {b : Nat} {z : Int} {vn vs ve : Value} {ns : List Nd} {ss : List Int} {es : List Ev} (h : Grow W F b z vn vs ve ns ss es) : W.cell? ⟨b, 2, none⟩ = some vs := by simp [World.cell?, h.blk]
theorem Grow.c3 {W : World} {F : Nat → Prop} {b : Nat} {z : Int} {vn vs ve : Value} {ns : List Nd} {ss : List Int} {es : List Ev} (h : Grow W F b z vn vs ve ns ss es) : W.cell? ⟨b, 3, none⟩ = some ve := by simp [World.cell?, h.blk]
theorem Grow.fz {W : World} {F : Nat → Prop} {b : Nat} {z : Int} {vn vs ve : Value} {ns : List Nd} {ss : List Int} {es : List Ev} (h : Grow W F b z vn vs ve ns ss es) (j : Nat) : W.frozen? ⟨b, j, none⟩ = false := by simp [World.frozen?, h.blk]
/-- new events -/
theorem Grow.ev {W V : World} {F : Nat → Prop} {b : Nat} {z : Int} {vn vs ve ve' : Value} {ns : List Nd} {ss : List Int} {es es' : List Ev} (h : Grow W F b z vn vs ve ns ss es) (hF : ∀ k, W.heap.size ≤ k → F k) (hg : W.grownBy V ve.ownBlock) (he : OwnS V 0 ve' es') (hl : ve'.ownBlock = ve.ownBlock ∨ ve'.ownBlock = some W.heap.size) :
    Grow (V.setCell ⟨b, 3, none⟩ ve') F b z vn vs ve' ns ss es' := by
  have hbe : some b ≠ ve.ownBlock := fun e => (h.fe b e.symm).2 rfl
  have hb := h.lt
  have hne : ∀ k, ve'.ownBlock = some k → F k ∧ k ≠ b ∧ vn.ownBlock ≠ some k ∧ vs.ownBlock ≠ some k := by
    intro k hk
    rcases hl with e | e
    · rw [e] at hk
      exact ⟨(h.fe k hk).1, (h.fe k hk).2, fun hn => (h.an k hn).2 hk, fun hs => h.asn k hs hk⟩
    · rw [e] at hk
      cases hk
      exact ⟨hF _ (Nat.le_refl _), by omega, fun hn => by have := h.n.low _ hn; omega, fun hs => by have := h.s.low _ hs; omega⟩
  refine ⟨?_, h.fb, ?_, ?_, ?_, h.fn, h.fs, fun k hk => ⟨(hne k hk).1, (hne k hk).2.1⟩, fun k hk => ⟨(h.an k hk).1, fun e => (hne k e).2.2.1 hk⟩, fun k hk e => (hne k e).2.2.2 hk⟩
  · rw [block_set ve' ((hg.block b hb hbe).trans h.blk)]
    rfl
  · exact (h.n.grown hg (fun k hk e => (h.an k hk).2 e.symm)).other (fun e => (h.fn b e).2 rfl) _
  · exact (h.s.grown hg (fun k hk e => h.asn k hk e.symm)).other (fun e => (h.fs b e).2 rfl) _
  · exact he.other (fun e => (hne b e).2.1 rfl) _
/-- new nodes -/
theorem Grow.nd {W V : World} {F : Nat → Prop} {b : Nat} {z : Int} {vn vs ve vn' : Value} {ns ns' : List Nd} {ss : List Int} {es : List Ev} (h : Grow W F b z vn vs ve ns ss es) (hF : ∀ k, W.heap.size ≤ k → F k) (hg : W.grownBy V vn.ownBlock) (hn' : OwnS V 0 vn' ns') (hl : vn'.ownBlock = vn.ownBlock ∨ ∃ k, W.heap.size ≤ k ∧ vn'.ownBlock = some k) :
    Grow (V.setCell ⟨b, 1, none⟩ vn') F b z vn' vs ve ns' ss es := by
  have hbn : some b ≠ vn.ownBlock := fun e => (h.fn b e.symm).2 rfl
  have hb := h.lt
  have hne : ∀ k, vn'.ownBlock = some k → F k ∧ k ≠ b ∧ vs.ownBlock ≠ some k ∧ ve.ownBlock ≠ some k := by
    intro k hk
    rcases hl with e | ⟨j, hj, e⟩
    · rw [e] at hk
      exact ⟨(h.fn k hk).1, (h.fn k hk).2, (h.an k hk).1, (h.an k hk).2⟩
    · rw [e] at hk
      cases hk
      exact ⟨hF _ hj, by omega, fun hs => by have := h.s.low _ hs; omega, fun hs => by have := h.e.low _ hs; omega⟩
  refine ⟨?_, h.fb, ?_, ?_, ?_, fun k hk => ⟨(hne k hk).1, (hne k hk).2.1⟩, h.fs, h.fe, fun k hk => (hne k hk).2.2, h.asn⟩
  · rw [block_set vn' ((hg.block b hb hbn).trans h.blk)]
    rfl
  · exact hn'.other (fun e => (hne b e).2.1 rfl) _
  · exact (h.s.grown hg (fun k hk e => (h.an k e.symm).1 hk)).other (fun e => (h.fs b e).2 rfl) _
  · exact (h.e.grown hg (fun k hk e => (h.an k e.symm).2 hk)).other (fun e => (h.fe b e).2 rfl) _
/-- new sessions -/
theorem Grow.se {W V : World} {F : Nat → Prop} {b : Nat} {z : Int} {vn vs ve vs' : Value} {ns : List Nd} {ss ss' : List Int} {es : List Ev} (h : Grow W F b z vn vs ve ns ss es) (hF : ∀ k, W.heap.size ≤ k → F k) (hg : W.grownBy V vs.ownBlock) (hn' : OwnS V 0 vs' ss') (hl : vs'.ownBlock = vs.ownBlock ∨ ∃ k, W.heap.size ≤ k ∧ vs'.ownBlock = some k) :
    Grow (V.setCell ⟨b, 2, none⟩ vs') F b z vn vs' ve ns ss' es := by
  have hbn : some b ≠ vs.ownBlock := fun e => (h.fs b e.symm).2 rfl
  have hb := h.lt
  have hne : ∀ k, vs'.ownBlock = some k → F k ∧ k ≠ b ∧ vn.ownBlock ≠ some k ∧ ve.ownBlock ≠ some k := by
    intro k hk
    rcases hl with e | ⟨j, hj, e⟩
    · rw [e] at hk
      exact ⟨(h.fs k hk).1, (h.fs k hk).2, fun hn => (h.an k hn).1 hk, h.asn k hk⟩
    · rw [e] at hk
      cases hk
      exact ⟨hF _ hj, by omega, fun hs => by have := h.n.low _ hs; omega, fun hs => by have := h.e.low _ hs; omega⟩
  refine ⟨?_, h.fb, ?_, ?_, ?_, h.fn, fun k hk => ⟨(hne k hk).1, (hne k hk).2.1⟩, h.fe, fun k hk => ⟨fun e => (hne k e).2.2.1 hk, (h.an k hk).2⟩, fun k hk => (hne k hk).2.2.2⟩
  · rw [block_set vs' ((hg.block b hb hbn).trans h.blk)]
    rfl
  · exact (h.n.grown hg (fun k hk e => (h.an k hk).1 e.symm)).other (fun e => (h.fn b e).2 rfl) _
  · exact hn'.other (fun e => (hne b e).2.1 rfl) _
  · exact (h.e.grown hg (fun k hk e => h.asn k e.symm hk)).other (fun e => (h.fe b e).2 rfl) _
/-- a cell of a node -/
theorem Grow.put {W : World} {F : Nat → Prop} {b : Nat} {z : Int} {g cap : Nat} {vs ve : Value} {A B : List Nd} {n m : Nd} {ss : List Int} {es : List Ev} {l : Nat} (h : Grow W F b z (.slice (some ⟨g, 0, none⟩) l cap) vs ve (A ++ n :: B) ss es) {c : Nat} (hc : c < 9) {v : Value} (hm : ncells m = (ncells n).set c v) :
    Grow (W.setCell ⟨g, A.length * 9 + c, none⟩ v) F b z (.slice (some ⟨g, 0, none⟩) l cap) vs ve (A ++ m :: B) ss es := by
  have hgb := (h.fn g rfl).2
  refine ⟨(Below.heap_setCell W ⟨g, _, none⟩ v b (fun e => hgb e.symm)).trans h.blk, h.fb, ?_, ?_, ?_, h.fn, h.fs, h.fe, h.an, h.asn⟩
  · rcases h.n with ⟨h1, _⟩ | ⟨g', cap', h1, h2, h3⟩
    · cases h1
    · simp only [Value.slice.injEq, Option.some.injEq, Addr.mk.injEq, and_true] at h1
      obtain ⟨rfl, rfl, rfl⟩ := h1
      refine .inr ⟨g, cap, by simp, h2, ?_⟩
      exact h3.set (c := c) (by exact hc) hm
  · exact h.s.other (fun e => (h.an g rfl).1 e) _
  · exact h.e.other (fun e => (h.an g rfl).2 e) _
theorem Grow.nrow {W : World} {F : Nat → Prop} {b : Nat} {z : Int} {vn vs ve : Value} {ns : List Nd} {ss : List Int} {es : List Ev} (h : Grow W F b z vn vs ve ns ss es) (h0 : ns ≠ []) : ∃ g cap, vn = .slice (some ⟨g, 0, none⟩) ns.length cap ∧ OwnR W g cap ns ∧ g ≠ b ∧ F g := by
  rcases h.n with ⟨_, h1⟩ | ⟨g, cap, rfl, _, h3⟩
  · exact absurd h1 h0
  · exact ⟨g, cap, rfl, h3, (h.fn g rfl).2, (h.fn g rfl).1⟩

/- tell -/
theorem step_app_ev {w : World} {ops : Array Oper} {o : Oper} {a : Act} {K : Act → World → Prop} {Q : Exit → Act → World → Prop} {E : Prop} (hgd : Region.wanted o (yielded ops a.tmps) = true) (s x : Operand)
    (ho : o.op = .call { callee := .builtin .append, args := #[s, x], argTypes := #[49, 49] })
    (v : Value) (es : List Ev) (hs : a.eval s = v) (hown : OwnS w 0 v es)
    (q : Nat) (hx : a.eval x = .slice (some ⟨q, 0, none⟩) 1 1) (t : Ev) (hnews : OneR w q t) (hl : es.length ≤ 100000)
    (h : ∀ a' c' w', OwnS w' 0 (.slice a' (es.length + 1) c') (es ++ [t]) → w.grownBy w' v.ownBlock → ((Value.slice a' (es.length + 1) c').ownBlock = v.ownBlock ∨ (Value.slice a' (es.length + 1) c').ownBlock = some w.heap.size) → K (a.put o.dst (.slice a' (es.length + 1) c')) w') :
    if Region.wanted o (yielded ops a.tmps) = true then Oper.wp Tryz.prog o a w K Q else E := by
  rw [if_pos hgd]
  obtain ⟨i0, hi0, hz0, hz1, hz2⟩ := einfo
  obtain ⟨v', w', hr, h2, h3, _, h5⟩ := run_append_own_at (P := Tryz.prog) w 0 49 o.type 97 i0 _ 2 24 Tryz.underlying49 hi0 hz0 hz1 hz2 rfl (by decide) v es.length (cellsL es) hown.row ⟨q, 0, none⟩ 1 1 (ecells t) rfl (one_news hnews) (Lay.one t) (by simp only [maxLen]; omega) (by omega) (Nat.zero_le _)
  have h2' : OwnS w' 0 v' (es ++ [t]) := OwnS.of_row (by rw [List.length_append, cellsL_snoc]; exact h2)
  obtain ⟨a', c', rfl, _⟩ := h2'.slice
  have hlen : (es ++ [t]).length = es.length + 1 := by simp
  rw [hlen] at h2' hr h5
  unfold Oper.wp execOp
  simp only [ho, resolve, invoke, builtin, Sem.run_bind, Sem.run_pure, Result.andThen_ok, List.map_toArray, List.map_cons, List.map_nil, hs, hx, hr]
  exact h a' c' w' h2' h3 h5

set_option maxRecDepth 20000 in
set_option maxHeartbeats 2000000 in
theorem tell_any (F : Nat → Prop) (b : Nat) (z : Int) (vn vs ve : Value) (ns : List Nd) (ss : List Int) (es : List Ev) (kind : Int) (p : List UInt8) (w : World)
    (h : Grow w F b z vn vs ve ns ss es) (hF : ∀ k, w.heap.size ≤ k → F k) (hp : p.length ≤ 140737488355328) (hl : es.length ≤ 100000) :
    Calls Tryz.prog 84 #[.pointer (some ⟨b, 0, none⟩), .int .i64 kind, .string ⟨p.toArray⟩] w fun e w' =>
      e = .returned (.tuple #[]) ∧ ∃ ve', Grow w' F b z vn vs ve' ns ss (es ++ [⟨kind, p⟩]) ∧ Touch F w w' := by
  have C := fun W => nclone_any p W (by omega)
  have c3 := h.c3
  have f3 := h.fz 3
  have HG := hide h
  have HF := hide hF
  obtain ⟨ea, ec, rfl, _⟩ := h.e.slice
  have K1 := hide (fun w1 (hb1 : Below w.heap.size w w1) => (⟨(h.next hb1).c3, (h.next hb1).fz 3, (h.next hb1).lt, ((h.next hb1).next (allocB _ _)).c3⟩ : w1.cell? ⟨b, 3, none⟩ = some (.slice ea es.length ec) ∧ w1.frozen? ⟨b, 3, none⟩ = false ∧ b < w1.heap.size ∧ (w1.alloc (.cells #[.int .i64 kind, .string ⟨p.toArray⟩] 97)).cell? ⟨b, 3, none⟩ = some (.slice ea es.length ec)))
  have KE := hide (fun w1 (hb1 : Below w.heap.size w w1) => (h.next hb1).e.next (allocB w1 (.cells #[.int .i64 kind, .string ⟨p.toArray⟩] 97)))
  have K2 : ∀ (w1 w2 : World) (a2 : Option Addr) (c2 : Nat), Below w.heap.size w w1 → OwnS w2 0 (.slice a2 (es.length + 1) c2) (es ++ [⟨kind, p⟩]) → (w1.alloc (.cells #[.int .i64 kind, .string ⟨p.toArray⟩] 97)).grownBy w2 (Value.slice ea es.length ec).ownBlock →
      ((Value.slice a2 (es.length + 1) c2).ownBlock = (Value.slice ea es.length ec).ownBlock ∨ (Value.slice a2 (es.length + 1) c2).ownBlock = some (w1.alloc (.cells #[.int .i64 kind, .string ⟨p.toArray⟩] 97)).heap.size) →
      w2.cell? ⟨b, 3, none⟩ = some (.slice ea es.length ec) ∧ w2.frozen? ⟨b, 3, none⟩ = false ∧ Grow (w2.setCell ⟨b, 3, none⟩ (.slice a2 (es.length + 1) c2)) F b z vn vs (.slice a2 (es.length + 1) c2) ns ss (es ++ [⟨kind, p⟩]) ∧ Touch F w (w2.setCell ⟨b, 3, none⟩ (.slice a2 (es.length + 1) c2)) := by
    intro w1 w2 a2 c2 hb1 ho2 hg2 hl2
    have g1 := (h.next hb1).next (allocB w1 (.cells #[.int .i64 kind, .string ⟨p.toArray⟩] 97))
    have n3 : ¬ (Value.slice ea es.length ec).ownBlock = some b := fun e => (h.fe b e).2 rfl
    refine ⟨hg2.cell g1.c3 (fun e => n3 e.symm), (World.frozen?_of_block (hg2.block b g1.lt (fun e => n3 e.symm))).trans (g1.fz 3), g1.ev (fun k hk => hF k (by have := hb1.size; simp at hk; omega)) hg2 ho2 hl2, ?_⟩
    exact (((Touch.of_below hb1).trans (Touch.of_below (allocB _ _))).trans (Touch.of_grown hg2 (fun k e => (h.fe k e).1))).trans (Touch.set h.fb _)
  have HK2 := hide K2
  clear h hF hp K2
  go_enter Tryz.func84, Tryz.ntmps84
  go_wp2_with fail
  go_region_law (first
    | (refine step_app_ev (by kernel_rfl) _ _ (by rfl) (.slice ea es.length ec) es (by rfl) (unhide KE w1 (unhide HB1)) w1.heap.size (by rfl) ⟨kind, p⟩ (one_new w1 kind p) hl ?_; intro a2 c2 w2 ho2 hg2 hl2; obtain ⟨m3, l3, g2, t2⟩ := unhide HK2 w1 w2 a2 c2 (unhide HB1) ho2 hg2 hl2; have HG2 := hide g2; have HT2 := hide t2; clear ho2 hg2 hl2 g2 t2)
    | (go_simp; refine (C _).mono ?_; rintro e w1 ⟨rfl, hb1⟩; have HB1 : Hid (Below w.heap.size w w1) := (by first | exact hb1 | exact nbelow_drew hb1); obtain ⟨d3, k3, hbn, d3a⟩ := unhide K1 w1 (unhide HB1); clear hb1))
  all_goals go_wp2_with fail
  all_goals go_end0
  all_goals exact ⟨rfl, _, unhide HG2, unhide HT2⟩
end Go.Proofs.YtoacignhobchbaaGreatDoor

namespace Go.Proofs.YtoacignhobchbaaGreatDoor
open Go.RowKit

theorem nat_at (A : List Nd) (x : Nd) (B : List Nd) : (A ++ x :: B)[A.length]? = some x := by simp

set_option maxRecDepth 20000 in
set_option maxHeartbeats 2000000 in
theorem parent_full (F : Nat → Prop) (b : Nat) (z : Int) (vn vs ve : Value) (ns A B : List Nd) (u : Nd) (ss : List Int) (es : List Ev) (p : List UInt8) (more : Int) (w : World)
    (h : Grow w F b z vn vs ve ns ss es) (T : NThere ns A u B p) (hl : ns.length ≤ 400) (hk : u.k = 2147483647) :
    Calls Tryz.prog 85 #[.pointer (some ⟨b, 0, none⟩), .string ⟨p.toArray⟩, .int .i64 more] w fun e w' => e = .returned (.int .i64 6) ∧ Touch F w w' := by
  have CF := fun W (hW : Below w.heap.size w W) => nfind_there vn ns A B u p W (h.n.next hW).seq (by omega) T
  obtain ⟨g, cap, rfl, hr, hgb, hFg⟩ := h.nrow (by rw [T.eq]; simp)
  have c1 := h.c1
  have HG := hide h
  have HE := hide T.eq
  have hlt : A.length < ns.length := by rw [T.eq]; simp
  clear h hr T
  go_enter Tryz.func85, Tryz.ntmps85
  go_wp2_with fail
  refine (CF _ (Below.refl _ _)).mono ?_
  rintro e w1 ⟨rfl, hb1⟩
  have g1 := (unhide HG).next hb1
  have d1 := g1.c1
  obtain ⟨g', cap', he, hr, _, _⟩ := g1.nrow (by rw [unhide HE]; simp)
  simp only [Value.slice.injEq, Option.some.injEq, Addr.mk.injEq, and_true] at he
  obtain ⟨rfl, _, rfl⟩ := he
  have r6 := hr.row.n6 (i := A.length) (x := u) (by rw [unhide HE]; exact nat_at A u B)
  rw [hk, Nat.zero_add] at r6
  have HB := hide hb1
  clear CF c1 g1 hr hb1
  go_wp2_with fail
  go_ret
  exact ⟨rfl, Touch.of_below (unhide HB)⟩

set_option maxRecDepth 20000 in
set_option maxHeartbeats 4000000 in
theorem parent_ok (F : Nat → Prop) (b : Nat) (z : Int) (vn vs ve : Value) (ns A B : List Nd) (u : Nd) (ss : List Int) (es : List Ev) (p : List UInt8) (more : Int) (w : World)
    (h : Grow w F b z vn vs ve ns ss es) (hF : ∀ k, w.heap.size ≤ k → F k) (T : NThere ns A u B p) (hl : ns.length ≤ 400) (hk : 0 ≤ u.k ∧ u.k < 2147483647) (hn : 0 ≤ u.n ∧ u.n ≤ 1000) (hm : -1 ≤ more ∧ more ≤ 1) (hp : p.length ≤ 140737488355328) (hes : es.length ≤ 99999) :
    Calls Tryz.prog 85 #[.pointer (some ⟨b, 0, none⟩), .string ⟨p.toArray⟩, .int .i64 more] w fun e w' => e = .returned (.int .i64 0) ∧ ∃ ve', Grow w' F b z vn vs ve' (A ++ bump z more u :: B) ss (es ++ [⟨4, p⟩]) ∧ Touch F w w' := by
  have CF := fun W (hW : Below w.heap.size w W) => nfind_there vn ns A B u p W (h.n.next hW).seq (by omega) T
  obtain ⟨g, cap, rfl, hr, hgb, hFg⟩ := h.nrow (by rw [T.eq]; simp)
  have c1 := h.c1
  have HG := hide h
  have HE := hide T.eq
  have HF := hide hF
  have hlt : A.length < ns.length := by rw [T.eq]; simp
  clear h hr T hF
  go_enter Tryz.func85, Tryz.ntmps85
  go_wp2_with fail
  refine (CF _ (Below.refl _ _)).mono ?_
  rintro e w1 ⟨rfl, hb1⟩
  have g1 := (unhide HG).next hb1
  have d1 := g1.c1
  have d0 := g1.c0
  obtain ⟨g', cap', he, hr, _, _⟩ := g1.nrow (by rw [unhide HE]; simp)
  simp only [Value.slice.injEq, Option.some.injEq, Addr.mk.injEq, and_true] at he
  obtain ⟨rfl, _, rfl⟩ := he
  have at' : ns[A.length]? = some u := by rw [unhide HE]; exact nat_at A u B
  have r4 := hr.row.n4 at'
  have r6 := hr.row.n6 at'
  have r8 := hr.row.n8 at'
  have z4 := hr.frozen (A.length * 9 + 4)
  have z6 := hr.frozen (A.length * 9 + 6)
  have z8 := hr.frozen (A.length * 9 + 8)
  rw [Nat.zero_add] at r4 r6 r8
  have hne : g ≠ b := hgb
  have hne' : b ≠ g := Ne.symm hgb
  have hk1 := hk.1
  have hk2 := hk.2
  have hkn : ¬ u.k = 2147483647 := by omega
  have g4 : Grow (((w1.setCell ⟨g, A.length * 9 + 8, none⟩ (.int .i64 (u.n + more))).setCell ⟨g, A.length * 9 + 6, none⟩ (.int .i64 (u.k + 1))).setCell ⟨g, A.length * 9 + 4, none⟩ (.int .i64 z)) F b z (.slice (some ⟨g, 0, none⟩) ns.length cap) vs ve (A ++ bump z more u :: B) ss es := by
    have e0 := g1
    rw [unhide HE] at e0
    have e1 := e0.put (m := ⟨u.p, u.d, u.c, u.m, u.q, u.v, u.k, u.o, u.n + more⟩) (c := 8) (by omega) (v := .int .i64 (u.n + more)) rfl
    have e2 := e1.put (m := ⟨u.p, u.d, u.c, u.m, u.q, u.v, u.k + 1, u.o, u.n + more⟩) (c := 6) (by omega) (v := .int .i64 (u.k + 1)) rfl
    have e3 := e2.put (m := bump z more u) (c := 4) (by omega) (v := .int .i64 z) rfl
    rw [unhide HE]
    exact e3
  have T4 : Touch F w (((w1.setCell ⟨g, A.length * 9 + 8, none⟩ (.int .i64 (u.n + more))).setCell ⟨g, A.length * 9 + 6, none⟩ (.int .i64 (u.k + 1))).setCell ⟨g, A.length * 9 + 4, none⟩ (.int .i64 z)) :=
    (((Touch.of_below hb1).trans (Touch.set hFg _)).trans (Touch.set hFg _)).trans (Touch.set hFg _)
  have CT := fun W (hW : Grow W F b z (.slice (some ⟨g, 0, none⟩) ns.length cap) vs ve (A ++ bump z more u :: B) ss es) (hs : w.heap.size ≤ W.heap.size) => tell_any F b z _ vs ve _ ss es 4 p W hW (fun k hk => unhide HF k (by omega)) hp (by omega)
  have HG4 := hide g4
  have HT4 := hide T4
  have HCT := hide CT
  clear CF c1 g1 hr hb1 at' g4 T4 CT
  go_wp2_with fail
  refine (unhide HCT _ (unhide HG4) (unhide HT4).size).mono ?_
  rintro e w5 ⟨rfl, ve', g5, t5⟩
  have HG5 := hide g5
  have HT5 := hide ((unhide HT4).trans t5)
  clear g5 t5
  go_wp2_with fail
  go_ret
  exact ⟨rfl, ve', unhide HG5, unhide HT5⟩

end Go.Proofs.YtoacignhobchbaaGreatDoor

namespace Go.Proofs.YtoacignhobchbaaGreatDoor
open Go.RowKit

/- remove -/
set_option maxRecDepth 20000 in
set_option maxHeartbeats 2000000 in
theorem remove_gap (F : Nat → Prop) (b : Nat) (z : Int) (vn vs ve : Value) (ns A B : List Nd) (ss : List Int) (es : List Ev) (p : List UInt8) (w : World)
    (h : Grow w F b z vn vs ve ns ss es) (G : NGap ns A B p) (hl : ns.length ≤ 400) :
    Calls Tryz.prog 51 #[.pointer (some ⟨b, 0, none⟩), .string ⟨p.toArray⟩] w fun e w' => e = .returned (.int .i64 7) ∧ Touch F w w' := by
  have CF := fun W (hW : Below w.heap.size w W) => nfind_gap vn ns A B p W (h.n.next hW).seq (by omega) G
  have c1 := h.c1
  obtain ⟨na, nc, rfl, _⟩ := h.n.slice
  clear h G
  go_enter Tryz.func51, Tryz.ntmps51
  go_wp2_with fail
  refine (CF _ (Below.refl _ _)).mono ?_
  rintro e w1 ⟨rfl, hb1⟩
  clear CF
  go_wp2_with fail
  go_ret
  exact ⟨rfl, Touch.of_below hb1⟩

set_option maxRecDepth 20000 in
set_option maxHeartbeats 2000000 in
theorem remove_kids (F : Nat → Prop) (b : Nat) (z : Int) (vn vs ve : Value) (ns A B : List Nd) (u : Nd) (ss : List Int) (es : List Ev) (p : List UInt8) (w : World)
    (h : Grow w F b z vn vs ve ns ss es) (T : NThere ns A u B p) (hl : ns.length ≤ 400) (hk : u.n ≠ 0) :
    Calls Tryz.prog 51 #[.pointer (some ⟨b, 0, none⟩), .string ⟨p.toArray⟩] w fun e w' => e = .returned (.int .i64 10) ∧ Touch F w w' := by
  have CF := fun W (hW : Below w.heap.size w W) => nfind_there vn ns A B u p W (h.n.next hW).seq (by omega) T
  obtain ⟨g, cap, rfl, hr, hgb, hFg⟩ := h.nrow (by rw [T.eq]; simp)
  have c1 := h.c1
  have HG := hide h
  have HE := hide T.eq
  have hlt : A.length < ns.length := by rw [T.eq]; simp
  clear h hr T
  go_enter Tryz.func51, Tryz.ntmps51
  go_wp2_with fail
  refine (CF _ (Below.refl _ _)).mono ?_
  rintro e w1 ⟨rfl, hb1⟩
  have g1 := (unhide HG).next hb1
  have d1 := g1.c1
  obtain ⟨g', cap', he, hr, _, _⟩ := g1.nrow (by rw [unhide HE]; simp)
  simp only [Value.slice.injEq, Option.some.injEq, Addr.mk.injEq, and_true] at he
  obtain ⟨rfl, _, rfl⟩ := he
  have r8 := hr.row.n8 (i := A.length) (x := u) (by rw [unhide HE]; exact nat_at A u B)
  rw [Nat.zero_add] at r8
  have hk' : (u.n != 0) = true := by simpa using hk
  have HB := hide hb1
  clear CF c1 g1 hr hb1 hk
  go_wp2_with fail
  go_ret
  exact ⟨rfl, Touch.of_below (unhide HB)⟩

set_option maxRecDepth 20000 in
set_option maxHeartbeats 4000000 in
theorem remove_main (F : Nat → Prop) (b : Nat) (z : Int) (vn vs ve : Value) (ns A B : List Nd) (n : Nd) (ss : List Int) (es : List Ev) (p : List UInt8) (w : World) (E : Int) (Post : World → Prop)
    (h : Grow w F b z vn vs ve ns ss es) (hF : ∀ k, w.heap.size ≤ k → F k) (T : NThere ns A n B p) (hl : ns.length ≤ 400) (hk : n.n = 0) (hp : p.length ≤ 140737488355328) (hes : es.length ≤ 99998)
    (hpar : ∀ W vn' ve', Grow W F b z vn' vs ve' (A ++ B) ss (es ++ [⟨2, p⟩]) → w.heap.size ≤ W.heap.size → Touch F w W → Calls Tryz.prog 85 #[.pointer (some ⟨b, 0, none⟩), .string ⟨(dirOf p).toArray⟩, .int .i64 (-1)] W fun e w' => e = .returned (.int .i64 E) ∧ Post w') :
    Calls Tryz.prog 51 #[.pointer (some ⟨b, 0, none⟩), .string ⟨p.toArray⟩] w fun e w' => e = .returned (.int .i64 E) ∧ Post w' := by
  have CF := fun W (hW : Below w.heap.size w W) => nfind_there vn ns A B n p W (h.n.next hW).seq (by omega) T
  obtain ⟨g, cap, rfl, hr, hgb, hFg⟩ := h.nrow (by rw [T.eq]; simp)
  have c1 := h.c1
  have HG := hide h
  have HE := hide T.eq
  have HF := hide hF
  have HP := hide hpar
  have hlen : ns.length = A.length + B.length + 1 := by rw [T.eq]; simp; omega
  have hlt : A.length < ns.length := by omega
  have HL := hide hlen
  have CD := fun W (ho : OwnR W g cap (A ++ n :: B)) => ndelete_any g cap A B n ns.length W ho (unhide HL) hl
  have CS := fun W => split_any p W
  have HCD := hide CD
  have HCS := hide CS
  clear h hr T hF hpar CD CS hlen
  go_enter Tryz.func51, Tryz.ntmps51
  go_wp2_with fail
  refine (CF _ (Below.refl _ _)).mono ?_
  rintro e w1 ⟨rfl, hb1⟩
  have g1 := (unhide HG).next hb1
  have d1 := g1.c1
  obtain ⟨g', cap', he, hr, _, _⟩ := g1.nrow (by rw [unhide HE]; simp)
  simp only [Value.slice.injEq, Option.some.injEq, Addr.mk.injEq, and_true] at he
  obtain ⟨rfl, _, rfl⟩ := he
  have r8 := hr.row.n8 (i := A.length) (x := n) (by rw [unhide HE]; exact nat_at A n B)
  rw [Nat.zero_add, hk] at r8
  have HB := hide hb1
  have HG1 := hide g1
  have HR := hide (show OwnR w1 g cap (A ++ n :: B) by rw [← unhide HE]; exact hr)
  clear CF c1 g1 hr hb1
  go_wp2_with fail
  rw [show ((A.length : Int) + 1) = ((A.length + 1 : Nat) : Int) from by omega]
  refine (unhide HCD _ (unhide HR)).mono ?_
  rintro e w2 ⟨rfl, ho2, hg2⟩
  have m1 : w2.cell? ⟨b, 1, none⟩ = some (.slice (some ⟨g, 0, none⟩) ns.length cap) := hg2.cell d1 (fun e => hgb (Option.some.inj e).symm)
  have l1 : w2.frozen? ⟨b, 1, none⟩ = false := (World.frozen?_of_block (hg2.block b (unhide HG1).lt (fun e => hgb (Option.some.inj e).symm))).trans ((unhide HG1).fz 1)
  have g2 := (unhide HG1).nd (vn' := .slice (some ⟨g, 0, none⟩) (A.length + B.length) cap) (ns' := A ++ B) (fun k hk => unhide HF k (by have := (unhide HB).size; omega)) hg2 (.inr ⟨g, cap, by rw [List.length_append], Nat.zero_le _, ho2⟩) (.inl rfl)
  have t2 : Touch F w (w2.setCell ⟨b, 1, none⟩ (.slice (some ⟨g, 0, none⟩) (A.length + B.length) cap)) := ((Touch.of_below (unhide HB)).trans (Touch.of_grown hg2 (fun k e => by cases e; exact hFg))).trans (Touch.set g2.fb _)
  have HG2 := hide g2
  have HT2 := hide t2
  clear g2 t2 ho2 hg2 d1 r8 HR
  go_wp2_with fail
  refine (tell_any F b z _ vs ve _ ss es 2 p _ (unhide HG2) (fun k hk => unhide HF k (by have := (unhide HT2).size; omega)) hp (by omega)).mono ?_
  rintro e w3 ⟨rfl, ve', g3, t3⟩
  have HG3 := hide g3
  have HT3 := hide ((unhide HT2).trans t3)
  clear g3 t3 m1 l1
  go_wp2_with fail
  refine (unhide HCS _).mono ?_
  rintro e w4 ⟨rfl, hb4⟩
  have HG4 := hide ((unhide HG3).next hb4)
  have HT4 := hide ((unhide HT3).trans (Touch.of_below hb4))
  clear hb4
  go_wp2_with fail
  refine (unhide HP _ _ _ (unhide HG4) (unhide HT4).size (unhide HT4)).mono ?_
  rintro e w5 ⟨rfl, hp5⟩
  have HP5 := hide hp5
  clear hp5
  go_wp2_with fail
  go_ret
  exact ⟨rfl, unhide HP5⟩

/-- a node goes, and its parent has room -/
theorem remove_ok (F : Nat → Prop) (b : Nat) (z : Int) (vn vs ve : Value) (ns A B A' B' : List Nd) (n u : Nd) (ss : List Int) (es : List Ev) (p : List UInt8) (w : World)
    (h : Grow w F b z vn vs ve ns ss es) (hF : ∀ k, w.heap.size ≤ k → F k) (T : NThere ns A n B p) (T' : NThere (A ++ B) A' u B' (dirOf p)) (hl : ns.length ≤ 400) (hk : n.n = 0) (hu : 0 ≤ u.k ∧ u.k < 2147483647) (hn : 0 ≤ u.n ∧ u.n ≤ 1000) (hp : p.length ≤ 140737488355328) (hd : (dirOf p).length ≤ 140737488355328) (hes : es.length ≤ 99998) :
    Calls Tryz.prog 51 #[.pointer (some ⟨b, 0, none⟩), .string ⟨p.toArray⟩] w fun e w' => e = .returned (.int .i64 0) ∧ ∃ vn' ve', Grow w' F b z vn' vs ve' (rmN z ns p) ss (es ++ [⟨2, p⟩, ⟨4, dirOf p⟩]) ∧ Touch F w w' := by
  refine remove_main F b z vn vs ve ns A B n ss es p w 0 _ h hF T hl hk hp hes (fun W vn' ve' hG hs ht => ?_)
  have hlen : (A ++ B).length ≤ 400 := by have := congrArg List.length T.eq; simp at this ⊢; omega
  refine (parent_ok F b z vn' vs ve' (A ++ B) A' B' u ss _ (dirOf p) (-1) W hG (fun k hk => hF k (by omega)) T' hlen hu hn (by omega) hd (by simp; omega)).mono ?_
  rintro e w' ⟨rfl, ve2, g, t⟩
  refine ⟨rfl, vn', ve2, ?_, ht.trans t⟩
  rw [rmN, T.drop, T'.bump]
  simpa using g
theorem remove_full (F : Nat → Prop) (b : Nat) (z : Int) (vn vs ve : Value) (ns A B A' B' : List Nd) (n u : Nd) (ss : List Int) (es : List Ev) (p : List UInt8) (w : World)
    (h : Grow w F b z vn vs ve ns ss es) (hF : ∀ k, w.heap.size ≤ k → F k) (T : NThere ns A n B p) (T' : NThere (A ++ B) A' u B' (dirOf p)) (hl : ns.length ≤ 400) (hk : n.n = 0) (hu : u.k = 2147483647) (hp : p.length ≤ 140737488355328) (hes : es.length ≤ 99998) :
    Calls Tryz.prog 51 #[.pointer (some ⟨b, 0, none⟩), .string ⟨p.toArray⟩] w fun e w' => e = .returned (.int .i64 6) ∧ Touch F w w' := by
  refine remove_main F b z vn vs ve ns A B n ss es p w 6 _ h hF T hl hk hp hes (fun W vn' ve' hG hs ht => ?_)
  have hlen : (A ++ B).length ≤ 400 := by have := congrArg List.length T.eq; simp at this ⊢; omega
  refine (parent_full F b z vn' vs ve' (A ++ B) A' B' u ss _ (dirOf p) (-1) W hG T' hlen hu).mono ?_
  rintro e w' ⟨rfl, t⟩
  exact ⟨rfl, ht.trans t⟩

end Go.Proofs.YtoacignhobchbaaGreatDoor
