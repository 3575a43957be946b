/-
  Boxes of a server: stores into them leave the rows that it holds as they were.
  store.copied: the walk.
-/
import Derived.Test.YtoacignhobchbaaGreatDoorSUU
import Derived.Test.YtoacignhobchbaaGreatDoorSUW
import Derived.Test.YtoacignhobchbaaGreatDoorSUN
namespace Go.Proofs.YtoacignhobchbaaGreatDoor
open Go.RowKit

/-- block k is a box of cells without a text -/
def Dumb (W : World) (k : Nat) : Prop := ∃ cs t, W.heap[k]? = some (.cells cs t (0, 0)) ∧ ∀ (j : Nat) (s : ByteArray), cs[j]? ≠ some (Value.string s)
theorem Dumb.next {W V : World} {k : Nat} (h : Dumb W k) (hb : Below W.heap.size W V) : Dumb V k := by
  obtain ⟨cs, t, h1, h2⟩ := h
  exact ⟨cs, t, (hb.block k (Array.getElem?_eq_some_iff.1 h1).1).trans h1, h2⟩
theorem Dumb.set {W : World} {k j : Nat} {u : Value} (h : Dumb W k) (hu : ∀ s, u ≠ .string s) : Dumb (W.setCell ⟨k, j, none⟩ u) k := by
  obtain ⟨cs, t, h1, h2⟩ := h
  refine ⟨cs.setIfInBounds j u, t, block_set u h1, fun i s hi => ?_⟩
  rw [Array.getElem?_setIfInBounds] at hi
  split at hi
  · split at hi
    · exact hu s (Option.some.inj hi)
    · cases hi
  · exact h2 i s hi
theorem Dumb.other {W : World} {k i j : Nat} {u : Value} (h : Dumb W k) (hk : k ≠ i) : Dumb (W.setCell ⟨i, j, none⟩ u) k := by
  obtain ⟨cs, t, h1, h2⟩ := h
  exact ⟨cs, t, (Below.heap_setCell W ⟨i, j, none⟩ u k hk).trans h1, h2⟩
theorem Dumb.no {W : World} {k j : Nat} {s : ByteArray} (h : Dumb W k) : W.cell? ⟨k, j, none⟩ ≠ some (.string s) := by
  obtain ⟨cs, t, h1, h2⟩ := h
  intro e
  simp [World.cell?, h1] at e
  exact h2 j s e
theorem RowAt.put {W : World} {b off k j : Nat} {cs : List Value} {u : Value} (h : RowAt W b off cs) (hk : b ≠ k) : RowAt (W.setCell ⟨k, j, none⟩ u) b off cs := fun i v hi => by
  rw [World.cell?, Below.heap_setCell W ⟨k, j, none⟩ u b hk]
  exact h i v hi
theorem disk_dumb {W : World} {v : Value} {fs : List DF} (h : DiskV W v fs) {k j : Nat} (hk : Dumb W k) (u : Value) : DiskV (W.setCell ⟨k, j, none⟩ u) v fs := by
  rcases h with h | ⟨b, off, cap, rfl, h1, h2, h3, h0, h4⟩
  · exact .inl h
  · refine .inr ⟨b, off, cap, rfl, h1, h2, by simpa [World.setCell] using h3, h0, h4.put ?_⟩
    rintro rfl
    obtain ⟨f, r, rfl⟩ := List.exists_cons_of_ne_nil h0
    exact hk.no (h4.c0 (i := 0) (f := f) rfl)
theorem log_dumb {W : World} {v : Value} {ts : List WTxn} (h : LogV W v ts) {k j : Nat} (hk : Dumb W k) (u : Value) : LogV (W.setCell ⟨k, j, none⟩ u) v ts := by
  rcases h with h | ⟨b, off, cap, rfl, h1, h2, h3, h0, h4⟩
  · exact .inl h
  · refine .inr ⟨b, off, cap, rfl, h1, h2, by simpa [World.setCell] using h3, h0, h4.put ?_⟩
    rintro rfl
    obtain ⟨f, r, rfl⟩ := List.exists_cons_of_ne_nil h0
    exact hk.no (h4.p (i := 0) (t := f) rfl)
theorem nodes_dumb {W : World} {v : Value} {xs : List Nd} (h : SeqV W v xs) {k j : Nat} (hk : Dumb W k) (u : Value) : SeqV (W.setCell ⟨k, j, none⟩ u) v xs := by
  rcases h with h | ⟨b, off, cap, rfl, h1, h2, h3, h0, h4⟩
  · exact .inl h
  · refine .inr ⟨b, off, cap, rfl, h1, h2, by simpa [World.setCell] using h3, h0, h4.put ?_⟩
    rintro rfl
    obtain ⟨f, r, rfl⟩ := List.exists_cons_of_ne_nil h0
    exact hk.no (h4.n0 (i := 0) (x := f) rfl)
theorem watches_dumb {W : World} {v : Value} {xs : List Wa} (h : SeqV W v xs) {k j : Nat} (hk : Dumb W k) (u : Value) : SeqV (W.setCell ⟨k, j, none⟩ u) v xs := by
  rcases h with h | ⟨b, off, cap, rfl, h1, h2, h3, h0, h4⟩
  · exact .inl h
  · refine .inr ⟨b, off, cap, rfl, h1, h2, by simpa [World.setCell] using h3, h0, h4.put ?_⟩
    rintro rfl
    obtain ⟨f, r, rfl⟩ := List.exists_cons_of_ne_nil h0
    exact hk.no (h4.w2 (i := 0) (x := f) rfl)
/-- a row that does not lie in block k -/
def Away (v : Value) (k : Nat) : Prop := ∀ b off n c, v = .slice (some ⟨b, off, none⟩) n c → b ≠ k
theorem seq_away {α : Type} [Lay α] {W : World} {v : Value} {xs : List α} (h : SeqV W v xs) {k j : Nat} (hk : Away v k) (u : Value) : SeqV (W.setCell ⟨k, j, none⟩ u) v xs := by
  rcases h with h | ⟨b, off, cap, rfl, h1, h2, h3, h0, h4⟩
  · exact .inl h
  · exact .inr ⟨b, off, cap, rfl, h1, h2, by simpa [World.setCell] using h3, h0, h4.put (hk b off _ cap rfl)⟩
theorem away_none (n c k : Nat) : Away (.slice none n c) k := fun b off n' c' h => by simp at h
/-- ten cells stored into a box -/
def put10 (W : World) (k : Nat) (x0 x1 x2 x3 x4 x5 x6 x7 x8 x9 : Value) : World :=
  (((((((((W.setCell ⟨k, 0, none⟩ x0).setCell ⟨k, 1, none⟩ x1).setCell ⟨k, 2, none⟩ x2).setCell ⟨k, 3, none⟩ x3).setCell ⟨k, 4, none⟩ x4).setCell ⟨k, 5, none⟩ x5).setCell ⟨k, 6, none⟩ x6).setCell ⟨k, 7, none⟩ x7).setCell ⟨k, 8, none⟩ x8).setCell ⟨k, 9, none⟩ x9
theorem put10_below {w W : World} {k : Nat} (h : Below w.heap.size w W) (hk : w.heap.size ≤ k) (x0 x1 x2 x3 x4 x5 x6 x7 x8 x9 : Value) : Below w.heap.size w (put10 W k x0 x1 x2 x3 x4 x5 x6 x7 x8 x9) :=
  (((((((((h.setCell hk x0).setCell hk x1).setCell hk x2).setCell hk x3).setCell hk x4).setCell hk x5).setCell hk x6).setCell hk x7).setCell hk x8).setCell hk x9
/-- the block k holds a server's ten cells -/
def Box10 (W : World) (k : Nat) (up : Bool) (vd : Value) (id ep : Int) (vl : Value) (dn z : Int) (vn vs vw : Value) : Prop :=
  W.heap[k]? = some (.cells #[.bool up, vd, .int .i64 id, .int .i64 ep, vl, .int .i64 dn, .int .i64 z, vn, vs, vw] 36 (0, 0))
theorem Box10.next {W V : World} {k : Nat} {up : Bool} {id ep dn z : Int} {vd vl vn vs vw : Value} (h : Box10 W k up vd id ep vl dn z vn vs vw) (hb : Below W.heap.size W V) : Box10 V k up vd id ep vl dn z vn vs vw := (hb.block k (by unfold Box10 at h; exact (Array.getElem?_eq_some_iff.1 h).1)).trans h
theorem Box10.lt {W : World} {k : Nat} {up : Bool} {id ep dn z : Int} {vd vl vn vs vw : Value} (h : Box10 W k up vd id ep vl dn z vn vs vw) : k < W.heap.size := by unfold Box10 at h; exact (Array.getElem?_eq_some_iff.1 h).1
theorem Box10.new (w : World) (up : Bool) (id ep dn z : Int) (vd vl vn vs vw : Value) : Box10 (w.alloc (.cells #[.bool up, vd, .int .i64 id, .int .i64 ep, vl, .int .i64 dn, .int .i64 z, vn, vs, vw] 36)) w.heap.size up vd id ep vl dn z vn vs vw := heap_alloc_new w _
theorem Box10.other {W : World} {k i j : Nat} {u : Value} {up : Bool} {id ep dn z : Int} {vd vl vn vs vw : Value} (h : Box10 W k up vd id ep vl dn z vn vs vw) (hk : k ≠ i) : Box10 (W.setCell ⟨i, j, none⟩ u) k up vd id ep vl dn z vn vs vw := (Below.heap_setCell W ⟨i, j, none⟩ u k hk).trans h
theorem Box10.cells {W : World} {k : Nat} {up : Bool} {id ep dn z : Int} {vd vl vn vs vw : Value} (h : Box10 W k up vd id ep vl dn z vn vs vw) :
    W.cell? ⟨k, 0, none⟩ = some (.bool up) ∧ W.cell? ⟨k, 1, none⟩ = some vd ∧ W.cell? ⟨k, 2, none⟩ = some (.int .i64 id) ∧ W.cell? ⟨k, 3, none⟩ = some (.int .i64 ep) ∧ W.cell? ⟨k, 4, none⟩ = some vl ∧ W.cell? ⟨k, 5, none⟩ = some (.int .i64 dn) ∧ W.cell? ⟨k, 6, none⟩ = some (.int .i64 z) ∧ W.cell? ⟨k, 7, none⟩ = some vn ∧ W.cell? ⟨k, 8, none⟩ = some vs ∧ W.cell? ⟨k, 9, none⟩ = some vw := by
  unfold Box10 at h
  refine ⟨?_, ?_, ?_, ?_, ?_, ?_, ?_, ?_, ?_, ?_⟩ <;> simp [World.cell?, h]
theorem Box10.froz {W : World} {k : Nat} {up : Bool} {id ep dn z : Int} {vd vl vn vs vw : Value} (h : Box10 W k up vd id ep vl dn z vn vs vw) (j : Nat) : W.frozen? ⟨k, j, none⟩ = false := by
  unfold Box10 at h
  simp [World.frozen?, h]
theorem Box10.dumb {W : World} {k : Nat} {up : Bool} {id ep dn z : Int} {ad al an ai aw : Option Addr} {nd cd nl cl nn cn ni ci nw cw : Nat} (h : Box10 W k up (.slice ad nd cd) id ep (.slice al nl cl) dn z (.slice an nn cn) (.slice ai ni ci) (.slice aw nw cw)) : Dumb W k := by
  refine ⟨_, _, h, fun j s hj => ?_⟩
  have hm := Array.mem_of_getElem? hj
  simp at hm
/-- what is stored is held there as it was -/
theorem put10_sv {W : World} {k : Nat} (hk : Dumb W k) {up : Bool} {id ep dn z : Int} {ad al an ai aw : Option Addr} {nd cd nl cl nn cn ni ci nw cw : Nat} {v : Value} {s : Sv} (hs : ∀ vd vl vn vs vw, v = .agg #[.bool s.up, vd, .int .i64 s.id, .int .i64 s.ep, vl, .int .i64 s.dn, .int .i64 s.tr.z, vn, vs, vw] → Away vs k) (h : SvV W v s) :
    SvV (put10 W k (.bool up) (.slice ad nd cd) (.int .i64 id) (.int .i64 ep) (.slice al nl cl) (.int .i64 dn) (.int .i64 z) (.slice an nn cn) (.slice ai ni ci) (.slice aw nw cw)) v s := by
  have one : ∀ {W : World} {j : Nat} {u : Value}, (∀ t, u ≠ .string t) → Dumb W k → SvV W v s → Dumb (W.setCell ⟨k, j, none⟩ u) k ∧ SvV (W.setCell ⟨k, j, none⟩ u) v s := by
    intro W j u hu hk h
    refine ⟨hk.set hu, ?_⟩
    obtain ⟨vd, vl, vn, vs, vw, rfl, h1, h2, h3, h4, h5⟩ := h
    exact ⟨vd, vl, vn, vs, vw, rfl, disk_dumb h1 hk u, log_dumb h2 hk u, nodes_dumb h3 hk u, seq_away h4 (hs _ _ _ _ _ rfl) u, watches_dumb h5 hk u⟩
  obtain ⟨k0, h0⟩ := one (j := 0) (u := .bool up) (by simp) hk h
  obtain ⟨k1, h1⟩ := one (j := 1) (u := .slice ad nd cd) (by simp) k0 h0
  obtain ⟨k2, h2⟩ := one (j := 2) (u := .int .i64 id) (by simp) k1 h1
  obtain ⟨k3, h3⟩ := one (j := 3) (u := .int .i64 ep) (by simp) k2 h2
  obtain ⟨k4, h4⟩ := one (j := 4) (u := .slice al nl cl) (by simp) k3 h3
  obtain ⟨k5, h5⟩ := one (j := 5) (u := .int .i64 dn) (by simp) k4 h4
  obtain ⟨k6, h6⟩ := one (j := 6) (u := .int .i64 z) (by simp) k5 h5
  obtain ⟨k7, h7⟩ := one (j := 7) (u := .slice an nn cn) (by simp) k6 h6
  obtain ⟨k8, h8⟩ := one (j := 8) (u := .slice ai ni ci) (by simp) k7 h7
  exact (one (j := 9) (u := .slice aw nw cw) (by simp) k8 h8).2

theorem away_own {α : Type} [Lay α] {W : World} {B k : Nat} {v : Value} {xs : List α} (h : OwnS W B v xs) (hk : k < B) : Away v k := by
  intro b off n c e
  rcases h with ⟨rfl, _⟩ | ⟨g, cap, rfl, hB, _⟩
  · simp at e
  · simp only [Value.slice.injEq, Option.some.injEq, Addr.mk.injEq] at e
    omega
theorem away_seq {α : Type} [Lay α] {W : World} {k : Nat} {v : Value} {xs : List α} (h : SeqV W v xs) (hx : xs ≠ []) (hk : W.heap.size ≤ k) : Away v k := by
  intro b off n c e
  rcases h with ⟨a, cap, _, h0, _⟩ | ⟨b', off', cap, rfl, _, _, hb, _, _⟩
  · exact absurd h0 hx
  · simp only [Value.slice.injEq, Option.some.injEq, Addr.mk.injEq] at e
    omega
/-- a server's five rows, stored into the box k -/
theorem put10_new {W : World} {k : Nat} (hk : Dumb W k) {s : Sv} {ad al an ai aw : Option Addr} {nd cd nl cl nn cn ni ci nw cw : Nat} (D : DiskV W (.slice ad nd cd) s.fs) (L : LogV W (.slice al nl cl) s.ts) (N : SeqV W (.slice an nn cn) s.tr.ns) (I : SeqV W (.slice ai ni ci) s.tr.ss) (hI : Away (.slice ai ni ci) k) (X : SeqV W (.slice aw nw cw) s.ws) :
    SvV (put10 W k (.bool s.up) (.slice ad nd cd) (.int .i64 s.id) (.int .i64 s.ep) (.slice al nl cl) (.int .i64 s.dn) (.int .i64 s.tr.z) (.slice an nn cn) (.slice ai ni ci) (.slice aw nw cw)) (.agg #[.bool s.up, .slice ad nd cd, .int .i64 s.id, .int .i64 s.ep, .slice al nl cl, .int .i64 s.dn, .int .i64 s.tr.z, .slice an nn cn, .slice ai ni ci, .slice aw nw cw]) s :=
  put10_sv hk (fun vd vl vn vs vw e => by simp only [Value.agg.injEq, Array.mk.injEq, List.cons.injEq] at e; rw [← e.2.2.2.2.2.2.2.2.1]; exact hI) ⟨_, _, _, _, _, rfl, D, L, N, I, X⟩

end Go.Proofs.YtoacignhobchbaaGreatDoor

namespace Go.Proofs.YtoacignhobchbaaGreatDoor
open Go.RowKit

/-- nothing of it is longer than memory bears -/
structure Fits (s : Sv) : Prop where
  d : s.fs.length * 48 ≤ 140737488355328
  df : Slim s.fs
  l : s.ts.length * 72 ≤ 140737488355328
  lf : ∀ x ∈ s.ts, x.p.length ≤ 140737488355328 ∧ x.d.length ≤ 140737488355328
  n : s.tr.ns.length * 88 ≤ 140737488355328
  nf : ∀ x ∈ s.tr.ns, x.p.length ≤ 140737488355328 ∧ x.d.length ≤ 140737488355328
  si : s.tr.ss.length ≤ 2147483647
  wa : s.ws.length * 32 ≤ 140737488355328
  wf : ∀ x ∈ s.ws, x.p.length ≤ 140737488355328
/-- the box of a server that is handed in, the result's behind it -/
structure CB (w W : World) (up : Bool) (vd : Value) (id ep : Int) (vl : Value) (dn z : Int) (vn vs vw : Value) : Prop where
  below : Below w.heap.size w W
  s : Box10 W w.heap.size up vd id ep vl dn z vn vs vw
  r : Box10 W (w.heap.size + 1) false (.slice none 0 0) 0 0 (.slice none 0 0) 0 0 (.slice none 0 0) (.slice none 0 0) (.slice none 0 0)
section
variable {w W V : World} {up : Bool} {id ep dn z : Int} {vd vl vn vs vw : Value}
theorem CB.next (h : CB w W up vd id ep vl dn z vn vs vw) (hb : Below W.heap.size W V) : CB w V up vd id ep vl dn z vn vs vw := ⟨nnext h.below hb, h.s.next hb, h.r.next hb⟩
theorem CB.lt (h : CB w W up vd id ep vl dn z vn vs vw) : w.heap.size + 2 ≤ W.heap.size := h.r.lt
theorem CB.put (h : CB w W up vd id ep vl dn z vn vs vw) (j : Nat) (u : Value) {vd' vl' vn' vs' vw' : Value} (e : (#[.bool up, vd, .int .i64 id, .int .i64 ep, vl, .int .i64 dn, .int .i64 z, vn, vs, vw] : Array Value).setIfInBounds j u = #[.bool up, vd', .int .i64 id, .int .i64 ep, vl', .int .i64 dn, .int .i64 z, vn', vs', vw']) : CB w (W.setCell ⟨w.heap.size, j, none⟩ u) up vd' id ep vl' dn z vn' vs' vw' := by
  refine ⟨h.below.setCell (by simp) u, ?_, h.r.other (by omega)⟩
  unfold Box10
  rw [block_set u h.s, e]
theorem CB.start (w : World) (up : Bool) (id ep dn z : Int) (vd vl vn vs vw : Value) : CB w ((w.alloc (.cells #[.bool up, vd, .int .i64 id, .int .i64 ep, vl, .int .i64 dn, .int .i64 z, vn, vs, vw] 36)).alloc (.cells #[.bool false, .slice none 0 0, .int .i64 0, .int .i64 0, .slice none 0 0, .int .i64 0, .int .i64 0, .slice none 0 0, .slice none 0 0, .slice none 0 0] 36)) up vd id ep vl dn z vn vs vw := by
  refine ⟨nnext (allocB _ _) (allocB _ _), (Box10.new w up id ep dn z vd vl vn vs vw).next (allocB _ _), ?_⟩
  have h := Box10.new (w.alloc (.cells #[.bool up, vd, .int .i64 id, .int .i64 ep, vl, .int .i64 dn, .int .i64 z, vn, vs, vw] 36)) false 0 0 0 0 (.slice none 0 0) (.slice none 0 0) (.slice none 0 0) (.slice none 0 0) (.slice none 0 0)
  rw [show (w.alloc (.cells #[.bool up, vd, .int .i64 id, .int .i64 ep, vl, .int .i64 dn, .int .i64 z, vn, vs, vw] 36)).heap.size = w.heap.size + 1 by simp] at h
  exact h
end
theorem own_ne {α : Type} [Lay α] {W : World} {B k : Nat} {v : Value} {xs : List α} (h : OwnS W B v xs) (hk : k < B) : v.ownBlock ≠ some k := by
  rcases h with ⟨rfl, _⟩ | ⟨g, cap, rfl, hB, _⟩
  · simp [Value.ownBlock]
  · simp [Value.ownBlock]; omega
theorem own_set {α : Type} [Lay α] {W : World} {B k j : Nat} {v u : Value} {xs : List α} (h : OwnS W B v xs) (hk : k < B) : OwnS (W.setCell ⟨k, j, none⟩ u) B v xs := h.other (own_ne h hk) u
theorem own_put10 {α : Type} [Lay α] {W : World} {B k : Nat} {v : Value} {xs : List α} (h : OwnS W B v xs) (hk : k < B) (x0 x1 x2 x3 x4 x5 x6 x7 x8 x9 : Value) : OwnS (put10 W k x0 x1 x2 x3 x4 x5 x6 x7 x8 x9) B v xs :=
  own_set (own_set (own_set (own_set (own_set (own_set (own_set (own_set (own_set (own_set h hk) hk) hk) hk) hk) hk) hk) hk) hk) hk
/-- what a copy of a server gives: rows of its own, the log's apart from the others' -/
def GivesC (w : World) (s : Sv) (e : Ending) (w' : World) : Prop :=
  ∃ ad nd cd al cl an cn ai ci aw cw B1 B2, e = .returned (.agg #[.bool s.up, .slice ad nd cd, .int .i64 s.id, .int .i64 s.ep, .slice al s.ts.length cl, .int .i64 s.dn, .int .i64 s.tr.z, .slice an s.tr.ns.length cn, .slice ai s.tr.ss.length ci, .slice aw s.ws.length cw]) ∧
    w.heap.size ≤ B1 ∧ B1 ≤ B2 ∧ OwnS w' w.heap.size (.slice ad nd cd) s.fs ∧ (∀ k, (Value.slice ad nd cd).ownBlock = some k → k < B1) ∧ OwnS w' B1 (.slice al s.ts.length cl) s.ts ∧ (∀ k, (Value.slice al s.ts.length cl).ownBlock = some k → k < B2) ∧
    OwnS w' B2 (.slice an s.tr.ns.length cn) s.tr.ns ∧ OwnS w' B2 (.slice ai s.tr.ss.length ci) s.tr.ss ∧ OwnS w' B2 (.slice aw s.ws.length cw) s.ws ∧ Below w.heap.size w w'

set_option maxRecDepth 10000 in
set_option maxHeartbeats 4000000 in
theorem scopied_any (s : Sv) (v : Value) (w : World) (hv : SvV w v s) (hf : Fits s) :
    Calls Tryz.prog 17 #[v] w (GivesC w s) := by
  obtain ⟨ad, nd, cd, al, cl, an, cn, ai, ci, aw, cw, rfl, d1, l1, n1, s1, k1⟩ := hv.five
  have CD := fun W (hW : Below w.heap.size w W) => eachF_any _ s.fs W (seq_disk.2 (d1.next hW)) hf.d hf.df
  have CL := fun W (hW : Below w.heap.size w W) => eachT_any _ s.ts W (seq_log.2 (l1.next hW)) hf.l hf.lf
  have CN := fun W (hW : Below w.heap.size w W) => eachN_any _ s.tr.ns W (n1.next hW) hf.n hf.nf
  have CI := fun W (hW : Below w.heap.size w W) => iclone_any _ s.tr.ss W (s1.next hW) (hf.si)
  have CW := fun W (hW : Below w.heap.size w W) => eachW_any _ s.ws W (k1.next hW) hf.wa hf.wf
  have HD := hide CD
  have HL := hide CL
  have HN := hide CN
  have HI := hide CI
  have HW := hide CW
  clear CD CL CN CI CW hv d1 l1 n1 s1 k1 hf
  obtain ⟨up, fs, id, ep, ts, dn, ⟨tz, tns, tss⟩, ws⟩ := s
  simp only at *
  go_enter Tryz.func17, Tryz.ntmps17
  go_wp2_with fail
  have X0 := CB.start w up id ep dn tz (.slice ad nd cd) (.slice al ts.length cl) (.slice an tns.length cn) (.slice ai tss.length ci) (.slice aw ws.length cw)
  generalize (w.alloc (.cells #[.bool up, .slice ad nd cd, .int .i64 id, .int .i64 ep, .slice al ts.length cl, .int .i64 dn, .int .i64 tz, .slice an tns.length cn, .slice ai tss.length ci, .slice aw ws.length cw] 36)).alloc (.cells #[.bool false, .slice none 0 0, .int .i64 0, .int .i64 0, .slice none 0 0, .int .i64 0, .int .i64 0, .slice none 0 0, .slice none 0 0, .slice none 0 0] 36) = W0 at *
  have HX0 := hide X0
  obtain ⟨x0, x1, x2, x3, x4, x5, x6, x7, x8, x9⟩ := X0.s.cells
  clear X0
  refine (unhide HD _ (unhide HX0).below).mono ?_
  rintro e w1 ⟨v1, rfl, o1, hb1⟩
  obtain ⟨a1, c1, rfl, _⟩ := o1.slice
  have z1 := (unhide HX0).lt
  have X1 := (unhide HX0).next hb1
  have Y1 := X1.put 1 (.slice a1 fs.length c1) rfl
  obtain ⟨y0, y1, y2, y3, y4, y5, y6, y7, y8, y9⟩ := X1.s.cells
  have g1 := X1.s.froz 1
  have O1 := hide (own_set (j := 1) (u := .slice a1 fs.length c1) o1 (by omega : w.heap.size < _))
  have b1 := hide (fun k hk => OwnS.low o1 k hk)
  have S1 := hide (show w.heap.size + 1 < W0.heap.size by omega)
  have Z1 := hide (show w.heap.size ≤ W0.heap.size by omega)
  have K1 := hide (show W0.heap.size ≤ (w1.setCell ⟨w.heap.size, 1, none⟩ (.slice a1 fs.length c1)).heap.size by have := hb1.size; simp [World.setCell] at *; omega)
  have L1 := hide (show w1.heap.size = (w1.setCell ⟨w.heap.size, 1, none⟩ (.slice a1 fs.length c1)).heap.size by simp [World.setCell])
  clear X1 o1 hb1 z1 HX0 HD x0 x1 x2 x3 x4 x5 x6 x7 x8 x9
  have HX1 := hide Y1
  obtain ⟨x0, x1, x2, x3, x4, x5, x6, x7, x8, x9⟩ := Y1.s.cells
  clear Y1
  go_wp2_with fail
  generalize w1.setCell ⟨w.heap.size, 1, none⟩ (.slice a1 fs.length c1) = V1 at *
  clear y0 y1 y2 y3 y4 y5 y6 y7 y8 y9 g1
  refine (unhide HL _ (unhide HX1).below).mono ?_
  rintro e w2 ⟨v2, rfl, o2, hb2⟩
  obtain ⟨a2, c2, rfl, _⟩ := o2.slice
  have z2 := (unhide HX1).lt
  have X2 := (unhide HX1).next hb2
  have Y2 := X2.put 4 (.slice a2 ts.length c2) rfl
  obtain ⟨y0, y1, y2, y3, y4, y5, y6, y7, y8, y9⟩ := X2.s.cells
  have g2 := X2.s.froz 4
  have O2 := hide (own_set (j := 4) (u := .slice a2 ts.length c2) o2 (by omega : w.heap.size < _))
  have b2 := hide (fun k hk => OwnS.low o2 k hk)
  have P1 := hide (own_set (j := 4) (u := .slice a2 ts.length c2) ((unhide O1).next hb2) (Nat.lt_of_succ_lt (unhide S1)))
  have S2 := hide (show w.heap.size + 1 < V1.heap.size by omega)
  have K2 := hide (show V1.heap.size ≤ (w2.setCell ⟨w.heap.size, 4, none⟩ (.slice a2 ts.length c2)).heap.size by have := hb2.size; simp [World.setCell] at *; omega)
  have L2 := hide (show w2.heap.size = (w2.setCell ⟨w.heap.size, 4, none⟩ (.slice a2 ts.length c2)).heap.size by simp [World.setCell])
  clear X2 o2 hb2 z2 HX1 HL x0 x1 x2 x3 x4 x5 x6 x7 x8 x9 O1
  have O1 := P1
  clear P1
  have HX2 := hide Y2
  obtain ⟨x0, x1, x2, x3, x4, x5, x6, x7, x8, x9⟩ := Y2.s.cells
  clear Y2
  go_wp2_with fail
  generalize w2.setCell ⟨w.heap.size, 4, none⟩ (.slice a2 ts.length c2) = V2 at *
  clear y0 y1 y2 y3 y4 y5 y6 y7 y8 y9 g2
  refine (unhide HN _ (unhide HX2).below).mono ?_
  rintro e w3 ⟨v3, rfl, o3, hb3⟩
  obtain ⟨a3, c3, rfl, _⟩ := o3.slice
  have z3 := (unhide HX2).lt
  have X3 := (unhide HX2).next hb3
  have Y3 := X3.put 7 (.slice a3 tns.length c3) rfl
  obtain ⟨y0, y1, y2, y3, y4, y5, y6, y7, y8, y9⟩ := X3.s.cells
  have g3 := X3.s.froz 7
  have O3 := hide (own_set (j := 7) (u := .slice a3 tns.length c3) o3 (by omega : w.heap.size < _))
  have P1 := hide (own_set (j := 7) (u := .slice a3 tns.length c3) ((unhide O1).next hb3) (Nat.lt_of_succ_lt (unhide S1)))
  have P2 := hide (own_set (j := 7) (u := .slice a3 tns.length c3) ((unhide O2).next hb3) (Nat.lt_of_succ_lt (unhide S2)))
  have S3 := hide (show w.heap.size + 1 < V2.heap.size by omega)
  have K3 := hide (show V2.heap.size ≤ (w3.setCell ⟨w.heap.size, 7, none⟩ (.slice a3 tns.length c3)).heap.size by have := hb3.size; simp [World.setCell] at *; omega)
  have L3 := hide (show w3.heap.size = (w3.setCell ⟨w.heap.size, 7, none⟩ (.slice a3 tns.length c3)).heap.size by simp [World.setCell])
  clear X3 o3 hb3 z3 HX2 HN x0 x1 x2 x3 x4 x5 x6 x7 x8 x9 O1 O2
  have O1 := P1
  have O2 := P2
  clear P1 P2
  have HX3 := hide Y3
  obtain ⟨x0, x1, x2, x3, x4, x5, x6, x7, x8, x9⟩ := Y3.s.cells
  clear Y3
  go_wp2_with fail
  generalize w3.setCell ⟨w.heap.size, 7, none⟩ (.slice a3 tns.length c3) = V3 at *
  clear y0 y1 y2 y3 y4 y5 y6 y7 y8 y9 g3
  refine (unhide HI _ (unhide HX3).below).mono ?_
  rintro e w4 ⟨v4, rfl, o4, hb4⟩
  obtain ⟨a4, c4, rfl, _⟩ := o4.slice
  have z4 := (unhide HX3).lt
  have X4 := (unhide HX3).next hb4
  have Y4 := X4.put 8 (.slice a4 tss.length c4) rfl
  obtain ⟨y0, y1, y2, y3, y4, y5, y6, y7, y8, y9⟩ := X4.s.cells
  have g4 := X4.s.froz 8
  have O4 := hide (own_set (j := 8) (u := .slice a4 tss.length c4) o4 (by omega : w.heap.size < _))
  have P1 := hide (own_set (j := 8) (u := .slice a4 tss.length c4) ((unhide O1).next hb4) (Nat.lt_of_succ_lt (unhide S1)))
  have P2 := hide (own_set (j := 8) (u := .slice a4 tss.length c4) ((unhide O2).next hb4) (Nat.lt_of_succ_lt (unhide S2)))
  have P3 := hide (own_set (j := 8) (u := .slice a4 tss.length c4) ((unhide O3).next hb4) (Nat.lt_of_succ_lt (unhide S3)))
  have S4 := hide (show w.heap.size + 1 < V3.heap.size by omega)
  have K4 := hide (show V3.heap.size ≤ (w4.setCell ⟨w.heap.size, 8, none⟩ (.slice a4 tss.length c4)).heap.size by have := hb4.size; simp [World.setCell] at *; omega)
  have L4 := hide (show w4.heap.size = (w4.setCell ⟨w.heap.size, 8, none⟩ (.slice a4 tss.length c4)).heap.size by simp [World.setCell])
  clear X4 o4 hb4 z4 HX3 HI x0 x1 x2 x3 x4 x5 x6 x7 x8 x9 O1 O2 O3
  have O1 := P1
  have O2 := P2
  have O3 := P3
  clear P1 P2 P3
  have HX4 := hide Y4
  obtain ⟨x0, x1, x2, x3, x4, x5, x6, x7, x8, x9⟩ := Y4.s.cells
  clear Y4
  go_wp2_with fail
  generalize w4.setCell ⟨w.heap.size, 8, none⟩ (.slice a4 tss.length c4) = V4 at *
  clear y0 y1 y2 y3 y4 y5 y6 y7 y8 y9 g4
  refine (unhide HW _ (unhide HX4).below).mono ?_
  rintro e w5 ⟨v5, rfl, o5, hb5⟩
  obtain ⟨a5, c5, rfl, _⟩ := o5.slice
  have z5 := (unhide HX4).lt
  have X5 := (unhide HX4).next hb5
  have Y5 := X5.put 9 (.slice a5 ws.length c5) rfl
  obtain ⟨y0, y1, y2, y3, y4, y5, y6, y7, y8, y9⟩ := X5.s.cells
  have g5 := X5.s.froz 9
  have O5 := hide (own_set (j := 9) (u := .slice a5 ws.length c5) o5 (by omega : w.heap.size < _))
  have P1 := hide (own_set (j := 9) (u := .slice a5 ws.length c5) ((unhide O1).next hb5) (Nat.lt_of_succ_lt (unhide S1)))
  have P2 := hide (own_set (j := 9) (u := .slice a5 ws.length c5) ((unhide O2).next hb5) (Nat.lt_of_succ_lt (unhide S2)))
  have P3 := hide (own_set (j := 9) (u := .slice a5 ws.length c5) ((unhide O3).next hb5) (Nat.lt_of_succ_lt (unhide S3)))
  have P4 := hide (own_set (j := 9) (u := .slice a5 ws.length c5) ((unhide O4).next hb5) (Nat.lt_of_succ_lt (unhide S4)))
  have S5 := hide (show w.heap.size + 1 < V4.heap.size by omega)
  have K5 := hide (show V4.heap.size ≤ (w5.setCell ⟨w.heap.size, 9, none⟩ (.slice a5 ws.length c5)).heap.size by have := hb5.size; simp [World.setCell] at *; omega)
  have L5 := hide (show w5.heap.size = (w5.setCell ⟨w.heap.size, 9, none⟩ (.slice a5 ws.length c5)).heap.size by simp [World.setCell])
  clear X5 o5 hb5 z5 HX4 HW x0 x1 x2 x3 x4 x5 x6 x7 x8 x9 O1 O2 O3 O4
  have O1 := P1
  have O2 := P2
  have O3 := P3
  have O4 := P4
  clear P1 P2 P3 P4
  have HX5 := hide Y5
  obtain ⟨x0, x1, x2, x3, x4, x5, x6, x7, x8, x9⟩ := Y5.s.cells
  obtain ⟨r0, r1, r2, r3, r4, r5, r6, r7, r8, r9⟩ := Y5.r.cells
  have rf0 := Y5.r.froz 0
  have rf1 := Y5.r.froz 1
  have rf2 := Y5.r.froz 2
  have rf3 := Y5.r.froz 3
  have rf4 := Y5.r.froz 4
  have rf5 := Y5.r.froz 5
  have rf6 := Y5.r.froz 6
  have rf7 := Y5.r.froz 7
  have rf8 := Y5.r.froz 8
  have rf9 := Y5.r.froz 9
  have Y5b := Y5.below
  clear Y5
  have HF := hide (put10_below Y5b (by omega : w.heap.size ≤ w.heap.size + 1) (.bool up) (.slice a1 fs.length c1) (.int .i64 id) (.int .i64 ep) (.slice a2 ts.length c2) (.int .i64 dn) (.int .i64 tz) (.slice a3 tns.length c3) (.slice a4 tss.length c4) (.slice a5 ws.length c5))
  have Q1 := hide (own_put10 (unhide O1) (unhide S1) (.bool up) (.slice a1 fs.length c1) (.int .i64 id) (.int .i64 ep) (.slice a2 ts.length c2) (.int .i64 dn) (.int .i64 tz) (.slice a3 tns.length c3) (.slice a4 tss.length c4) (.slice a5 ws.length c5))
  have Q2 := hide (own_put10 (unhide O2) (unhide S2) (.bool up) (.slice a1 fs.length c1) (.int .i64 id) (.int .i64 ep) (.slice a2 ts.length c2) (.int .i64 dn) (.int .i64 tz) (.slice a3 tns.length c3) (.slice a4 tss.length c4) (.slice a5 ws.length c5))
  have Q3 := hide (own_put10 (unhide O3) (unhide S3) (.bool up) (.slice a1 fs.length c1) (.int .i64 id) (.int .i64 ep) (.slice a2 ts.length c2) (.int .i64 dn) (.int .i64 tz) (.slice a3 tns.length c3) (.slice a4 tss.length c4) (.slice a5 ws.length c5))
  have Q4 := hide (own_put10 (unhide O4) (unhide S4) (.bool up) (.slice a1 fs.length c1) (.int .i64 id) (.int .i64 ep) (.slice a2 ts.length c2) (.int .i64 dn) (.int .i64 tz) (.slice a3 tns.length c3) (.slice a4 tss.length c4) (.slice a5 ws.length c5))
  have Q5 := hide (own_put10 (unhide O5) (unhide S5) (.bool up) (.slice a1 fs.length c1) (.int .i64 id) (.int .i64 ep) (.slice a2 ts.length c2) (.int .i64 dn) (.int .i64 tz) (.slice a3 tns.length c3) (.slice a4 tss.length c4) (.slice a5 ws.length c5))
  clear Y5b O1 O2 O3 O4 O5
  go_wp2_with fail
  refine bodyPost_ret (v := .agg #[.bool up, .slice a1 fs.length c1, .int .i64 id, .int .i64 ep, .slice a2 ts.length c2, .int .i64 dn, .int .i64 tz, .slice a3 tns.length c3, .slice a4 tss.length c4, .slice a5 ws.length c5]) (by simp [results, Tryz.results17, go_sem, r0, r1, r2, r3, r4, r5, r6, r7, r8, r9]) rfl ?_
  have k1 := unhide K1
  have k2 := unhide K2
  have k3 := unhide K3
  have k4 := unhide K4
  have z1 := unhide Z1
  exact ⟨a1, fs.length, c1, a2, c2, a3, c3, a4, c4, a5, c5, V1.heap.size, V2.heap.size, rfl, by omega, k2, (unhide Q1).lower z1, fun k hk => (unhide L1) ▸ unhide b1 k hk, unhide Q2, fun k hk => (unhide L2) ▸ unhide b2 k hk, unhide Q3, (unhide Q4).lower k3, (unhide Q5).lower (Nat.le_trans k3 k4), unhide HF⟩

end Go.Proofs.YtoacignhobchbaaGreatDoor
