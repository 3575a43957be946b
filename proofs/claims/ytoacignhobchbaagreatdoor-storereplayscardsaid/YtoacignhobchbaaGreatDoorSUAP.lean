/-
  aviaryref.Follow, where it goes on: the walk.
-/
import Derived.Test.YtoacignhobchbaaGreatDoorSUM
import Derived.Test.YtoacignhobchbaaGreatDoorSUE
import Derived.Deep.LoopGhost
import Derived.Test.YtoacignhobchbaaGreatDoorSUAM
import Derived.Test.YtoacignhobchbaaGreatDoorSUAO
import Derived.Test.YtoacignhobchbaaGreatDoorSUX
import Derived.Test.YtoacignhobchbaaGreatDoorSUAC
import Derived.Test.YtoacignhobchbaaGreatDoorSUU
import Derived.Test.YtoacignhobchbaaGreatDoorSUC
import Derived.Lib.ConvBytes
import Derived.Lib.Strings
import Derived.Laws.StructEq
namespace Go.Proofs.YtoacignhobchbaaGreatDoor
open Go.RowKit

theorem OwnS.cap {α : Type} [Lay α] {W : World} {B n c : Nat} {a : Option Addr} {xs : List α} (h : OwnS W B (.slice a n c) xs) : xs.length ≤ c := by
  rcases h with ⟨h1, h2⟩ | ⟨g, cap, h1, _, h2⟩
  · subst h2; simp
  · simp only [Value.slice.injEq] at h1
    obtain ⟨_, _, rfl⟩ := h1
    exact h2.le

/-- the box of the server that grows, the result's behind it -/
def RF (w W : World) (s : Sv) : Prop := ∃ ad nd cd al nl cl an nn cn ai ni ci aw nw cw, CB w W s.up (.slice ad nd cd) s.id s.ep (.slice al nl cl) s.dn s.tr.z (.slice an nn cn) (.slice ai ni ci) (.slice aw nw cw) ∧ Away (.slice ai ni ci) (w.heap.size + 1) ∧
  SvV W (.agg #[.bool s.up, .slice ad nd cd, .int .i64 s.id, .int .i64 s.ep, .slice al nl cl, .int .i64 s.dn, .int .i64 s.tr.z, .slice an nn cn, .slice ai ni ci, .slice aw nw cw]) s
theorem RF.next {w W V : World} {s : Sv} (h : RF w W s) (hb : Below W.heap.size W V) : RF w V s := by
  obtain ⟨ad, nd, cd, al, nl, cl, an, nn, cn, ai, ni, ci, aw, nw, cw, h1, h3, h2⟩ := h
  exact ⟨ad, nd, cd, al, nl, cl, an, nn, cn, ai, ni, ci, aw, nw, cw, h1.next hb, h3, h2.next hb⟩
theorem LogV.take {w : World} {a : Option Addr} {c k : Nat} {ts : List WTxn} (h : LogV w (.slice a ts.length c) ts) (hk : k ≤ ts.length) : LogV w (.slice a k c) (ts.take k) := by
  rcases h with ⟨a', cap, e, rfl, hc⟩ | ⟨b, off, cap, e, h1, h2, h3, h0, h4⟩
  · simp only [Value.slice.injEq] at e
    obtain ⟨rfl, _, rfl⟩ := e
    obtain rfl : k = 0 := by simpa using hk
    exact .inl ⟨a, c, rfl, by simp, hc⟩
  · simp only [Value.slice.injEq] at e
    obtain ⟨rfl, _, rfl⟩ := e
    by_cases k0 : k = 0
    · subst k0
      exact .inl ⟨_, c, rfl, by simp, h2⟩
    · have hl : (ts.take k).length = k := by simp; omega
      refine .inr ⟨b, off, c, by rw [hl], by omega, h2, h3, by intro e; rw [e] at hl; simp at hl; omega, fun j v hj => h4 j v ?_⟩
      have e : ts = ts.take k ++ ts.drop k := (List.take_append_drop k ts).symm
      rw [e, cellsT_append, List.getElem?_append_left (List.getElem?_eq_some_iff.1 hj).1]
      exact hj
theorem CB.put10 {w W : World} {up0 : Bool} {id0 ep0 dn0 z0 : Int} {vd0 vl0 vn0 vs0 vw0 : Value} (h : CB w W up0 vd0 id0 ep0 vl0 dn0 z0 vn0 vs0 vw0) (up : Bool) (id ep dn z : Int) (vd vl vn vs vw : Value) :
    CB w (Go.Proofs.YtoacignhobchbaaGreatDoor.put10 W w.heap.size (.bool up) vd (.int .i64 id) (.int .i64 ep) vl (.int .i64 dn) (.int .i64 z) vn vs vw) up vd id ep vl dn z vn vs vw := by
  refine ⟨put10_below h.below (Nat.le_refl _) _ _ _ _ _ _ _ _ _ _, ?_, ?_⟩
  · unfold Box10 Go.Proofs.YtoacignhobchbaaGreatDoor.put10
    have e0 : ((W).setCell ⟨w.heap.size, 0, none⟩ (.bool up)).heap[w.heap.size]? = some (.cells #[.bool up, vd0, .int .i64 id0, .int .i64 ep0, vl0, .int .i64 dn0, .int .i64 z0, vn0, vs0, vw0] 36 (0, 0)) := block_set (j := 0) (.bool up) h.s
    have e1 : (((W).setCell ⟨w.heap.size, 0, none⟩ (.bool up)).setCell ⟨w.heap.size, 1, none⟩ (vd)).heap[w.heap.size]? = some (.cells #[.bool up, vd, .int .i64 id0, .int .i64 ep0, vl0, .int .i64 dn0, .int .i64 z0, vn0, vs0, vw0] 36 (0, 0)) := block_set (j := 1) (vd) e0
    have e2 : ((((W).setCell ⟨w.heap.size, 0, none⟩ (.bool up)).setCell ⟨w.heap.size, 1, none⟩ (vd)).setCell ⟨w.heap.size, 2, none⟩ (.int .i64 id)).heap[w.heap.size]? = some (.cells #[.bool up, vd, .int .i64 id, .int .i64 ep0, vl0, .int .i64 dn0, .int .i64 z0, vn0, vs0, vw0] 36 (0, 0)) := block_set (j := 2) (.int .i64 id) e1
    have e3 : (((((W).setCell ⟨w.heap.size, 0, none⟩ (.bool up)).setCell ⟨w.heap.size, 1, none⟩ (vd)).setCell ⟨w.heap.size, 2, none⟩ (.int .i64 id)).setCell ⟨w.heap.size, 3, none⟩ (.int .i64 ep)).heap[w.heap.size]? = some (.cells #[.bool up, vd, .int .i64 id, .int .i64 ep, vl0, .int .i64 dn0, .int .i64 z0, vn0, vs0, vw0] 36 (0, 0)) := block_set (j := 3) (.int .i64 ep) e2
    have e4 : ((((((W).setCell ⟨w.heap.size, 0, none⟩ (.bool up)).setCell ⟨w.heap.size, 1, none⟩ (vd)).setCell ⟨w.heap.size, 2, none⟩ (.int .i64 id)).setCell ⟨w.heap.size, 3, none⟩ (.int .i64 ep)).setCell ⟨w.heap.size, 4, none⟩ (vl)).heap[w.heap.size]? = some (.cells #[.bool up, vd, .int .i64 id, .int .i64 ep, vl, .int .i64 dn0, .int .i64 z0, vn0, vs0, vw0] 36 (0, 0)) := block_set (j := 4) (vl) e3
    have e5 : (((((((W).setCell ⟨w.heap.size, 0, none⟩ (.bool up)).setCell ⟨w.heap.size, 1, none⟩ (vd)).setCell ⟨w.heap.size, 2, none⟩ (.int .i64 id)).setCell ⟨w.heap.size, 3, none⟩ (.int .i64 ep)).setCell ⟨w.heap.size, 4, none⟩ (vl)).setCell ⟨w.heap.size, 5, none⟩ (.int .i64 dn)).heap[w.heap.size]? = some (.cells #[.bool up, vd, .int .i64 id, .int .i64 ep, vl, .int .i64 dn, .int .i64 z0, vn0, vs0, vw0] 36 (0, 0)) := block_set (j := 5) (.int .i64 dn) e4
    have e6 : ((((((((W).setCell ⟨w.heap.size, 0, none⟩ (.bool up)).setCell ⟨w.heap.size, 1, none⟩ (vd)).setCell ⟨w.heap.size, 2, none⟩ (.int .i64 id)).setCell ⟨w.heap.size, 3, none⟩ (.int .i64 ep)).setCell ⟨w.heap.size, 4, none⟩ (vl)).setCell ⟨w.heap.size, 5, none⟩ (.int .i64 dn)).setCell ⟨w.heap.size, 6, none⟩ (.int .i64 z)).heap[w.heap.size]? = some (.cells #[.bool up, vd, .int .i64 id, .int .i64 ep, vl, .int .i64 dn, .int .i64 z, vn0, vs0, vw0] 36 (0, 0)) := block_set (j := 6) (.int .i64 z) e5
    have e7 : (((((((((W).setCell ⟨w.heap.size, 0, none⟩ (.bool up)).setCell ⟨w.heap.size, 1, none⟩ (vd)).setCell ⟨w.heap.size, 2, none⟩ (.int .i64 id)).setCell ⟨w.heap.size, 3, none⟩ (.int .i64 ep)).setCell ⟨w.heap.size, 4, none⟩ (vl)).setCell ⟨w.heap.size, 5, none⟩ (.int .i64 dn)).setCell ⟨w.heap.size, 6, none⟩ (.int .i64 z)).setCell ⟨w.heap.size, 7, none⟩ (vn)).heap[w.heap.size]? = some (.cells #[.bool up, vd, .int .i64 id, .int .i64 ep, vl, .int .i64 dn, .int .i64 z, vn, vs0, vw0] 36 (0, 0)) := block_set (j := 7) (vn) e6
    have e8 : ((((((((((W).setCell ⟨w.heap.size, 0, none⟩ (.bool up)).setCell ⟨w.heap.size, 1, none⟩ (vd)).setCell ⟨w.heap.size, 2, none⟩ (.int .i64 id)).setCell ⟨w.heap.size, 3, none⟩ (.int .i64 ep)).setCell ⟨w.heap.size, 4, none⟩ (vl)).setCell ⟨w.heap.size, 5, none⟩ (.int .i64 dn)).setCell ⟨w.heap.size, 6, none⟩ (.int .i64 z)).setCell ⟨w.heap.size, 7, none⟩ (vn)).setCell ⟨w.heap.size, 8, none⟩ (vs)).heap[w.heap.size]? = some (.cells #[.bool up, vd, .int .i64 id, .int .i64 ep, vl, .int .i64 dn, .int .i64 z, vn, vs, vw0] 36 (0, 0)) := block_set (j := 8) (vs) e7
    have e9 : (((((((((((W).setCell ⟨w.heap.size, 0, none⟩ (.bool up)).setCell ⟨w.heap.size, 1, none⟩ (vd)).setCell ⟨w.heap.size, 2, none⟩ (.int .i64 id)).setCell ⟨w.heap.size, 3, none⟩ (.int .i64 ep)).setCell ⟨w.heap.size, 4, none⟩ (vl)).setCell ⟨w.heap.size, 5, none⟩ (.int .i64 dn)).setCell ⟨w.heap.size, 6, none⟩ (.int .i64 z)).setCell ⟨w.heap.size, 7, none⟩ (vn)).setCell ⟨w.heap.size, 8, none⟩ (vs)).setCell ⟨w.heap.size, 9, none⟩ (vw)).heap[w.heap.size]? = some (.cells #[.bool up, vd, .int .i64 id, .int .i64 ep, vl, .int .i64 dn, .int .i64 z, vn, vs, vw] 36 (0, 0)) := block_set (j := 9) (vw) e8
    exact e9
  · unfold Go.Proofs.YtoacignhobchbaaGreatDoor.put10
    exact (Box10.other (Box10.other (Box10.other (Box10.other (Box10.other (Box10.other (Box10.other (Box10.other (Box10.other (Box10.other h.r (by omega)) (by omega)) (by omega)) (by omega)) (by omega)) (by omega)) (by omega)) (by omega)) (by omega)) (by omega))
theorem LogV.drop {w : World} {a : Option Addr} {c k : Nat} {l : List WTxn} (h : LogV w (.slice a l.length c) l) (hk : k ≤ l.length) :
    (c = k → LogV w (.slice a (l.length - k) 0) (l.drop k)) ∧ (c ≠ k → LogV w (.slice (Option.map (fun x => x.add (k * 7)) a) (l.length - k) (c - k)) (l.drop k)) := by
  have hlen : (l.drop k).length = l.length - k := by simp
  rcases h with ⟨a', cap, e, rfl, hc⟩ | ⟨b, off, cap, e, h1, h2, h3, h0, h4⟩
  · simp only [Value.slice.injEq] at e
    obtain ⟨rfl, _, rfl⟩ := e
    exact ⟨fun _ => .inl ⟨a, 0, by simp, by simp, Nat.zero_le _⟩, fun _ => .inl ⟨Option.map (fun x => x.add (k * 7)) a, c - k, by simp, by simp, by omega⟩⟩
  · simp only [Value.slice.injEq] at e
    obtain ⟨rfl, _, rfl⟩ := e
    by_cases hd : l.drop k = []
    · have h0' : l.length - k = 0 := by rw [← hlen, hd]; rfl
      exact ⟨fun _ => .inl ⟨_, _, by rw [h0'], hd, by simp⟩, fun _ => .inl ⟨_, _, by rw [h0'], hd, by omega⟩⟩
    · have hlt : 0 < l.length - k := by rw [← hlen]; exact List.length_pos_iff.2 hd
      refine ⟨fun e => by omega, fun _ => .inr ⟨b, off + k * 7, c - k, by rw [hlen, Option.map_some, Addr.add_lit], by omega, by omega, h3, hd, fun j v hj => ?_⟩⟩
      have e : cellsT l = cellsT (l.take k) ++ cellsT (l.drop k) := by rw [← cellsT_append, List.take_append_drop]
      have hl7 : (cellsT (l.take k)).length = k * 7 := by rw [cellsT_length]; simp; omega
      have := h4 (k * 7 + j) v (by rw [e, List.getElem?_append_right (by omega), hl7, Nat.add_sub_cancel_left]; exact hj)
      rwa [← Nat.add_assoc] at this
end Go.Proofs.YtoacignhobchbaaGreatDoor
