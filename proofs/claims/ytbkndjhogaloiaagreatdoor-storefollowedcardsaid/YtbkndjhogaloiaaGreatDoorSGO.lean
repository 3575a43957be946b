/-
  store.each at files, transactions, nodes and watches: the walks.
  store.copied: the walk.
-/
import Derived.Test.YtbkndjhogaloiaaGreatDoorSGN
import Derived.Test.YtbkndjhogaloiaaGreatDoorSGJ
import Derived.Test.YtbkndjhogaloiaaGreatDoorSGL
namespace Go.Proofs.YtbkndjhogaloiaaGreatDoor
open Go.RowKit

set_option maxRecDepth 10000 in
set_option maxHeartbeats 2000000 in
theorem eachF_any (v : Value) (xs : List DF) (w : World) (hv : SeqV w v xs) (hl : xs.length * 48 ≤ 140737488355328) (hs : ∀ x ∈ xs, x.n.length ≤ 140737488355328 ∧ x.s.length ≤ 140737488355328 ∧ x.t.length ≤ 140737488355328) :
    Calls Tryz.prog 31 #[v, .func (.func 32) #[] #[]] w fun e w' => ∃ v', e = .returned v' ∧ OwnS w' w.heap.size v' xs ∧ Below w.heap.size w w' := by
  have CC := fun W (hW : Below w.heap.size w W) => clF_any v xs W (hv.next hW) hl
  have HO : Hid (∀ x ∈ xs, ∀ W, Calls Tryz.prog 32 #[.agg #[.string ⟨x.n.toArray⟩, .string ⟨x.s.toArray⟩, .string ⟨x.t.toArray⟩]] W fun e w' => e = .returned (.agg #[.string ⟨x.n.toArray⟩, .string ⟨x.s.toArray⟩, .string ⟨x.t.toArray⟩]) ∧ Below W.heap.size W w') := hide fun x hm W => by
    have hx := hs x hm
    exact ownF_any x W hx.1 hx.2.1 hx.2.2
  obtain ⟨a, c, rfl⟩ := seq_slice hv
  clear hv hs
  go_enter Tryz.func31, Tryz.ntmps31
  go_wp2_with fail
  refine (CC _ (Below.refl _ _)).mono ?_
  rintro e w1 ⟨v', rfl, ho, hb1⟩
  have HB1 := hide hb1
  clear CC hb1
  rcases ho with ⟨rfl, rfl⟩ | ⟨g, cap, rfl, hg, ho⟩
  · go_wp2_with fail
    go_loopg [11] 1 (fun _ s wr => s = .int .i64 0 ∧ wr = w1)
    case atStart => exact ⟨rfl, rfl⟩
    case round =>
      obtain ⟨rfl, rfl⟩ := hrel
      go_wp2_with fail
      go_ret
      exact ⟨_, rfl, .inl ⟨rfl, rfl⟩, unhide HB1⟩
  · have HW := hide ho
    have hgl := ho.lt
    clear ho
    go_wp2_with fail
    go_loopg [11] xs.length (fun kx s wr => ∃ k : Nat, s = .int .i64 k ∧ k ≤ xs.length ∧ xs.length - k ≤ kx ∧ Hid (Below w1.heap.size w1 wr))
    case atStart => exact ⟨0, rfl, Nat.zero_le _, by omega, hide (Below.refl _ _)⟩
    case round =>
      obtain ⟨k, rfl, hk, hkx, hB⟩ := hrel
      by_cases hlt : k < xs.length
      · obtain ⟨x, hx⟩ : ∃ x, xs[k]? = some x := ⟨_, List.getElem?_eq_getElem hlt⟩
        have o := (unhide HW).next (unhide hB)
        have hgl2 := o.lt
        have e0 : wr.cell? ⟨g, k * 3, none⟩ = some (.string ⟨x.n.toArray⟩) := by have := o.row (k * 3 + 0) _ (cellsL_get xs k x hx 0 (by decide)); simpa using this
        have f0 := o.frozen (k * 3)
        have e1 : wr.cell? ⟨g, k * 3 + 1, none⟩ = some (.string ⟨x.s.toArray⟩) := by have := o.row (k * 3 + 1) _ (cellsL_get xs k x hx 1 (by decide)); simpa using this
        have f1 := o.frozen (k * 3 + 1)
        have e2 : wr.cell? ⟨g, k * 3 + 2, none⟩ = some (.string ⟨x.t.toArray⟩) := by have := o.row (k * 3 + 2) _ (cellsL_get xs k x hx 2 (by decide)); simpa using this
        have f2 := o.frozen (k * 3 + 2)
        have CX := unhide HO x (List.mem_of_getElem? hx)
        clear hx o
        obtain ⟨yn, ys, yt⟩ := x
        simp only at e0 e1 e2 CX
        go_wp2_with fail
        refine (CX _).mono ?_
        rintro e w2 ⟨rfl, hb2⟩
        have d0 := (hb2.cell (p := ⟨g, k * 3, none⟩) hgl2).trans e0
        have g0 := (hb2.frozen (p := ⟨g, k * 3, none⟩) hgl2).trans f0
        have s0 := nset_same d0
        have d1 := (hb2.cell (p := ⟨g, k * 3 + 1, none⟩) hgl2).trans e1
        have g1 := (hb2.frozen (p := ⟨g, k * 3 + 1, none⟩) hgl2).trans f1
        have s1 := nset_same d1
        have d2 := (hb2.cell (p := ⟨g, k * 3 + 2, none⟩) hgl2).trans e2
        have g2 := (hb2.frozen (p := ⟨g, k * 3 + 2, none⟩) hgl2).trans f2
        have s2 := nset_same d2
        have hB2 := hide (nnext (unhide hB) hb2)
        clear hb2 CX e0 f0 e1 f1 e2 f2
        go_wp2_with fail
        go_roundg (xs.length - (k + 1))
        case measure => omega
        case rel => exact ⟨k + 1, rfl, by omega, Nat.le_refl _, hB2⟩
      · go_wp2_with fail
        go_ret
        exact ⟨_, rfl, .inr ⟨g, cap, rfl, hg, (unhide HW).next (unhide hB)⟩, nnext (unhide HB1) (unhide hB)⟩

set_option maxRecDepth 10000 in
set_option maxHeartbeats 2000000 in
theorem eachT_any (v : Value) (xs : List WTxn) (w : World) (hv : SeqV w v xs) (hl : xs.length * 72 ≤ 140737488355328) (hs : ∀ x ∈ xs, x.p.length ≤ 140737488355328 ∧ x.d.length ≤ 140737488355328) :
    Calls Tryz.prog 33 #[v, .func (.func 34) #[] #[]] w fun e w' => ∃ v', e = .returned v' ∧ OwnS w' w.heap.size v' xs ∧ Below w.heap.size w w' := by
  have CC := fun W (hW : Below w.heap.size w W) => clT_any v xs W (hv.next hW) hl
  have HO : Hid (∀ x ∈ xs, ∀ W, Calls Tryz.prog 34 #[.agg #[.int .i64 x.z, .int .i64 x.o, .int .i64 x.s, .string ⟨x.p.toArray⟩, .string ⟨x.d.toArray⟩, .int .i64 x.v, .int .i64 x.w]] W fun e w' => e = .returned (.agg #[.int .i64 x.z, .int .i64 x.o, .int .i64 x.s, .string ⟨x.p.toArray⟩, .string ⟨x.d.toArray⟩, .int .i64 x.v, .int .i64 x.w]) ∧ Below W.heap.size W w') := hide fun x hm W => by
    have hx := hs x hm
    exact ownT_any x W hx.1 hx.2
  obtain ⟨a, c, rfl⟩ := seq_slice hv
  clear hv hs
  go_enter Tryz.func33, Tryz.ntmps33
  go_wp2_with fail
  refine (CC _ (Below.refl _ _)).mono ?_
  rintro e w1 ⟨v', rfl, ho, hb1⟩
  have HB1 := hide hb1
  clear CC hb1
  rcases ho with ⟨rfl, rfl⟩ | ⟨g, cap, rfl, hg, ho⟩
  · go_wp2_with fail
    go_loopg [11] 1 (fun _ s wr => s = .int .i64 0 ∧ wr = w1)
    case atStart => exact ⟨rfl, rfl⟩
    case round =>
      obtain ⟨rfl, rfl⟩ := hrel
      go_wp2_with fail
      go_ret
      exact ⟨_, rfl, .inl ⟨rfl, rfl⟩, unhide HB1⟩
  · have HW := hide ho
    have hgl := ho.lt
    clear ho
    go_wp2_with fail
    go_loopg [11] xs.length (fun kx s wr => ∃ k : Nat, s = .int .i64 k ∧ k ≤ xs.length ∧ xs.length - k ≤ kx ∧ Hid (Below w1.heap.size w1 wr))
    case atStart => exact ⟨0, rfl, Nat.zero_le _, by omega, hide (Below.refl _ _)⟩
    case round =>
      obtain ⟨k, rfl, hk, hkx, hB⟩ := hrel
      by_cases hlt : k < xs.length
      · obtain ⟨x, hx⟩ : ∃ x, xs[k]? = some x := ⟨_, List.getElem?_eq_getElem hlt⟩
        have o := (unhide HW).next (unhide hB)
        have hgl2 := o.lt
        have e0 : wr.cell? ⟨g, k * 7, none⟩ = some (.int .i64 x.z) := by have := o.row (k * 7 + 0) _ (cellsL_get xs k x hx 0 (by decide)); simpa using this
        have f0 := o.frozen (k * 7)
        have e1 : wr.cell? ⟨g, k * 7 + 1, none⟩ = some (.int .i64 x.o) := by have := o.row (k * 7 + 1) _ (cellsL_get xs k x hx 1 (by decide)); simpa using this
        have f1 := o.frozen (k * 7 + 1)
        have e2 : wr.cell? ⟨g, k * 7 + 2, none⟩ = some (.int .i64 x.s) := by have := o.row (k * 7 + 2) _ (cellsL_get xs k x hx 2 (by decide)); simpa using this
        have f2 := o.frozen (k * 7 + 2)
        have e3 : wr.cell? ⟨g, k * 7 + 3, none⟩ = some (.string ⟨x.p.toArray⟩) := by have := o.row (k * 7 + 3) _ (cellsL_get xs k x hx 3 (by decide)); simpa using this
        have f3 := o.frozen (k * 7 + 3)
        have e4 : wr.cell? ⟨g, k * 7 + 4, none⟩ = some (.string ⟨x.d.toArray⟩) := by have := o.row (k * 7 + 4) _ (cellsL_get xs k x hx 4 (by decide)); simpa using this
        have f4 := o.frozen (k * 7 + 4)
        have e5 : wr.cell? ⟨g, k * 7 + 5, none⟩ = some (.int .i64 x.v) := by have := o.row (k * 7 + 5) _ (cellsL_get xs k x hx 5 (by decide)); simpa using this
        have f5 := o.frozen (k * 7 + 5)
        have e6 : wr.cell? ⟨g, k * 7 + 6, none⟩ = some (.int .i64 x.w) := by have := o.row (k * 7 + 6) _ (cellsL_get xs k x hx 6 (by decide)); simpa using this
        have f6 := o.frozen (k * 7 + 6)
        have CX := unhide HO x (List.mem_of_getElem? hx)
        clear hx o
        obtain ⟨yz, yo, ys, yp, yd, yv, yw⟩ := x
        simp only at e0 e1 e2 e3 e4 e5 e6 CX
        go_wp2_with fail
        refine (CX _).mono ?_
        rintro e w2 ⟨rfl, hb2⟩
        have d0 := (hb2.cell (p := ⟨g, k * 7, none⟩) hgl2).trans e0
        have g0 := (hb2.frozen (p := ⟨g, k * 7, none⟩) hgl2).trans f0
        have s0 := nset_same d0
        have d1 := (hb2.cell (p := ⟨g, k * 7 + 1, none⟩) hgl2).trans e1
        have g1 := (hb2.frozen (p := ⟨g, k * 7 + 1, none⟩) hgl2).trans f1
        have s1 := nset_same d1
        have d2 := (hb2.cell (p := ⟨g, k * 7 + 2, none⟩) hgl2).trans e2
        have g2 := (hb2.frozen (p := ⟨g, k * 7 + 2, none⟩) hgl2).trans f2
        have s2 := nset_same d2
        have d3 := (hb2.cell (p := ⟨g, k * 7 + 3, none⟩) hgl2).trans e3
        have g3 := (hb2.frozen (p := ⟨g, k * 7 + 3, none⟩) hgl2).trans f3
        have s3 := nset_same d3
        have d4 := (hb2.cell (p := ⟨g, k * 7 + 4, none⟩) hgl2).trans e4
        have g4 := (hb2.frozen (p := ⟨g, k * 7 + 4, none⟩) hgl2).trans f4
        have s4 := nset_same d4
        have d5 := (hb2.cell (p := ⟨g, k * 7 + 5, none⟩) hgl2).trans e5
        have g5 := (hb2.frozen (p := ⟨g, k * 7 + 5, none⟩) hgl2).trans f5
        have s5 := nset_same d5
        have d6 := (hb2.cell (p := ⟨g, k * 7 + 6, none⟩) hgl2).trans e6
        have g6 := (hb2.frozen (p := ⟨g, k * 7 + 6, none⟩) hgl2).trans f6
        have s6 := nset_same d6
        have hB2 := hide (nnext (unhide hB) hb2)
        clear hb2 CX e0 f0 e1 f1 e2 f2 e3 f3 e4 f4 e5 f5 e6 f6
        go_wp2_with fail
        go_roundg (xs.length - (k + 1))
        case measure => omega
        case rel => exact ⟨k + 1, rfl, by omega, Nat.le_refl _, hB2⟩
      · go_wp2_with fail
        go_ret
        exact ⟨_, rfl, .inr ⟨g, cap, rfl, hg, (unhide HW).next (unhide hB)⟩, nnext (unhide HB1) (unhide hB)⟩

set_option maxRecDepth 10000 in
set_option maxHeartbeats 2000000 in
theorem eachN_any (v : Value) (xs : List Nd) (w : World) (hv : SeqV w v xs) (hl : xs.length * 88 ≤ 140737488355328) (hs : ∀ x ∈ xs, x.p.length ≤ 140737488355328 ∧ x.d.length ≤ 140737488355328) :
    Calls Tryz.prog 35 #[v, .func (.func 36) #[] #[]] w fun e w' => ∃ v', e = .returned v' ∧ OwnS w' w.heap.size v' xs ∧ Below w.heap.size w w' := by
  have CC := fun W (hW : Below w.heap.size w W) => clN_any v xs W (hv.next hW) hl
  have HO : Hid (∀ x ∈ xs, ∀ W, Calls Tryz.prog 36 #[.agg #[.string ⟨x.p.toArray⟩, .string ⟨x.d.toArray⟩, .int .i64 x.c, .int .i64 x.m, .int .i64 x.q, .int .i64 x.v, .int .i64 x.k, .int .i64 x.o, .int .i64 x.n]] W fun e w' => e = .returned (.agg #[.string ⟨x.p.toArray⟩, .string ⟨x.d.toArray⟩, .int .i64 x.c, .int .i64 x.m, .int .i64 x.q, .int .i64 x.v, .int .i64 x.k, .int .i64 x.o, .int .i64 x.n]) ∧ Below W.heap.size W w') := hide fun x hm W => by
    have hx := hs x hm
    exact ownN_any x W hx.1 hx.2
  obtain ⟨a, c, rfl⟩ := seq_slice hv
  clear hv hs
  go_enter Tryz.func35, Tryz.ntmps35
  go_wp2_with fail
  refine (CC _ (Below.refl _ _)).mono ?_
  rintro e w1 ⟨v', rfl, ho, hb1⟩
  have HB1 := hide hb1
  clear CC hb1
  rcases ho with ⟨rfl, rfl⟩ | ⟨g, cap, rfl, hg, ho⟩
  · go_wp2_with fail
    go_loopg [11] 1 (fun _ s wr => s = .int .i64 0 ∧ wr = w1)
    case atStart => exact ⟨rfl, rfl⟩
    case round =>
      obtain ⟨rfl, rfl⟩ := hrel
      go_wp2_with fail
      go_ret
      exact ⟨_, rfl, .inl ⟨rfl, rfl⟩, unhide HB1⟩
  · have HW := hide ho
    have hgl := ho.lt
    clear ho
    go_wp2_with fail
    go_loopg [11] xs.length (fun kx s wr => ∃ k : Nat, s = .int .i64 k ∧ k ≤ xs.length ∧ xs.length - k ≤ kx ∧ Hid (Below w1.heap.size w1 wr))
    case atStart => exact ⟨0, rfl, Nat.zero_le _, by omega, hide (Below.refl _ _)⟩
    case round =>
      obtain ⟨k, rfl, hk, hkx, hB⟩ := hrel
      by_cases hlt : k < xs.length
      · obtain ⟨x, hx⟩ : ∃ x, xs[k]? = some x := ⟨_, List.getElem?_eq_getElem hlt⟩
        have o := (unhide HW).next (unhide hB)
        have hgl2 := o.lt
        have e0 : wr.cell? ⟨g, k * 9, none⟩ = some (.string ⟨x.p.toArray⟩) := by have := o.row (k * 9 + 0) _ (cellsL_get xs k x hx 0 (by decide)); simpa using this
        have f0 := o.frozen (k * 9)
        have e1 : wr.cell? ⟨g, k * 9 + 1, none⟩ = some (.string ⟨x.d.toArray⟩) := by have := o.row (k * 9 + 1) _ (cellsL_get xs k x hx 1 (by decide)); simpa using this
        have f1 := o.frozen (k * 9 + 1)
        have e2 : wr.cell? ⟨g, k * 9 + 2, none⟩ = some (.int .i64 x.c) := by have := o.row (k * 9 + 2) _ (cellsL_get xs k x hx 2 (by decide)); simpa using this
        have f2 := o.frozen (k * 9 + 2)
        have e3 : wr.cell? ⟨g, k * 9 + 3, none⟩ = some (.int .i64 x.m) := by have := o.row (k * 9 + 3) _ (cellsL_get xs k x hx 3 (by decide)); simpa using this
        have f3 := o.frozen (k * 9 + 3)
        have e4 : wr.cell? ⟨g, k * 9 + 4, none⟩ = some (.int .i64 x.q) := by have := o.row (k * 9 + 4) _ (cellsL_get xs k x hx 4 (by decide)); simpa using this
        have f4 := o.frozen (k * 9 + 4)
        have e5 : wr.cell? ⟨g, k * 9 + 5, none⟩ = some (.int .i64 x.v) := by have := o.row (k * 9 + 5) _ (cellsL_get xs k x hx 5 (by decide)); simpa using this
        have f5 := o.frozen (k * 9 + 5)
        have e6 : wr.cell? ⟨g, k * 9 + 6, none⟩ = some (.int .i64 x.k) := by have := o.row (k * 9 + 6) _ (cellsL_get xs k x hx 6 (by decide)); simpa using this
        have f6 := o.frozen (k * 9 + 6)
        have e7 : wr.cell? ⟨g, k * 9 + 7, none⟩ = some (.int .i64 x.o) := by have := o.row (k * 9 + 7) _ (cellsL_get xs k x hx 7 (by decide)); simpa using this
        have f7 := o.frozen (k * 9 + 7)
        have e8 : wr.cell? ⟨g, k * 9 + 8, none⟩ = some (.int .i64 x.n) := by have := o.row (k * 9 + 8) _ (cellsL_get xs k x hx 8 (by decide)); simpa using this
        have f8 := o.frozen (k * 9 + 8)
        have CX := unhide HO x (List.mem_of_getElem? hx)
        clear hx o
        obtain ⟨yp, yd, yc, ym, yq, yv, yk, yo, yn⟩ := x
        simp only at e0 e1 e2 e3 e4 e5 e6 e7 e8 CX
        go_wp2_with fail
        refine (CX _).mono ?_
        rintro e w2 ⟨rfl, hb2⟩
        have d0 := (hb2.cell (p := ⟨g, k * 9, none⟩) hgl2).trans e0
        have g0 := (hb2.frozen (p := ⟨g, k * 9, none⟩) hgl2).trans f0
        have s0 := nset_same d0
        have d1 := (hb2.cell (p := ⟨g, k * 9 + 1, none⟩) hgl2).trans e1
        have g1 := (hb2.frozen (p := ⟨g, k * 9 + 1, none⟩) hgl2).trans f1
        have s1 := nset_same d1
        have d2 := (hb2.cell (p := ⟨g, k * 9 + 2, none⟩) hgl2).trans e2
        have g2 := (hb2.frozen (p := ⟨g, k * 9 + 2, none⟩) hgl2).trans f2
        have s2 := nset_same d2
        have d3 := (hb2.cell (p := ⟨g, k * 9 + 3, none⟩) hgl2).trans e3
        have g3 := (hb2.frozen (p := ⟨g, k * 9 + 3, none⟩) hgl2).trans f3
        have s3 := nset_same d3
        have d4 := (hb2.cell (p := ⟨g, k * 9 + 4, none⟩) hgl2).trans e4
        have g4 := (hb2.frozen (p := ⟨g, k * 9 + 4, none⟩) hgl2).trans f4
        have s4 := nset_same d4
        have d5 := (hb2.cell (p := ⟨g, k * 9 + 5, none⟩) hgl2).trans e5
        have g5 := (hb2.frozen (p := ⟨g, k * 9 + 5, none⟩) hgl2).trans f5
        have s5 := nset_same d5
        have d6 := (hb2.cell (p := ⟨g, k * 9 + 6, none⟩) hgl2).trans e6
        have g6 := (hb2.frozen (p := ⟨g, k * 9 + 6, none⟩) hgl2).trans f6
        have s6 := nset_same d6
        have d7 := (hb2.cell (p := ⟨g, k * 9 + 7, none⟩) hgl2).trans e7
        have g7 := (hb2.frozen (p := ⟨g, k * 9 + 7, none⟩) hgl2).trans f7
        have s7 := nset_same d7
        have d8 := (hb2.cell (p := ⟨g, k * 9 + 8, none⟩) hgl2).trans e8
        have g8 := (hb2.frozen (p := ⟨g, k * 9 + 8, none⟩) hgl2).trans f8
        have s8 := nset_same d8
        have hB2 := hide (nnext (unhide hB) hb2)
        clear hb2 CX e0 f0 e1 f1 e2 f2 e3 f3 e4 f4 e5 f5 e6 f6 e7 f7 e8 f8
        go_wp2_with fail
        go_roundg (xs.length - (k + 1))
        case measure => omega
        case rel => exact ⟨k + 1, rfl, by omega, Nat.le_refl _, hB2⟩
      · go_wp2_with fail
        go_ret
        exact ⟨_, rfl, .inr ⟨g, cap, rfl, hg, (unhide HW).next (unhide hB)⟩, nnext (unhide HB1) (unhide hB)⟩

set_option maxRecDepth 10000 in
set_option maxHeartbeats 2000000 in
theorem eachW_any (v : Value) (xs : List Wa) (w : World) (hv : SeqV w v xs) (hl : xs.length * 32 ≤ 140737488355328) (hs : ∀ x ∈ xs, x.p.length ≤ 140737488355328) :
    Calls Tryz.prog 38 #[v, .func (.func 39) #[] #[]] w fun e w' => ∃ v', e = .returned v' ∧ OwnS w' w.heap.size v' xs ∧ Below w.heap.size w w' := by
  have CC := fun W (hW : Below w.heap.size w W) => clW_any v xs W (hv.next hW) hl
  have HO : Hid (∀ x ∈ xs, ∀ W, Calls Tryz.prog 39 #[.agg #[.int .i64 x.s, .int .i64 x.k, .string ⟨x.p.toArray⟩]] W fun e w' => e = .returned (.agg #[.int .i64 x.s, .int .i64 x.k, .string ⟨x.p.toArray⟩]) ∧ Below W.heap.size W w') := hide fun x hm W => by
    have hx := hs x hm
    exact ownW_any x W hx
  obtain ⟨a, c, rfl⟩ := seq_slice hv
  clear hv hs
  go_enter Tryz.func38, Tryz.ntmps38
  go_wp2_with fail
  refine (CC _ (Below.refl _ _)).mono ?_
  rintro e w1 ⟨v', rfl, ho, hb1⟩
  have HB1 := hide hb1
  clear CC hb1
  rcases ho with ⟨rfl, rfl⟩ | ⟨g, cap, rfl, hg, ho⟩
  · go_wp2_with fail
    go_loopg [11] 1 (fun _ s wr => s = .int .i64 0 ∧ wr = w1)
    case atStart => exact ⟨rfl, rfl⟩
    case round =>
      obtain ⟨rfl, rfl⟩ := hrel
      go_wp2_with fail
      go_ret
      exact ⟨_, rfl, .inl ⟨rfl, rfl⟩, unhide HB1⟩
  · have HW := hide ho
    have hgl := ho.lt
    clear ho
    go_wp2_with fail
    go_loopg [11] xs.length (fun kx s wr => ∃ k : Nat, s = .int .i64 k ∧ k ≤ xs.length ∧ xs.length - k ≤ kx ∧ Hid (Below w1.heap.size w1 wr))
    case atStart => exact ⟨0, rfl, Nat.zero_le _, by omega, hide (Below.refl _ _)⟩
    case round =>
      obtain ⟨k, rfl, hk, hkx, hB⟩ := hrel
      by_cases hlt : k < xs.length
      · obtain ⟨x, hx⟩ : ∃ x, xs[k]? = some x := ⟨_, List.getElem?_eq_getElem hlt⟩
        have o := (unhide HW).next (unhide hB)
        have hgl2 := o.lt
        have e0 : wr.cell? ⟨g, k * 3, none⟩ = some (.int .i64 x.s) := by have := o.row (k * 3 + 0) _ (cellsL_get xs k x hx 0 (by decide)); simpa using this
        have f0 := o.frozen (k * 3)
        have e1 : wr.cell? ⟨g, k * 3 + 1, none⟩ = some (.int .i64 x.k) := by have := o.row (k * 3 + 1) _ (cellsL_get xs k x hx 1 (by decide)); simpa using this
        have f1 := o.frozen (k * 3 + 1)
        have e2 : wr.cell? ⟨g, k * 3 + 2, none⟩ = some (.string ⟨x.p.toArray⟩) := by have := o.row (k * 3 + 2) _ (cellsL_get xs k x hx 2 (by decide)); simpa using this
        have f2 := o.frozen (k * 3 + 2)
        have CX := unhide HO x (List.mem_of_getElem? hx)
        clear hx o
        obtain ⟨ys, yk, yp⟩ := x
        simp only at e0 e1 e2 CX
        go_wp2_with fail
        refine (CX _).mono ?_
        rintro e w2 ⟨rfl, hb2⟩
        have d0 := (hb2.cell (p := ⟨g, k * 3, none⟩) hgl2).trans e0
        have g0 := (hb2.frozen (p := ⟨g, k * 3, none⟩) hgl2).trans f0
        have s0 := nset_same d0
        have d1 := (hb2.cell (p := ⟨g, k * 3 + 1, none⟩) hgl2).trans e1
        have g1 := (hb2.frozen (p := ⟨g, k * 3 + 1, none⟩) hgl2).trans f1
        have s1 := nset_same d1
        have d2 := (hb2.cell (p := ⟨g, k * 3 + 2, none⟩) hgl2).trans e2
        have g2 := (hb2.frozen (p := ⟨g, k * 3 + 2, none⟩) hgl2).trans f2
        have s2 := nset_same d2
        have hB2 := hide (nnext (unhide hB) hb2)
        clear hb2 CX e0 f0 e1 f1 e2 f2
        go_wp2_with fail
        go_roundg (xs.length - (k + 1))
        case measure => omega
        case rel => exact ⟨k + 1, rfl, by omega, Nat.le_refl _, hB2⟩
      · go_wp2_with fail
        go_ret
        exact ⟨_, rfl, .inr ⟨g, cap, rfl, hg, (unhide HW).next (unhide hB)⟩, nnext (unhide HB1) (unhide hB)⟩
end Go.Proofs.YtbkndjhogaloiaaGreatDoor

namespace Go.Proofs.YtbkndjhogaloiaaGreatDoor
open Go.RowKit

/-- nothing of it is longer than memory bears -/
structure Fits (s : Sv) : Prop where
  d : s.fs.length * 48 ≤ 140737488355328
  df : Slim s.fs
  l : s.ts.length * 72 ≤ 140737488355328
  lf : ∀ x ∈ s.ts, x.p.length ≤ 140737488355328 ∧ x.d.length ≤ 140737488355328
  n : s.tr.ns.length * 88 ≤ 140737488355328
  nf : ∀ x ∈ s.tr.ns, x.p.length ≤ 140737488355328 ∧ x.d.length ≤ 140737488355328
  si : s.tr.ss.length ≤ 2147483647
  wa : s.ws.length * 32 ≤ 140737488355328
  wf : ∀ x ∈ s.ws, x.p.length ≤ 140737488355328
/-- the box of a server that is handed in, the result's behind it -/
structure CB (w W : World) (up : Bool) (vd : Value) (id ep : Int) (vl : Value) (dn z : Int) (vn vs vw : Value) : Prop where
  below : Below w.heap.size w W
  s : Box10 W w.heap.size up vd id ep vl dn z vn vs vw
  r : Box10 W (w.heap.size + 1) false (.slice none 0 0) 0 0 (.slice none 0 0) 0 0 (.slice none 0 0) (.slice none 0 0) (.slice none 0 0)
section
variable {w W V : World} {up : Bool} {id ep dn z : Int} {vd vl vn vs vw : Value}
theorem CB.next (h : CB w W up vd id ep vl dn z vn vs vw) (hb : Below W.heap.size W V) : CB w V up vd id ep vl dn z vn vs vw := ⟨nnext h.below hb, h.s.next hb, h.r.next hb⟩
theorem CB.lt (h : CB w W up vd id ep vl dn z vn vs vw) : w.heap.size + 2 ≤ W.heap.size := h.r.lt
theorem CB.put (h : CB w W up vd id ep vl dn z vn vs vw) (j : Nat) (u : Value) {vd' vl' vn' vs' vw' : Value} (e : (#[.bool up, vd, .int .i64 id, .int .i64 ep, vl, .int .i64 dn, .int .i64 z, vn, vs, vw] : Array Value).setIfInBounds j u = #[.bool up, vd', .int .i64 id, .int .i64 ep, vl', .int .i64 dn, .int .i64 z, vn', vs', vw']) : CB w (W.setCell ⟨w.heap.size, j, none⟩ u) up vd' id ep vl' dn z vn' vs' vw' := by
  refine ⟨h.below.setCell (by simp) u, ?_, h.r.other (by omega)⟩
  unfold Box10
  rw [block_set u h.s, e]
theorem CB.start (w : World) (up : Bool) (id ep dn z : Int) (vd vl vn vs vw : Value) : CB w ((w.alloc (.cells #[.bool up, vd, .int .i64 id, .int .i64 ep, vl, .int .i64 dn, .int .i64 z, vn, vs, vw] 35)).alloc (.cells #[.bool false, .slice none 0 0, .int .i64 0, .int .i64 0, .slice none 0 0, .int .i64 0, .int .i64 0, .slice none 0 0, .slice none 0 0, .slice none 0 0] 35)) up vd id ep vl dn z vn vs vw := by
  refine ⟨nnext (allocB _ _) (allocB _ _), (Box10.new w up id ep dn z vd vl vn vs vw).next (allocB _ _), ?_⟩
  have h := Box10.new (w.alloc (.cells #[.bool up, vd, .int .i64 id, .int .i64 ep, vl, .int .i64 dn, .int .i64 z, vn, vs, vw] 35)) false 0 0 0 0 (.slice none 0 0) (.slice none 0 0) (.slice none 0 0) (.slice none 0 0) (.slice none 0 0)
  rw [show (w.alloc (.cells #[.bool up, vd, .int .i64 id, .int .i64 ep, vl, .int .i64 dn, .int .i64 z, vn, vs, vw] 35)).heap.size = w.heap.size + 1 by simp] at h
  exact h
end
theorem own_ne {α : Type} [Lay α] {W : World} {B k : Nat} {v : Value} {xs : List α} (h : OwnS W B v xs) (hk : k < B) : v.ownBlock ≠ some k := by
  rcases h with ⟨rfl, _⟩ | ⟨g, cap, rfl, hB, _⟩
  · simp [Value.ownBlock]
  · simp [Value.ownBlock]; omega
theorem own_set {α : Type} [Lay α] {W : World} {B k j : Nat} {v u : Value} {xs : List α} (h : OwnS W B v xs) (hk : k < B) : OwnS (W.setCell ⟨k, j, none⟩ u) B v xs := h.other (own_ne h hk) u
theorem own_put10 {α : Type} [Lay α] {W : World} {B k : Nat} {v : Value} {xs : List α} (h : OwnS W B v xs) (hk : k < B) (x0 x1 x2 x3 x4 x5 x6 x7 x8 x9 : Value) : OwnS (put10 W k x0 x1 x2 x3 x4 x5 x6 x7 x8 x9) B v xs :=
  own_set (own_set (own_set (own_set (own_set (own_set (own_set (own_set (own_set (own_set h hk) hk) hk) hk) hk) hk) hk) hk) hk) hk
/-- what a copy of a server gives: rows of its own, the log's apart from the others' -/
def GivesC (w : World) (s : Sv) (e : Ending) (w' : World) : Prop :=
  ∃ ad nd cd al cl an cn ai ci aw cw B1 B2, e = .returned (.agg #[.bool s.up, .slice ad nd cd, .int .i64 s.id, .int .i64 s.ep, .slice al s.ts.length cl, .int .i64 s.dn, .int .i64 s.tr.z, .slice an s.tr.ns.length cn, .slice ai s.tr.ss.length ci, .slice aw s.ws.length cw]) ∧
    w.heap.size ≤ B1 ∧ B1 ≤ B2 ∧ OwnS w' w.heap.size (.slice ad nd cd) s.fs ∧ (∀ k, (Value.slice ad nd cd).ownBlock = some k → k < B1) ∧ OwnS w' B1 (.slice al s.ts.length cl) s.ts ∧ (∀ k, (Value.slice al s.ts.length cl).ownBlock = some k → k < B2) ∧
    OwnS w' B2 (.slice an s.tr.ns.length cn) s.tr.ns ∧ OwnS w' B2 (.slice ai s.tr.ss.length ci) s.tr.ss ∧ OwnS w' B2 (.slice aw s.ws.length cw) s.ws ∧ Below w.heap.size w w'

set_option maxRecDepth 10000 in
set_option maxHeartbeats 4000000 in
theorem scopied_any (s : Sv) (v : Value) (w : World) (hv : SvV w v s) (hf : Fits s) :
    Calls Tryz.prog 17 #[v] w (GivesC w s) := by
  obtain ⟨ad, nd, cd, al, cl, an, cn, ai, ci, aw, cw, rfl, d1, l1, n1, s1, k1⟩ := hv.five
  have CD := fun W (hW : Below w.heap.size w W) => eachF_any _ s.fs W (seq_disk.2 (d1.next hW)) hf.d hf.df
  have CL := fun W (hW : Below w.heap.size w W) => eachT_any _ s.ts W (seq_log.2 (l1.next hW)) hf.l hf.lf
  have CN := fun W (hW : Below w.heap.size w W) => eachN_any _ s.tr.ns W (n1.next hW) hf.n hf.nf
  have CI := fun W (hW : Below w.heap.size w W) => iclone_any _ s.tr.ss W (s1.next hW) (hf.si)
  have CW := fun W (hW : Below w.heap.size w W) => eachW_any _ s.ws W (k1.next hW) hf.wa hf.wf
  have HD := hide CD
  have HL := hide CL
  have HN := hide CN
  have HI := hide CI
  have HW := hide CW
  clear CD CL CN CI CW hv d1 l1 n1 s1 k1 hf
  obtain ⟨up, fs, id, ep, ts, dn, ⟨tz, tns, tss⟩, ws⟩ := s
  simp only at *
  go_enter Tryz.func17, Tryz.ntmps17
  go_wp2_with fail
  have X0 := CB.start w up id ep dn tz (.slice ad nd cd) (.slice al ts.length cl) (.slice an tns.length cn) (.slice ai tss.length ci) (.slice aw ws.length cw)
  generalize (w.alloc (.cells #[.bool up, .slice ad nd cd, .int .i64 id, .int .i64 ep, .slice al ts.length cl, .int .i64 dn, .int .i64 tz, .slice an tns.length cn, .slice ai tss.length ci, .slice aw ws.length cw] 35)).alloc (.cells #[.bool false, .slice none 0 0, .int .i64 0, .int .i64 0, .slice none 0 0, .int .i64 0, .int .i64 0, .slice none 0 0, .slice none 0 0, .slice none 0 0] 35) = W0 at *
  have HX0 := hide X0
  obtain ⟨x0, x1, x2, x3, x4, x5, x6, x7, x8, x9⟩ := X0.s.cells
  clear X0
  refine (unhide HD _ (unhide HX0).below).mono ?_
  rintro e w1 ⟨v1, rfl, o1, hb1⟩
  obtain ⟨a1, c1, rfl, _⟩ := o1.slice
  have z1 := (unhide HX0).lt
  have X1 := (unhide HX0).next hb1
  have Y1 := X1.put 1 (.slice a1 fs.length c1) rfl
  obtain ⟨y0, y1, y2, y3, y4, y5, y6, y7, y8, y9⟩ := X1.s.cells
  have g1 := X1.s.froz 1
  have O1 := hide (own_set (j := 1) (u := .slice a1 fs.length c1) o1 (by omega : w.heap.size < _))
  have b1 := hide (fun k hk => OwnS.low o1 k hk)
  have S1 := hide (show w.heap.size + 1 < W0.heap.size by omega)
  have Z1 := hide (show w.heap.size ≤ W0.heap.size by omega)
  have K1 := hide (show W0.heap.size ≤ (w1.setCell ⟨w.heap.size, 1, none⟩ (.slice a1 fs.length c1)).heap.size by have := hb1.size; simp [World.setCell] at *; omega)
  have L1 := hide (show w1.heap.size = (w1.setCell ⟨w.heap.size, 1, none⟩ (.slice a1 fs.length c1)).heap.size by simp [World.setCell])
  clear X1 o1 hb1 z1 HX0 HD x0 x1 x2 x3 x4 x5 x6 x7 x8 x9
  have HX1 := hide Y1
  obtain ⟨x0, x1, x2, x3, x4, x5, x6, x7, x8, x9⟩ := Y1.s.cells
  clear Y1
  go_wp2_with fail
  generalize w1.setCell ⟨w.heap.size, 1, none⟩ (.slice a1 fs.length c1) = V1 at *
  clear y0 y1 y2 y3 y4 y5 y6 y7 y8 y9 g1
  refine (unhide HL _ (unhide HX1).below).mono ?_
  rintro e w2 ⟨v2, rfl, o2, hb2⟩
  obtain ⟨a2, c2, rfl, _⟩ := o2.slice
  have z2 := (unhide HX1).lt
  have X2 := (unhide HX1).next hb2
  have Y2 := X2.put 4 (.slice a2 ts.length c2) rfl
  obtain ⟨y0, y1, y2, y3, y4, y5, y6, y7, y8, y9⟩ := X2.s.cells
  have g2 := X2.s.froz 4
  have O2 := hide (own_set (j := 4) (u := .slice a2 ts.length c2) o2 (by omega : w.heap.size < _))
  have b2 := hide (fun k hk => OwnS.low o2 k hk)
  have P1 := hide (own_set (j := 4) (u := .slice a2 ts.length c2) ((unhide O1).next hb2) (Nat.lt_of_succ_lt (unhide S1)))
  have S2 := hide (show w.heap.size + 1 < V1.heap.size by omega)
  have K2 := hide (show V1.heap.size ≤ (w2.setCell ⟨w.heap.size, 4, none⟩ (.slice a2 ts.length c2)).heap.size by have := hb2.size; simp [World.setCell] at *; omega)
  have L2 := hide (show w2.heap.size = (w2.setCell ⟨w.heap.size, 4, none⟩ (.slice a2 ts.length c2)).heap.size by simp [World.setCell])
  clear X2 o2 hb2 z2 HX1 HL x0 x1 x2 x3 x4 x5 x6 x7 x8 x9 O1
  have O1 := P1
  clear P1
  have HX2 := hide Y2
  obtain ⟨x0, x1, x2, x3, x4, x5, x6, x7, x8, x9⟩ := Y2.s.cells
  clear Y2
  go_wp2_with fail
  generalize w2.setCell ⟨w.heap.size, 4, none⟩ (.slice a2 ts.length c2) = V2 at *
  clear y0 y1 y2 y3 y4 y5 y6 y7 y8 y9 g2
  refine (unhide HN _ (unhide HX2).below).mono ?_
  rintro e w3 ⟨v3, rfl, o3, hb3⟩
  obtain ⟨a3, c3, rfl, _⟩ := o3.slice
  have z3 := (unhide HX2).lt
  have X3 := (unhide HX2).next hb3
  have Y3 := X3.put 7 (.slice a3 tns.length c3) rfl
  obtain ⟨y0, y1, y2, y3, y4, y5, y6, y7, y8, y9⟩ := X3.s.cells
  have g3 := X3.s.froz 7
  have O3 := hide (own_set (j := 7) (u := .slice a3 tns.length c3) o3 (by omega : w.heap.size < _))
  have P1 := hide (own_set (j := 7) (u := .slice a3 tns.length c3) ((unhide O1).next hb3) (Nat.lt_of_succ_lt (unhide S1)))
  have P2 := hide (own_set (j := 7) (u := .slice a3 tns.length c3) ((unhide O2).next hb3) (Nat.lt_of_succ_lt (unhide S2)))
  have S3 := hide (show w.heap.size + 1 < V2.heap.size by omega)
  have K3 := hide (show V2.heap.size ≤ (w3.setCell ⟨w.heap.size, 7, none⟩ (.slice a3 tns.length c3)).heap.size by have := hb3.size; simp [World.setCell] at *; omega)
  have L3 := hide (show w3.heap.size = (w3.setCell ⟨w.heap.size, 7, none⟩ (.slice a3 tns.length c3)).heap.size by simp [World.setCell])
  clear X3 o3 hb3 z3 HX2 HN x0 x1 x2 x3 x4 x5 x6 x7 x8 x9 O1 O2
  have O1 := P1
  have O2 := P2
  clear P1 P2
  have HX3 := hide Y3
  obtain ⟨x0, x1, x2, x3, x4, x5, x6, x7, x8, x9⟩ := Y3.s.cells
  clear Y3
  go_wp2_with fail
  generalize w3.setCell ⟨w.heap.size, 7, none⟩ (.slice a3 tns.length c3) = V3 at *
  clear y0 y1 y2 y3 y4 y5 y6 y7 y8 y9 g3
  refine (unhide HI _ (unhide HX3).below).mono ?_
  rintro e w4 ⟨v4, rfl, o4, hb4⟩
  obtain ⟨a4, c4, rfl, _⟩ := o4.slice
  have z4 := (unhide HX3).lt
  have X4 := (unhide HX3).next hb4
  have Y4 := X4.put 8 (.slice a4 tss.length c4) rfl
  obtain ⟨y0, y1, y2, y3, y4, y5, y6, y7, y8, y9⟩ := X4.s.cells
  have g4 := X4.s.froz 8
  have O4 := hide (own_set (j := 8) (u := .slice a4 tss.length c4) o4 (by omega : w.heap.size < _))
  have P1 := hide (own_set (j := 8) (u := .slice a4 tss.length c4) ((unhide O1).next hb4) (Nat.lt_of_succ_lt (unhide S1)))
  have P2 := hide (own_set (j := 8) (u := .slice a4 tss.length c4) ((unhide O2).next hb4) (Nat.lt_of_succ_lt (unhide S2)))
  have P3 := hide (own_set (j := 8) (u := .slice a4 tss.length c4) ((unhide O3).next hb4) (Nat.lt_of_succ_lt (unhide S3)))
  have S4 := hide (show w.heap.size + 1 < V3.heap.size by omega)
  have K4 := hide (show V3.heap.size ≤ (w4.setCell ⟨w.heap.size, 8, none⟩ (.slice a4 tss.length c4)).heap.size by have := hb4.size; simp [World.setCell] at *; omega)
  have L4 := hide (show w4.heap.size = (w4.setCell ⟨w.heap.size, 8, none⟩ (.slice a4 tss.length c4)).heap.size by simp [World.setCell])
  clear X4 o4 hb4 z4 HX3 HI x0 x1 x2 x3 x4 x5 x6 x7 x8 x9 O1 O2 O3
  have O1 := P1
  have O2 := P2
  have O3 := P3
  clear P1 P2 P3
  have HX4 := hide Y4
  obtain ⟨x0, x1, x2, x3, x4, x5, x6, x7, x8, x9⟩ := Y4.s.cells
  clear Y4
  go_wp2_with fail
  generalize w4.setCell ⟨w.heap.size, 8, none⟩ (.slice a4 tss.length c4) = V4 at *
  clear y0 y1 y2 y3 y4 y5 y6 y7 y8 y9 g4
  refine (unhide HW _ (unhide HX4).below).mono ?_
  rintro e w5 ⟨v5, rfl, o5, hb5⟩
  obtain ⟨a5, c5, rfl, _⟩ := o5.slice
  have z5 := (unhide HX4).lt
  have X5 := (unhide HX4).next hb5
  have Y5 := X5.put 9 (.slice a5 ws.length c5) rfl
  obtain ⟨y0, y1, y2, y3, y4, y5, y6, y7, y8, y9⟩ := X5.s.cells
  have g5 := X5.s.froz 9
  have O5 := hide (own_set (j := 9) (u := .slice a5 ws.length c5) o5 (by omega : w.heap.size < _))
  have P1 := hide (own_set (j := 9) (u := .slice a5 ws.length c5) ((unhide O1).next hb5) (Nat.lt_of_succ_lt (unhide S1)))
  have P2 := hide (own_set (j := 9) (u := .slice a5 ws.length c5) ((unhide O2).next hb5) (Nat.lt_of_succ_lt (unhide S2)))
  have P3 := hide (own_set (j := 9) (u := .slice a5 ws.length c5) ((unhide O3).next hb5) (Nat.lt_of_succ_lt (unhide S3)))
  have P4 := hide (own_set (j := 9) (u := .slice a5 ws.length c5) ((unhide O4).next hb5) (Nat.lt_of_succ_lt (unhide S4)))
  have S5 := hide (show w.heap.size + 1 < V4.heap.size by omega)
  have K5 := hide (show V4.heap.size ≤ (w5.setCell ⟨w.heap.size, 9, none⟩ (.slice a5 ws.length c5)).heap.size by have := hb5.size; simp [World.setCell] at *; omega)
  have L5 := hide (show w5.heap.size = (w5.setCell ⟨w.heap.size, 9, none⟩ (.slice a5 ws.length c5)).heap.size by simp [World.setCell])
  clear X5 o5 hb5 z5 HX4 HW x0 x1 x2 x3 x4 x5 x6 x7 x8 x9 O1 O2 O3 O4
  have O1 := P1
  have O2 := P2
  have O3 := P3
  have O4 := P4
  clear P1 P2 P3 P4
  have HX5 := hide Y5
  obtain ⟨x0, x1, x2, x3, x4, x5, x6, x7, x8, x9⟩ := Y5.s.cells
  obtain ⟨r0, r1, r2, r3, r4, r5, r6, r7, r8, r9⟩ := Y5.r.cells
  have rf0 := Y5.r.froz 0
  have rf1 := Y5.r.froz 1
  have rf2 := Y5.r.froz 2
  have rf3 := Y5.r.froz 3
  have rf4 := Y5.r.froz 4
  have rf5 := Y5.r.froz 5
  have rf6 := Y5.r.froz 6
  have rf7 := Y5.r.froz 7
  have rf8 := Y5.r.froz 8
  have rf9 := Y5.r.froz 9
  have Y5b := Y5.below
  clear Y5
  have HF := hide (put10_below Y5b (by omega : w.heap.size ≤ w.heap.size + 1) (.bool up) (.slice a1 fs.length c1) (.int .i64 id) (.int .i64 ep) (.slice a2 ts.length c2) (.int .i64 dn) (.int .i64 tz) (.slice a3 tns.length c3) (.slice a4 tss.length c4) (.slice a5 ws.length c5))
  have Q1 := hide (own_put10 (unhide O1) (unhide S1) (.bool up) (.slice a1 fs.length c1) (.int .i64 id) (.int .i64 ep) (.slice a2 ts.length c2) (.int .i64 dn) (.int .i64 tz) (.slice a3 tns.length c3) (.slice a4 tss.length c4) (.slice a5 ws.length c5))
  have Q2 := hide (own_put10 (unhide O2) (unhide S2) (.bool up) (.slice a1 fs.length c1) (.int .i64 id) (.int .i64 ep) (.slice a2 ts.length c2) (.int .i64 dn) (.int .i64 tz) (.slice a3 tns.length c3) (.slice a4 tss.length c4) (.slice a5 ws.length c5))
  have Q3 := hide (own_put10 (unhide O3) (unhide S3) (.bool up) (.slice a1 fs.length c1) (.int .i64 id) (.int .i64 ep) (.slice a2 ts.length c2) (.int .i64 dn) (.int .i64 tz) (.slice a3 tns.length c3) (.slice a4 tss.length c4) (.slice a5 ws.length c5))
  have Q4 := hide (own_put10 (unhide O4) (unhide S4) (.bool up) (.slice a1 fs.length c1) (.int .i64 id) (.int .i64 ep) (.slice a2 ts.length c2) (.int .i64 dn) (.int .i64 tz) (.slice a3 tns.length c3) (.slice a4 tss.length c4) (.slice a5 ws.length c5))
  have Q5 := hide (own_put10 (unhide O5) (unhide S5) (.bool up) (.slice a1 fs.length c1) (.int .i64 id) (.int .i64 ep) (.slice a2 ts.length c2) (.int .i64 dn) (.int .i64 tz) (.slice a3 tns.length c3) (.slice a4 tss.length c4) (.slice a5 ws.length c5))
  clear Y5b O1 O2 O3 O4 O5
  go_wp2_with fail
  refine bodyPost_ret (v := .agg #[.bool up, .slice a1 fs.length c1, .int .i64 id, .int .i64 ep, .slice a2 ts.length c2, .int .i64 dn, .int .i64 tz, .slice a3 tns.length c3, .slice a4 tss.length c4, .slice a5 ws.length c5]) (by simp [results, Tryz.results17, go_sem, r0, r1, r2, r3, r4, r5, r6, r7, r8, r9]) rfl ?_
  have k1 := unhide K1
  have k2 := unhide K2
  have k3 := unhide K3
  have k4 := unhide K4
  have z1 := unhide Z1
  exact ⟨a1, fs.length, c1, a2, c2, a3, c3, a4, c4, a5, c5, V1.heap.size, V2.heap.size, rfl, by omega, k2, (unhide Q1).lower z1, fun k hk => (unhide L1) ▸ unhide b1 k hk, unhide Q2, fun k hk => (unhide L2) ▸ unhide b2 k hk, unhide Q3, (unhide Q4).lower k3, (unhide Q5).lower (Nat.le_trans k3 k4), unhide HF⟩

end Go.Proofs.YtbkndjhogaloiaaGreatDoor
