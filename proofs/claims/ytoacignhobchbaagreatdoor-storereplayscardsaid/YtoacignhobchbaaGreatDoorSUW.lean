/-
  store.each at files, transactions, nodes and watches: the walks.
-/
import Derived.Test.YtoacignhobchbaaGreatDoorSUV
namespace Go.Proofs.YtoacignhobchbaaGreatDoor
open Go.RowKit

set_option maxRecDepth 10000 in
set_option maxHeartbeats 2000000 in
theorem eachF_any (v : Value) (xs : List DF) (w : World) (hv : SeqV w v xs) (hl : xs.length * 48 ≤ 140737488355328) (hs : ∀ x ∈ xs, x.n.length ≤ 140737488355328 ∧ x.s.length ≤ 140737488355328 ∧ x.t.length ≤ 140737488355328) :
    Calls Tryz.prog 30 #[v, .func (.func 31) #[] #[]] w fun e w' => ∃ v', e = .returned v' ∧ OwnS w' w.heap.size v' xs ∧ Below w.heap.size w w' := by
  have CC := fun W (hW : Below w.heap.size w W) => clF_any v xs W (hv.next hW) hl
  have HO : Hid (∀ x ∈ xs, ∀ W, Calls Tryz.prog 31 #[.agg #[.string ⟨x.n.toArray⟩, .string ⟨x.s.toArray⟩, .string ⟨x.t.toArray⟩]] W fun e w' => e = .returned (.agg #[.string ⟨x.n.toArray⟩, .string ⟨x.s.toArray⟩, .string ⟨x.t.toArray⟩]) ∧ Below W.heap.size W w') := hide fun x hm W => by
    have hx := hs x hm
    exact ownF_any x W hx.1 hx.2.1 hx.2.2
  obtain ⟨a, c, rfl⟩ := seq_slice hv
  clear hv hs
  go_enter Tryz.func30, Tryz.ntmps30
  go_wp2_with fail
  refine (CC _ (Below.refl _ _)).mono ?_
  rintro e w1 ⟨v', rfl, ho, hb1⟩
  have HB1 := hide hb1
  clear CC hb1
  rcases ho with ⟨rfl, rfl⟩ | ⟨g, cap, rfl, hg, ho⟩
  · go_wp2_with fail
    go_loopg [11] 1 (fun _ s wr => s = .int .i64 0 ∧ wr = w1)
    case atStart => exact ⟨rfl, rfl⟩
    case round =>
      obtain ⟨rfl, rfl⟩ := hrel
      go_wp2_with fail
      go_ret
      exact ⟨_, rfl, .inl ⟨rfl, rfl⟩, unhide HB1⟩
  · have HW := hide ho
    have hgl := ho.lt
    clear ho
    go_wp2_with fail
    go_loopg [11] xs.length (fun kx s wr => ∃ k : Nat, s = .int .i64 k ∧ k ≤ xs.length ∧ xs.length - k ≤ kx ∧ Hid (Below w1.heap.size w1 wr))
    case atStart => exact ⟨0, rfl, Nat.zero_le _, by omega, hide (Below.refl _ _)⟩
    case round =>
      obtain ⟨k, rfl, hk, hkx, hB⟩ := hrel
      by_cases hlt : k < xs.length
      · obtain ⟨x, hx⟩ : ∃ x, xs[k]? = some x := ⟨_, List.getElem?_eq_getElem hlt⟩
        have o := (unhide HW).next (unhide hB)
        have hgl2 := o.lt
        have e0 : wr.cell? ⟨g, k * 3, none⟩ = some (.string ⟨x.n.toArray⟩) := by have := o.row (k * 3 + 0) _ (cellsL_get xs k x hx 0 (by decide)); simpa using this
        have f0 := o.frozen (k * 3)
        have e1 : wr.cell? ⟨g, k * 3 + 1, none⟩ = some (.string ⟨x.s.toArray⟩) := by have := o.row (k * 3 + 1) _ (cellsL_get xs k x hx 1 (by decide)); simpa using this
        have f1 := o.frozen (k * 3 + 1)
        have e2 : wr.cell? ⟨g, k * 3 + 2, none⟩ = some (.string ⟨x.t.toArray⟩) := by have := o.row (k * 3 + 2) _ (cellsL_get xs k x hx 2 (by decide)); simpa using this
        have f2 := o.frozen (k * 3 + 2)
        have CX := unhide HO x (List.mem_of_getElem? hx)
        clear hx o
        obtain ⟨yn, ys, yt⟩ := x
        simp only at e0 e1 e2 CX
        go_wp2_with fail
        refine (CX _).mono ?_
        rintro e w2 ⟨rfl, hb2⟩
        have d0 := (hb2.cell (p := ⟨g, k * 3, none⟩) hgl2).trans e0
        have g0 := (hb2.frozen (p := ⟨g, k * 3, none⟩) hgl2).trans f0
        have s0 := nset_same d0
        have d1 := (hb2.cell (p := ⟨g, k * 3 + 1, none⟩) hgl2).trans e1
        have g1 := (hb2.frozen (p := ⟨g, k * 3 + 1, none⟩) hgl2).trans f1
        have s1 := nset_same d1
        have d2 := (hb2.cell (p := ⟨g, k * 3 + 2, none⟩) hgl2).trans e2
        have g2 := (hb2.frozen (p := ⟨g, k * 3 + 2, none⟩) hgl2).trans f2
        have s2 := nset_same d2
        have hB2 := hide (nnext (unhide hB) hb2)
        clear hb2 CX e0 f0 e1 f1 e2 f2
        go_wp2_with fail
        go_roundg (xs.length - (k + 1))
        case measure => omega
        case rel => exact ⟨k + 1, rfl, by omega, Nat.le_refl _, hB2⟩
      · go_wp2_with fail
        go_ret
        exact ⟨_, rfl, .inr ⟨g, cap, rfl, hg, (unhide HW).next (unhide hB)⟩, nnext (unhide HB1) (unhide hB)⟩

set_option maxRecDepth 10000 in
set_option maxHeartbeats 2000000 in
theorem eachT_any (v : Value) (xs : List WTxn) (w : World) (hv : SeqV w v xs) (hl : xs.length * 72 ≤ 140737488355328) (hs : ∀ x ∈ xs, x.p.length ≤ 140737488355328 ∧ x.d.length ≤ 140737488355328) :
    Calls Tryz.prog 32 #[v, .func (.func 33) #[] #[]] w fun e w' => ∃ v', e = .returned v' ∧ OwnS w' w.heap.size v' xs ∧ Below w.heap.size w w' := by
  have CC := fun W (hW : Below w.heap.size w W) => clT_any v xs W (hv.next hW) hl
  have HO : Hid (∀ x ∈ xs, ∀ W, Calls Tryz.prog 33 #[.agg #[.int .i64 x.z, .int .i64 x.o, .int .i64 x.s, .string ⟨x.p.toArray⟩, .string ⟨x.d.toArray⟩, .int .i64 x.v, .int .i64 x.w]] W fun e w' => e = .returned (.agg #[.int .i64 x.z, .int .i64 x.o, .int .i64 x.s, .string ⟨x.p.toArray⟩, .string ⟨x.d.toArray⟩, .int .i64 x.v, .int .i64 x.w]) ∧ Below W.heap.size W w') := hide fun x hm W => by
    have hx := hs x hm
    exact ownT_any x W hx.1 hx.2
  obtain ⟨a, c, rfl⟩ := seq_slice hv
  clear hv hs
  go_enter Tryz.func32, Tryz.ntmps32
  go_wp2_with fail
  refine (CC _ (Below.refl _ _)).mono ?_
  rintro e w1 ⟨v', rfl, ho, hb1⟩
  have HB1 := hide hb1
  clear CC hb1
  rcases ho with ⟨rfl, rfl⟩ | ⟨g, cap, rfl, hg, ho⟩
  · go_wp2_with fail
    go_loopg [11] 1 (fun _ s wr => s = .int .i64 0 ∧ wr = w1)
    case atStart => exact ⟨rfl, rfl⟩
    case round =>
      obtain ⟨rfl, rfl⟩ := hrel
      go_wp2_with fail
      go_ret
      exact ⟨_, rfl, .inl ⟨rfl, rfl⟩, unhide HB1⟩
  · have HW := hide ho
    have hgl := ho.lt
    clear ho
    go_wp2_with fail
    go_loopg [11] xs.length (fun kx s wr => ∃ k : Nat, s = .int .i64 k ∧ k ≤ xs.length ∧ xs.length - k ≤ kx ∧ Hid (Below w1.heap.size w1 wr))
    case atStart => exact ⟨0, rfl, Nat.zero_le _, by omega, hide (Below.refl _ _)⟩
    case round =>
      obtain ⟨k, rfl, hk, hkx, hB⟩ := hrel
      by_cases hlt : k < xs.length
      · obtain ⟨x, hx⟩ : ∃ x, xs[k]? = some x := ⟨_, List.getElem?_eq_getElem hlt⟩
        have o := (unhide HW).next (unhide hB)
        have hgl2 := o.lt
        have e0 : wr.cell? ⟨g, k * 7, none⟩ = some (.int .i64 x.z) := by have := o.row (k * 7 + 0) _ (cellsL_get xs k x hx 0 (by decide)); simpa using this
        have f0 := o.frozen (k * 7)
        have e1 : wr.cell? ⟨g, k * 7 + 1, none⟩ = some (.int .i64 x.o) := by have := o.row (k * 7 + 1) _ (cellsL_get xs k x hx 1 (by decide)); simpa using this
        have f1 := o.frozen (k * 7 + 1)
        have e2 : wr.cell? ⟨g, k * 7 + 2, none⟩ = some (.int .i64 x.s) := by have := o.row (k * 7 + 2) _ (cellsL_get xs k x hx 2 (by decide)); simpa using this
        have f2 := o.frozen (k * 7 + 2)
        have e3 : wr.cell? ⟨g, k * 7 + 3, none⟩ = some (.string ⟨x.p.toArray⟩) := by have := o.row (k * 7 + 3) _ (cellsL_get xs k x hx 3 (by decide)); simpa using this
        have f3 := o.frozen (k * 7 + 3)
        have e4 : wr.cell? ⟨g, k * 7 + 4, none⟩ = some (.string ⟨x.d.toArray⟩) := by have := o.row (k * 7 + 4) _ (cellsL_get xs k x hx 4 (by decide)); simpa using this
        have f4 := o.frozen (k * 7 + 4)
        have e5 : wr.cell? ⟨g, k * 7 + 5, none⟩ = some (.int .i64 x.v) := by have := o.row (k * 7 + 5) _ (cellsL_get xs k x hx 5 (by decide)); simpa using this
        have f5 := o.frozen (k * 7 + 5)
        have e6 : wr.cell? ⟨g, k * 7 + 6, none⟩ = some (.int .i64 x.w) := by have := o.row (k * 7 + 6) _ (cellsL_get xs k x hx 6 (by decide)); simpa using this
        have f6 := o.frozen (k * 7 + 6)
        have CX := unhide HO x (List.mem_of_getElem? hx)
        clear hx o
        obtain ⟨yz, yo, ys, yp, yd, yv, yw⟩ := x
        simp only at e0 e1 e2 e3 e4 e5 e6 CX
        go_wp2_with fail
        refine (CX _).mono ?_
        rintro e w2 ⟨rfl, hb2⟩
        have d0 := (hb2.cell (p := ⟨g, k * 7, none⟩) hgl2).trans e0
        have g0 := (hb2.frozen (p := ⟨g, k * 7, none⟩) hgl2).trans f0
        have s0 := nset_same d0
        have d1 := (hb2.cell (p := ⟨g, k * 7 + 1, none⟩) hgl2).trans e1
        have g1 := (hb2.frozen (p := ⟨g, k * 7 + 1, none⟩) hgl2).trans f1
        have s1 := nset_same d1
        have d2 := (hb2.cell (p := ⟨g, k * 7 + 2, none⟩) hgl2).trans e2
        have g2 := (hb2.frozen (p := ⟨g, k * 7 + 2, none⟩) hgl2).trans f2
        have s2 := nset_same d2
        have d3 := (hb2.cell (p := ⟨g, k * 7 + 3, none⟩) hgl2).trans e3
        have g3 := (hb2.frozen (p := ⟨g, k * 7 + 3, none⟩) hgl2).trans f3
        have s3 := nset_same d3
        have d4 := (hb2.cell (p := ⟨g, k * 7 + 4, none⟩) hgl2).trans e4
        have g4 := (hb2.frozen (p := ⟨g, k * 7 + 4, none⟩) hgl2).trans f4
        have s4 := nset_same d4
        have d5 := (hb2.cell (p := ⟨g, k * 7 + 5, none⟩) hgl2).trans e5
        have g5 := (hb2.frozen (p := ⟨g, k * 7 + 5, none⟩) hgl2).trans f5
        have s5 := nset_same d5
        have d6 := (hb2.cell (p := ⟨g, k * 7 + 6, none⟩) hgl2).trans e6
        have g6 := (hb2.frozen (p := ⟨g, k * 7 + 6, none⟩) hgl2).trans f6
        have s6 := nset_same d6
        have hB2 := hide (nnext (unhide hB) hb2)
        clear hb2 CX e0 f0 e1 f1 e2 f2 e3 f3 e4 f4 e5 f5 e6 f6
        go_wp2_with fail
        go_roundg (xs.length - (k + 1))
        case measure => omega
        case rel => exact ⟨k + 1, rfl, by omega, Nat.le_refl _, hB2⟩
      · go_wp2_with fail
        go_ret
        exact ⟨_, rfl, .inr ⟨g, cap, rfl, hg, (unhide HW).next (unhide hB)⟩, nnext (unhide HB1) (unhide hB)⟩

set_option maxRecDepth 10000 in
set_option maxHeartbeats 2000000 in
theorem eachN_any (v : Value) (xs : List Nd) (w : World) (hv : SeqV w v xs) (hl : xs.length * 88 ≤ 140737488355328) (hs : ∀ x ∈ xs, x.p.length ≤ 140737488355328 ∧ x.d.length ≤ 140737488355328) :
    Calls Tryz.prog 34 #[v, .func (.func 35) #[] #[]] w fun e w' => ∃ v', e = .returned v' ∧ OwnS w' w.heap.size v' xs ∧ Below w.heap.size w w' := by
  have CC := fun W (hW : Below w.heap.size w W) => clN_any v xs W (hv.next hW) hl
  have HO : Hid (∀ x ∈ xs, ∀ W, Calls Tryz.prog 35 #[.agg #[.string ⟨x.p.toArray⟩, .string ⟨x.d.toArray⟩, .int .i64 x.c, .int .i64 x.m, .int .i64 x.q, .int .i64 x.v, .int .i64 x.k, .int .i64 x.o, .int .i64 x.n]] W fun e w' => e = .returned (.agg #[.string ⟨x.p.toArray⟩, .string ⟨x.d.toArray⟩, .int .i64 x.c, .int .i64 x.m, .int .i64 x.q, .int .i64 x.v, .int .i64 x.k, .int .i64 x.o, .int .i64 x.n]) ∧ Below W.heap.size W w') := hide fun x hm W => by
    have hx := hs x hm
    exact ownN_any x W hx.1 hx.2
  obtain ⟨a, c, rfl⟩ := seq_slice hv
  clear hv hs
  go_enter Tryz.func34, Tryz.ntmps34
  go_wp2_with fail
  refine (CC _ (Below.refl _ _)).mono ?_
  rintro e w1 ⟨v', rfl, ho, hb1⟩
  have HB1 := hide hb1
  clear CC hb1
  rcases ho with ⟨rfl, rfl⟩ | ⟨g, cap, rfl, hg, ho⟩
  · go_wp2_with fail
    go_loopg [11] 1 (fun _ s wr => s = .int .i64 0 ∧ wr = w1)
    case atStart => exact ⟨rfl, rfl⟩
    case round =>
      obtain ⟨rfl, rfl⟩ := hrel
      go_wp2_with fail
      go_ret
      exact ⟨_, rfl, .inl ⟨rfl, rfl⟩, unhide HB1⟩
  · have HW := hide ho
    have hgl := ho.lt
    clear ho
    go_wp2_with fail
    go_loopg [11] xs.length (fun kx s wr => ∃ k : Nat, s = .int .i64 k ∧ k ≤ xs.length ∧ xs.length - k ≤ kx ∧ Hid (Below w1.heap.size w1 wr))
    case atStart => exact ⟨0, rfl, Nat.zero_le _, by omega, hide (Below.refl _ _)⟩
    case round =>
      obtain ⟨k, rfl, hk, hkx, hB⟩ := hrel
      by_cases hlt : k < xs.length
      · obtain ⟨x, hx⟩ : ∃ x, xs[k]? = some x := ⟨_, List.getElem?_eq_getElem hlt⟩
        have o := (unhide HW).next (unhide hB)
        have hgl2 := o.lt
        have e0 : wr.cell? ⟨g, k * 9, none⟩ = some (.string ⟨x.p.toArray⟩) := by have := o.row (k * 9 + 0) _ (cellsL_get xs k x hx 0 (by decide)); simpa using this
        have f0 := o.frozen (k * 9)
        have e1 : wr.cell? ⟨g, k * 9 + 1, none⟩ = some (.string ⟨x.d.toArray⟩) := by have := o.row (k * 9 + 1) _ (cellsL_get xs k x hx 1 (by decide)); simpa using this
        have f1 := o.frozen (k * 9 + 1)
        have e2 : wr.cell? ⟨g, k * 9 + 2, none⟩ = some (.int .i64 x.c) := by have := o.row (k * 9 + 2) _ (cellsL_get xs k x hx 2 (by decide)); simpa using this
        have f2 := o.frozen (k * 9 + 2)
        have e3 : wr.cell? ⟨g, k * 9 + 3, none⟩ = some (.int .i64 x.m) := by have := o.row (k * 9 + 3) _ (cellsL_get xs k x hx 3 (by decide)); simpa using this
        have f3 := o.frozen (k * 9 + 3)
        have e4 : wr.cell? ⟨g, k * 9 + 4, none⟩ = some (.int .i64 x.q) := by have := o.row (k * 9 + 4) _ (cellsL_get xs k x hx 4 (by decide)); simpa using this
        have f4 := o.frozen (k * 9 + 4)
        have e5 : wr.cell? ⟨g, k * 9 + 5, none⟩ = some (.int .i64 x.v) := by have := o.row (k * 9 + 5) _ (cellsL_get xs k x hx 5 (by decide)); simpa using this
        have f5 := o.frozen (k * 9 + 5)
        have e6 : wr.cell? ⟨g, k * 9 + 6, none⟩ = some (.int .i64 x.k) := by have := o.row (k * 9 + 6) _ (cellsL_get xs k x hx 6 (by decide)); simpa using this
        have f6 := o.frozen (k * 9 + 6)
        have e7 : wr.cell? ⟨g, k * 9 + 7, none⟩ = some (.int .i64 x.o) := by have := o.row (k * 9 + 7) _ (cellsL_get xs k x hx 7 (by decide)); simpa using this
        have f7 := o.frozen (k * 9 + 7)
        have e8 : wr.cell? ⟨g, k * 9 + 8, none⟩ = some (.int .i64 x.n) := by have := o.row (k * 9 + 8) _ (cellsL_get xs k x hx 8 (by decide)); simpa using this
        have f8 := o.frozen (k * 9 + 8)
        have CX := unhide HO x (List.mem_of_getElem? hx)
        clear hx o
        obtain ⟨yp, yd, yc, ym, yq, yv, yk, yo, yn⟩ := x
        simp only at e0 e1 e2 e3 e4 e5 e6 e7 e8 CX
        go_wp2_with fail
        refine (CX _).mono ?_
        rintro e w2 ⟨rfl, hb2⟩
        have d0 := (hb2.cell (p := ⟨g, k * 9, none⟩) hgl2).trans e0
        have g0 := (hb2.frozen (p := ⟨g, k * 9, none⟩) hgl2).trans f0
        have s0 := nset_same d0
        have d1 := (hb2.cell (p := ⟨g, k * 9 + 1, none⟩) hgl2).trans e1
        have g1 := (hb2.frozen (p := ⟨g, k * 9 + 1, none⟩) hgl2).trans f1
        have s1 := nset_same d1
        have d2 := (hb2.cell (p := ⟨g, k * 9 + 2, none⟩) hgl2).trans e2
        have g2 := (hb2.frozen (p := ⟨g, k * 9 + 2, none⟩) hgl2).trans f2
        have s2 := nset_same d2
        have d3 := (hb2.cell (p := ⟨g, k * 9 + 3, none⟩) hgl2).trans e3
        have g3 := (hb2.frozen (p := ⟨g, k * 9 + 3, none⟩) hgl2).trans f3
        have s3 := nset_same d3
        have d4 := (hb2.cell (p := ⟨g, k * 9 + 4, none⟩) hgl2).trans e4
        have g4 := (hb2.frozen (p := ⟨g, k * 9 + 4, none⟩) hgl2).trans f4
        have s4 := nset_same d4
        have d5 := (hb2.cell (p := ⟨g, k * 9 + 5, none⟩) hgl2).trans e5
        have g5 := (hb2.frozen (p := ⟨g, k * 9 + 5, none⟩) hgl2).trans f5
        have s5 := nset_same d5
        have d6 := (hb2.cell (p := ⟨g, k * 9 + 6, none⟩) hgl2).trans e6
        have g6 := (hb2.frozen (p := ⟨g, k * 9 + 6, none⟩) hgl2).trans f6
        have s6 := nset_same d6
        have d7 := (hb2.cell (p := ⟨g, k * 9 + 7, none⟩) hgl2).trans e7
        have g7 := (hb2.frozen (p := ⟨g, k * 9 + 7, none⟩) hgl2).trans f7
        have s7 := nset_same d7
        have d8 := (hb2.cell (p := ⟨g, k * 9 + 8, none⟩) hgl2).trans e8
        have g8 := (hb2.frozen (p := ⟨g, k * 9 + 8, none⟩) hgl2).trans f8
        have s8 := nset_same d8
        have hB2 := hide (nnext (unhide hB) hb2)
        clear hb2 CX e0 f0 e1 f1 e2 f2 e3 f3 e4 f4 e5 f5 e6 f6 e7 f7 e8 f8
        go_wp2_with fail
        go_roundg (xs.length - (k + 1))
        case measure => omega
        case rel => exact ⟨k + 1, rfl, by omega, Nat.le_refl _, hB2⟩
      · go_wp2_with fail
        go_ret
        exact ⟨_, rfl, .inr ⟨g, cap, rfl, hg, (unhide HW).next (unhide hB)⟩, nnext (unhide HB1) (unhide hB)⟩

set_option maxRecDepth 10000 in
set_option maxHeartbeats 2000000 in
theorem eachW_any (v : Value) (xs : List Wa) (w : World) (hv : SeqV w v xs) (hl : xs.length * 32 ≤ 140737488355328) (hs : ∀ x ∈ xs, x.p.length ≤ 140737488355328) :
    Calls Tryz.prog 37 #[v, .func (.func 38) #[] #[]] w fun e w' => ∃ v', e = .returned v' ∧ OwnS w' w.heap.size v' xs ∧ Below w.heap.size w w' := by
  have CC := fun W (hW : Below w.heap.size w W) => clW_any v xs W (hv.next hW) hl
  have HO : Hid (∀ x ∈ xs, ∀ W, Calls Tryz.prog 38 #[.agg #[.int .i64 x.s, .int .i64 x.k, .string ⟨x.p.toArray⟩]] W fun e w' => e = .returned (.agg #[.int .i64 x.s, .int .i64 x.k, .string ⟨x.p.toArray⟩]) ∧ Below W.heap.size W w') := hide fun x hm W => by
    have hx := hs x hm
    exact ownW_any x W hx
  obtain ⟨a, c, rfl⟩ := seq_slice hv
  clear hv hs
  go_enter Tryz.func37, Tryz.ntmps37
  go_wp2_with fail
  refine (CC _ (Below.refl _ _)).mono ?_
  rintro e w1 ⟨v', rfl, ho, hb1⟩
  have HB1 := hide hb1
  clear CC hb1
  rcases ho with ⟨rfl, rfl⟩ | ⟨g, cap, rfl, hg, ho⟩
  · go_wp2_with fail
    go_loopg [11] 1 (fun _ s wr => s = .int .i64 0 ∧ wr = w1)
    case atStart => exact ⟨rfl, rfl⟩
    case round =>
      obtain ⟨rfl, rfl⟩ := hrel
      go_wp2_with fail
      go_ret
      exact ⟨_, rfl, .inl ⟨rfl, rfl⟩, unhide HB1⟩
  · have HW := hide ho
    have hgl := ho.lt
    clear ho
    go_wp2_with fail
    go_loopg [11] xs.length (fun kx s wr => ∃ k : Nat, s = .int .i64 k ∧ k ≤ xs.length ∧ xs.length - k ≤ kx ∧ Hid (Below w1.heap.size w1 wr))
    case atStart => exact ⟨0, rfl, Nat.zero_le _, by omega, hide (Below.refl _ _)⟩
    case round =>
      obtain ⟨k, rfl, hk, hkx, hB⟩ := hrel
      by_cases hlt : k < xs.length
      · obtain ⟨x, hx⟩ : ∃ x, xs[k]? = some x := ⟨_, List.getElem?_eq_getElem hlt⟩
        have o := (unhide HW).next (unhide hB)
        have hgl2 := o.lt
        have e0 : wr.cell? ⟨g, k * 3, none⟩ = some (.int .i64 x.s) := by have := o.row (k * 3 + 0) _ (cellsL_get xs k x hx 0 (by decide)); simpa using this
        have f0 := o.frozen (k * 3)
        have e1 : wr.cell? ⟨g, k * 3 + 1, none⟩ = some (.int .i64 x.k) := by have := o.row (k * 3 + 1) _ (cellsL_get xs k x hx 1 (by decide)); simpa using this
        have f1 := o.frozen (k * 3 + 1)
        have e2 : wr.cell? ⟨g, k * 3 + 2, none⟩ = some (.string ⟨x.p.toArray⟩) := by have := o.row (k * 3 + 2) _ (cellsL_get xs k x hx 2 (by decide)); simpa using this
        have f2 := o.frozen (k * 3 + 2)
        have CX := unhide HO x (List.mem_of_getElem? hx)
        clear hx o
        obtain ⟨ys, yk, yp⟩ := x
        simp only at e0 e1 e2 CX
        go_wp2_with fail
        refine (CX _).mono ?_
        rintro e w2 ⟨rfl, hb2⟩
        have d0 := (hb2.cell (p := ⟨g, k * 3, none⟩) hgl2).trans e0
        have g0 := (hb2.frozen (p := ⟨g, k * 3, none⟩) hgl2).trans f0
        have s0 := nset_same d0
        have d1 := (hb2.cell (p := ⟨g, k * 3 + 1, none⟩) hgl2).trans e1
        have g1 := (hb2.frozen (p := ⟨g, k * 3 + 1, none⟩) hgl2).trans f1
        have s1 := nset_same d1
        have d2 := (hb2.cell (p := ⟨g, k * 3 + 2, none⟩) hgl2).trans e2
        have g2 := (hb2.frozen (p := ⟨g, k * 3 + 2, none⟩) hgl2).trans f2
        have s2 := nset_same d2
        have hB2 := hide (nnext (unhide hB) hb2)
        clear hb2 CX e0 f0 e1 f1 e2 f2
        go_wp2_with fail
        go_roundg (xs.length - (k + 1))
        case measure => omega
        case rel => exact ⟨k + 1, rfl, by omega, Nat.le_refl _, hB2⟩
      · go_wp2_with fail
        go_ret
        exact ⟨_, rfl, .inr ⟨g, cap, rfl, hg, (unhide HW).next (unhide hB)⟩, nnext (unhide HB1) (unhide hB)⟩
end Go.Proofs.YtoacignhobchbaaGreatDoor
