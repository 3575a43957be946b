/-
  aviaryref's has, IsOpen, node: the walks.
  aviaryref's GetNode and KidsOf: the walks.
  aviaryref's SameTree and SameEvents, of alike ones: the walks.
-/
import Derived.Test.YtmifdieofccjaaaDoorMF
import Derived.Test.YtmifdieofccjaaaDoorMG
namespace Go.Proofs.YtmifdieofccjaaaDoor
open Go.RowKit

theorem rret {a b : Bool} (h : a = b) : Ending.returned (.bool a) = .returned (.bool b) := by rw [h]
set_option maxHeartbeats 1000000 in
theorem rhas_any (v : Value) (ss : List Int) (s : Int) (w : World) (hv : SeqV w v ss) (hl : ss.length ≤ 140737488355328) :
    Calls Tryd.prog 61 #[v, .int .i64 s] w fun e w' => e = .returned (.bool (decide (s ∈ ss))) ∧ w' = w := by
  have KR : ∀ (i : Nat) (x : Int), ss[i]? = some x → ∃ b off c, v = .slice (some ⟨b, off, none⟩) ss.length c ∧ w.cell? ⟨b, off + i, none⟩ = some (.int .i64 x) := by
    intro i x hx
    obtain ⟨b, off, c, e, _, hr, _, _⟩ := seq_row hv (by intro h0; rw [h0] at hx; simp at hx)
    exact ⟨b, off, c, e, hr.i0 hx⟩
  have HKR := hide KR
  obtain ⟨va, vc, rfl⟩ := seq_slice hv
  clear hv KR
  go_enter Tryd.func61, Tryd.ntmps61
  go_wp2_with fail
  go_loopg [9] ss.length (fun kx s9 wr => ∃ k : Nat, s9 = .int .i64 k ∧ k ≤ ss.length ∧ ss.length - k ≤ kx ∧ Hid (∀ x ∈ ss.take k, ¬ s = x) ∧ w = wr)
  case atStart => exact ⟨0, rfl, Nat.zero_le _, Nat.le_refl _, hide (by simp), rfl⟩
  case round =>
    obtain ⟨k, rfl, hk, hg, hN, hwr⟩ := hrel
    subst hwr
    by_cases hlt : k < ss.length
    · obtain ⟨x, hx⟩ : ∃ x, ss[k]? = some x := ⟨_, List.getElem?_eq_getElem hlt⟩
      obtain ⟨b, off, c, he, hc⟩ := unhide HKR k x hx
      simp only [Value.slice.injEq] at he
      obtain ⟨rfl, _, rfl⟩ := he
      have HX := hide hx
      clear hx
      by_cases hs : s = x
      · have hb : (s == x) = true := by simpa using hs
        have HS := hide hs
        clear hs
        go_wp2_with fail
        go_ret
        exact ⟨rret (decide_eq_true (by rw [unhide HS]; exact List.mem_of_getElem? (unhide HX))).symm, rfl⟩
      · have hb : (s == x) = false := by simpa using hs
        have HS := hide hs
        clear hs
        go_wp2_with fail
        go_roundg (ss.length - (k + 1))
        case measure => omega
        case rel =>
          refine ⟨k + 1, rfl, by omega, Nat.le_refl _, hide ?_, rfl⟩
          intro y hy
          rw [List.take_add_one, unhide HX] at hy
          rcases List.mem_append.1 hy with h | h
          · exact unhide hN y h
          · obtain rfl : y = x := by simpa using h
            exact unhide HS
    · obtain rfl : k = ss.length := by omega
      have hno : s ∉ ss := fun h => by
        have := unhide hN s (by rw [List.take_length]; exact h)
        exact this rfl
      have HNO := hide hno
      clear hno
      go_wp2_with fail
      go_ret
      exact ⟨rret (decide_eq_false (unhide HNO)).symm, rfl⟩

set_option maxHeartbeats 400000 in
theorem risopen_any (z : Int) (vn vs : Value) (ss : List Int) (s : Int) (w : World) (hv : SeqV w vs ss) (hl : ss.length ≤ 140737488355328) :
    Calls Tryd.prog 50 #[.agg #[.int .i64 z, vn, vs], .int .i64 s] w fun e w' => e = .returned (.bool (decide (s ∈ ss))) ∧ Below w.heap.size w w' := by
  have C := hide (fun W (hW : Below w.heap.size w W) => rhas_any vs ss s W (hv.next hW) hl)
  obtain ⟨a, c, rfl⟩ := seq_slice hv
  clear hv
  generalize decide (s ∈ ss) = hd at C ⊢
  generalize ss.length = n at C ⊢
  go_enter Tryd.func50, Tryd.ntmps50
  go_wp2_with fail
  refine (unhide C _ (allocB _ _)).mono ?_
  rintro e w1 ⟨rfl, rfl⟩
  go_wp2_with fail
  go_ret
  exact ⟨rfl, allocB _ _⟩

/-- the first place of a path -/
structure At (ns : List Nd) (p : List UInt8) (k : Nat) (n : Nd) : Prop where
  at' : ns[k]? = some n
  nm : n.p = p
  no : ∀ i m, i < k → ns[i]? = some m → m.p ≠ p
theorem at_there {ns A B : List Nd} {n : Nd} {p : List UInt8} (T : NThere ns A n B p) : At ns p A.length n := by
  refine ⟨by rw [T.eq]; exact nat_at A n B, T.nm, fun i m hi hm => ?_⟩
  rw [T.eq, List.getElem?_append_left hi] at hm
  exact bl_ne (T.lo m (List.mem_of_getElem? hm))

end Go.Proofs.YtmifdieofccjaaaDoor

namespace Go.Proofs.YtmifdieofccjaaaDoor
open Go.RowKit

/-- aviaryref.Split, at every text that is not too long -/
theorem rsplit_any (p : List UInt8) (w : World) (hl : p.length ≤ 1048576) :
    Calls Tryd.prog 49 #[.string ⟨p.toArray⟩] w fun e w' =>
      e = .returned (.tuple #[.string ⟨(dirOf p).toArray⟩, .string ⟨(stepOf p).toArray⟩, .int .i64 (splE p)]) ∧ Below w.heap.size w w' := by
  cases hg : goodB p with
  | false =>
    rw [dirOf_bad hg, stepOf_bad hg, splE_bad hg]
    exact refSplit_bad p w hl hg
  | true =>
    by_cases hr : p = [47]
    · subst hr
      rw [dirOf_root, stepOf_root, splE_root]
      exact refSplit_root w
    · obtain ⟨a, b, rfl, hb⟩ := good_cut hg
      rw [dirOf_cut hg hr hb, stepOf_cut hg hr hb, splE_ok hg hr]
      exact refSplit_main a b w hb hg hr

end Go.Proofs.YtmifdieofccjaaaDoor

namespace Go.Proofs.YtmifdieofccjaaaDoor
open Go.RowKit

/-- two boxes of trees -/
structure TT (w W : World) (z : Int) (vn vs un us : Value) : Prop where
  a : W.heap[w.heap.size]? = some (.cells #[.int .i64 z, vn, vs] 25 (0, 0))
  b : W.heap[w.heap.size + 1]? = some (.cells #[.int .i64 z, un, us] 25 (0, 0))
  bl : Below w.heap.size w W
theorem TT.new (w : World) (z : Int) (vn vs un us : Value) : TT w ((w.alloc (.cells #[.int .i64 z, vn, vs] 25)).alloc (.cells #[.int .i64 z, un, us] 25)) z vn vs un us := by
  refine ⟨?_, ?_, nnext (allocB _ _) (allocB _ _)⟩
  · rw [(allocB _ _).block _ (by simp)]
    exact heap_alloc_new w _
  · have h := heap_alloc_new (w.alloc (.cells #[.int .i64 z, vn, vs] 25)) (.cells #[.int .i64 z, un, us] 25)
    rw [show (w.alloc (.cells #[.int .i64 z, vn, vs] 25)).heap.size = w.heap.size + 1 by simp] at h
    exact h
theorem TT.next {w W V : World} {z : Int} {vn vs un us : Value} (h : TT w W z vn vs un us) (hb : Below W.heap.size W V) : TT w V z vn vs un us :=
  ⟨(hb.block _ (Array.getElem?_eq_some_iff.1 h.a).1).trans h.a, (hb.block _ (Array.getElem?_eq_some_iff.1 h.b).1).trans h.b, nnext h.bl hb⟩
theorem TT.six {w W : World} {z : Int} {vn vs un us : Value} (h : TT w W z vn vs un us) : W.cell? ⟨w.heap.size, 0, none⟩ = some (.int .i64 z) ∧ W.cell? ⟨w.heap.size, 1, none⟩ = some vn ∧ W.cell? ⟨w.heap.size, 2, none⟩ = some vs ∧ W.cell? ⟨w.heap.size + 1, 0, none⟩ = some (.int .i64 z) ∧ W.cell? ⟨w.heap.size + 1, 1, none⟩ = some un ∧ W.cell? ⟨w.heap.size + 1, 2, none⟩ = some us := by
  have h1 := h.a
  have h2 := h.b
  refine ⟨?_, ?_, ?_, ?_, ?_, ?_⟩ <;> simp [World.cell?, h1, h2]

set_option maxRecDepth 20000 in
set_option maxHeartbeats 4000000 in
theorem rsameT_any (t : Tr) (vn vs un us : Value) (w : World) (hn : SeqV w vn t.ns) (hs : SeqV w vs t.ss) (gn : SeqV w un t.ns) (gs : SeqV w us t.ss) (hl : t.ns.length ≤ 140737488355328) (hls : t.ss.length ≤ 140737488355328) :
    Calls Tryd.prog 15 #[.agg #[.int .i64 t.z, vn, vs], .agg #[.int .i64 t.z, un, us]] w fun e w' => e = .returned (.bool true) ∧ Below w.heap.size w w' := by
  have K : ∀ {α : Type} [Lay α] (v : Value) (xs : List α), SeqV w v xs → ∀ W, Below w.heap.size w W → ∀ (i : Nat) (x : α), xs[i]? = some x → ∃ b off c, v = .slice (some ⟨b, off, none⟩) xs.length c ∧ b < w.heap.size ∧ RowAt W b off (cellsL xs) := by
    intro α _ v xs hv W hW i x hx
    obtain ⟨b, off, c, e, hb, hr, _, _⟩ := seq_row hv (by intro h0; rw [h0] at hx; simp at hx)
    exact ⟨b, off, c, e, hb, hr.kept hW hb⟩
  have K1 := hide (K vn t.ns hn)
  have K2 := hide (K un t.ns gn)
  have K3 := hide (K vs t.ss hs)
  have K4 := hide (K us t.ss gs)
  have T0 := hide (TT.new w t.z vn vs un us)
  obtain ⟨na, nc, rfl⟩ := seq_slice hn
  obtain ⟨sa, sc, rfl⟩ := seq_slice hs
  obtain ⟨ma, mc, rfl⟩ := seq_slice gn
  obtain ⟨ra, rc, rfl⟩ := seq_slice gs
  clear hn hs gn gs K
  go_enter Tryd.func15, Tryd.ntmps15
  go_wp2_with fail
  go_loopg [33] t.ns.length (fun kx s33 wr => ∃ k : Nat, s33 = .int .i64 k ∧ k ≤ t.ns.length ∧ t.ns.length - k ≤ kx ∧ Hid (TT w wr t.z (.slice na t.ns.length nc) (.slice sa t.ss.length sc) (.slice ma t.ns.length mc) (.slice ra t.ss.length rc)))
  case atStart => exact ⟨0, rfl, Nat.zero_le _, Nat.le_refl _, T0⟩
  case round =>
    obtain ⟨k, rfl, hk, hg, hT⟩ := hrel
    obtain ⟨c0, c1, c2, c3, c4, c5⟩ := (unhide hT).six
    have hsz := (unhide hT).bl.size
    by_cases hlt : k < t.ns.length
    · obtain ⟨x, hx⟩ : ∃ x, t.ns[k]? = some x := ⟨_, List.getElem?_eq_getElem hlt⟩
      obtain ⟨b1, o1, cc1, he, hb1, q1⟩ := unhide K1 wr (unhide hT).bl k x hx
      simp only [Value.slice.injEq] at he
      obtain ⟨rfl, _, rfl⟩ := he
      obtain ⟨b2, o2, cc2, he, hb2, q2⟩ := unhide K2 wr (unhide hT).bl k x hx
      simp only [Value.slice.injEq] at he
      obtain ⟨rfl, _, rfl⟩ := he
      have d0 := q1.n0 hx
      have d1 := q1.n1 hx
      have d2 := q1.n2 hx
      have d3 := q1.n3 hx
      have d4 := q1.n4 hx
      have d5 := q1.n5 hx
      have d6 := q1.n6 hx
      have d7 := q1.n7 hx
      have d8 := q1.n8 hx
      have r0 := q2.n0 hx
      have r1 := q2.n1 hx
      have r2 := q2.n2 hx
      have r3 := q2.n3 hx
      have r4 := q2.n4 hx
      have r5 := q2.n5 hx
      have r6 := q2.n6 hx
      have r7 := q2.n7 hx
      have r8 := q2.n8 hx
      clear q1 q2 hx
      go_wp2_with fail
      go_region
      go_wp2_with fail
      go_roundg (t.ns.length - (k + 1))
      case measure => omega
      case rel => exact ⟨k + 1, rfl, by omega, Nat.le_refl _, hide ((unhide hT).next (Below.refl _ _).drew)⟩
    · obtain rfl : k = t.ns.length := by omega
      go_wp2_with fail
      go_loopg [51] t.ss.length (fun kx s51 wr => ∃ k : Nat, s51 = .int .i64 k ∧ k ≤ t.ss.length ∧ t.ss.length - k ≤ kx ∧ Hid (TT w wr t.z (.slice na t.ns.length nc) (.slice sa t.ss.length sc) (.slice ma t.ns.length mc) (.slice ra t.ss.length rc)))
      case atStart => exact ⟨0, rfl, Nat.zero_le _, Nat.le_refl _, hT⟩
      case round =>
        obtain ⟨k, rfl, hk, hg, hT⟩ := hrel
        obtain ⟨c0, c1, c2, c3, c4, c5⟩ := (unhide hT).six
        by_cases hlt : k < t.ss.length
        · obtain ⟨x, hx⟩ : ∃ x, t.ss[k]? = some x := ⟨_, List.getElem?_eq_getElem hlt⟩
          obtain ⟨b1, o1, cc1, he, hb1, q1⟩ := unhide K3 wr (unhide hT).bl k x hx
          simp only [Value.slice.injEq] at he
          obtain ⟨rfl, _, rfl⟩ := he
          obtain ⟨b2, o2, cc2, he, hb2, q2⟩ := unhide K4 wr (unhide hT).bl k x hx
          simp only [Value.slice.injEq] at he
          obtain ⟨rfl, _, rfl⟩ := he
          have d0 := q1.i0 hx
          have r0 := q2.i0 hx
          clear q1 q2 hx
          go_wp2_with fail
          go_region
          go_wp2_with fail
          go_roundg (t.ss.length - (k + 1))
          case measure => omega
          case rel => exact ⟨k + 1, rfl, by omega, Nat.le_refl _, hide ((unhide hT).next (Below.refl _ _).drew)⟩
        · obtain rfl : k = t.ss.length := by omega
          go_wp2_with fail
          go_ret
          exact ⟨rfl, (unhide hT).bl⟩

end Go.Proofs.YtmifdieofccjaaaDoor
