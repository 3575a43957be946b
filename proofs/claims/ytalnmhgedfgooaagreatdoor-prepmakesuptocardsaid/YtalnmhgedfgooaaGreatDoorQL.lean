/-
  aviaryref's has, IsOpen, node: the walks.
  aviaryref's GetNode and KidsOf: the walks.
  aviaryref's SameTree and SameEvents, of alike ones: the walks.
-/
import Derived.Test.YtalnmhgedfgooaaGreatDoorMI
import Derived.Test.YtalnmhgedfgooaaGreatDoorQJ
namespace Go.Proofs.YtalnmhgedfgooaaGreatDoor
open Go.RowKit

theorem rret {a b : Bool} (h : a = b) : Ending.returned (.bool a) = .returned (.bool b) := by rw [h]
set_option maxHeartbeats 1000000 in
theorem rhas_any (v : Value) (ss : List Int) (s : Int) (w : World) (hv : SeqV w v ss) (hl : ss.length ≤ 140737488355328) :
    Calls Tryz.prog 50 #[v, .int .i64 s] w fun e w' => e = .returned (.bool (decide (s ∈ ss))) ∧ w' = w := by
  have KR : ∀ (i : Nat) (x : Int), ss[i]? = some x → ∃ b off c, v = .slice (some ⟨b, off, none⟩) ss.length c ∧ w.cell? ⟨b, off + i, none⟩ = some (.int .i64 x) := by
    intro i x hx
    obtain ⟨b, off, c, e, _, hr, _, _⟩ := seq_row hv (by intro h0; rw [h0] at hx; simp at hx)
    exact ⟨b, off, c, e, hr.i0 hx⟩
  have HKR := hide KR
  obtain ⟨va, vc, rfl⟩ := seq_slice hv
  clear hv KR
  go_enter Tryz.func50, Tryz.ntmps50
  go_wp2_with fail
  go_loopg [9] ss.length (fun kx s9 wr => ∃ k : Nat, s9 = .int .i64 k ∧ k ≤ ss.length ∧ ss.length - k ≤ kx ∧ Hid (∀ x ∈ ss.take k, ¬ s = x) ∧ w = wr)
  case atStart => exact ⟨0, rfl, Nat.zero_le _, Nat.le_refl _, hide (by simp), rfl⟩
  case round =>
    obtain ⟨k, rfl, hk, hg, hN, hwr⟩ := hrel
    subst hwr
    by_cases hlt : k < ss.length
    · obtain ⟨x, hx⟩ : ∃ x, ss[k]? = some x := ⟨_, List.getElem?_eq_getElem hlt⟩
      obtain ⟨b, off, c, he, hc⟩ := unhide HKR k x hx
      simp only [Value.slice.injEq] at he
      obtain ⟨rfl, _, rfl⟩ := he
      have HX := hide hx
      clear hx
      by_cases hs : s = x
      · have hb : (s == x) = true := by simpa using hs
        have HS := hide hs
        clear hs
        go_wp2_with fail
        go_ret
        exact ⟨rret (decide_eq_true (by rw [unhide HS]; exact List.mem_of_getElem? (unhide HX))).symm, rfl⟩
      · have hb : (s == x) = false := by simpa using hs
        have HS := hide hs
        clear hs
        go_wp2_with fail
        go_roundg (ss.length - (k + 1))
        case measure => omega
        case rel =>
          refine ⟨k + 1, rfl, by omega, Nat.le_refl _, hide ?_, rfl⟩
          intro y hy
          rw [List.take_add_one, unhide HX] at hy
          rcases List.mem_append.1 hy with h | h
          · exact unhide hN y h
          · obtain rfl : y = x := by simpa using h
            exact unhide HS
    · obtain rfl : k = ss.length := by omega
      have hno : s ∉ ss := fun h => by
        have := unhide hN s (by rw [List.take_length]; exact h)
        exact this rfl
      have HNO := hide hno
      clear hno
      go_wp2_with fail
      go_ret
      exact ⟨rret (decide_eq_false (unhide HNO)).symm, rfl⟩

set_option maxHeartbeats 400000 in
theorem risopen_any (z : Int) (vn vs : Value) (ss : List Int) (s : Int) (w : World) (hv : SeqV w vs ss) (hl : ss.length ≤ 140737488355328) :
    Calls Tryz.prog 25 #[.agg #[.int .i64 z, vn, vs], .int .i64 s] w fun e w' => e = .returned (.bool (decide (s ∈ ss))) ∧ Below w.heap.size w w' := by
  have C := hide (fun W (hW : Below w.heap.size w W) => rhas_any vs ss s W (hv.next hW) hl)
  obtain ⟨a, c, rfl⟩ := seq_slice hv
  clear hv
  generalize decide (s ∈ ss) = hd at C ⊢
  generalize ss.length = n at C ⊢
  go_enter Tryz.func25, Tryz.ntmps25
  go_wp2_with fail
  refine (unhide C _ (allocB _ _)).mono ?_
  rintro e w1 ⟨rfl, rfl⟩
  go_wp2_with fail
  go_ret
  exact ⟨rfl, allocB _ _⟩

/-- the first place of a path -/
structure At (ns : List Nd) (p : List UInt8) (k : Nat) (n : Nd) : Prop where
  at' : ns[k]? = some n
  nm : n.p = p
  no : ∀ i m, i < k → ns[i]? = some m → m.p ≠ p
theorem at_there {ns A B : List Nd} {n : Nd} {p : List UInt8} (T : NThere ns A n B p) : At ns p A.length n := by
  refine ⟨by rw [T.eq]; exact nat_at A n B, T.nm, fun i m hi hm => ?_⟩
  rw [T.eq, List.getElem?_append_left hi] at hm
  exact bl_ne (T.lo m (List.mem_of_getElem? hm))

set_option maxRecDepth 20000 in
set_option maxHeartbeats 2000000 in
theorem rnode_at (z : Int) (vn vs : Value) (ns : List Nd) (p : List UInt8) (j : Nat) (n : Nd) (w : World) (hv : SeqV w vn ns) (hl : ns.length ≤ 140737488355328) (T : At ns p j n) :
    Calls Tryz.prog 51 #[.agg #[.int .i64 z, vn, vs], .string ⟨p.toArray⟩] w fun e w' => e = .returned (.int .i64 j) ∧ Below w.heap.size w w' := by
  have hjl : j < ns.length := (List.getElem?_eq_some_iff.1 T.at').1
  obtain ⟨b, off, cap, rfl, hb, hr, _, _⟩ := seq_row hv (by intro h0; rw [h0] at hjl; simp at hjl)
  have HR := hide (fun W (hW : Below w.heap.size w W) => hr.kept hW hb)
  have HT := hide T
  clear hv hr T
  go_enter Tryz.func51, Tryz.ntmps51
  go_wp2_with fail
  go_loopg [10] ns.length (fun kx s10 wr => ∃ k : Nat, s10 = .int .i64 k ∧ k ≤ j ∧ ns.length - k ≤ kx ∧ Hid (Below w.heap.size w wr))
  case atStart => exact ⟨0, rfl, Nat.zero_le _, Nat.le_refl _, hide (allocB _ _)⟩
  case round =>
    obtain ⟨k, rfl, hk, hg, hB⟩ := hrel
    obtain ⟨x, hx⟩ : ∃ x, ns[k]? = some x := ⟨_, List.getElem?_eq_getElem (by omega)⟩
    have hlt : k < ns.length := by omega
    have q := unhide HR wr (unhide hB)
    have d0 := q.n0 hx
    have d1 := q.n1 hx
    have d2 := q.n2 hx
    have d3 := q.n3 hx
    have d4 := q.n4 hx
    have d5 := q.n5 hx
    have d6 := q.n6 hx
    have d7 := q.n7 hx
    have d8 := q.n8 hx
    have hbw : b < wr.heap.size := Nat.lt_of_lt_of_le hb (unhide hB).size
    have HB1 := hide (nnext (unhide hB) (allocB wr (.cells #[.string ⟨x.p.toArray⟩, .string ⟨x.d.toArray⟩, .int .i64 x.c, .int .i64 x.m, .int .i64 x.q, .int .i64 x.v, .int .i64 x.k, .int .i64 x.o, .int .i64 x.n] 46)))
    clear q
    by_cases hkj : k = j
    · have hxn : x.p = p := by
        have := (unhide HT).at'
        rw [← hkj, hx] at this
        cases this
        exact (unhide HT).nm
      have hpb : (x.p == p) = true := by simpa using hxn
      have HKJ := hide hkj
      clear hxn hx hkj
      go_wp2_with fail
      go_ret
      exact ⟨by have h := unhide HKJ; subst h; rfl, unhide HB1⟩
    · have hxn : x.p ≠ p := (unhide HT).no k x (by omega) hx
      have hpb : (x.p == p) = false := by simpa using hxn
      clear hxn hx
      go_wp2_with fail
      go_roundg (ns.length - (k + 1))
      case measure => omega
      case rel => exact ⟨k + 1, rfl, by omega, Nat.le_refl _, HB1⟩

set_option maxRecDepth 20000 in
set_option maxHeartbeats 2000000 in
theorem rnode_no (z : Int) (vn vs : Value) (ns : List Nd) (p : List UInt8) (w : World) (hv : SeqV w vn ns) (hl : ns.length ≤ 140737488355328) (G : ∀ n ∈ ns, n.p ≠ p) :
    Calls Tryz.prog 51 #[.agg #[.int .i64 z, vn, vs], .string ⟨p.toArray⟩] w fun e w' => e = .returned (.int .i64 (-1)) ∧ Below w.heap.size w w' := by
  have KR : ∀ W, Below w.heap.size w W → ∀ (i : Nat) (x : Nd), ns[i]? = some x → ∃ b off c, vn = .slice (some ⟨b, off, none⟩) ns.length c ∧ b < w.heap.size ∧ RowAt W b off (cellsL ns) := by
    intro W hW i x hx
    obtain ⟨b, off, c, e, hb, hr, _, _⟩ := seq_row hv (by intro h0; rw [h0] at hx; simp at hx)
    exact ⟨b, off, c, e, hb, hr.kept hW hb⟩
  have HKR := hide KR
  obtain ⟨va, vc, rfl⟩ := seq_slice hv
  have HG := hide G
  clear hv KR G
  go_enter Tryz.func51, Tryz.ntmps51
  go_wp2_with fail
  go_loopg [10] ns.length (fun kx s10 wr => ∃ k : Nat, s10 = .int .i64 k ∧ k ≤ ns.length ∧ ns.length - k ≤ kx ∧ Hid (Below w.heap.size w wr))
  case atStart => exact ⟨0, rfl, Nat.zero_le _, Nat.le_refl _, hide (allocB _ _)⟩
  case round =>
    obtain ⟨k, rfl, hk, hg, hB⟩ := hrel
    by_cases hlt : k < ns.length
    · obtain ⟨x, hx⟩ : ∃ x, ns[k]? = some x := ⟨_, List.getElem?_eq_getElem hlt⟩
      obtain ⟨b, off, c, he, hb, q⟩ := unhide HKR wr (unhide hB) k x hx
      simp only [Value.slice.injEq] at he
      obtain ⟨rfl, _, rfl⟩ := he
      have d0 := q.n0 hx
      have d1 := q.n1 hx
      have d2 := q.n2 hx
      have d3 := q.n3 hx
      have d4 := q.n4 hx
      have d5 := q.n5 hx
      have d6 := q.n6 hx
      have d7 := q.n7 hx
      have d8 := q.n8 hx
      have hbw : b < wr.heap.size := Nat.lt_of_lt_of_le hb (unhide hB).size
      have HB1 := hide (nnext (unhide hB) (allocB wr (.cells #[.string ⟨x.p.toArray⟩, .string ⟨x.d.toArray⟩, .int .i64 x.c, .int .i64 x.m, .int .i64 x.q, .int .i64 x.v, .int .i64 x.k, .int .i64 x.o, .int .i64 x.n] 46)))
      have hxn : x.p ≠ p := unhide HG x (List.mem_of_getElem? hx)
      have hpb : (x.p == p) = false := by simpa using hxn
      clear hxn hx q
      go_wp2_with fail
      go_roundg (ns.length - (k + 1))
      case measure => omega
      case rel => exact ⟨k + 1, rfl, by omega, Nat.le_refl _, HB1⟩
    · obtain rfl : k = ns.length := by omega
      go_wp2_with fail
      go_ret
      exact ⟨rfl, unhide hB⟩

end Go.Proofs.YtalnmhgedfgooaaGreatDoor

namespace Go.Proofs.YtalnmhgedfgooaaGreatDoor
open Go.RowKit

/-- aviaryref.Split, at every text that is not too long -/
theorem rsplit_any (p : List UInt8) (w : World) (hl : p.length ≤ 1048576) :
    Calls Tryz.prog 27 #[.string ⟨p.toArray⟩] w fun e w' =>
      e = .returned (.tuple #[.string ⟨(dirOf p).toArray⟩, .string ⟨(stepOf p).toArray⟩, .int .i64 (splE p)]) ∧ Below w.heap.size w w' := by
  cases hg : goodB p with
  | false =>
    rw [dirOf_bad hg, stepOf_bad hg, splE_bad hg]
    exact refSplit_bad p w hl hg
  | true =>
    by_cases hr : p = [47]
    · subst hr
      rw [dirOf_root, stepOf_root, splE_root]
      exact refSplit_root w
    · obtain ⟨a, b, rfl, hb⟩ := good_cut hg
      rw [dirOf_cut hg hr hb, stepOf_cut hg hr hb, splE_ok hg hr]
      exact refSplit_main a b w hb hg hr

set_option maxRecDepth 20000 in
set_option maxHeartbeats 2000000 in
theorem rget_no (z : Int) (vn vs : Value) (ns : List Nd) (p : List UInt8) (w : World) (hn : SeqV w vn ns) (hl : ns.length ≤ 140737488355328) (G : ∀ n ∈ ns, n.p ≠ p) :
    Calls Tryz.prog 26 #[.agg #[.int .i64 z, vn, vs], .string ⟨p.toArray⟩] w fun e w' => e = .returned (.tuple #[nodeV nzero, .int .i64 7]) ∧ Below w.heap.size w w' := by
  have CF := hide (fun W (hW : Below w.heap.size w W) => rnode_no z vn vs ns p W (hn.next hW) hl G)
  have B0 := hide (GB.new w z vn vs)
  obtain ⟨na, nc, rfl⟩ := seq_slice hn
  clear hn G
  go_enter Tryz.func26, Tryz.ntmps26
  go_wp2_with fail
  refine (unhide CF _ (unhide B0).b).mono ?_
  rintro e w1 ⟨rfl, hb1⟩
  have b1 := (unhide B0).next hb1
  have o1 := b1.one
  have c0 := o1.cellN 0 _ rfl
  have c1 := o1.cellN 1 _ rfl
  have c2 := o1.cellN 2 _ rfl
  have c3 := o1.cellN 3 _ rfl
  have c4 := o1.cellN 4 _ rfl
  have c5 := o1.cellN 5 _ rfl
  have c6 := o1.cellN 6 _ rfl
  have c7 := o1.cellN 7 _ rfl
  have c8 := o1.cellN 8 _ rfl
  have f0 := o1.frozenN 0
  have f1 := o1.frozenN 1
  have f2 := o1.frozenN 2
  have f3 := o1.frozenN 3
  have f4 := o1.frozenN 4
  have f5 := o1.frozenN 5
  have f6 := o1.frozenN 6
  have f7 := o1.frozenN 7
  have f8 := o1.frozenN 8
  have HBB := hide b1.b
  clear CF B0 hb1 b1 o1
  go_wp2_with fail
  have BB := unhide HBB
  exact bodyPost_ret (v := .tuple #[nodeV nzero, .int .i64 7]) (by simp [results, Tryz.results26, go_sem, nodeV, nzero, c0, c1, c2, c3, c4, c5, c6, c7, c8]) rfl
    ⟨rfl, ((((((((BB.setCell (by simp) _).setCell (by simp) _).setCell (by simp) _).setCell (by simp) _).setCell (by simp) _).setCell (by simp) _).setCell (by simp) _).setCell (by simp) _).setCell (by simp) _⟩

set_option maxRecDepth 20000 in
set_option maxHeartbeats 2000000 in
theorem rget_at (z : Int) (vn vs : Value) (ns : List Nd) (p : List UInt8) (j : Nat) (n : Nd) (w : World) (hn : SeqV w vn ns) (hl : ns.length ≤ 140737488355328) (T : At ns p j n) :
    Calls Tryz.prog 26 #[.agg #[.int .i64 z, vn, vs], .string ⟨p.toArray⟩] w fun e w' => e = .returned (.tuple #[nodeV n, .int .i64 0]) ∧ Below w.heap.size w w' := by
  have CF := hide (fun W (hW : Below w.heap.size w W) => rnode_at z vn vs ns p j n W (hn.next hW) hl T)
  have hlt : j < ns.length := (List.getElem?_eq_some_iff.1 T.at').1
  have HAT := hide T.at'
  obtain ⟨b, off, cap, rfl, hb, hr, _, _⟩ := seq_row hn (by intro h0; rw [h0] at hlt; simp at hlt)
  have HR := hide (fun W (hW : Below w.heap.size w W) => hr.kept hW hb)
  have B0 := hide (GB.new w z (.slice (some ⟨b, off, none⟩) ns.length cap) vs)
  clear hn T hr
  go_enter Tryz.func26, Tryz.ntmps26
  go_wp2_with fail
  refine (unhide CF _ (unhide B0).b).mono ?_
  rintro e w1 ⟨rfl, hb1⟩
  have b1 := (unhide B0).next hb1
  have e1 := b1.c1
  have q := unhide HR w1 b1.b
  have d0 := q.n0 (unhide HAT)
  have d1 := q.n1 (unhide HAT)
  have d2 := q.n2 (unhide HAT)
  have d3 := q.n3 (unhide HAT)
  have d4 := q.n4 (unhide HAT)
  have d5 := q.n5 (unhide HAT)
  have d6 := q.n6 (unhide HAT)
  have d7 := q.n7 (unhide HAT)
  have d8 := q.n8 (unhide HAT)
  have o1 := b1.one
  have c0 := o1.cellN 0 _ rfl
  have c1 := o1.cellN 1 _ rfl
  have c2 := o1.cellN 2 _ rfl
  have c3 := o1.cellN 3 _ rfl
  have c4 := o1.cellN 4 _ rfl
  have c5 := o1.cellN 5 _ rfl
  have c6 := o1.cellN 6 _ rfl
  have c7 := o1.cellN 7 _ rfl
  have c8 := o1.cellN 8 _ rfl
  have f0 := o1.frozenN 0
  have f1 := o1.frozenN 1
  have f2 := o1.frozenN 2
  have f3 := o1.frozenN 3
  have f4 := o1.frozenN 4
  have f5 := o1.frozenN 5
  have f6 := o1.frozenN 6
  have f7 := o1.frozenN 7
  have f8 := o1.frozenN 8
  have HBB := hide b1.b
  have hneb : b ≠ w.heap.size + 1 := by omega
  clear q CF b1 hb1 o1
  go_wp2_with fail
  have BB := unhide HBB
  exact bodyPost_ret (v := .tuple #[nodeV n, .int .i64 0]) (by simp [results, Tryz.results26, go_sem, nodeV, c0, c1, c2, c3, c4, c5, c6, c7, c8]) rfl
    ⟨rfl, ((((((((BB.setCell (by simp) _).setCell (by simp) _).setCell (by simp) _).setCell (by simp) _).setCell (by simp) _).setCell (by simp) _).setCell (by simp) _).setCell (by simp) _).setCell (by simp) _⟩

end Go.Proofs.YtalnmhgedfgooaaGreatDoor

namespace Go.Proofs.YtalnmhgedfgooaaGreatDoor
open Go.RowKit

/-- two boxes of trees -/
structure TT (w W : World) (z : Int) (vn vs un us : Value) : Prop where
  a : W.heap[w.heap.size]? = some (.cells #[.int .i64 z, vn, vs] 25 (0, 0))
  b : W.heap[w.heap.size + 1]? = some (.cells #[.int .i64 z, un, us] 25 (0, 0))
  bl : Below w.heap.size w W
theorem TT.new (w : World) (z : Int) (vn vs un us : Value) : TT w ((w.alloc (.cells #[.int .i64 z, vn, vs] 25)).alloc (.cells #[.int .i64 z, un, us] 25)) z vn vs un us := by
  refine ⟨?_, ?_, nnext (allocB _ _) (allocB _ _)⟩
  · rw [(allocB _ _).block _ (by simp)]
    exact heap_alloc_new w _
  · have h := heap_alloc_new (w.alloc (.cells #[.int .i64 z, vn, vs] 25)) (.cells #[.int .i64 z, un, us] 25)
    rw [show (w.alloc (.cells #[.int .i64 z, vn, vs] 25)).heap.size = w.heap.size + 1 by simp] at h
    exact h
theorem TT.next {w W V : World} {z : Int} {vn vs un us : Value} (h : TT w W z vn vs un us) (hb : Below W.heap.size W V) : TT w V z vn vs un us :=
  ⟨(hb.block _ (Array.getElem?_eq_some_iff.1 h.a).1).trans h.a, (hb.block _ (Array.getElem?_eq_some_iff.1 h.b).1).trans h.b, nnext h.bl hb⟩
theorem TT.six {w W : World} {z : Int} {vn vs un us : Value} (h : TT w W z vn vs un us) : W.cell? ⟨w.heap.size, 0, none⟩ = some (.int .i64 z) ∧ W.cell? ⟨w.heap.size, 1, none⟩ = some vn ∧ W.cell? ⟨w.heap.size, 2, none⟩ = some vs ∧ W.cell? ⟨w.heap.size + 1, 0, none⟩ = some (.int .i64 z) ∧ W.cell? ⟨w.heap.size + 1, 1, none⟩ = some un ∧ W.cell? ⟨w.heap.size + 1, 2, none⟩ = some us := by
  have h1 := h.a
  have h2 := h.b
  refine ⟨?_, ?_, ?_, ?_, ?_, ?_⟩ <;> simp [World.cell?, h1, h2]

end Go.Proofs.YtalnmhgedfgooaaGreatDoor
