/-
  aviaryref.WriteSnap: the walk.
  aviaryref.WriteSnap of every tree; SnapWrites: the walks.
-/
import Derived.Test.YtmifdieofccjaaaDoorMK
import Derived.Test.YtmifdieofccjaaaDoorMR
import Derived.Test.YtmifdieofccjaaaDoorMF
namespace Go.Proofs.YtmifdieofccjaaaDoor
open Go.RowKit

theorem bo_quiet (n : Nat) (k : Nat) (w : World) (hn : n < 9223372036854775808) (hk : k ≤ 8) (d : Nat) (os : Array Obj) :
    Calls Tryd.prog 26 #[.int .i64 n, .int .i64 k] (Sort.grow (redrawn w d) os) fun e w'' => e = .returned (.string ⟨(be k n).toArray⟩) ∧ ∃ p : Regrown, w'' = Sort.grow (redrawn w p.d) p.os :=
  Calls.regrown_of (bytesOf_any n k (Sort.grow (redrawn w d) os) hn hk)
theorem bo_int {y : Int} (k : Nat) (kk : Int) (hk : kk = k) (h0 : 0 ≤ y) (h1 : y < 9223372036854775808) (h8 : k ≤ 8) (W : World) :
    Calls Tryd.prog 26 #[.int .i64 y, .int .i64 kk] W fun e w' => e = .returned (.string ⟨(be k y.toNat).toArray⟩) ∧ Below W.heap.size W w' := by
  have h := bytesOf_any y.toNat k W (by omega) h8
  rw [Int.toNat_of_nonneg h0] at h
  rw [hk]
  exact h
/-- the tree's box -/
structure TBx (w W : World) (z : Int) (vn vs : Value) : Prop where
  t : W.heap[w.heap.size]? = some (.cells #[.int .i64 z, vn, vs] 25 (0, 0))
  b : Below w.heap.size w W
section
variable {w W V : World} {z : Int} {vn vs : Value}
theorem TBx.lt (h : TBx w W z vn vs) : w.heap.size < W.heap.size := (Array.getElem?_eq_some_iff.1 h.t).1
theorem TBx.next (h : TBx w W z vn vs) (hb : Below W.heap.size W V) : TBx w V z vn vs := ⟨(hb.block _ h.lt).trans h.t, nnext h.b hb⟩
theorem TBx.cells (h : TBx w W z vn vs) : W.cell? ⟨w.heap.size, 0, none⟩ = some (.int .i64 z) ∧ W.cell? ⟨w.heap.size, 1, none⟩ = some vn ∧ W.cell? ⟨w.heap.size, 2, none⟩ = some vs := by
  have h1 := h.t
  refine ⟨?_, ?_, ?_⟩ <;> simp [World.cell?, h1]
end
theorem TBx.new (w : World) (z : Int) (vn vs : Value) : TBx w (w.alloc (.cells #[.int .i64 z, vn, vs] 25)) z vn vs := ⟨heap_alloc_new w _, allocB _ _⟩
/-- a node's numbers in a row of their own -/
def StA (W : World) (q : Nat) (n : Nd) : Prop := W.heap[q]? = some (.cells #[.int .i64 n.c, .int .i64 n.m, .int .i64 n.q, .int .i64 n.v, .int .i64 n.k, .int .i64 n.o, .int .i64 n.n] 3 (0, 0))
theorem StA.new (W : World) (n : Nd) : StA (W.alloc (.cells #[.int .i64 n.c, .int .i64 n.m, .int .i64 n.q, .int .i64 n.v, .int .i64 n.k, .int .i64 n.o, .int .i64 n.n] 3)) W.heap.size n := heap_alloc_new W _
theorem StA.next {W V : World} {q : Nat} {n : Nd} (h : StA W q n) (hb : Below W.heap.size W V) : StA V q n := (hb.block _ (Array.getElem?_eq_some_iff.1 h).1).trans h
theorem StA.num {W : World} {q : Nat} {n : Nd} (h : StA W q n) {j : Nat} {y : Int} (hj : (statI n)[j]? = some y) : W.cell? ⟨q, j, none⟩ = some (.int .i64 y) := by
  have h7 : j < 7 := (List.getElem?_eq_some_iff.1 hj).1
  unfold StA at h
  simp only [World.cell?, h]
  match j, h7 with
  | 0, _ => simpa [statI] using hj
  | 1, _ => simpa [statI] using hj
  | 2, _ => simpa [statI] using hj
  | 3, _ => simpa [statI] using hj
  | 4, _ => simpa [statI] using hj
  | 5, _ => simpa [statI] using hj
  | 6, _ => simpa [statI] using hj
theorem cat_three (a b c : List UInt8) : ByteArray.mk a.toArray ++ ByteArray.mk b.toArray ++ ByteArray.mk c.toArray = ⟨(a ++ (b ++ c)).toArray⟩ := by
  rw [cat_two, cat_two, List.append_assoc]

set_option maxRecDepth 100000 in
set_option maxHeartbeats 4000000 in
theorem rwrite_good (t : Tr) (vn vs : Value) (w : World) (hn : SeqV w vn t.ns) (hs : SeqV w vs t.ss) (g : GoodT t) :
    Calls Tryd.prog 11 #[.agg #[.int .i64 t.z, vn, vs]] w fun e w' => e = .returned (.tuple #[.string ⟨(snapL t).toArray⟩, .int .i64 0]) ∧ Below w.heap.size w w' := by
  have hz := zGood_iff.1 g.zx
  have few := g.nod.few
  have many := sasc_len g.ses
  have T0 := hide (TBx.new w t.z vn vs)
  have HFit := hide (fit_good g)
  have HSes := hide g.ses.2
  have CG : Hid (∀ W, Below w.heap.size w W → Calls Tryd.prog 25 #[.agg #[.int .i64 t.z, vn, vs]] W fun e w' => e = .returned (.bool true) ∧ Below W.heap.size W w') := hide (fun W hW => by
    have h := rgoodT_any t vn vs W (hn.next hW) (hs.next hW) ⟨fun s hs => by have := g.ses.2 s hs; omega, fun n hn => by have h1 := goodB_le (g.nod.ok n hn).path; have h2 := (g.nod.ok n hn).data; omega⟩ (by omega) (fun n hn => by have := goodB_le (g.nod.ok n hn).path; omega) (by omega)
    rwa [goodT_true.2 g] at h)
  have HB : Hid (aheadT t = [83] ++ (be 8 t.z.toNat ++ be 4 t.ss.length) ++ (numsL 4 t.ss ++ (be 4 t.ns.length ++ nodsL t.ns))) := hide (by simp [aheadT, bodT])
  have HSn : Hid (snapL t = aheadT t ++ be 4 (sumN (aheadT t))) := hide rfl
  have lA : (aheadT t).length ≤ 17179869185 := by have := bod_len g; show (bodT t).length + 1 ≤ _; omega
  have hsl := sumN_lt (aheadT t)
  have CSu := hide (fun W => rsum_any (aheadT t) W (by omega))
  have CSn := hide (fun W => bo_int (y := (sumN (aheadT t) : Int)) 4 4 rfl (by omega) (by omega) (by omega) W)
  simp only [Int.toNat_natCast] at CSn
  have l4 := be_length 4 (sumN (aheadT t))
  obtain ⟨AH, hAH⟩ : ∃ A, aheadT t = A := ⟨_, rfl⟩
  rw [hAH] at HB HSn lA hsl CSu CSn l4
  obtain ⟨SU, hSU⟩ : ∃ A, sumN AH = A := ⟨_, rfl⟩
  rw [hSU] at HSn hsl CSu CSn l4
  obtain ⟨SB, hSB⟩ : ∃ A, be 4 SU = A := ⟨_, rfl⟩
  rw [hSB] at HSn CSn l4
  have HN := hide hn
  have HS := hide hs
  have C2 := hide (fun W => bo_int (y := (t.ns.length : Int)) 4 4 rfl (by omega) (by omega) (by omega) W)
  simp only [Int.toNat_natCast] at C2
  obtain ⟨na, nc, rfl⟩ := seq_slice hn
  obtain ⟨sa, sc, rfl⟩ := seq_slice hs
  clear hn hs hAH hSU hSB
  go_enter Tryd.func11, Tryd.ntmps11
  go_wp2_with fail
  refine (unhide CG _ (unhide T0).b).mono ?_
  rintro e W ⟨rfl, hb1⟩
  have T1 := hide ((unhide T0).next hb1)
  clear hb1 T0 CG
  go_upto_region 3 with fail
  have k0 : ∀ d' os, (Sort.grow (redrawn W d') os).cell? ⟨w.heap.size, 0, none⟩ = some (.int .i64 t.z) := fun d' os => cell_regrown (unhide T1).cells.1 d' os
  have k1 : ∀ d' os, (Sort.grow (redrawn W d') os).cell? ⟨w.heap.size, 2, none⟩ = some (.slice sa t.ss.length sc) := fun d' os => cell_regrown (unhide T1).cells.2.2 d' os
  have q0 : ∀ d' os, Calls Tryd.prog 26 #[.int .i64 t.z, .int .i64 8] (Sort.grow (redrawn W d') os) fun e w'' => e = .returned (.string ⟨(be 8 t.z.toNat).toArray⟩) ∧ ∃ p : Regrown, w'' = Sort.grow (redrawn W p.d) p.os := fun d' os => by
    have h := bo_quiet t.z.toNat 8 W (by omega) (by omega) d' os
    rw [Int.toNat_of_nonneg hz.1] at h
    exact h
  have q1 : ∀ d' os, Calls Tryd.prog 26 #[.int .i64 (t.ss.length : Nat), .int .i64 4] (Sort.grow (redrawn W d') os) fun e w'' => e = .returned (.string ⟨(be 4 t.ss.length).toArray⟩) ∧ ∃ p : Regrown, w'' = Sort.grow (redrawn W p.d) p.os := bo_quiet t.ss.length 4 W (by omega) (by omega)
  have l8 := be_length 8 t.z.toNat
  have ls := be_length 4 t.ss.length
  obtain ⟨bz, ez⟩ : ∃ b, be 8 t.z.toNat = b := ⟨_, rfl⟩
  obtain ⟨bs, es⟩ : ∃ b, be 4 t.ss.length = b := ⟨_, rfl⟩
  rw [ez] at q0 l8 HB
  rw [es] at q1 ls HB
  have HF := hide (cat_three [83] bz bs)
  clear ez es
  refine wp_region_quiet_below (by kernel_rfl) (by kernel_rfl) ?_
  repeat (first | go_big_quiet_step (first | with_reducible exact q0 _ _ | with_reducible exact q1 _ _) | quiet_step (first | with_reducible exact q0 _ _ | with_reducible exact q1 _ _))
  refine wpQuiet_nil ?_
  intro _ hw'
  obtain ⟨⟨dq, osq⟩, hw''⟩ := hw'
  subst hw''
  have T2 := hide ((unhide T1).next (below_regrown W dq osq))
  clear q0 q1 k0 k1 T1
  rw [unhide HF]
  obtain ⟨W1, hW1⟩ : ∃ W1, Sort.grow (redrawn W dq) osq = W1 := ⟨_, rfl⟩
  simp only [hW1] at T2 ⊢
  obtain ⟨P, hP⟩ : ∃ P, [83] ++ (bz ++ bs) = P := ⟨_, rfl⟩
  have lP : P.length = 13 := by rw [← hP]; simp only [List.length_append, List.length_singleton]; omega
  rw [hP] at HB ⊢
  clear hW1 hP HF l8 ls
  obtain ⟨c0, c1, c2⟩ := (unhide T2).cells
  go_wp2_with fail
  clear c0 c1 c2
  go_loopg [4, 26] t.ss.length (fun kx s4 s26 wr => ∃ (k : Nat) (L : List UInt8), s4 = .string ⟨L.toArray⟩ ∧ s26 = .int .i64 k ∧ k ≤ t.ss.length ∧ t.ss.length - k ≤ kx ∧ L.length ≤ 13 + k * 4 ∧ Hid (L = P ++ numsL 4 (t.ss.take k)) ∧ Hid (TBx w wr t.z (.slice na t.ns.length nc) (.slice sa t.ss.length sc)))
  case atStart => exact ⟨0, P, rfl, rfl, Nat.zero_le _, Nat.le_refl _, by omega, hide (by simp [numsL]), T2⟩
  case round =>
    obtain ⟨k, L, rfl, rfl, hk, hgk, hL, HL, hT⟩ := hrel
    clear T2
    have hzL : (ByteArray.mk L.toArray).size = L.length := Lib.size_eq ⟨L.toArray⟩
    by_cases hlt : k < t.ss.length
    · obtain ⟨y, hy⟩ : ∃ y, t.ss[k]? = some y := ⟨_, List.getElem?_eq_getElem hlt⟩
      have hyb := unhide HSes y (List.mem_of_getElem? hy)
      obtain ⟨rb, ro, rc, he, hrbl, hrow, _, _⟩ := seq_row ((unhide HS).next (unhide hT).b) (by intro h0; rw [h0] at hy; simp at hy)
      simp only [Value.slice.injEq] at he
      obtain ⟨rfl, _, rfl⟩ := he
      have q0 := hrow.i0 hy
      have HT : Hid (P ++ numsL 4 (t.ss.take k) ++ be 4 y.toNat = P ++ numsL 4 (t.ss.take (k + 1))) := hide (by
        rw [List.take_add_one, hy]
        simp [numsL])
      have CN := hide (bo_int (y := y) 4 4 rfl (by omega) (by omega) (by omega) wr)
      have lb := be_length 4 y.toNat
      obtain ⟨b, hb⟩ : ∃ b, be 4 y.toNat = b := ⟨_, rfl⟩
      rw [hb] at lb CN HT
      have hzb : (ByteArray.mk b.toArray).size = b.length := Lib.size_eq ⟨b.toArray⟩
      clear hb hy hyb hrow
      have hk0 : (0 : Int) ≤ (k : Int) := by omega
      have hk1 : (k : Int) < (t.ss.length : Int) := by omega
      go_wp2_with fail
      refine (unhide CN).mono ?_
      rintro e w5 ⟨rfl, hb5⟩
      have hT5 := hide ((unhide hT).next hb5)
      clear hb5 CN hT q0
      go_wp2_with fail
      rw [cat_two]
      go_roundg (t.ss.length - (k + 1))
      case measure => omega
      case rel => exact ⟨k + 1, L ++ b, rfl, rfl, by omega, Nat.le_refl _, by rw [List.length_append]; omega, hide (by rw [unhide HL]; exact unhide HT), hT5⟩
    · obtain rfl : k = t.ss.length := by omega
      rw [List.take_length] at HL
      have HB2 : Hid (AH = L ++ (be 4 t.ns.length ++ nodsL t.ns)) := hide (by rw [unhide HB, unhide HL]; simp only [List.append_assoc])
      obtain ⟨c0, c1, c2⟩ := (unhide hT).cells
      clear HB HL HS HSes
      have lc := be_length 4 t.ns.length
      obtain ⟨bc, ec⟩ : ∃ b, be 4 t.ns.length = b := ⟨_, rfl⟩
      rw [ec] at C2 lc HB2
      have hzc : (ByteArray.mk bc.toArray).size = bc.length := Lib.size_eq ⟨bc.toArray⟩
      clear ec
      go_wp2_with fail
      refine (unhide C2 _).mono ?_
      rintro e w5 ⟨rfl, hb5⟩
      have T5 := hide ((unhide hT).next hb5)
      clear hb5 C2 hT c0 c1 c2
      obtain ⟨c0, c1, c2⟩ := (unhide T5).cells
      go_wp2_with fail
      rw [cat_two]
      clear c0 c1 c2
      have lQ : (L ++ bc).length ≤ 8589934605 := by rw [List.length_append]; omega
      obtain ⟨Q, hQ⟩ : ∃ Q, L ++ bc = Q := ⟨_, rfl⟩
      have HB3 : Hid (AH = Q ++ nodsL t.ns) := hide (by rw [unhide HB2, ← hQ, List.append_assoc])
      rw [hQ] at lQ ⊢
      clear hQ HB2 hzL hzc
      go_loopg [4, 44] t.ns.length (fun kx s4 s44 wr => ∃ (k : Nat) (L : List UInt8), s4 = .string ⟨L.toArray⟩ ∧ s44 = .int .i64 k ∧ k ≤ t.ns.length ∧ t.ns.length - k ≤ kx ∧ L.length ≤ 8589934605 + k * 66000 ∧ Hid (L = Q ++ nodsL (t.ns.take k)) ∧ Hid (TBx w wr t.z (.slice na t.ns.length nc) (.slice sa t.ss.length sc)))
      case atStart => exact ⟨0, Q, rfl, rfl, Nat.zero_le _, Nat.le_refl _, by omega, hide (by simp [nodsL]), T5⟩
      case round =>
        obtain ⟨k, L, rfl, rfl, hk, hgk, hL, HL, hT⟩ := hrel
        clear T5
        have hzL : (ByteArray.mk L.toArray).size = L.length := Lib.size_eq ⟨L.toArray⟩
        by_cases hlt : k < t.ns.length
        · obtain ⟨n, hy⟩ : ∃ n, t.ns[k]? = some n := ⟨_, List.getElem?_eq_getElem hlt⟩
          have fit := unhide HFit n (List.mem_of_getElem? hy)
          have ll := nod_len fit
          obtain ⟨rb, ro, rc, he, hrbl, hrow, _, _⟩ := seq_row ((unhide HN).next (unhide hT).b) (by intro h0; rw [h0] at hy; simp at hy)
          simp only [Value.slice.injEq] at he
          obtain ⟨rfl, _, rfl⟩ := he
          have y0 := hrow.n0 hy
          have y1 := hrow.n1 hy
          have y2 := hrow.n2 hy
          have y3 := hrow.n3 hy
          have y4 := hrow.n4 hy
          have y5 := hrow.n5 hy
          have y6 := hrow.n6 hy
          have y7 := hrow.n7 hy
          have y8 := hrow.n8 hy
          have HT : Hid (Q ++ nodsL (t.ns.take k) ++ nodL n = Q ++ nodsL (t.ns.take (k + 1))) := hide (by
            rw [List.take_add_one, hy]
            simp [nodsL])
          have hk0 : (0 : Int) ≤ (k : Int) := by omega
          have hk1 : (k : Int) < (t.ns.length : Int) := by omega
          clear hy hrow
          go_upto_region 13 with fail
          have hTW := hide ((unhide hT).next (allocB wr (.cells #[.string ⟨n.p.toArray⟩, .string ⟨n.d.toArray⟩, .int .i64 n.c, .int .i64 n.m, .int .i64 n.q, .int .i64 n.v, .int .i64 n.k, .int .i64 n.o, .int .i64 n.n] 47)))
          have X0 := hide (NB.new wr n)
          obtain ⟨W2, hW2⟩ : ∃ W2, wr.alloc (.cells #[.string ⟨n.p.toArray⟩, .string ⟨n.d.toArray⟩, .int .i64 n.c, .int .i64 n.m, .int .i64 n.q, .int .i64 n.v, .int .i64 n.k, .int .i64 n.o, .int .i64 n.n] 47) = W2 := ⟨_, rfl⟩
          rw [hW2] at X0 hTW ⊢
          have fp := fit.p
          have fd := fit.d
          have HI := hide fit.i
          have k0 : ∀ d' os, (Sort.grow (redrawn W2 d') os).cell? ⟨wr.heap.size, 0, none⟩ = some (.string ⟨n.p.toArray⟩) := fun d' os => cell_regrown (unhide X0).two.1 d' os
          have k1 : ∀ d' os, (Sort.grow (redrawn W2 d') os).cell? ⟨wr.heap.size, 1, none⟩ = some (.string ⟨n.d.toArray⟩) := fun d' os => cell_regrown (unhide X0).two.2 d' os
          have q0 : ∀ d' os, Calls Tryd.prog 26 #[.int .i64 (n.p.length : Nat), .int .i64 1] (Sort.grow (redrawn W2 d') os) fun e w'' => e = .returned (.string ⟨(be 1 n.p.length).toArray⟩) ∧ ∃ p : Regrown, w'' = Sort.grow (redrawn W2 p.d) p.os := bo_quiet n.p.length 1 W2 (by omega) (by omega)
          have q1 : ∀ d' os, Calls Tryd.prog 26 #[.int .i64 (n.d.length : Nat), .int .i64 2] (Sort.grow (redrawn W2 d') os) fun e w'' => e = .returned (.string ⟨(be 2 n.d.length).toArray⟩) ∧ ∃ p : Regrown, w'' = Sort.grow (redrawn W2 p.d) p.os := bo_quiet n.d.length 2 W2 (by omega) (by omega)
          have hzp : (ByteArray.mk n.p.toArray).size = n.p.length := Lib.size_eq ⟨n.p.toArray⟩
          have hzd : (ByteArray.mk n.d.toArray).size = n.d.length := Lib.size_eq ⟨n.d.toArray⟩
          have l1 := be_length 1 n.p.length
          have l2 := be_length 2 n.d.length
          have HNd : Hid (nodL n = be 1 n.p.length ++ (n.p ++ (be 2 n.d.length ++ n.d)) ++ numsL 8 (statI n)) := hide (by simp [nodL])
          obtain ⟨b1, e1⟩ : ∃ b, be 1 n.p.length = b := ⟨_, rfl⟩
          obtain ⟨b2, e2⟩ : ∃ b, be 2 n.d.length = b := ⟨_, rfl⟩
          rw [e1] at q0 l1 HNd
          rw [e2] at q1 l2 HNd
          have HF := hide (cat_four b1 n.p b2 n.d)
          have HF2 := hide (cat_two L (b1 ++ (n.p ++ (b2 ++ n.d))))
          clear e1 e2 hW2 y0 y1 y2 y3 y4 y5 y6 y7 y8 fit
          refine wp_region_quiet_below (by kernel_rfl) (by kernel_rfl) ?_
          repeat (first | go_big_quiet_step (first | with_reducible exact q0 _ _ | with_reducible exact q1 _ _) | quiet_step (first | with_reducible exact q0 _ _ | with_reducible exact q1 _ _))
          refine wpQuiet_nil ?_
          intro _ hw'
          obtain ⟨⟨dq, osq⟩, hw''⟩ := hw'
          subst hw''
          have X1 := hide ((unhide X0).next (below_regrown W2 dq osq))
          have hT1 := hide ((unhide hTW).next (below_regrown W2 dq osq))
          clear q0 q1 k0 k1 X0 hTW
          rw [unhide HF, unhide HF2]
          obtain ⟨W3, hW3⟩ : ∃ W3, Sort.grow (redrawn W2 dq) osq = W3 := ⟨_, rfl⟩
          simp only [hW3] at X1 hT1 ⊢
          obtain ⟨F, hF⟩ : ∃ F, L ++ (b1 ++ (n.p ++ (b2 ++ n.d))) = F := ⟨_, rfl⟩
          have hFl : F.length + 56 ≤ 8589934605 + (k + 1) * 66000 := by rw [← hF]; simp only [List.length_append]; omega
          have HFn : Hid (F ++ numsL 8 (statI n) = Q ++ nodsL (t.ns.take (k + 1))) := hide (by rw [← hF, ← unhide HT, unhide HNd, unhide HL]; simp only [List.append_assoc])
          rw [hF]
          have z0 := (unhide X1).num (k := 0) rfl
          have z1 := (unhide X1).num (k := 1) rfl
          have z2 := (unhide X1).num (k := 2) rfl
          have z3 := (unhide X1).num (k := 3) rfl
          have z4 := (unhide X1).num (k := 4) rfl
          have z5 := (unhide X1).num (k := 5) rfl
          have z6 := (unhide X1).num (k := 6) rfl
          clear hW3 hF HF HF2 HT HNd HL hzL
          go_wp2_with fail
          have A0 := hide (StA.new W3 n)
          have hT2 := hide ((unhide hT1).next (allocB W3 (.cells #[.int .i64 n.c, .int .i64 n.m, .int .i64 n.q, .int .i64 n.v, .int .i64 n.k, .int .i64 n.o, .int .i64 n.n] 3)))
          obtain ⟨W4, hW4⟩ : ∃ W4, W3.alloc (.cells #[.int .i64 n.c, .int .i64 n.m, .int .i64 n.q, .int .i64 n.v, .int .i64 n.k, .int .i64 n.o, .int .i64 n.n] 3) = W4 := ⟨_, rfl⟩
          rw [hW4] at A0 hT2 ⊢
          obtain ⟨gg, hgg⟩ : ∃ gg, W3.heap.size = gg := ⟨_, rfl⟩
          rw [hgg] at A0 ⊢
          clear hW4 hgg z0 z1 z2 z3 z4 z5 z6 X1 hT1
          go_loopg [4, 88] 7 (fun kx s4 s88 wv => ∃ (j : Nat) (M : List UInt8), s4 = .string ⟨M.toArray⟩ ∧ s88 = .int .i64 j ∧ j ≤ 7 ∧ 7 - j ≤ kx ∧ M.length ≤ F.length + j * 8 ∧ Hid (M = F ++ numsL 8 ((statI n).take j)) ∧ Hid (StA wv gg n) ∧ Hid (TBx w wv t.z (.slice (some ⟨rb, ro, none⟩) t.ns.length nc) (.slice sa t.ss.length sc)))
          case atStart => exact ⟨0, F, rfl, rfl, by omega, by omega, by omega, hide (by simp [numsL]), A0, hT2⟩
          case round =>
            obtain ⟨j, M, rfl, rfl, hj, hgj, hM, HM, hA, hV⟩ := hrel
            clear A0 hT2
            have hzM : (ByteArray.mk M.toArray).size = M.length := Lib.size_eq ⟨M.toArray⟩
            by_cases hlj : j < 7
            · obtain ⟨y, hy⟩ : ∃ y, (statI n)[j]? = some y := ⟨_, List.getElem?_eq_getElem (show j < (statI n).length from hlj)⟩
              have hyb := unhide HI y (List.mem_of_getElem? hy)
              have q1 := (unhide hA).num hy
              have HS2 : Hid (F ++ numsL 8 ((statI n).take j) ++ be 8 y.toNat = F ++ numsL 8 ((statI n).take (j + 1))) := hide (by
                rw [List.take_add_one, hy]
                simp [numsL])
              have CN := hide (bo_int (y := y) 8 8 rfl (by omega) (by omega) (by omega) wr)
              have lb := be_length 8 y.toNat
              obtain ⟨b, hb⟩ : ∃ b, be 8 y.toNat = b := ⟨_, rfl⟩
              rw [hb] at lb CN HS2
              have hzb : (ByteArray.mk b.toArray).size = b.length := Lib.size_eq ⟨b.toArray⟩
              clear hb hy hyb
              have hj0 : (0 : Int) ≤ (j : Int) := by omega
              have hj1 : (j : Int) < 7 := by omega
              go_wp2_with fail
              refine (unhide CN).mono ?_
              rintro e w5 ⟨rfl, hb5⟩
              have hV5 := hide ((unhide hV).next hb5)
              have hA5 := hide ((unhide hA).next hb5)
              clear hb5 CN q1 hV hA
              go_wp2_with fail
              rw [cat_two]
              go_roundg (7 - (j + 1))
              case measure => omega
              case rel => exact ⟨j + 1, M ++ b, rfl, rfl, by omega, Nat.le_refl _, by rw [List.length_append]; omega, hide (by rw [unhide HM]; exact unhide HS2), hA5, hV5⟩
            · obtain rfl : j = 7 := by omega
              have HM2 : Hid (M = Q ++ nodsL (t.ns.take (k + 1))) := hide (by rw [unhide HM, ← unhide HFn]; rfl)
              clear HM
              go_wp2_with fail
              go_roundg (t.ns.length - (k + 1))
              case measure => omega
              case rel => exact ⟨k + 1, M, rfl, rfl, by omega, Nat.le_refl _, by omega, HM2, hV⟩
        · obtain rfl : k = t.ns.length := by omega
          rw [List.take_length, ← unhide HB3] at HL
          have hLA := unhide HL
          subst hLA
          have HF := hide (cat_two L SB)
          have hzS : (ByteArray.mk SB.toArray).size = SB.length := Lib.size_eq ⟨SB.toArray⟩
          clear HL HB3
          go_wp2_with fail
          refine (unhide CSu _).mono ?_
          rintro e w6 ⟨rfl, hb6⟩
          have B6 := hide (nnext (unhide hT).b hb6)
          clear hb6 CSu
          go_wp2_with fail
          refine (unhide CSn _).mono ?_
          rintro e w7 ⟨rfl, hb7⟩
          have B7 := hide (nnext (unhide B6) hb7)
          clear hb7 CSn B6
          go_wp2_with fail
          rw [unhide HF, ← unhide HSn]
          go_ret2
          exact ⟨rfl, unhide B7⟩
end Go.Proofs.YtmifdieofccjaaaDoor

namespace Go.Proofs.YtmifdieofccjaaaDoor
open Go.RowKit

set_option maxRecDepth 20000 in
set_option maxHeartbeats 1000000 in
theorem rwrite_any (t : Tr) (vn vs : Value) (w : World) (hn : SeqV w vn t.ns) (hs : SeqV w vs t.ss) (hw : WfT t) (hzb : t.z ≤ 9223372036854775807) (hlong : ∀ n ∈ t.ns, n.p.length ≤ 1048576) (hls : t.ss.length ≤ 140737488355328) :
    Calls Tryd.prog 11 #[.agg #[.int .i64 t.z, vn, vs]] w fun e w' => e = .returned (.tuple #[.string ⟨(wrS t).toArray⟩, .int .i64 (wrE t)]) ∧ Below w.heap.size w w' := by
  cases hg : goodT t with
  | true =>
    have h1 : wrS t = snapL t := by rw [wrS, if_pos hg]
    have h2 : wrE t = 0 := by rw [wrE, if_pos hg]
    rw [h1, h2]
    exact rwrite_good t vn vs w hn hs (goodT_true.1 hg)
  | false =>
    have h1 : wrS t = [] := by rw [wrS, if_neg (by rw [hg]; decide)]
    have h2 : wrE t = 3 := by rw [wrE, if_neg (by rw [hg]; decide)]
    rw [h1, h2]
    have CG := hide (fun W (hW : Below w.heap.size w W) => rgoodT_any t vn vs W (hn.next hW) (hs.next hW) hw hzb hlong hls)
    rw [hg] at CG
    obtain ⟨na, nc, rfl⟩ := seq_slice hn
    obtain ⟨sa, sc, rfl⟩ := seq_slice hs
    clear hn hs h1 h2 hg
    go_enter Tryd.func11, Tryd.ntmps11
    go_wp2_with fail
    refine (unhide CG _ (allocB _ _)).mono ?_
    rintro e w1 ⟨rfl, hb1⟩
    have B1 := hide (nbox_then hb1)
    clear hb1 CG
    go_wp2_with fail
    go_ret2
    exact ⟨rfl, unhide B1⟩

set_option maxRecDepth 20000 in
set_option maxHeartbeats 1000000 in
theorem snapWrites_walk (t : Tr) (vn vs : Value) (w : World) (hn : SeqV w vn t.ns) (hs : SeqV w vs t.ss) (hw : WfT t) (hzb : t.z ≤ 9223372036854775807) (hlong : ∀ n ∈ t.ns, n.p.length ≤ 1048576) (hl : t.ns.length * 88 ≤ 140737488355328) (hls : t.ss.length * 8 ≤ 140737488355328) :
    Calls Tryd.prog 3 #[.agg #[.int .i64 t.z, vn, vs]] w fun e w' => e = .returned (.bool true) ∧ Below w.heap.size w w' := by
  have CO := hide (fun W (hW : Below w.heap.size w W) => rcopyT_any t vn vs W (hn.next hW) (hs.next hW) hl hls)
  have CW := hide (fun (W : World) (vn vs : Value) (hn : SeqV W vn t.ns) (hs : SeqV W vs t.ss) => swrite_any t vn vs W hn hs hw)
  have CR := hide (fun W (hW : Below w.heap.size w W) => rwrite_any t vn vs W (hn.next hW) (hs.next hW) hw hzb hlong (by omega))
  unfold GivesT at CO
  have HT := hide (heap_alloc_new w (.cells #[.int .i64 t.z, vn, vs] 25))
  obtain ⟨S, hS⟩ : ∃ S, wrS t = S := ⟨_, rfl⟩
  obtain ⟨E, hE⟩ : ∃ S, wrE t = S := ⟨_, rfl⟩
  rw [hS, hE] at CW CR
  obtain ⟨na, nc, rfl⟩ := seq_slice hn
  obtain ⟨sa, sc, rfl⟩ := seq_slice hs
  clear hn hs hS hE
  go_enter Tryd.func3, Tryd.ntmps3
  go_wp2_with fail
  refine (unhide CO _ (allocB _ _)).mono ?_
  rintro e w1 ⟨vn1, vs1, rfl, n1, s1, hb1⟩
  have N1 := hide n1.seq
  have S1 := hide s1.seq
  have B1 := hide (nbox_then hb1)
  have T1 := hide ((hb1.block _ (by simp)).trans (unhide HT))
  clear n1 s1 hb1 CO HT
  go_wp2_with fail
  refine (unhide CW _ _ _ (unhide N1) (unhide S1)).mono ?_
  rintro e w2 ⟨rfl, hb2⟩
  have B2 := hide (nnext (unhide B1) hb2)
  have T2 := hide ((hb2.block _ (Array.getElem?_eq_some_iff.1 (unhide T1)).1).trans (unhide T1))
  have d0 : w2.cell? ⟨w.heap.size, 0, none⟩ = some (.int .i64 t.z) := by have h := unhide T2; simp [World.cell?, h]
  have d1 : w2.cell? ⟨w.heap.size, 1, none⟩ = some (.slice na t.ns.length nc) := by have h := unhide T2; simp [World.cell?, h]
  have d2 : w2.cell? ⟨w.heap.size, 2, none⟩ = some (.slice sa t.ss.length sc) := by have h := unhide T2; simp [World.cell?, h]
  clear hb2 N1 S1 B1 CW T1
  go_wp2_with fail
  refine (unhide CR _ (unhide B2)).mono ?_
  rintro e w3 ⟨rfl, hb3⟩
  have B3 := hide (nnext (unhide B2) hb3)
  clear hb3 B2 CR
  go_wp2_with fail
  go_ret
  exact ⟨rfl, unhide B3⟩
end Go.Proofs.YtmifdieofccjaaaDoor
