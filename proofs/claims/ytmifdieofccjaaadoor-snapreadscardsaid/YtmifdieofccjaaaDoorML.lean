/-
  snap.node: the node that a cursor comes upon: the walk.
  snap.unfolded: the tree that a cursor comes upon: the walk.
-/
import Derived.Test.YtmifdieofccjaaaDoorMJ
import Derived.Test.YtmifdieofccjaaaDoorMI
import Derived.Test.YtmifdieofccjaaaDoorShelf
import Derived.Test.YtmifdieofccjaaaDoorMF
import Derived.Test.YtmifdieofccjaaaDoorMD
import Derived.Deep.CutRange
import Derived.Deep.CutBlock
namespace Go.Proofs.YtmifdieofccjaaaDoor
open Go.RowKit

/-- of what there was, block g alone may have turned -/
structure Past (g : Nat) (w w' : World) : Prop where
  os : w'.os = w.os
  tape : w'.tape = w.tape
  output : w'.output = w.output
  size : w.heap.size ≤ w'.heap.size
  block : ∀ k, k < w.heap.size → k ≠ g → w'.heap[k]? = w.heap[k]?
theorem Past.refl (g : Nat) (w : World) : Past g w w := ⟨rfl, rfl, rfl, Nat.le_refl _, fun _ _ _ => rfl⟩
theorem Past.trans {g : Nat} {a b c : World} (h : Past g a b) (k : Past g b c) : Past g a c :=
  ⟨k.os.trans h.os, k.tape.trans h.tape, k.output.trans h.output, Nat.le_trans h.size k.size, fun i hi hg => (k.block i (Nat.lt_of_lt_of_le hi h.size) hg).trans (h.block i hi hg)⟩
theorem Past.only {g : Nat} {a b c : World} (h : Past g a b) (k : Only g b c) : Past g a c :=
  h.trans ⟨k.os, k.tape, k.output, Nat.le_of_eq k.size.symm, fun i _ hg => k.block i hg⟩
theorem Past.below {g : Nat} {a b c : World} (h : Past g a b) (k : Below b.heap.size b c) : Past g a c :=
  h.trans ⟨k.os, k.tape, k.output, k.size, fun i hi _ => k.block i hi⟩
theorem Past.set {g : Nat} {a b : World} (h : Past g a b) {q : Nat} (j : Nat) (v : Value) (hq : a.heap.size ≤ q) : Past g a (b.setCell ⟨q, j, none⟩ v) :=
  ⟨h.os, h.tape, h.output, by simpa [World.setCell] using h.size, fun i hi hg => (Below.heap_setCell _ _ _ _ (by simp only; omega)).trans (h.block i hi hg)⟩
theorem Past.over {g B : Nat} {a w w' : World} (h : Past g w w') (hb : Below B a w) (hg : B ≤ g) (hB : B ≤ w.heap.size) : Below B a w' :=
  hb.trans ⟨h.os, h.tape, h.output, h.size, fun k hk => h.block k (by omega) (by omega)⟩

set_option maxHeartbeats 400000 in
theorem sclone_any (s : List UInt8) (w : World) (hs : s.length ≤ 281474976710656) :
    Calls Tryd.prog 62 #[.string ⟨s.toArray⟩] w fun e w' => e = .returned (.string ⟨s.toArray⟩) ∧ Below w.heap.size w w' := by
  have C := fun W => Tryd.stringslite_Clone ⟨s.toArray⟩ W (show (ByteArray.mk s.toArray).size ≤ _ from hs)
  go_enter Tryd.func62, Tryd.ntmps62
  go_wp2_with fail
  refine (C _).mono ?_
  rintro e w1 ⟨rfl, hb1⟩
  go_wp2_with fail
  go_ret
  exact ⟨rfl, hb1⟩

/-- a node's cells: its texts, its numbers -/
def ndC (p d : List UInt8) (l : List Int) : List Value := .string ⟨p.toArray⟩ :: .string ⟨d.toArray⟩ :: l.map (.int .i64 ·)
structure NdS (w W : World) (g : Nat) (r : List UInt8) (b : Bool) (p d : List UInt8) (l : List Int) : Prop where
  x0 : W.heap[w.heap.size]? = some (.cells #[.string ⟨#[]⟩, .string ⟨#[]⟩, .int .i64 0, .int .i64 0, .int .i64 0, .int .i64 0, .int .i64 0, .int .i64 0, .int .i64 0] 47 (0, 0))
  x : W.heap[w.heap.size + 1]? = some (.cells (ndC p d l).toArray 47 (0, 0))
  c : Cur W g r b
  gl : g < w.heap.size
  pa : Past g w W
section
variable {w W V : World} {g : Nat} {r r' : List UInt8} {b b' : Bool} {p d : List UInt8} {l : List Int}
theorem NdS.lt (h : NdS w W g r b p d l) : w.heap.size + 1 < W.heap.size := (Array.getElem?_eq_some_iff.1 h.x).1
theorem NdS.cur (h : NdS w W g r b p d l) (hc : Cur V g r' b') (ho : Only g W V) : NdS w V g r' b' p d l :=
  ⟨(ho.block _ (by have := h.gl; omega)).trans h.x0, (ho.block _ (by have := h.gl; omega)).trans h.x, hc, h.gl, h.pa.only ho⟩
theorem NdS.next (h : NdS w W g r b p d l) (hb : Below W.heap.size W V) : NdS w V g r b p d l :=
  ⟨(hb.block _ (by have := h.lt; omega)).trans h.x0, (hb.block _ h.lt).trans h.x, h.c.kept hb (by have := h.lt; have := h.gl; omega), h.gl, h.pa.below hb⟩
theorem NdS.f (h : NdS w W g r b p d l) (j : Nat) : W.frozen? ⟨w.heap.size + 1, j, none⟩ = false := by
  have h1 := h.x
  simp [World.frozen?, h1]
theorem NdS.f0 (h : NdS w W g r b p d l) (j : Nat) : W.frozen? ⟨w.heap.size, j, none⟩ = false := by
  have h1 := h.x0
  simp [World.frozen?, h1]
theorem NdS.cell (h : NdS w W g r b p d l) (j : Nat) : W.cell? ⟨w.heap.size + 1, j, none⟩ = (ndC p d l)[j]? := by
  have h1 := h.x
  simp [World.cell?, h1]
theorem NdS.cell0 (h : NdS w W g r b p d l) : W.cell? ⟨w.heap.size, 0, none⟩ = some (.string ⟨#[]⟩) ∧ W.cell? ⟨w.heap.size, 1, none⟩ = some (.string ⟨#[]⟩) ∧ W.cell? ⟨w.heap.size, 2, none⟩ = some (.int .i64 0) ∧ W.cell? ⟨w.heap.size, 3, none⟩ = some (.int .i64 0) ∧ W.cell? ⟨w.heap.size, 4, none⟩ = some (.int .i64 0) ∧ W.cell? ⟨w.heap.size, 5, none⟩ = some (.int .i64 0) ∧ W.cell? ⟨w.heap.size, 6, none⟩ = some (.int .i64 0) ∧ W.cell? ⟨w.heap.size, 7, none⟩ = some (.int .i64 0) ∧ W.cell? ⟨w.heap.size, 8, none⟩ = some (.int .i64 0) := by
  have h1 := h.x0
  refine ⟨?_, ?_, ?_, ?_, ?_, ?_, ?_, ?_, ?_⟩ <;> simp [World.cell?, h1]
theorem NdS.put (h : NdS w W g r b p d l) (j : Nat) (v : Value) {p' d' : List UInt8} {l' : List Int} (e : (ndC p d l).set j v = ndC p' d' l') : NdS w (W.setCell ⟨w.heap.size + 1, j, none⟩ v) g r b p' d' l' := by
  refine ⟨(Below.heap_setCell _ _ _ _ (by simp)).trans h.x0, ?_, ?_, h.gl, h.pa.set j v (by omega)⟩
  · rw [cur_set v h.x, ← e]
    simp
  · unfold Cur
    rw [Below.heap_setCell _ _ _ _ (by simp only; have := h.gl; omega)]
    exact h.c
end
theorem w64_nat {a : Nat} (h : a < 9223372036854775808) : wrap64 (a : Int) = a := by unfold wrap64; omega
theorem un_le1 (r : List UInt8) : un (r.take 1) < 256 := by
  have h := un_lt (r.take 1)
  have h2 : 256 ^ (r.take 1).length ≤ 256 ^ 1 := Nat.pow_le_pow_right (by decide) (by rw [List.length_take]; omega)
  rw [p256_1] at h2
  omega
theorem un_le2 (r : List UInt8) : un (r.take 2) < 65536 := by
  have h := un_lt (r.take 2)
  have h2 : 256 ^ (r.take 2).length ≤ 256 ^ 2 := Nat.pow_le_pow_right (by decide) (by rw [List.length_take]; omega)
  rw [p256_2] at h2
  omega
theorem un_le4 (r : List UInt8) : un (r.take 4) < 4294967296 := by
  have h := un_lt (r.take 4)
  have h2 : 256 ^ (r.take 4).length ≤ 256 ^ 4 := Nat.pow_le_pow_right (by decide) (by rw [List.length_take]; omega)
  rw [p256_4] at h2
  omega
theorem Only.cell_eq {g : Nat} {W V : World} (h : Only g W V) {a : Addr} (ha : a.block ≠ g) : V.cell? a = W.cell? a := by
  unfold World.cell?
  rw [h.block _ ha]
theorem PtrAt.other {W : World} {gg b o q : Nat} (h : PtrAt W gg b o) (j : Nat) (v : Value) (hq : q ≠ gg) : PtrAt (W.setCell ⟨q, j, none⟩ v) gg b o := (Below.heap_setCell _ _ _ _ (fun e => hq e.symm)).trans h
theorem PtrAt.only {W V : World} {gg b o g : Nat} (h : PtrAt W gg b o) (ho : Only g W V) (hg : gg ≠ g) : PtrAt V gg b o := (ho.block _ hg).trans h
theorem nset_zero {l : List Int} {k : Nat} (hl : l.length = k) (hk : k < 7) (y : Int) : (l ++ List.replicate (7 - k) 0).set k y = (l ++ [y]) ++ List.replicate (7 - (k + 1)) 0 := by
  obtain ⟨m, hm⟩ : ∃ m, 7 - k = m + 1 := ⟨6 - k, by omega⟩
  rw [hm, show 7 - (k + 1) = m by omega, List.set_append_right _ _ (by omega), hl, Nat.sub_self, List.replicate_succ, List.set_cons_zero, List.append_assoc]
  rfl

/-- the answer of node -/
def NodeG (g : Nat) (r : List UInt8) (b : Bool) (w : World) (e : Ending) (w' : World) : Prop :=
  ∃ n r' b', e = .returned (.agg (ncells n).toArray) ∧ RdOk parN r b n r' b' ∧ Cur w' g r' b' ∧ Past g w w' ∧ n.p.length ≤ 255 ∧ n.d.length ≤ 65535
/-- nine cells are written into the first box -/
theorem NdS.fill {w W : World} {g : Nat} {r : List UInt8} {b : Bool} {p d : List UInt8} {l : List Int} (h : NdS w W g r b p d l) (v0 v1 v2 v3 v4 v5 v6 v7 v8 : Value) (V : World)
    (hV : V = (((((((((W.setCell ⟨w.heap.size, 0, none⟩ v0).setCell ⟨w.heap.size, 1, none⟩ v1).setCell ⟨w.heap.size, 2, none⟩ v2).setCell ⟨w.heap.size, 3, none⟩ v3).setCell ⟨w.heap.size, 4, none⟩ v4).setCell ⟨w.heap.size, 5, none⟩ v5).setCell ⟨w.heap.size, 6, none⟩ v6).setCell ⟨w.heap.size, 7, none⟩ v7).setCell ⟨w.heap.size, 8, none⟩ v8)) :
    V.heap[w.heap.size]? = some (.cells #[v0, v1, v2, v3, v4, v5, v6, v7, v8] 47 (0, 0)) ∧ Cur V g r b ∧ Past g w V := by
  subst hV
  have hg := h.gl
  refine ⟨?_, ?_, ((((((((h.pa.set _ _ (Nat.le_refl _)).set _ _ (Nat.le_refl _)).set _ _ (Nat.le_refl _)).set _ _ (Nat.le_refl _)).set _ _ (Nat.le_refl _)).set _ _ (Nat.le_refl _)).set _ _ (Nat.le_refl _)).set _ _ (Nat.le_refl _)).set _ _ (Nat.le_refl _)⟩
  · rw [cur_set v8 (cur_set v7 (cur_set v6 (cur_set v5 (cur_set v4 (cur_set v3 (cur_set v2 (cur_set v1 (cur_set v0 h.x0))))))))]
    simp
  · have no : g ≠ w.heap.size := by omega
    unfold Cur
    rw [Below.heap_setCell _ _ _ _ no, Below.heap_setCell _ _ _ _ no, Below.heap_setCell _ _ _ _ no, Below.heap_setCell _ _ _ _ no, Below.heap_setCell _ _ _ _ no, Below.heap_setCell _ _ _ _ no, Below.heap_setCell _ _ _ _ no, Below.heap_setCell _ _ _ _ no, Below.heap_setCell _ _ _ _ no]
    exact h.c

set_option maxRecDepth 20000 in
set_option maxHeartbeats 4000000 in
theorem node_any (g : Nat) (r : List UInt8) (b : Bool) (w : World) (hc : Cur w g r b) :
    Calls Tryd.prog 53 #[.pointer (some ⟨g, 0, none⟩)] w (NodeG g r b w) := by
  have hgl : g < w.heap.size := (Array.getElem?_eq_some_iff.1 hc).1
  have Z0 : Hid (NdS w ((w.alloc (.cells #[.string ⟨#[]⟩, .string ⟨#[]⟩, .int .i64 0, .int .i64 0, .int .i64 0, .int .i64 0, .int .i64 0, .int .i64 0, .int .i64 0] 47)).alloc (.cells #[.string ⟨#[]⟩, .string ⟨#[]⟩, .int .i64 0, .int .i64 0, .int .i64 0, .int .i64 0, .int .i64 0, .int .i64 0, .int .i64 0] 47)) g r b [] [] [0, 0, 0, 0, 0, 0, 0]) := hide (by
    obtain ⟨o, ho⟩ : ∃ o : Obj, o = .cells #[.string ⟨#[]⟩, .string ⟨#[]⟩, .int .i64 0, .int .i64 0, .int .i64 0, .int .i64 0, .int .i64 0, .int .i64 0, .int .i64 0] 47 := ⟨_, rfl⟩
    rw [← ho]
    have bb := nnext (allocB w o) (allocB (w.alloc o) o)
    have h2 := heap_alloc_new (w.alloc o) o
    rw [show (w.alloc o).heap.size = w.heap.size + 1 by simp] at h2
    refine ⟨?_, ?_, hc.kept bb hgl, hgl, (Past.refl g w).below bb⟩
    · rw [(allocB _ _).block _ (by simp), heap_alloc_new w o, ho]
    · rw [h2, ho]
      rfl)
  have K1 := hide (rdok_tk 1 r b)
  have ua := un_le1 r
  have CN1 := hide (fun W (h : Cur W g r b) => cnumber_any g 1 r b W (by omega) h)
  rw [w64_nat (by omega)] at CN1
  obtain ⟨A, hA⟩ : ∃ A, r.take 1 = A := ⟨_, rfl⟩
  obtain ⟨r1, hr1⟩ : ∃ x, r.drop 1 = x := ⟨_, rfl⟩
  obtain ⟨b1, hb1⟩ : ∃ x, (b || decide (r.length < 1)) = x := ⟨_, rfl⟩
  rw [hA, hr1, hb1] at K1 CN1
  rw [hA] at ua
  have K2 := hide (rdok_tk (un A) r1 b1)
  have CT1 := hide (fun W (h : Cur W g r1 b1) => text_any g (un A) r1 b1 W (by omega) h)
  have lP : (r1.take (un A)).length ≤ 255 := by rw [List.length_take]; omega
  obtain ⟨P, hP⟩ : ∃ P, r1.take (un A) = P := ⟨_, rfl⟩
  obtain ⟨r2, hr2⟩ : ∃ x, r1.drop (un A) = x := ⟨_, rfl⟩
  obtain ⟨b2, hb2⟩ : ∃ x, (b1 || decide (r1.length < un A)) = x := ⟨_, rfl⟩
  rw [hP, hr2, hb2] at K2 CT1
  rw [hP] at lP
  have K3 := hide (rdok_tk 2 r2 b2)
  have ud := un_le2 r2
  have CN2 := hide (fun W (h : Cur W g r2 b2) => cnumber_any g 2 r2 b2 W (by omega) h)
  rw [w64_nat (by omega)] at CN2
  obtain ⟨E, hE⟩ : ∃ A, r2.take 2 = A := ⟨_, rfl⟩
  obtain ⟨r3, hr3⟩ : ∃ x, r2.drop 2 = x := ⟨_, rfl⟩
  obtain ⟨b3, hb3⟩ : ∃ x, (b2 || decide (r2.length < 2)) = x := ⟨_, rfl⟩
  rw [hE, hr3, hb3] at K3 CN2
  rw [hE] at ud
  have K4 := hide (rdok_tk (un E) r3 b3)
  have CT2 := hide (fun W (h : Cur W g r3 b3) => text_any g (un E) r3 b3 W (by omega) h)
  have lD : (r3.take (un E)).length ≤ 65535 := by rw [List.length_take]; omega
  obtain ⟨D, hD⟩ : ∃ P, r3.take (un E) = P := ⟨_, rfl⟩
  obtain ⟨r4, hr4⟩ : ∃ x, r3.drop (un E) = x := ⟨_, rfl⟩
  obtain ⟨b4, hb4⟩ : ∃ x, (b3 || decide (r3.length < un E)) = x := ⟨_, rfl⟩
  rw [hD, hr4, hb4] at K4 CT2
  rw [hD] at lD
  have CC1 := hide (fun W => sclone_any P W (by omega))
  have CC2 := hide (fun W => sclone_any D W (by omega))
  obtain ⟨ka, hka⟩ : ∃ x, un A = x := ⟨_, rfl⟩
  obtain ⟨ke, hke⟩ : ∃ x, un E = x := ⟨_, rfl⟩
  have KK : Hid (∀ l r5 b5, RdOk (parI 8 7) r4 b4 l r5 b5 → RdOk parN r b (ndOf P D l) r5 b5) := hide (fun l r5 b5 h => rdok_seq (unhide K1) (rdok_seq (unhide K2) (rdok_seq (unhide K3) (rdok_seq (unhide K4) (rdok_seq h (rdok_ret _ _ _))))))
  rw [hka] at CN1 CT1 ua
  rw [hke] at CN2 CT2 ud
  clear K1 K2 K3 K4 hA hr1 hb1 hP hr2 hb2 hE hr3 hb3 hD hr4 hb4 hka hke hc
  go_enter Tryd.func53, Tryd.ntmps53
  go_wp2_with fail
  refine (unhide CN1 _ (unhide Z0).c).mono ?_
  rintro e w1 ⟨rfl, hc1, ho1⟩
  have Z1 := hide ((unhide Z0).cur hc1 ho1)
  clear hc1 ho1 Z0 CN1
  go_wp2_with fail
  refine (unhide CT1 _ (unhide Z1).c).mono ?_
  rintro e w2 ⟨rfl, hc2, ho2⟩
  have Z2 := hide ((unhide Z1).cur hc2 ho2)
  clear hc2 ho2 Z1 CT1
  go_wp2_with fail
  refine (unhide CC1 _).mono ?_
  rintro e w3 ⟨rfl, hb3⟩
  have Z3 := hide ((unhide Z2).next hb3)
  clear hb3 Z2 CC1
  have c0 := (unhide Z3).cell 0
  have f0 := (unhide Z3).f 0
  simp only [ndC, List.getElem?_cons_zero] at c0
  have Z4 := hide ((unhide Z3).put 0 (.string ⟨P.toArray⟩) (p' := P) (d' := []) (l' := [0, 0, 0, 0, 0, 0, 0]) rfl)
  clear Z3
  go_wp2_with fail
  refine (unhide CN2 _ (unhide Z4).c).mono ?_
  rintro e w5 ⟨rfl, hc5, ho5⟩
  have Z5 := hide ((unhide Z4).cur hc5 ho5)
  clear hc5 ho5 Z4 CN2 c0 f0
  go_wp2_with fail
  refine (unhide CT2 _ (unhide Z5).c).mono ?_
  rintro e w6 ⟨rfl, hc6, ho6⟩
  have Z6 := hide ((unhide Z5).cur hc6 ho6)
  clear hc6 ho6 Z5 CT2
  go_wp2_with fail
  refine (unhide CC2 _).mono ?_
  rintro e w7 ⟨rfl, hb7⟩
  have Z7 := hide ((unhide Z6).next hb7)
  clear hb7 Z6 CC2
  have c0 := (unhide Z7).cell 1
  have f0 := (unhide Z7).f 1
  simp only [ndC, List.getElem?_cons_succ, List.getElem?_cons_zero] at c0
  have Z8 := hide ((unhide Z7).put 1 (.string ⟨D.toArray⟩) (p' := P) (d' := D) (l' := [0, 0, 0, 0, 0, 0, 0]) rfl)
  clear Z7
  go_wp2_with fail
  refine (numbers_any (w.heap.size + 1) 2 _).mono ?_
  rintro e w9 ⟨rfl, hp9, hb9⟩
  have Z9 := hide ((unhide Z8).next hb9)
  have P9 := hide hp9
  have hgg := (unhide Z8).lt
  clear hp9 hb9 Z8 c0 f0
  obtain ⟨gg, hgg'⟩ : ∃ gg, (w7.setCell ⟨w.heap.size + 1, 1, none⟩ (.string ⟨D.toArray⟩)).heap.size = gg := ⟨_, rfl⟩
  simp only [hgg'] at P9 hgg ⊢
  clear hgg'
  go_wp2_with fail
  go_loopg [21] 7 (fun kx s21 wr => ∃ (k : Nat) (l : List Int) (r' : List UInt8) (b' : Bool), s21 = .int .i64 k ∧ k ≤ 7 ∧ 7 - k ≤ kx ∧ l.length = k ∧ Hid (RdOk (parI 8 k) r4 b4 l r' b') ∧ Hid (NdS w wr g r' b' P D (l ++ List.replicate (7 - k) 0)) ∧ Hid (PtrAt wr gg (w.heap.size + 1) 2))
  case atStart => exact ⟨0, [], r4, b4, rfl, by omega, by omega, rfl, hide (rdok_ret _ _ _), Z9, P9⟩
  case round =>
    obtain ⟨k, l, r', b', rfl, hk, hgk, hl, hR, hZ, hP⟩ := hrel
    clear Z9 P9
    by_cases hlt : k < 7
    · have q1 := (unhide hP).cell hlt
      have q2 := (unhide hZ).cell (2 + k)
      have f2 := (unhide hZ).f (2 + k)
      have hy : ∃ y : Int, (ndC P D (l ++ List.replicate (7 - k) 0))[2 + k]? = some (.int .i64 y) := by
        have hlen : k < (l ++ List.replicate (7 - k) (0 : Int)).length := by rw [List.length_append, List.length_replicate]; omega
        refine ⟨(l ++ List.replicate (7 - k) 0)[k], ?_⟩
        rw [show 2 + k = k + 1 + 1 by omega, ndC, List.getElem?_cons_succ, List.getElem?_cons_succ, List.getElem?_map, List.getElem?_eq_getElem hlen]
        rfl
      obtain ⟨y0, hy0⟩ := hy
      rw [hy0] at q2
      have CX := hide (cnumber_any g 8 r' b' wr (by omega) (unhide hZ).c)
      have HR2 := hide (rdok_parI (unhide hR))
      obtain ⟨y, hyv⟩ : ∃ y, wrap64 (un (r'.take 8) : Nat) = y := ⟨_, rfl⟩
      rw [hyv] at CX HR2
      have HE : Hid ((ndC P D (l ++ List.replicate (7 - k) 0)).set (2 + k) (.int .i64 y) = ndC P D ((l ++ [y]) ++ List.replicate (7 - (k + 1)) 0)) := hide (by
        rw [← nset_zero hl hlt y, show 2 + k = k + 1 + 1 by omega, ndC, List.set_cons_succ, List.set_cons_succ, ndC, List.map_set])
      have hk0 : (0 : Int) ≤ (k : Int) := by omega
      have hk1 : (k : Int) < 7 := by omega
      have hgne : gg ≠ g := by omega
      have hgne2 : w.heap.size + 1 ≠ gg := by omega
      clear hyv hy0
      go_wp2_with fail
      refine (unhide CX).mono ?_
      rintro e wx ⟨rfl, hcx, hox⟩
      have Zx := hide ((unhide hZ).cur hcx hox)
      have Px := hide ((unhide hP).only hox hgne)
      have q3 : wx.cell? ⟨w.heap.size + 1, 2 + k, none⟩ = some (.int .i64 y0) := (hox.cell_eq (by simp only; omega)).trans q2
      have f3 := (unhide Zx).f (2 + k)
      have Zy := hide ((unhide Zx).put (2 + k) (.int .i64 y) (unhide HE))
      have Py := hide ((unhide Px).other (2 + k) (.int .i64 y) hgne2)
      clear hcx hox Zx Px CX q1 q2 f2 hZ hP HE
      go_wp2_with fail
      go_roundg (7 - (k + 1))
      case measure => omega
      case rel => exact ⟨k + 1, l ++ [y], _, _, rfl, by omega, Nat.le_refl _, by simp [hl], HR2, Zy, Py⟩
    · obtain rfl : k = 7 := by omega
      have HK := hide (unhide KK _ _ _ (unhide hR))
      have h7 : 7 - 7 = 0 := rfl
      rw [h7, List.replicate_zero, List.append_nil] at hZ
      match l, hl with
      | [y0, y1, y2, y3, y4, y5, y6], _ =>
        have e0 := (unhide hZ).cell 0
        have e1 := (unhide hZ).cell 1
        have e2 := (unhide hZ).cell 2
        have e3 := (unhide hZ).cell 3
        have e4 := (unhide hZ).cell 4
        have e5 := (unhide hZ).cell 5
        have e6 := (unhide hZ).cell 6
        have e7 := (unhide hZ).cell 7
        have e8 := (unhide hZ).cell 8
        simp only [ndC, List.map_cons, List.map_nil, List.getElem?_cons_succ, List.getElem?_cons_zero] at e0 e1 e2 e3 e4 e5 e6 e7 e8
        obtain ⟨z0, z1, z2, z3, z4, z5, z6, z7, z8⟩ := (unhide hZ).cell0
        have f0 := (unhide hZ).f0 0
        have f1 := (unhide hZ).f0 1
        have f2 := (unhide hZ).f0 2
        have f3 := (unhide hZ).f0 3
        have f4 := (unhide hZ).f0 4
        have f5 := (unhide hZ).f0 5
        have f6 := (unhide hZ).f0 6
        have f7 := (unhide hZ).f0 7
        have f8 := (unhide hZ).f0 8
        obtain ⟨W9, hW9⟩ : ∃ V, V = (((((((((wr.setCell ⟨w.heap.size, 0, none⟩ (.string ⟨P.toArray⟩)).setCell ⟨w.heap.size, 1, none⟩ (.string ⟨D.toArray⟩)).setCell ⟨w.heap.size, 2, none⟩ (.int .i64 y0)).setCell ⟨w.heap.size, 3, none⟩ (.int .i64 y1)).setCell ⟨w.heap.size, 4, none⟩ (.int .i64 y2)).setCell ⟨w.heap.size, 5, none⟩ (.int .i64 y3)).setCell ⟨w.heap.size, 6, none⟩ (.int .i64 y4)).setCell ⟨w.heap.size, 7, none⟩ (.int .i64 y5)).setCell ⟨w.heap.size, 8, none⟩ (.int .i64 y6)) := ⟨_, rfl⟩
        obtain ⟨hx, hcu, hpa⟩ := (unhide hZ).fill _ _ _ _ _ _ _ _ _ W9 hW9
        have HX := hide hx
        have FIN : Hid (NodeG g r b w (.returned (.agg (ncells (ndOf P D [y0, y1, y2, y3, y4, y5, y6])).toArray)) W9) := hide ⟨_, _, _, rfl, unhide HK, hcu, hpa, lP, lD⟩
        have HW9 := hide hW9
        clear hR hP KK hx hcu hpa hW9 HK hZ
        go_wp2_with fail
        rw [← unhide HW9]
        have r0 : W9.cell? ⟨w.heap.size, 0, none⟩ = some (.string ⟨P.toArray⟩) := by have h := unhide HX; simp [World.cell?, h]
        have r1 : W9.cell? ⟨w.heap.size, 1, none⟩ = some (.string ⟨D.toArray⟩) := by have h := unhide HX; simp [World.cell?, h]
        have r2 : W9.cell? ⟨w.heap.size, 2, none⟩ = some (.int .i64 y0) := by have h := unhide HX; simp [World.cell?, h]
        have r3 : W9.cell? ⟨w.heap.size, 3, none⟩ = some (.int .i64 y1) := by have h := unhide HX; simp [World.cell?, h]
        have r4 : W9.cell? ⟨w.heap.size, 4, none⟩ = some (.int .i64 y2) := by have h := unhide HX; simp [World.cell?, h]
        have r5 : W9.cell? ⟨w.heap.size, 5, none⟩ = some (.int .i64 y3) := by have h := unhide HX; simp [World.cell?, h]
        have r6 : W9.cell? ⟨w.heap.size, 6, none⟩ = some (.int .i64 y4) := by have h := unhide HX; simp [World.cell?, h]
        have r7 : W9.cell? ⟨w.heap.size, 7, none⟩ = some (.int .i64 y5) := by have h := unhide HX; simp [World.cell?, h]
        have r8 : W9.cell? ⟨w.heap.size, 8, none⟩ = some (.int .i64 y6) := by have h := unhide HX; simp [World.cell?, h]
        exact bodyPost_ret (v := .agg #[.string ⟨P.toArray⟩, .string ⟨D.toArray⟩, .int .i64 y0, .int .i64 y1, .int .i64 y2, .int .i64 y3, .int .i64 y4, .int .i64 y5, .int .i64 y6]) (by simp [results, Tryd.results53, go_sem, r0, r1, r2, r3, r4, r5, r6, r7, r8]) rfl (unhide FIN)
end Go.Proofs.YtmifdieofccjaaaDoor

namespace Go.Proofs.YtmifdieofccjaaaDoor
open Go.RowKit

theorem step_app_nB {w : World} {ops : Array Oper} {o : Oper} {a : Act} {K : Act → World → Prop} {Q : Exit → Act → World → Prop} {E : Prop} (hgd : Region.wanted o (yielded ops a.tmps) = true) (s x : Operand)
    (ho : o.op = .call { callee := .builtin .append, args := #[s, x], argTypes := #[22, 22] })
    (B : Nat) (v : Value) (ns : List Nd) (hs : a.eval s = v) (hown : OwnS w B v ns)
    (q : Nat) (hx : a.eval x = .slice (some ⟨q, 0, none⟩) 1 1) (t : Nd) (hnews : OneR w q t) (hl : ns.length ≤ 4294967296) (hB : B ≤ w.heap.size)
    (h : ∀ a' c' w', OwnS w' B (.slice a' (ns.length + 1) c') (ns ++ [t]) → w.grownBy w' v.ownBlock → ((Value.slice a' (ns.length + 1) c').ownBlock = v.ownBlock ∨ (Value.slice a' (ns.length + 1) c').ownBlock = some w.heap.size) → K (a.put o.dst (.slice a' (ns.length + 1) c')) w') :
    if Region.wanted o (yielded ops a.tmps) = true then Oper.wp Tryd.prog o a w K Q else E := by
  rw [if_pos hgd]
  obtain ⟨i0, hi0, hz0, hz1, hz2⟩ := ninfo
  obtain ⟨v', w', hr, h2, h3, _, h5⟩ := run_append_own_at (P := Tryd.prog) w B 22 o.type 47 i0 _ 9 88 Tryd.underlying22 hi0 hz0 hz1 hz2 rfl (by decide) v ns.length (cellsL ns) hown.row ⟨q, 0, none⟩ 1 1 (ncells t) rfl (one_news hnews) (Lay.one t) (by simp only [maxLen]; omega) (by omega) hB
  have h2' : OwnS w' B v' (ns ++ [t]) := OwnS.of_row (by rw [List.length_append, cellsL_snoc]; exact h2)
  obtain ⟨a', c', rfl, _⟩ := h2'.slice
  have hlen : (ns ++ [t]).length = ns.length + 1 := by simp
  rw [hlen] at h2' hr h5
  unfold Oper.wp execOp
  simp only [ho, resolve, invoke, builtin, Sem.run_bind, Sem.run_pure, Result.andThen_ok, List.map_toArray, List.map_cons, List.map_nil, hs, hx, hr]
  exact h a' c' w' h2' h3 h5
theorem step_app_iB {w : World} {ops : Array Oper} {o : Oper} {a : Act} {K : Act → World → Prop} {Q : Exit → Act → World → Prop} {E : Prop} (hgd : Region.wanted o (yielded ops a.tmps) = true) (s x : Operand)
    (ho : o.op = .call { callee := .builtin .append, args := #[s, x], argTypes := #[23, 23] })
    (B : Nat) (v : Value) (ns : List Int) (hs : a.eval s = v) (hown : OwnS w B v ns)
    (q : Nat) (hx : a.eval x = .slice (some ⟨q, 0, none⟩) 1 1) (t : Int) (hnews : OneR w q t) (hl : ns.length ≤ 4294967296) (hB : B ≤ w.heap.size)
    (h : ∀ a' c' w', OwnS w' B (.slice a' (ns.length + 1) c') (ns ++ [t]) → w.grownBy w' v.ownBlock → ((Value.slice a' (ns.length + 1) c').ownBlock = v.ownBlock ∨ (Value.slice a' (ns.length + 1) c').ownBlock = some w.heap.size) → K (a.put o.dst (.slice a' (ns.length + 1) c')) w') :
    if Region.wanted o (yielded ops a.tmps) = true then Oper.wp Tryd.prog o a w K Q else E := by
  rw [if_pos hgd]
  obtain ⟨i0, hi0, hz0, hz1, hz2⟩ := iinfo
  obtain ⟨v', w', hr, h2, h3, _, h5⟩ := run_append_own_at (P := Tryd.prog) w B 23 o.type 3 i0 _ 1 8 Tryd.underlying23 hi0 hz0 hz1 hz2 rfl (by decide) v ns.length (cellsL ns) hown.row ⟨q, 0, none⟩ 1 1 [.int .i64 t] rfl (one_news hnews) (Lay.one t) (by simp only [maxLen]; omega) (by omega) hB
  have h2' : OwnS w' B v' (ns ++ [t]) := OwnS.of_row (by rw [List.length_append, cellsL_snoc]; exact h2)
  obtain ⟨a', c', rfl, _⟩ := h2'.slice
  have hlen : (ns ++ [t]).length = ns.length + 1 := by simp
  rw [hlen] at h2' hr h5
  unfold Oper.wp execOp
  simp only [ho, resolve, invoke, builtin, Sem.run_bind, Sem.run_pure, Result.andThen_ok, List.map_toArray, List.map_cons, List.map_nil, hs, hx, hr]
  exact h a' c' w' h2' h3 h5

/-- two boxes of trees, the second with rows of the call's own; the cursor -/
structure UnS (w W : World) (g : Nat) (r : List UInt8) (b : Bool) (z : Int) (ns : List Nd) (ss : List Int) (vn vs : Value) : Prop where
  x0 : W.heap[w.heap.size]? = some (.cells #[.int .i64 0, .slice none 0 0, .slice none 0 0] 25 (0, 0))
  x : W.heap[w.heap.size + 1]? = some (.cells #[.int .i64 z, vn, vs] 25 (0, 0))
  n : OwnS W (w.heap.size + 2) vn ns
  s : OwnS W (w.heap.size + 2) vs ss
  ne : ∀ k, vn.ownBlock = some k → vs.ownBlock ≠ some k
  c : Cur W g r b
  gl : g < w.heap.size
  pa : Past g w W
theorem own_lt {α : Type} [Lay α] {W : World} {B k : Nat} {v : Value} {xs : List α} (ho : OwnS W B v xs) (hk : v.ownBlock = some k) : B ≤ k ∧ k < W.heap.size := by
  rcases ho with ⟨rfl, _⟩ | ⟨g, cap, rfl, hB, h⟩
  · cases hk
  · simp only [Value.ownBlock, Option.some.injEq] at hk
    subst hk
    exact ⟨hB, h.lt⟩
theorem Past.grown {g : Nat} {w W V : World} {row : Option Nat} (h : Past g w W) (hg : W.grownBy V row) (hr : ∀ k, row = some k → w.heap.size ≤ k) : Past g w V :=
  ⟨hg.os.trans h.os, hg.tape.trans h.tape, hg.output.trans h.output, Nat.le_trans h.size hg.size, fun k hk hk2 => (hg.block k (Nat.lt_of_lt_of_le hk h.size) (fun e => by have := hr k e.symm; omega)).trans (h.block k hk hk2)⟩
section
variable {w W V : World} {g : Nat} {r r' : List UInt8} {b b' : Bool} {z : Int} {ns : List Nd} {ss : List Int} {vn vs : Value}
theorem UnS.lt (h : UnS w W g r b z ns ss vn vs) : w.heap.size + 1 < W.heap.size := (Array.getElem?_eq_some_iff.1 h.x).1
theorem UnS.cur (h : UnS w W g r b z ns ss vn vs) (hc : Cur V g r' b') (ho : Only g W V) : UnS w V g r' b' z ns ss vn vs := by
  have hg := h.gl
  have gr : W.grownBy V (some g) := ⟨ho.os, ho.tape, ho.output, Nat.le_of_eq ho.size.symm, fun k _ hk => ho.block k (fun e => hk (by rw [e]))⟩
  exact ⟨(ho.block _ (by omega)).trans h.x0, (ho.block _ (by omega)).trans h.x, h.n.grown gr (fun k e e2 => by have := own_lt h.n e; simp only [Option.some.injEq] at e2; omega), h.s.grown gr (fun k e e2 => by have := own_lt h.s e; simp only [Option.some.injEq] at e2; omega), h.ne, hc, hg, h.pa.only ho⟩
theorem UnS.next (h : UnS w W g r b z ns ss vn vs) (hb : Below W.heap.size W V) : UnS w V g r b z ns ss vn vs :=
  ⟨(hb.block _ (by have := h.lt; omega)).trans h.x0, (hb.block _ h.lt).trans h.x, h.n.next hb, h.s.next hb, h.ne, h.c.kept hb (by have := h.lt; have := h.gl; omega), h.gl, h.pa.below hb⟩
/-- behind a call that turns the cursor and makes blocks -/
theorem UnS.past (h : UnS w W g r b z ns ss vn vs) (hc : Cur V g r' b') (hp : Past g W V) : UnS w V g r' b' z ns ss vn vs := by
  have hg := h.gl
  have hl := h.lt
  have gr : W.grownBy V (some g) := ⟨hp.os, hp.tape, hp.output, hp.size, fun k hk hk2 => hp.block k hk (fun e => hk2 (by rw [e]))⟩
  exact ⟨(hp.block _ (by omega) (by omega)).trans h.x0, (hp.block _ (by omega) (by omega)).trans h.x, h.n.grown gr (fun k e e2 => by have := own_lt h.n e; simp only [Option.some.injEq] at e2; omega), h.s.grown gr (fun k e e2 => by have := own_lt h.s e; simp only [Option.some.injEq] at e2; omega), h.ne, hc, hg, h.pa.trans hp⟩
theorem UnS.cells (h : UnS w W g r b z ns ss vn vs) : W.cell? ⟨w.heap.size + 1, 0, none⟩ = some (.int .i64 z) ∧ W.cell? ⟨w.heap.size + 1, 1, none⟩ = some vn ∧ W.cell? ⟨w.heap.size + 1, 2, none⟩ = some vs := by
  have h1 := h.x
  refine ⟨?_, ?_, ?_⟩ <;> simp [World.cell?, h1]
theorem UnS.f (h : UnS w W g r b z ns ss vn vs) (j : Nat) : W.frozen? ⟨w.heap.size + 1, j, none⟩ = false := by
  have h1 := h.x
  simp [World.frozen?, h1]
theorem UnS.res (h : UnS w W g r b z ns ss vn vs) : (W.cell? ⟨w.heap.size, 0, none⟩ = some (.int .i64 0) ∧ W.cell? ⟨w.heap.size, 1, none⟩ = some (.slice none 0 0) ∧ W.cell? ⟨w.heap.size, 2, none⟩ = some (.slice none 0 0)) ∧ W.frozen? ⟨w.heap.size, 0, none⟩ = false ∧ W.frozen? ⟨w.heap.size, 1, none⟩ = false ∧ W.frozen? ⟨w.heap.size, 2, none⟩ = false := by
  have h1 := h.x0
  refine ⟨⟨?_, ?_, ?_⟩, ?_, ?_, ?_⟩ <;> simp [World.cell?, World.frozen?, h1]
theorem UnS.putZ (h : UnS w W g r b z ns ss vn vs) (y : Int) : UnS w (W.setCell ⟨w.heap.size + 1, 0, none⟩ (.int .i64 y)) g r b y ns ss vn vs := by
  have hg := h.gl
  refine ⟨(Below.heap_setCell _ _ _ _ (by simp)).trans h.x0, ?_, h.n.other (fun e => by have := own_lt h.n e; simp only at this; omega) _, h.s.other (fun e => by have := own_lt h.s e; simp only at this; omega) _, h.ne, ?_, hg, h.pa.set 0 _ (by omega)⟩
  · rw [cur_set _ h.x]
    simp
  · unfold Cur
    rw [Below.heap_setCell _ _ _ _ (by simp only; omega)]
    exact h.c
/-- a row has grown, and is stored -/
theorem UnS.addS (h : UnS w W g r b z ns ss vn vs) {ss' : List Int} {vs' : Value} (hg : W.grownBy V vs.ownBlock) (ho : OwnS V (w.heap.size + 2) vs' ss') (hl : vs'.ownBlock = vs.ownBlock ∨ vs'.ownBlock = some W.heap.size) : UnS w (V.setCell ⟨w.heap.size + 1, 2, none⟩ vs') g r b z ns ss' vn vs' := by
  have hgl := h.gl
  have hlt := h.lt
  have off : ∀ k, k ≤ w.heap.size + 1 → some k ≠ vs.ownBlock := fun k hk e => by have := own_lt h.s e.symm; omega
  refine ⟨(Below.heap_setCell _ _ _ _ (by simp)).trans ((hg.block _ (by omega) (off _ (by omega))).trans h.x0), ?_, (h.n.grown hg (fun k e e2 => h.ne k e e2.symm)).other (fun e => by have := own_lt h.n e; simp only at this; omega) _, ho.other (fun e => by have := own_lt ho e; simp only at this; omega) _, ?_, ?_, hgl, ?_⟩
  · rw [cur_set _ ((hg.block _ hlt (off _ (by omega))).trans h.x)]
    simp
  · intro k e e2
    rcases hl with e3 | e3
    · rw [e3] at e2
      exact h.ne k e e2
    · rw [e3] at e2
      have := own_lt h.n e
      simp only [Option.some.injEq] at e2
      omega
  · unfold Cur
    rw [Below.heap_setCell _ _ _ _ (by simp only; omega)]
    exact (hg.block _ (by omega) (off _ (by omega))).trans h.c
  · exact (h.pa.grown hg (fun k e => by have := own_lt h.s e; omega)).set 2 _ (by omega)
theorem UnS.addN (h : UnS w W g r b z ns ss vn vs) {ns' : List Nd} {vn' : Value} (hg : W.grownBy V vn.ownBlock) (ho : OwnS V (w.heap.size + 2) vn' ns') (hl : vn'.ownBlock = vn.ownBlock ∨ vn'.ownBlock = some W.heap.size) : UnS w (V.setCell ⟨w.heap.size + 1, 1, none⟩ vn') g r b z ns' ss vn' vs := by
  have hgl := h.gl
  have hlt := h.lt
  have off : ∀ k, k ≤ w.heap.size + 1 → some k ≠ vn.ownBlock := fun k hk e => by have := own_lt h.n e.symm; omega
  refine ⟨(Below.heap_setCell _ _ _ _ (by simp)).trans ((hg.block _ (by omega) (off _ (by omega))).trans h.x0), ?_, ho.other (fun e => by have := own_lt ho e; simp only at this; omega) _, (h.s.grown hg (fun k e e2 => h.ne k e2.symm e)).other (fun e => by have := own_lt h.s e; simp only at this; omega) _, ?_, ?_, hgl, ?_⟩
  · rw [cur_set _ ((hg.block _ hlt (off _ (by omega))).trans h.x)]
    simp
  · intro k e e2
    rcases hl with e3 | e3
    · rw [e3] at e
      exact h.ne k e e2
    · rw [e3] at e
      have := own_lt h.s e2
      simp only [Option.some.injEq] at e
      omega
  · unfold Cur
    rw [Below.heap_setCell _ _ _ _ (by simp only; omega)]
    exact (hg.block _ (by omega) (off _ (by omega))).trans h.c
  · exact (h.pa.grown hg (fun k e => by have := own_lt h.n e; omega)).set 1 _ (by omega)
end
section
variable {w W V : World} {g : Nat} {r : List UInt8} {b : Bool} {z : Int} {ns : List Nd} {ss : List Int} {vn vs : Value}
theorem UnS.seenS (h : UnS w W g r b z ns ss vn vs) (hg : W.grownBy V vs.ownBlock) : V.cell? ⟨w.heap.size + 1, 2, none⟩ = some vs ∧ V.frozen? ⟨w.heap.size + 1, 2, none⟩ = false := by
  have h1 := (hg.block _ h.lt (fun e => by have := own_lt h.s e.symm; omega)).trans h.x
  refine ⟨?_, ?_⟩ <;> simp [World.cell?, World.frozen?, h1]
theorem UnS.seenN (h : UnS w W g r b z ns ss vn vs) (hg : W.grownBy V vn.ownBlock) : V.cell? ⟨w.heap.size + 1, 1, none⟩ = some vn ∧ V.frozen? ⟨w.heap.size + 1, 1, none⟩ = false := by
  have h1 := (hg.block _ h.lt (fun e => by have := own_lt h.n e.symm; omega)).trans h.x
  refine ⟨?_, ?_⟩ <;> simp [World.cell?, World.frozen?, h1]
end
theorem all_snoc {α : Type} {P : α → Prop} {l : List α} {n : α} (h : ∀ x ∈ l, P x) (hn : P n) : ∀ x ∈ l ++ [n], P x := by
  intro x hx
  rcases List.mem_append.1 hx with h1 | h1
  · exact h x h1
  · obtain rfl : x = n := by simpa using h1
    exact hn
theorem UnS.fin {w W : World} {g : Nat} {r : List UInt8} {b : Bool} {z : Int} {ns : List Nd} {ss : List Int} {vn vs : Value} (h : UnS w W g r b z ns ss vn vs) (V : World) (hV : V = ((W.setCell ⟨w.heap.size, 0, none⟩ (.int .i64 z)).setCell ⟨w.heap.size, 1, none⟩ vn).setCell ⟨w.heap.size, 2, none⟩ vs) :
    V.heap[w.heap.size]? = some (.cells #[.int .i64 z, vn, vs] 25 (0, 0)) ∧ OwnS V w.heap.size vn ns ∧ OwnS V w.heap.size vs ss ∧ Cur V g r b ∧ Past g w V := by
  subst hV
  have hg := h.gl
  have nn : vn.ownBlock ≠ some w.heap.size := fun e => by have := own_lt h.n e; omega
  have ns' : vs.ownBlock ≠ some w.heap.size := fun e => by have := own_lt h.s e; omega
  refine ⟨?_, (((h.n.lower (by omega)).other nn _).other nn _).other nn _, (((h.s.lower (by omega)).other ns' _).other ns' _).other ns' _, ?_, ((h.pa.set _ _ (Nat.le_refl _)).set _ _ (Nat.le_refl _)).set _ _ (Nat.le_refl _)⟩
  · rw [cur_set vs (cur_set vn (cur_set (.int .i64 z) h.x0))]
    simp
  · have no : g ≠ w.heap.size := by omega
    unfold Cur
    rw [Below.heap_setCell _ _ _ _ no, Below.heap_setCell _ _ _ _ no, Below.heap_setCell _ _ _ _ no]
    exact h.c
theorem w64_in (x : Int) : -9223372036854775808 ≤ wrap64 x ∧ wrap64 x ≤ 9223372036854775807 := by unfold wrap64; omega
/-- the answer of unfolded -/
def UnfG (g : Nat) (r : List UInt8) (b : Bool) (w : World) (e : Ending) (w' : World) : Prop :=
  ∃ T vn vs r' b', e = .returned (.agg #[.int .i64 T.z, vn, vs]) ∧ OwnS w' w.heap.size vn T.ns ∧ OwnS w' w.heap.size vs T.ss ∧ RdOk parT r b T r' b' ∧ Cur w' g r' b' ∧ Past g w w' ∧ WfT T ∧ ∀ n ∈ T.ns, n.p.length ≤ 255
theorem UnS.new {g : Nat} {r : List UInt8} {b : Bool} {w : World} (hc : Cur w g r b) : UnS w ((w.alloc (.cells #[.int .i64 0, .slice none 0 0, .slice none 0 0] 25)).alloc (.cells #[.int .i64 0, .slice none 0 0, .slice none 0 0] 25)) g r b 0 [] [] (.slice none 0 0) (.slice none 0 0) := by
  have hgl : g < w.heap.size := (Array.getElem?_eq_some_iff.1 hc).1
  obtain ⟨o, ho⟩ : ∃ o : Obj, o = .cells #[.int .i64 0, .slice none 0 0, .slice none 0 0] 25 := ⟨_, rfl⟩
  rw [← ho]
  have bb := nnext (allocB w o) (allocB (w.alloc o) o)
  have h2 := heap_alloc_new (w.alloc o) o
  rw [show (w.alloc o).heap.size = w.heap.size + 1 by simp] at h2
  refine ⟨?_, ?_, .inl ⟨rfl, rfl⟩, .inl ⟨rfl, rfl⟩, (fun k e => by cases e), hc.kept bb hgl, hgl, (Past.refl g w).below bb⟩
  · rw [(allocB _ _).block _ (by simp), heap_alloc_new w o, ho]
  · rw [h2, ho]

set_option maxRecDepth 20000 in
set_option maxHeartbeats 4000000 in
theorem unfolded_any (g : Nat) (r : List UInt8) (b : Bool) (w : World) (hc : Cur w g r b) :
    Calls Tryd.prog 31 #[.pointer (some ⟨g, 0, none⟩)] w (UnfG g r b w) := by
  have hgl : g < w.heap.size := (Array.getElem?_eq_some_iff.1 hc).1
  have U0 := hide (UnS.new hc)
  have K1 := hide (rdok_tk 8 r b)
  have CN1 := hide (fun W (h : Cur W g r b) => cnumber_any g 8 r b W (by omega) h)
  obtain ⟨A, hA⟩ : ∃ A, r.take 8 = A := ⟨_, rfl⟩
  obtain ⟨r1, hr1⟩ : ∃ x, r.drop 8 = x := ⟨_, rfl⟩
  obtain ⟨b1, hb1⟩ : ∃ x, (b || decide (r.length < 8)) = x := ⟨_, rfl⟩
  rw [hA, hr1, hb1] at K1 CN1
  have K2 := hide (rdok_tk 4 r1 b1)
  have um := un_le4 r1
  have CN2 := hide (fun W (h : Cur W g r1 b1) => cnumber_any g 4 r1 b1 W (by omega) h)
  rw [w64_nat (by omega)] at CN2
  obtain ⟨M, hM⟩ : ∃ A, r1.take 4 = A := ⟨_, rfl⟩
  obtain ⟨r2, hr2⟩ : ∃ x, r1.drop 4 = x := ⟨_, rfl⟩
  obtain ⟨b2, hb2⟩ : ∃ x, (b1 || decide (r1.length < 4)) = x := ⟨_, rfl⟩
  rw [hM, hr2, hb2] at K2 CN2
  rw [hM] at um
  have KK : Hid (∀ ss r3 b3, RdOk (parI 4 (un M)) r2 b2 ss r3 b3 → ∀ C r4 b4, RdOk (tk 4) r3 b3 C r4 b4 → ∀ ns r5 b5, RdOk (parNs (un C)) r4 b4 ns r5 b5 → RdOk parT r b ⟨wrap64 (un A : Nat), ns, ss⟩ r5 b5) := hide (fun ss r3 b3 h3 C r4 b4 h4 ns r5 b5 h5 => rdok_seq (unhide K1) (rdok_seq (unhide K2) (rdok_seq h3 (rdok_seq h4 (rdok_seq h5 (rdok_ret _ _ _))))))
  obtain ⟨z, hz⟩ : ∃ z, wrap64 (un A : Nat) = z := ⟨_, rfl⟩
  obtain ⟨m, hm⟩ : ∃ m, un M = m := ⟨_, rfl⟩
  rw [hz] at CN1 KK
  rw [hm] at CN2 KK um
  clear K1 K2 hA hr1 hb1 hM hr2 hb2 hz hm hc
  go_enter Tryd.func31, Tryd.ntmps31
  go_wp2_with fail
  refine (unhide CN1 _ (unhide U0).c).mono ?_
  rintro e w1 ⟨rfl, hc1, ho1⟩
  have U1 := hide ((unhide U0).cur hc1 ho1)
  clear hc1 ho1 U0 CN1
  obtain ⟨c0, c1, c2⟩ := (unhide U1).cells
  have f0 := (unhide U1).f 0
  have U2 := hide ((unhide U1).putZ z)
  clear U1
  go_wp2_with fail
  refine (unhide CN2 _ (unhide U2).c).mono ?_
  rintro e w2 ⟨rfl, hc2, ho2⟩
  have U3 := hide ((unhide U2).cur hc2 ho2)
  clear hc2 ho2 U2 CN2 c0 c1 c2 f0
  go_upto_block 0 with fail
  go_cut [4] from 9 to 26 (fun _t4 wx => ∃ (l : List Int) (r' : List UInt8) (b' : Bool) (va : Option Addr) (vc : Nat), Hid (RdOk (parI 4 m) r2 b2 l r' b') ∧ Hid (UnS w wx g r' b' z [] l (.slice none 0 0) (.slice va l.length vc)) ∧ Hid (∀ y ∈ l, -9223372036854775808 ≤ y ∧ y ≤ 9223372036854775807))
  case first =>
    clear KK
    go_wp2_with fail
    go_loopg [4] m (fun kx s4 wr => ∃ (k : Nat) (l : List Int) (r' : List UInt8) (b' : Bool) (va : Option Addr) (vc : Nat), s4 = .int .i64 ((m : Int) - k) ∧ k ≤ m ∧ m - k ≤ kx ∧ l.length = k ∧ Hid (RdOk (parI 4 k) r2 b2 l r' b') ∧ Hid (UnS w wr g r' b' z [] l (.slice none 0 0) (.slice va l.length vc)) ∧ Hid (∀ y ∈ l, -9223372036854775808 ≤ y ∧ y ≤ 9223372036854775807))
    case atStart => exact ⟨0, [], r2, b2, none, 0, by simp, Nat.zero_le _, Nat.le_refl _, rfl, hide (rdok_ret _ _ _), U3, hide (by simp)⟩
    case round =>
      obtain ⟨k, l, r', b', va, vc, rfl, hk, hgk, hl, hR, hU, hY⟩ := hrel
      clear U3
      by_cases hlt : k < m
      · obtain ⟨lf, hlf⟩ : ∃ lf, (m : Int) - k = lf := ⟨_, rfl⟩
        have h0 : 0 < lf := by omega
        have hlf2 : lf ≤ 4294967296 := by omega
        have HLF := hide hlf
        rw [hlf]
        clear hlf
        have CSh := hide (fun W (h : Cur W g r' b') => short_any g r' b' W h)
        cases b' with
        | true =>
          have hend := hide (rdok_parI_end (unhide hR) hk)
          go_wp2_with fail
          refine (unhide CSh _ (unhide hU).c).mono ?_
          rintro e w4 ⟨rfl, rfl⟩
          go_wp2_with fail
          go_meet
          exact ⟨l, r', true, va, vc, hend, hU, hY⟩
        | false =>
          have CX := hide (fun W (h : Cur W g r' false) => cnumber_any g 4 r' false W (by omega) h)
          have HR2 := hide (rdok_parI (unhide hR))
          have hyb := w64_in (un (r'.take 4) : Nat)
          obtain ⟨y, hyv⟩ : ∃ y, wrap64 (un (r'.take 4) : Nat) = y := ⟨_, rfl⟩
          obtain ⟨r5, hr5⟩ : ∃ x, r'.drop 4 = x := ⟨_, rfl⟩
          obtain ⟨b5, hb5⟩ : ∃ x, (false || decide (r'.length < 4)) = x := ⟨_, rfl⟩
          rw [hyv, hr5, hb5] at CX HR2
          rw [hyv] at hyb
          have HY2 : Hid (∀ x ∈ l ++ [y], -9223372036854775808 ≤ x ∧ x ≤ 9223372036854775807) := hide (by
            intro x hx
            rcases List.mem_append.1 hx with h | h
            · exact unhide hY x h
            · obtain rfl : x = y := by simpa using h
              exact hyb)
          obtain ⟨c0, c1, c2⟩ := (unhide hU).cells
          have f2 := (unhide hU).f 2
          have hlt2 := (unhide hU).lt
          have hll : l.length ≤ 4294967296 := by omega
          have HL := hide hl
          clear hyv hr5 hb5 hyb hY hR hl
          go_wp2_with fail
          refine (unhide CSh _ (unhide hU).c).mono ?_
          rintro e w4 ⟨rfl, rfl⟩
          clear CSh
          go_upto_region 6 with fail
          go_region_law (first
            | (refine step_app_iB (by kernel_rfl) _ _ (by rfl) (w.heap.size + 2) (.slice va l.length vc) l (by rfl) ((unhide U5).next (allocB _ _)).s w5.heap.size (by rfl) y (one_newI w5 y) (by omega) (by have := ((unhide U5).next (allocB w5 (.cells #[.int .i64 y] 3))).lt; omega) ?_; intro a2 k2 w6 ho6 hg6 hl6; have U6 := hide (((unhide U5).next (allocB _ _)).addS hg6 ho6 hl6); obtain ⟨m3, l3⟩ := ((unhide U5).next (allocB _ _)).seenS hg6; clear ho6 hg6 hl6)
            | (go_simp; refine (unhide CX _ (by first | exact (unhide hU).c | exact ((unhide hU).next (Below.refl _ _).drew).c)).mono ?_; rintro e w5 ⟨rfl, hc5, ho5⟩; have U5 : Hid (UnS w w5 g r5 b5 z [] l (.slice none 0 0) (.slice va l.length vc)) := hide (by first | exact (unhide hU).cur hc5 ho5 | exact ((unhide hU).next (Below.refl _ _).drew).cur hc5 ho5); obtain ⟨d0, d1, d2⟩ := (unhide U5).cells; have g2 := (unhide U5).f 2; have hlt5 := (unhide U5).lt; obtain ⟨e0, e1, e2⟩ := ((unhide U5).next (allocB w5 (.cells #[.int .i64 y] 3))).cells; clear hc5 ho5))
          all_goals go_wp2_with fail
          all_goals
            go_roundg (m - (k + 1))
            case measure => omega
            case rel => exact ⟨k + 1, l ++ [y], r5, b5, a2, k2, i64_v (by have := unhide HLF; omega), by omega, Nat.le_refl _, by rw [List.length_append, unhide HL]; rfl, HR2, (by rw [List.length_append, List.length_singleton]; exact U6), HY2⟩
      · obtain rfl : k = m := by omega
        rw [Int.sub_self]
        go_wp2_with fail
        go_meet
        exact ⟨l, r', b', va, vc, hR, hU, hY⟩
  case rest =>
    obtain ⟨ss, r3, b3, sa, sc, hR3, hU3, hY3⟩ := hcut
    clear U3
    have K4 := hide (rdok_tk 4 r3 b3)
    have uc := un_le4 r3
    have CN3 := hide (fun W (h : Cur W g r3 b3) => cnumber_any g 4 r3 b3 W (by omega) h)
    rw [w64_nat (by omega)] at CN3
    obtain ⟨C, hC⟩ : ∃ A, r3.take 4 = A := ⟨_, rfl⟩
    obtain ⟨r4, hr4⟩ : ∃ x, r3.drop 4 = x := ⟨_, rfl⟩
    obtain ⟨b4, hb4⟩ : ∃ x, (b3 || decide (r3.length < 4)) = x := ⟨_, rfl⟩
    rw [hC, hr4, hb4] at K4 CN3
    rw [hC] at uc
    have K5 := hide (fun ns r5 b5 h => unhide KK ss r3 b3 (unhide hR3) C r4 b4 (unhide K4) ns r5 b5 h)
    obtain ⟨c, hc⟩ : ∃ m, un C = m := ⟨_, rfl⟩
    rw [hc] at CN3 K5 uc
    clear hC hr4 hb4 hc KK K4 hR3
    go_wp2_with fail
    refine (unhide CN3 _ (unhide hU3).c).mono ?_
    rintro e w3 ⟨rfl, hc3, ho3⟩
    have U4 := hide ((unhide hU3).cur hc3 ho3)
    clear hc3 ho3 hU3 CN3
    go_upto_block 2 with fail
    go_cut [5] from 9 to 44 (fun _t5 wx => ∃ (l : List Nd) (r' : List UInt8) (b' : Bool) (va : Option Addr) (vc : Nat), Hid (RdOk (parNs c) r4 b4 l r' b') ∧ Hid (UnS w wx g r' b' z l ss (.slice va l.length vc) (.slice sa ss.length sc)) ∧ Hid (∀ n ∈ l, n.p.length ≤ 255 ∧ n.d.length ≤ 65535))
    case first =>
      clear K5
      go_wp2_with fail
      go_loopg [5] c (fun kx s5 wr => ∃ (k : Nat) (l : List Nd) (r' : List UInt8) (b' : Bool) (va : Option Addr) (vc : Nat), s5 = .int .i64 ((c : Int) - k) ∧ k ≤ c ∧ c - k ≤ kx ∧ l.length = k ∧ Hid (RdOk (parNs k) r4 b4 l r' b') ∧ Hid (UnS w wr g r' b' z l ss (.slice va l.length vc) (.slice sa ss.length sc)) ∧ Hid (∀ n ∈ l, n.p.length ≤ 255 ∧ n.d.length ≤ 65535))
      case atStart => exact ⟨0, [], r4, b4, none, 0, by simp, Nat.zero_le _, Nat.le_refl _, rfl, hide (rdok_ret _ _ _), U4, hide (by simp)⟩
      case round =>
        obtain ⟨k, l, r', b', va, vc, rfl, hk, hgk, hl, hR, hU, hY⟩ := hrel
        clear U4
        by_cases hlt : k < c
        · obtain ⟨lf, hlf⟩ : ∃ lf, (c : Int) - k = lf := ⟨_, rfl⟩
          have h0 : 0 < lf := by omega
          have hlf2 : lf ≤ 4294967296 := by omega
          have HLF := hide hlf
          rw [hlf]
          clear hlf
          have CSh := hide (fun W (h : Cur W g r' b') => short_any g r' b' W h)
          cases b' with
          | true =>
            have hend := hide (rdok_parNs_end (unhide hR) hk)
            go_wp2_with fail
            refine (unhide CSh _ (unhide hU).c).mono ?_
            rintro e w4 ⟨rfl, rfl⟩
            go_wp2_with fail
            go_meet
            exact ⟨l, r', true, va, vc, hend, hU, hY⟩
          | false =>
            have CX := hide (fun W (h : Cur W g r' false) => node_any g r' false W h)
            unfold NodeG at CX
            obtain ⟨c0, c1, c2⟩ := (unhide hU).cells
            have f2 := (unhide hU).f 1
            have hlt2 := (unhide hU).lt
            have hll : l.length ≤ 4294967296 := by omega
            have HL := hide hl
            clear hl
            go_wp2_with fail
            refine (unhide CSh _ (unhide hU).c).mono ?_
            rintro e w4 ⟨rfl, rfl⟩
            clear CSh
            go_upto_region 10 with fail
            go_region_law (first
              | (refine step_app_nB (by kernel_rfl) _ _ (by rfl) (w.heap.size + 2) (.slice va l.length vc) l (by rfl) ((unhide U5).next (allocB _ _)).n w5.heap.size (by rfl) n (one_newN w5 n) (by omega) (by have := ((unhide U5).next (allocB w5 (.cells #[.string ⟨n.p.toArray⟩, .string ⟨n.d.toArray⟩, .int .i64 n.c, .int .i64 n.m, .int .i64 n.q, .int .i64 n.v, .int .i64 n.k, .int .i64 n.o, .int .i64 n.n] 47))).lt; omega) ?_; intro a2 k2 w6 ho6 hg6 hl6; have U6 := hide (((unhide U5).next (allocB _ _)).addN hg6 ho6 hl6); obtain ⟨m3, l3⟩ := ((unhide U5).next (allocB _ _)).seenN hg6; clear ho6 hg6 hl6)
              | (go_simp; refine (unhide CX _ (by first | exact (unhide hU).c | exact ((unhide hU).next (Below.refl _ _).drew).c)).mono ?_; rintro e w5 ⟨n, r5, b5, he, hr5, hc5, hp5, hn5⟩; obtain rfl : e = .returned (.agg #[.string ⟨n.p.toArray⟩, .string ⟨n.d.toArray⟩, .int .i64 n.c, .int .i64 n.m, .int .i64 n.q, .int .i64 n.v, .int .i64 n.k, .int .i64 n.o, .int .i64 n.n]) := he; have U5 : Hid (UnS w w5 g r5 b5 z l ss (.slice va l.length vc) (.slice sa ss.length sc)) := hide (by first | exact (unhide hU).past hc5 hp5 | exact ((unhide hU).next (Below.refl _ _).drew).past hc5 hp5); have HR5 := hide hr5; have HN5 := hide hn5; obtain ⟨d0, d1, d2⟩ := (unhide U5).cells; have g2 := (unhide U5).f 1; have hlt5 := (unhide U5).lt; obtain ⟨e0, e1, e2⟩ := ((unhide U5).next (allocB w5 (.cells #[.string ⟨n.p.toArray⟩, .string ⟨n.d.toArray⟩, .int .i64 n.c, .int .i64 n.m, .int .i64 n.q, .int .i64 n.v, .int .i64 n.k, .int .i64 n.o, .int .i64 n.n] 47))).cells; clear hc5 hp5 hr5 hn5))
            all_goals go_wp2_with fail
            all_goals
              go_roundg (c - (k + 1))
              case measure => omega
              case rel => exact ⟨k + 1, l ++ [n], r5, b5, a2, k2, i64_v (by have := unhide HLF; omega), by omega, Nat.le_refl _, by rw [List.length_append, unhide HL]; rfl, hide (rdok_parNs (unhide hR) (unhide HR5)), (by rw [List.length_append, List.length_singleton]; exact U6), hide (all_snoc (unhide hY) (unhide HN5))⟩
        · obtain rfl : k = c := by omega
          rw [Int.sub_self]
          go_wp2_with fail
          go_meet
          exact ⟨l, r', b', va, vc, hR, hU, hY⟩
    case rest =>
      obtain ⟨ns, r5, b5, na, nc, hR5, hU5, hN5⟩ := hcut
      clear U4
      have HK := hide (unhide K5 ns r5 b5 (unhide hR5))
      obtain ⟨c0, c1, c2⟩ := (unhide hU5).cells
      obtain ⟨⟨q0, q1, q2⟩, f0, f1, f2⟩ := (unhide hU5).res
      obtain ⟨W9, hW9⟩ : ∃ V, V = ((wc.setCell ⟨w.heap.size, 0, none⟩ (.int .i64 z)).setCell ⟨w.heap.size, 1, none⟩ (.slice na ns.length nc)).setCell ⟨w.heap.size, 2, none⟩ (.slice sa ss.length sc) := ⟨_, rfl⟩
      obtain ⟨hx, hon, hos, hcu, hpa⟩ := (unhide hU5).fin W9 hW9
      have HX := hide hx
      have FIN : Hid (UnfG g r b w (.returned (.agg #[.int .i64 z, .slice na ns.length nc, .slice sa ss.length sc])) W9) := hide ⟨⟨z, ns, ss⟩, _, _, _, _, rfl, hon, hos, unhide HK, hcu, hpa, ⟨unhide hY3, fun n hn => by have := unhide hN5 n hn; omega⟩, fun n hn => (unhide hN5 n hn).1⟩
      have HW9 := hide hW9
      clear hx hon hos hcu hpa hW9 HK hU5 hR5 K5 hN5 hY3
      go_wp2_with fail
      rw [← unhide HW9]
      have t0 : W9.cell? ⟨w.heap.size, 0, none⟩ = some (.int .i64 z) := by have h := unhide HX; simp [World.cell?, h]
      have t1 : W9.cell? ⟨w.heap.size, 1, none⟩ = some (.slice na ns.length nc) := by have h := unhide HX; simp [World.cell?, h]
      have t2 : W9.cell? ⟨w.heap.size, 2, none⟩ = some (.slice sa ss.length sc) := by have h := unhide HX; simp [World.cell?, h]
      exact bodyPost_ret (v := .agg #[.int .i64 z, .slice na ns.length nc, .slice sa ss.length sc]) (by simp [results, Tryd.results31, go_sem, t0, t1, t2]) rfl (unhide FIN)
end Go.Proofs.YtmifdieofccjaaaDoor
