/-
  strings.Builder, of this program: what is written stands behind what was.
  What wire's cursor answers of itself: Along, Short, Left.
  snap.numbers: where a node's numbers are; snap.folded: a node's bytes: the walks.
-/
import Derived.Test.YtmifdieofccjaaaDoorShelf
import Derived.Test.YtmifdieofccjaaaDoorMA
import Derived.Shelf.Strings.Builder1
import Derived.WalkKit
import Derived.ProofKit
import Derived.Test.YtmifdieofccjaaaDoorMI
import Derived.Test.YtmifdieofccjaaaDoorMC
import Derived.BigRegion
import Derived.BigQuiet
import Derived.Lib.QuietBelow
import Derived.Deep.CutRange
namespace Go.Proofs.YtmifdieofccjaaaDoor
open Go.RowKit

abbrev BldAt (B b : Nat) (p : Value) (bs : List Value) (w : World) : Prop := Lib.BuilderAt 69 5 B b p bs w
abbrev Bld (B b : Nat) (l : List UInt8) (w : World) : Prop := Lib.IsBuilder 69 5 B b (Lib.byteCells l) w
theorem bldInfo : (Tryd.prog.info? 69).map (fun i => i.size) = some 2 := by kernel_rfl
theorem bldByte : (Tryd.prog.info? 5).map (fun i => (i.zero, i.size, i.bytes)) = some (some (.int .u8 0), 1, 1) := by kernel_rfl
theorem bldLies : liesAt Tryd.prog Tryd.prog.depth 69 (2 / Tryd.prog.cellsOf 69) 0 69 1 = true := by kernel_rfl

set_option maxRecDepth 100000 in
set_option maxHeartbeats 1000000 in
theorem bcheck_used (b : Nat) (w : World) (h0 : w.cell? ⟨b, 0, none⟩ = some (.pointer (some ⟨b, 0, none⟩))) :
    Calls Tryd.prog 57 #[.pointer (some ⟨b, 0, none⟩)] w fun e w' => e = .returned (.tuple #[]) ∧ w' = w := by
  obtain ⟨j, hj, _⟩ := Option.map_eq_some_iff.1 bldInfo
  go_enter Tryd.func57, Tryd.ntmps57
  go_wp2
  rw [Lib.run_neq_ptr_same w _ Tryd.underlying67 hj]
  go_wp2
  go_end0
  exact ⟨rfl, rfl⟩
set_option maxRecDepth 100000 in
set_option maxHeartbeats 1000000 in
theorem bcheck_fresh (b : Nat) (w : World) (h0 : w.cell? ⟨b, 0, none⟩ = some (.pointer none)) (hsh : w.shape? b = some (69, 2)) (hfz : w.frozen? ⟨b, 0, none⟩ = false) :
    Calls Tryd.prog 57 #[.pointer (some ⟨b, 0, none⟩)] w fun e w' => e = .returned (.tuple #[]) ∧ w' = w.setCell ⟨b, 0, none⟩ (.pointer (some ⟨b, 0, none⟩)) := by
  obtain ⟨j, hj, hjs⟩ := Option.map_eq_some_iff.1 bldInfo
  have k1 := Lib.run_to_unsafe (P := Tryd.prog) w ⟨b, 0, none⟩ Tryd.underlying67 Tryd.underlying101 hj (by rw [hjs]; decide) hsh (Nat.zero_lt_succ 1)
  have k2 := Lib.run_from_unsafe (P := Tryd.prog) w ⟨b, 0, none⟩ Tryd.underlying101 Tryd.underlying67 hj hsh bldLies
  go_enter Tryd.func57, Tryd.ntmps57
  go_wp2
  rw [run_callFunc_extern Tryd.func69 (by kernel_rfl) (by kernel_rfl) (by kernel_rfl) (e := Extern.AbiNoEscape.same) (by kernel_rfl), Lib.run_noEscape]
  simp only [Result.andThen]
  rw [Oper.upon_value]
  go_wp2
  go_end0
  exact ⟨rfl, rfl⟩
theorem bcheck_any (B b : Nat) (bs : List Value) (w : World) (h : Lib.IsBuilder 69 5 B b bs w) :
    Calls Tryd.prog 57 #[.pointer (some ⟨b, 0, none⟩)] w fun e w' => e = .returned (.tuple #[]) ∧ BldAt B b (.pointer (some ⟨b, 0, none⟩)) bs w' ∧ Below B w w' := by
  rcases h with h | h
  · refine (bcheck_fresh b w h.cell0 h.shape h.frozen0).mono ?_
    rintro e w' ⟨rfl, rfl⟩
    exact ⟨rfl, h.used _, (Below.refl B w).setCell (p := ⟨b, 0, none⟩) h.1 _⟩
  · refine (bcheck_used b w h.cell0).mono ?_
    rintro e w' ⟨rfl, rfl⟩
    exact ⟨rfl, h, Below.refl B _⟩
theorem bytes_cells (l r : List UInt8) : Lib.byteCells l ++ Lib.strCells ⟨r.toArray⟩ = Lib.byteCells (l ++ r) := by
  simp [Lib.byteCells, Lib.strCells]

set_option maxRecDepth 100000 in
set_option maxHeartbeats 2000000 in
/-- WriteString -/
theorem bwrite_any (B b : Nat) (l r : List UInt8) (w : World) (h : Bld B b l w) (hlen : l.length + r.length ≤ 140737488355328) (hBw : B ≤ w.heap.size) :
    Calls Tryd.prog 44 #[.pointer (some ⟨b, 0, none⟩), .string ⟨r.toArray⟩] w fun e w' => e = .returned (.tuple #[.int .i64 r.length, .nilIface]) ∧ Bld B b (l ++ r) w' ∧ Below B w w' := by
  obtain ⟨i0, hi, hz0, hz1, hz2⟩ := info_parts bldByte
  have hrz : (ByteArray.mk r.toArray).size = r.length := Lib.size_eq ⟨r.toArray⟩
  have hll : (Lib.byteCells l).length = l.length := Lib.byteCells_length l
  have HC := hide (bytes_cells l r)
  go_enter Tryd.func44, Tryd.ntmps44
  go_wp2_with fail
  refine (bcheck_any B b _ _ h).mono ?_
  rintro e w1 ⟨rfl, ⟨hB, v, hbk, hown, hne⟩, hb1⟩
  have hsz := hb1.size
  have HB := hide hb1
  have c1 : w1.cell? ⟨b, 1, none⟩ = some v := by rw [Lib.cell_of_heap hbk]; rfl
  clear h hb1
  go_wp2_with (at_builtin; refine Lib.wpList_append_own_string _ rfl _ _ 66 9 rfl B 5 i0 Tryd.underlying66 Tryd.underlying9 hi hz0 hz1 hz2 _ _ _ rfl hown ⟨r.toArray⟩ rfl ?c3 ?c4 ?c5 ?_)
  case c3 => rw [hrz, hll]; unfold maxLen; omega
  case c4 => rw [hrz, hll]; omega
  case c5 => omega
  intro v' w2 hown' hgrow _
  have hlt : b < w1.heap.size := (Array.getElem?_eq_some_iff.1 hbk).1
  have hb2 : w2.heap[b]? = some (.cells #[.pointer (some ⟨b, 0, none⟩), v] 69 (0, 0)) := (hgrow.block b hlt (fun e => hne e.symm)).trans hbk
  have f1 : w2.frozen? ⟨b, 1, none⟩ = false := Lib.frozen_of_heap hb2 1
  have d1 : w2.cell? ⟨b, 1, none⟩ = some v := by rw [Lib.cell_of_heap hb2]; rfl
  obtain ⟨ao, n', cap, rfl⟩ : ∃ ao n' cap, v' = .slice ao n' cap := by
    rcases hown'.2 with ⟨hv, _⟩ | ⟨g, cap, cur, hv, _⟩
    · exact ⟨_, _, _, hv⟩
    · exact ⟨_, _, _, hv⟩
  have HO : Hid (BldAt B b (.pointer (some ⟨b, 0, none⟩)) (Lib.byteCells (l ++ r)) (w2.setCell ⟨b, 1, none⟩ (.slice ao n' cap))) := hide (by
    rw [← unhide HC]
    exact Lib.BuilderAt.put hB hb2 (bs' := Lib.byteCells l ++ Lib.strCells ⟨r.toArray⟩) (by simpa [Lib.strCells_length, hll, hrz] using hown') (by decide))
  have HL := hide (((unhide HB).grown hgrow (by omega) (fun k hk => (hown.lt k hk).1)).setCell (p := ⟨b, 1, none⟩) hB (.slice ao n' cap))
  clear hown hown' hgrow hb2 hbk
  go_wp2
  go_ret2
  exact ⟨rfl, .inr (unhide HO), unhide HL⟩
end Go.Proofs.YtmifdieofccjaaaDoor

namespace Go.Proofs.YtmifdieofccjaaaDoor
open Go.RowKit

set_option maxHeartbeats 400000 in
theorem along_any (s : List UInt8) (w : World) :
    Calls Tryd.prog 29 #[.string ⟨s.toArray⟩] w fun e w' => e = .returned (.pointer (some ⟨w.heap.size, 0, none⟩)) ∧ w' = w.alloc (.cells #[.string ⟨s.toArray⟩, .bool false] 83) := by
  go_enter Tryd.func29, Tryd.ntmps29
  go_wp2_with fail
  go_ret
  exact ⟨rfl, rfl⟩
theorem cur_new (s : List UInt8) (w : World) : Cur (w.alloc (.cells #[.string ⟨s.toArray⟩, .bool false] 83)) w.heap.size s false := by
  show (w.heap.push _)[w.heap.size]? = _
  simp
set_option maxHeartbeats 400000 in
theorem short_any (g : Nat) (r : List UInt8) (b : Bool) (w : World) (h : Cur w g r b) :
    Calls Tryd.prog 32 #[.pointer (some ⟨g, 0, none⟩)] w fun e w' => e = .returned (.bool b) ∧ w' = w := by
  have c1 := h.c1
  go_enter Tryd.func32, Tryd.ntmps32
  go_wp2_with fail
  go_ret
  exact ⟨rfl, rfl⟩
set_option maxHeartbeats 400000 in
theorem left_any (g : Nat) (r : List UInt8) (b : Bool) (w : World) (h : Cur w g r b) :
    Calls Tryd.prog 33 #[.pointer (some ⟨g, 0, none⟩)] w fun e w' => e = .returned (.int .i64 r.length) ∧ w' = w := by
  have c0 := h.c0
  have hz : (ByteArray.mk r.toArray).size = r.length := Lib.size_eq ⟨r.toArray⟩
  go_enter Tryd.func33, Tryd.ntmps33
  go_wp2_with fail
  go_ret
  exact ⟨rfl, rfl⟩
end Go.Proofs.YtmifdieofccjaaaDoor

namespace Go.Proofs.YtmifdieofccjaaaDoor
open Go.RowKit

/-- pointers to seven fields -/
def ptrs (b o : Nat) : Array Value := #[.pointer (some ⟨b, o, none⟩), .pointer (some ⟨b, o + 1, none⟩), .pointer (some ⟨b, o + 2, none⟩), .pointer (some ⟨b, o + 3, none⟩), .pointer (some ⟨b, o + 4, none⟩), .pointer (some ⟨b, o + 5, none⟩), .pointer (some ⟨b, o + 6, none⟩)]
def PtrAt (W : World) (g b o : Nat) : Prop := W.heap[g]? = some (.cells (ptrs b o) 91 (0, 0))
theorem PtrAt.lt {W : World} {g b o : Nat} (h : PtrAt W g b o) : g < W.heap.size := (Array.getElem?_eq_some_iff.1 h).1
theorem PtrAt.next {W V : World} {g b o : Nat} (h : PtrAt W g b o) (hb : Below W.heap.size W V) : PtrAt V g b o := (hb.block _ h.lt).trans h
theorem PtrAt.cell {W : World} {g b o j : Nat} (h : PtrAt W g b o) (hj : j < 7) : W.cell? ⟨g, j, none⟩ = some (.pointer (some ⟨b, o + j, none⟩)) := by
  unfold PtrAt at h
  simp only [World.cell?, h]
  match j, hj with
  | 0, _ => rfl
  | 1, _ => rfl
  | 2, _ => rfl
  | 3, _ => rfl
  | 4, _ => rfl
  | 5, _ => rfl
  | 6, _ => rfl

set_option maxRecDepth 20000 in
set_option maxHeartbeats 2000000 in
theorem numbers_any (b o : Nat) (w : World) :
    Calls Tryd.prog 58 #[.pointer (some ⟨b, o, none⟩)] w fun e w' => e = .returned (.slice (some ⟨w.heap.size, 0, none⟩) 7 7) ∧ PtrAt w' w.heap.size b o ∧ Below w.heap.size w w' := by
  have H1 : Hid (PtrAt (w.alloc (.cells (ptrs b o) 91)).drew w.heap.size b o) := hide (heap_alloc_new w _)
  have H2 : Hid (Below w.heap.size w (w.alloc (.cells (ptrs b o) 91)).drew) := hide (allocB _ _).drew
  unfold ptrs at H1 H2
  go_enter Tryd.func58, Tryd.ntmps58
  go_wp2_with fail
  go_region
  go_wp2_with fail
  go_ret
  exact ⟨rfl, unhide H1, unhide H2⟩
/-- a node in a box of the call's own -/
structure NB (w W : World) (n : Nd) : Prop where
  x : W.heap[w.heap.size]? = some (.cells #[.string ⟨n.p.toArray⟩, .string ⟨n.d.toArray⟩, .int .i64 n.c, .int .i64 n.m, .int .i64 n.q, .int .i64 n.v, .int .i64 n.k, .int .i64 n.o, .int .i64 n.n] 47 (0, 0))
  b : Below w.heap.size w W
section
variable {w W V : World} {n : Nd}
theorem NB.lt (h : NB w W n) : w.heap.size < W.heap.size := (Array.getElem?_eq_some_iff.1 h.x).1
theorem NB.next (h : NB w W n) (hb : Below W.heap.size W V) : NB w V n := ⟨(hb.block _ h.lt).trans h.x, nnext h.b hb⟩
theorem NB.drew (h : NB w W n) : NB w W.drew n := h.next (Below.refl _ _).drew
theorem NB.two (h : NB w W n) : W.cell? ⟨w.heap.size, 0, none⟩ = some (.string ⟨n.p.toArray⟩) ∧ W.cell? ⟨w.heap.size, 1, none⟩ = some (.string ⟨n.d.toArray⟩) := by
  have h1 := h.x
  refine ⟨?_, ?_⟩ <;> simp [World.cell?, h1]
theorem NB.new (w : World) (n : Nd) : NB w (w.alloc (.cells #[.string ⟨n.p.toArray⟩, .string ⟨n.d.toArray⟩, .int .i64 n.c, .int .i64 n.m, .int .i64 n.q, .int .i64 n.v, .int .i64 n.k, .int .i64 n.o, .int .i64 n.n] 47)) n := ⟨heap_alloc_new w _, allocB _ _⟩
theorem NB.num (h : NB w W n) {k : Nat} {y : Int} (hk : (statI n)[k]? = some y) : W.cell? ⟨w.heap.size, 2 + k, none⟩ = some (.int .i64 y) := by
  have h1 := h.x
  have h7 : k < 7 := (List.getElem?_eq_some_iff.1 hk).1
  simp only [World.cell?, h1]
  match k, h7 with
  | 0, _ => simpa [statI] using hk
  | 1, _ => simpa [statI] using hk
  | 2, _ => simpa [statI] using hk
  | 3, _ => simpa [statI] using hk
  | 4, _ => simpa [statI] using hk
  | 5, _ => simpa [statI] using hk
  | 6, _ => simpa [statI] using hk
end
theorem cat_two (a b : List UInt8) : ByteArray.mk a.toArray ++ ByteArray.mk b.toArray = ⟨(a ++ b).toArray⟩ := by
  apply ByteArray.ext
  simp [ByteArray.data_append]
theorem cat_four (a b c d : List UInt8) : ByteArray.mk a.toArray ++ ByteArray.mk b.toArray ++ ByteArray.mk c.toArray ++ ByteArray.mk d.toArray = ⟨(a ++ (b ++ (c ++ d))).toArray⟩ := by
  rw [cat_two, cat_two, cat_two, List.append_assoc, List.append_assoc]
theorem str_v {a b : ByteArray} (h : a = b) : Value.string a = .string b := by rw [h]

theorem num_quiet (n : Nat) (k : Nat) (w : World) (hn : n < 9223372036854775808) (hk : k ≤ 8) (d : Nat) (os : Array Obj) :
    Calls Tryd.prog 23 #[.int .i64 n, .int .i64 k] (Sort.grow (redrawn w d) os) fun e w'' => e = .returned (.string ⟨(be k n).toArray⟩) ∧ ∃ p : Regrown, w'' = Sort.grow (redrawn w p.d) p.os :=
  Calls.regrown_of (number_any n k (Sort.grow (redrawn w d) os) hn hk)

set_option maxRecDepth 100000 in
set_option maxHeartbeats 2000000 in
theorem folded_any (n : Nd) (w : World) (f : Fit n) :
    Calls Tryd.prog 45 #[.agg #[.string ⟨n.p.toArray⟩, .string ⟨n.d.toArray⟩, .int .i64 n.c, .int .i64 n.m, .int .i64 n.q, .int .i64 n.v, .int .i64 n.k, .int .i64 n.o, .int .i64 n.n]] w fun e w' => e = .returned (.string ⟨(nodL n).toArray⟩) ∧ Below w.heap.size w w' := by
  have X0 := hide (NB.new w n)
  have hzp : (ByteArray.mk n.p.toArray).size = n.p.length := Lib.size_eq ⟨n.p.toArray⟩
  have hzd : (ByteArray.mk n.d.toArray).size = n.d.length := Lib.size_eq ⟨n.d.toArray⟩
  have fp := f.p
  have fd := f.d
  have HI := hide f.i
  have l1 := be_length 1 n.p.length
  have l2 := be_length 2 n.d.length
  have HN : Hid (nodL n = be 1 n.p.length ++ (n.p ++ (be 2 n.d.length ++ n.d)) ++ numsL 8 (statI n)) := hide (by simp [nodL])
  go_enter Tryd.func45, Tryd.ntmps45
  go_upto_region 1 with fail
  obtain ⟨W, hW⟩ : ∃ W, w.alloc (.cells #[.string ⟨n.p.toArray⟩, .string ⟨n.d.toArray⟩, .int .i64 n.c, .int .i64 n.m, .int .i64 n.q, .int .i64 n.v, .int .i64 n.k, .int .i64 n.o, .int .i64 n.n] 47) = W := ⟨_, rfl⟩
  rw [hW] at X0 ⊢
  have k0 : ∀ d' os, (Sort.grow (redrawn W d') os).cell? ⟨w.heap.size, 0, none⟩ = some (.string ⟨n.p.toArray⟩) := fun d' os => cell_regrown (unhide X0).two.1 d' os
  have k1 : ∀ d' os, (Sort.grow (redrawn W d') os).cell? ⟨w.heap.size, 1, none⟩ = some (.string ⟨n.d.toArray⟩) := fun d' os => cell_regrown (unhide X0).two.2 d' os
  have c0 : ∀ d' os, Calls Tryd.prog 23 #[.int .i64 (n.p.length : Nat), .int .i64 1] (Sort.grow (redrawn W d') os) fun e w'' => e = .returned (.string ⟨(be 1 n.p.length).toArray⟩) ∧ ∃ p : Regrown, w'' = Sort.grow (redrawn W p.d) p.os := num_quiet n.p.length 1 W (by omega) (by omega)
  have c1 : ∀ d' os, Calls Tryd.prog 23 #[.int .i64 (n.d.length : Nat), .int .i64 2] (Sort.grow (redrawn W d') os) fun e w'' => e = .returned (.string ⟨(be 2 n.d.length).toArray⟩) ∧ ∃ p : Regrown, w'' = Sort.grow (redrawn W p.d) p.os := num_quiet n.d.length 2 W (by omega) (by omega)
  obtain ⟨b1, e1⟩ : ∃ b, be 1 n.p.length = b := ⟨_, rfl⟩
  obtain ⟨b2, e2⟩ : ∃ b, be 2 n.d.length = b := ⟨_, rfl⟩
  rw [e1] at c0 l1 HN
  rw [e2] at c1 l2 HN
  have HF := hide (cat_four b1 n.p b2 n.d)
  clear e1 e2 hW
  refine wp_region_quiet_below (by kernel_rfl) (by kernel_rfl) ?_
  repeat (first | go_big_quiet_step (first | with_reducible exact c0 _ _ | with_reducible exact c1 _ _) | quiet_step (first | with_reducible exact c0 _ _ | with_reducible exact c1 _ _))
  refine wpQuiet_nil ?_
  intro _ hw'
  obtain ⟨⟨dq, osq⟩, hw''⟩ := hw'
  subst hw''
  have X1 := hide ((unhide X0).next (below_regrown W dq osq))
  clear c0 c1 k0 k1 X0
  rw [unhide HF]
  obtain ⟨W1, hW1⟩ : ∃ W1, Sort.grow (redrawn W dq) osq = W1 := ⟨_, rfl⟩
  simp only [hW1] at X1 ⊢
  obtain ⟨F, hF⟩ : ∃ F, b1 ++ (n.p ++ (b2 ++ n.d)) = F := ⟨_, rfl⟩
  have hFl : F.length ≤ 66000 := by rw [← hF]; simp only [List.length_append]; omega
  rw [hF] at HN ⊢
  clear hW1 hF HF
  go_wp2_with fail
  refine (numbers_any w.heap.size 2 _).mono ?_
  rintro e w2 ⟨rfl, hp2, hb2⟩
  have X2 := hide ((unhide X1).next hb2)
  have P2 := hide hp2
  have hgw : w.heap.size < W1.heap.size := (unhide X1).lt
  clear hp2 hb2 X1
  obtain ⟨g, hg⟩ : ∃ g, W1.heap.size = g := ⟨_, rfl⟩
  rw [hg] at P2 hgw ⊢
  clear hg
  go_wp2_with fail
  go_loopg [3, 24] 7 (fun kx s3 s24 wr => ∃ (k : Nat) (L : List UInt8), s3 = .string ⟨L.toArray⟩ ∧ s24 = .int .i64 k ∧ k ≤ 7 ∧ 7 - k ≤ kx ∧ L.length ≤ 66000 + k * 8 ∧ Hid (L = F ++ numsL 8 ((statI n).take k)) ∧ Hid (NB w wr n) ∧ Hid (PtrAt wr g w.heap.size 2))
  case atStart => exact ⟨0, F, rfl, rfl, by omega, by omega, by omega, hide (by simp [numsL]), X2, P2⟩
  case round =>
    obtain ⟨k, L, rfl, rfl, hk, hg7, hL, HL, hX, hP⟩ := hrel
    clear X2 P2
    have hzL : (ByteArray.mk L.toArray).size = L.length := Lib.size_eq ⟨L.toArray⟩
    by_cases hlt : k < 7
    · obtain ⟨y, hy⟩ : ∃ y, (statI n)[k]? = some y := ⟨_, List.getElem?_eq_getElem (show k < (statI n).length from hlt)⟩
      have hyb := unhide HI y (List.mem_of_getElem? hy)
      obtain ⟨m, rfl⟩ : ∃ m : Nat, y = (m : Int) := ⟨y.toNat, by omega⟩
      have q1 := (unhide hP).cell hlt
      have q2 := (unhide hX).num hy
      have HS : Hid (F ++ numsL 8 ((statI n).take k) ++ be 8 m = F ++ numsL 8 ((statI n).take (k + 1))) := hide (by
        rw [List.take_add_one, hy]
        simp [numsL])
      have hm : m < 9223372036854775808 := by omega
      have lb := be_length 8 m
      have CN := hide (number_any m 8 wr hm (by omega))
      obtain ⟨b, hb⟩ : ∃ b, be 8 m = b := ⟨_, rfl⟩
      rw [hb] at lb CN HS
      have hzb : (ByteArray.mk b.toArray).size = b.length := Lib.size_eq ⟨b.toArray⟩
      clear hb hy hyb
      have hk0 : (0 : Int) ≤ (k : Int) := by omega
      have hk1 : (k : Int) < 7 := by omega
      go_wp2_with fail
      refine (unhide CN).mono ?_
      rintro e w4 ⟨rfl, hb4⟩
      have hX4 := hide ((unhide hX).next hb4)
      have hP4 := hide ((unhide hP).next hb4)
      clear hb4 CN
      go_wp2_with fail
      rw [cat_two]
      go_roundg (7 - (k + 1))
      case measure => omega
      case rel => exact ⟨k + 1, L ++ b, rfl, rfl, by omega, Nat.le_refl _, by rw [List.length_append]; omega, hide (by rw [unhide HL]; exact unhide HS), hX4, hP4⟩
    · obtain rfl : k = 7 := by omega
      go_wp2_with fail
      go_ret
      refine ⟨ret_str0 ?_, (unhide hX).b⟩
      rw [unhide HL, unhide HN]
      rfl
end Go.Proofs.YtmifdieofccjaaaDoor
