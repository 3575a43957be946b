/-
  What wire.Number answers, for numbers from 0 on and up to eight bytes: the walk.
  What wire.Sum answers, for every text: the walk.
  What wire.body and wire.Encode answer: the walks.
  What wal.Append answers: the walks.
  What wal.Recover answers: the walks.
-/
import Derived.Test.YtoacignhobchbaaGreatDoorRows
import Derived.Test.YtoacignhobchbaaGreatDoorSUA
import Derived.Laws.MakeOwn
import Derived.Laws.IdiomStrings
import Derived.OwnWalk
import Derived.WalkKit
import Derived.WalkSpells
import Derived.WalkLawsBesides
import Derived.Test.YtoacignhobchbaaGreatDoorSUK
import Derived.Lib.QuietBelow
import Derived.BigQuiet
import Derived.Test.YtoacignhobchbaaGreatDoorSUAH
import Derived.Test.YtoacignhobchbaaGreatDoorSUU
namespace Go.Proofs.YtoacignhobchbaaGreatDoor
open Go.RowKit

theorem be_front : ∀ j n, be (j + 1) n = UInt8.ofNat (n / 256 ^ j) :: be j n
  | 0, n => by simp [be]
  | j + 1, n => by
    rw [be, be_front j (n / 256), be, Nat.div_div_eq_div_mul, Nat.pow_succ, Nat.mul_comm 256]; rfl
/- cells that hold bytes -/
def byteV (l : List UInt8) : List Value := l.map fun b => .int .u8 (b.toNat : Int)
def bytesAt (W : World) (g : Nat) (l : List UInt8) : Prop := W.heap[g]? = some (.cells (byteV l).toArray 5 (0, 0))
theorem bytesAt.cell {W : World} {g : Nat} {l : List UInt8} (h : bytesAt W g l) {j : Nat} (hj : j < l.length) : W.cell? ⟨g, j, none⟩ = some (.int .u8 (l[j].toNat : Int)) := by
  unfold bytesAt at h; simp [World.cell?, h, byteV, List.getElem?_eq_getElem hj]
theorem bytesAt.soft {W : World} {g : Nat} {l : List UInt8} (h : bytesAt W g l) (j : Nat) : W.frozen? ⟨g, j, none⟩ = false := by
  unfold bytesAt at h; simp [World.frozen?, h]
theorem bytesAt.set {W : World} {g : Nat} {l : List UInt8} (h : bytesAt W g l) (j : Nat) (b : UInt8) : bytesAt (W.setCell ⟨g, j, none⟩ (.int .u8 (b.toNat : Int))) g (l.set j b) := by
  unfold bytesAt at h ⊢
  obtain ⟨hlt, hk⟩ := Array.getElem?_eq_some_iff.1 h
  show (W.heap.modify g _)[g]? = _
  rw [Array.getElem?_eq_getElem (by rw [Array.size_modify]; exact hlt), Array.getElem_modify_self, hk]
  simp [byteV, List.map_set]
theorem set_mid (m : Nat) (b : UInt8) (r : List UInt8) : (List.replicate (m + 1) 0 ++ r).set m b = List.replicate m 0 ++ b :: r := by
  rw [List.replicate_succ', List.append_assoc, List.set_append_right _ _ (by simp)]
  simp
theorem bytesAt.text {W : World} {g : Nat} {l : List UInt8} (h : bytesAt W g l) (cap : Nat) :
    (convert 198 9 (.slice (some ⟨g, 0, none⟩) l.length cap)).run Tryz.prog W = .ok (.string ⟨l.toArray⟩) W :=
  run_convert_bytes_back W 198 9 5 ⟨g, 0, none⟩ cap l Tryz.underlying198 Tryz.underlying5 Tryz.underlying9 (fun j hj => by
    rw [show (⟨g, 0, none⟩ : Addr).add j = ⟨g, j, none⟩ from by unfold Addr.add; split <;> simp_all]
    exact h.cell hj)
theorem ofNat_mod (x : Nat) : ((x : Int) % 256) = ((UInt8.ofNat x).toNat : Int) := by simp
theorem div_256 (n j : Nat) : n / 256 ^ j / 256 = n / 256 ^ (j + 1) := by rw [Nat.div_div_eq_div_mul, Nat.pow_succ]
theorem i64_v {a b : Int} (h : a = b) : Value.int .i64 a = .int .i64 b := by rw [h]
theorem ret_str0 {a b : ByteArray} (h : a = b) : Ending.returned (.string a) = .returned (.string b) := by rw [h]

theorem made_zero (k : Nat) : madeCells (Value.int .u8 0).cells k = (byteV (List.replicate k 0)).toArray := by
  apply Array.ext'
  apply List.ext_getElem
  · simp [madeCells, byteV]
  · intro j h1 h2
    simp [madeCells, byteV, Value.cells, Nat.mod_one]
theorem infoU8 : (Tryz.prog.info? 5).map (fun i => (i.zero, i.size, i.bytes)) = some (some (.int .u8 0), 1, 1) := by kernel_rfl
theorem make_bytes (k : Nat) (hk : k ≤ 8) (w : World) : (Instr.makeSlice 198 (.int .i64 k) (.int .i64 k)).run Tryz.prog w = .ok (.slice (some ⟨w.heap.size, 0, none⟩) k k) (w.alloc (.cells (byteV (List.replicate k 0)).toArray 5)) := by
  obtain ⟨i0, hi, hz0, hz1, hz2⟩ := info_parts infoU8
  have h := run_make (P := Tryz.prog) w 198 5 i0 (.int .u8 0) Tryz.underlying198 hi hz0 .i64 .i64 k k (by omega) (by omega) (by rw [hz2]; omega) (by omega)
  rw [h, hz1, Nat.mul_one, Int.toNat_natCast, made_zero]

set_option maxRecDepth 10000 in
set_option maxHeartbeats 1000000 in
theorem number_any (n k : Nat) (w : World) (hn : n < 9223372036854775808) (hk : k ≤ 8) :
    Calls Tryz.prog 135 #[.int .i64 n, .int .i64 k] w fun e w' => e = .returned (.string ⟨(be k n).toArray⟩) ∧ Below w.heap.size w w' := by
  have hmk := make_bytes k hk w
  go_enter Tryz.func135, Tryz.ntmps135
  go_wp2
  generalize hW1 : w.alloc (Obj.cells (byteV (List.replicate k 0)).toArray 5) = W1
  have HR1 : Hid (bytesAt W1 w.heap.size (List.replicate k 0 ++ be 0 n)) := hide (by
    rw [← hW1]
    show (w.heap.push _)[w.heap.size]? = _
    simp [be])
  have hB1 : Below w.heap.size w W1 := by rw [← hW1]; exact (Below.refl _ _).alloc (Nat.le_refl _) _
  clear hW1 hmk
  go_loopw [0, 6] (fun x i wr => ∃ j : Nat, j ≤ k ∧ x = .int .i64 (n / 256 ^ j : Nat) ∧ i = .int .i64 ((k : Int) - 1 - j) ∧ bytesAt wr w.heap.size (List.replicate (k - j) 0 ++ be j n) ∧ Below w.heap.size w wr) (fun _ i _ => (intOf i + 1).toNat)
  case atStart => exact ⟨0, Nat.zero_le _, by simp, by simp, unhide HR1, hB1⟩
  case round =>
    obtain ⟨j, hj, rfl, rfl, hr, hB⟩ := hrel
    have HR := hide hr
    clear hr HR1 hB1
    by_cases hlt : j < k
    · obtain ⟨m, hm⟩ : ∃ m, k - j = m + 1 := ⟨k - j - 1, by omega⟩
      have hlen : m < (List.replicate (k - j) (0 : UInt8) ++ be j n).length := by simp; omega
      have h1 := (unhide HR).cell hlen
      have h2 := (unhide HR).soft m
      have hmk : (k : Int) - 1 - j = (m : Int) := by omega
      rw [hmk]
      have hmlt : m < k := by omega
      have hq : n / 256 ^ j < 9223372036854775808 := Nat.lt_of_le_of_lt (Nat.div_le_self _ _) hn
      have Hdiv := hide (div_256 n j)
      have Hby := hide (ofNat_mod (n / 256 ^ j))
      have Hfr := hide (be_front j n)
      generalize (List.replicate (k - j) (0 : UInt8) ++ be j n)[m] = c0 at h1
      obtain ⟨x, hx⟩ : ∃ x, n / 256 ^ j = x := ⟨_, rfl⟩
      rw [hx] at hq Hdiv Hby Hfr ⊢
      have Hm := hide hm
      have Hmk := hide hmk
      clear hx hm hmk hlen
      go_wp2
      rw [unhide Hby]
      refine ⟨⟨j + 1, by omega, i64_v (by rw [← unhide Hdiv]; omega), i64_v (by have := unhide Hmk; omega), ?_, hB.setCell (by show w.heap.size ≤ w.heap.size; exact Nat.le_refl _) _⟩, by simp only [intOf]; omega⟩
      have hset := (unhide HR).set m (UInt8.ofNat x)
      rw [unhide Hm, set_mid, ← unhide Hfr] at hset
      rw [show k - (j + 1) = m from by have := unhide Hm; omega]
      exact hset
    · obtain rfl : j = k := by omega
      have hlen : (List.replicate (j - j) (0 : UInt8) ++ be j n).length = j := by simp [be_length]
      have htx := (unhide HR).text j
      rw [hlen] at htx
      rw [show (j : Int) - 1 - (j : Int) = -1 from by omega]
      have Hrep : Hid (List.replicate (j - j) (0 : UInt8) ++ be j n = be j n) := hide (by simp)
      rw [unhide Hrep] at htx
      clear hlen
      go_wp2
      go_ret
      exact ⟨rfl, hB⟩

end Go.Proofs.YtoacignhobchbaaGreatDoor

namespace Go.Proofs.YtoacignhobchbaaGreatDoor
open Go.RowKit

theorem u32_val {a b : Int} (h : a = b) : Value.int .u32 a = .int .u32 b := by rw [h]
theorem crc1_bits {c : Nat} (h : c < 4294967296) : bits .xor .u32 ((c : Int) / 2) (3988292384 * bits .and .u32 (c : Int) 1 % 4294967296) = (crc1 c : Nat) := by
  have h2 : c % 2 < 2 := Nat.mod_lt _ (by decide)
  rw [and1_u32 h, show (3988292384 * ((c % 2 : Nat) : Int) % 4294967296) = ((3988292384 * (c % 2) : Nat) : Int) from by omega]
  rw [show ((c : Int) / 2) = ((c / 2 : Nat) : Int) from by omega]
  exact xor_u32 (by omega) (by omega)
theorem crc_snoc (s : ByteArray) (k : Nat) (h : k < s.size) : crcL (s.data.toList.take (k + 1)) = crcN 8 (crcL (s.data.toList.take k) ^^^ s[k].toNat) := by
  rw [take_snoc s k h, crcL_snoc]; rfl
theorem ret_i64 {a b : Int} (h : a = b) : Ending.returned (.int .i64 a) = .returned (.int .i64 b) := by rw [h]

set_option maxRecDepth 10000 in
set_option maxHeartbeats 400000 in
theorem wsum_any (s : ByteArray) (w : World) (hs : s.size ≤ 140737488355328) :
    Calls Tryz.prog 131 #[.string s] w fun e w' => e = .returned (.int .i64 (sumN s.data.toList : Nat)) ∧ w' = w := by
  go_enter Tryz.func131, Tryz.ntmps131
  go_wp2
  go_loop [3, 8] (fun c i => ∃ k : Nat, k ≤ s.size ∧ i = .int .i64 k ∧ c = .int .u32 (crcL (s.data.toList.take k) : Nat)) (fun _ i => s.size - (intOf i).toNat)
  case atStart => exact ⟨0, Nat.zero_le _, rfl, rfl⟩
  case round =>
    obtain ⟨k, hk, rfl, rfl⟩ := hrel
    obtain ⟨c, hc⟩ : ∃ c, crcL (s.data.toList.take k) = c := ⟨_, rfl⟩
    have hcl : c < 4294967296 := hc ▸ crcL_lt _
    have Hc := hide hc
    rw [hc]
    clear hc
    by_cases hlt : k < s.size
    · have hb := s[k].toNat_lt
      have Hsn := hide (crc_snoc s k hlt)
      go_wp2
      rw [xor_u32 hcl (by omega)]
      obtain ⟨x, hx⟩ : ∃ x, c ^^^ s[k].toNat = x := ⟨_, rfl⟩
      have hxl : x < 4294967296 := hx ▸ xor_lt32 hcl (by omega)
      have Hx := hide hx
      rw [hx]
      clear hx hb
      go_loop [3, 17] (fun d j => ∃ n : Nat, n ≤ 8 ∧ j = .int .i64 n ∧ d = .int .u32 (crcN n x : Nat)) (fun _ j => 8 - (intOf j).toNat)
      case atStart => exact ⟨0, Nat.zero_le _, rfl, rfl⟩
      case round =>
        obtain ⟨n, hn, rfl, rfl⟩ := hrel
        have hy := crcN_lt hxl n
        have Hs : Hid (crcN (n + 1) x = crc1 (crcN n x)) := hide rfl
        by_cases h8 : n < 8
        · obtain ⟨y, hyy⟩ : ∃ y, crcN n x = y := ⟨_, rfl⟩
          rw [hyy] at hy Hs ⊢
          clear hyy
          go_wp2
          exact ⟨⟨n + 1, by omega, by go_num, u32_val (by rw [crc1_bits hy, unhide Hs])⟩, by simp [intOf]; omega⟩
        · obtain rfl : n = 8 := by omega
          go_wp2
          exact ⟨⟨k + 1, by omega, by go_num, u32_val (by rw [unhide Hsn, unhide Hc, unhide Hx])⟩, by simp [intOf]; omega⟩
    · obtain rfl : k = s.size := by omega
      go_wp2
      go_ret
      refine ⟨ret_i64 ?_, rfl⟩
      rw [← size_list s, List.take_length] at Hc
      rw [show IntKind.u32.max = ((4294967295 : Nat) : Int) from rfl, xor_u32 (by decide) hcl, sumN, unhide Hc]
      have h32 := xor_lt32 (show 4294967295 < 4294967296 by decide) hcl
      unfold wrap64
      omega

end Go.Proofs.YtoacignhobchbaaGreatDoor

namespace Go.Proofs.YtoacignhobchbaaGreatDoor
open Go.RowKit

theorem num_in (n : Int) (k : Nat) (w : World) (h0 : 0 ≤ n) (hn : n < 9223372036854775808) (hk : k ≤ 8) (d : Nat) (os : Array Obj) :
    Calls Tryz.prog 135 #[.int .i64 n, .int .i64 k] (Sort.grow (redrawn w d) os) fun e w'' => e = .returned (.string ⟨(be k n.toNat).toArray⟩) ∧ ∃ p : Regrown, w'' = Sort.grow (redrawn w p.d) p.os := by
  have h := number_any n.toNat k (Sort.grow (redrawn w d) os) (by omega) hk
  rw [Int.toNat_of_nonneg h0] at h
  exact Calls.regrown_of h

set_option maxRecDepth 100000 in
set_option maxHeartbeats 2000000 in
theorem body_any (t : WTxn) (w : World) (ht : gdE t = 0) :
    Calls Tryz.prog 134 #[txnV t] w fun e w' => e = .returned (.string ⟨(bodyL t).toArray⟩) ∧ Below w.heap.size w w' := by
  obtain ⟨hz, ho, hs, hv, hu, hp, hd⟩ := gd_bounds ht
  clear ht
  obtain ⟨z, o, s, p, d, v, u⟩ := t
  unfold txnV bodyL
  simp only at hz ho hs hv hu hp hd ⊢
  have hzp : (ByteArray.mk p.toArray).size = p.length := Lib.size_eq ⟨p.toArray⟩
  have hzd : (ByteArray.mk d.toArray).size = d.length := Lib.size_eq ⟨d.toArray⟩
  go_enter Tryz.func134, Tryz.ntmps134
  go_wp2_with fail
  obtain ⟨W, hW⟩ : ∃ W, w.alloc (Obj.cells #[.int .i64 z, .int .i64 o, .int .i64 s, .string ⟨p.toArray⟩, .string ⟨d.toArray⟩, .int .i64 v, .int .i64 u] 53) = W := ⟨_, rfl⟩
  have hB : Below w.heap.size w W := by rw [← hW]; exact (Below.refl _ _).alloc (Nat.le_refl _) _
  have k0 : ∀ d' os, (Sort.grow (redrawn W d') os).cell? ⟨w.heap.size, 0, none⟩ = some (.int .i64 z) := fun d' os => cell_regrown (by rw [← hW]; simp) d' os
  have k1 : ∀ d' os, (Sort.grow (redrawn W d') os).cell? ⟨w.heap.size, 1, none⟩ = some (.int .i64 o) := fun d' os => cell_regrown (by rw [← hW]; simp) d' os
  have k2 : ∀ d' os, (Sort.grow (redrawn W d') os).cell? ⟨w.heap.size, 2, none⟩ = some (.int .i64 s) := fun d' os => cell_regrown (by rw [← hW]; simp) d' os
  have k3 : ∀ d' os, (Sort.grow (redrawn W d') os).cell? ⟨w.heap.size, 3, none⟩ = some (.string ⟨p.toArray⟩) := fun d' os => cell_regrown (by rw [← hW]; simp) d' os
  have k4 : ∀ d' os, (Sort.grow (redrawn W d') os).cell? ⟨w.heap.size, 4, none⟩ = some (.string ⟨d.toArray⟩) := fun d' os => cell_regrown (by rw [← hW]; simp) d' os
  have k5 : ∀ d' os, (Sort.grow (redrawn W d') os).cell? ⟨w.heap.size, 5, none⟩ = some (.int .i64 v) := fun d' os => cell_regrown (by rw [← hW]; simp) d' os
  have k6 : ∀ d' os, (Sort.grow (redrawn W d') os).cell? ⟨w.heap.size, 6, none⟩ = some (.int .i64 u) := fun d' os => cell_regrown (by rw [← hW]; simp) d' os
  rw [hW]
  clear hW
  have c0 : ∀ d' os, Calls Tryz.prog 135 #[.int .i64 z, .int .i64 8] (Sort.grow (redrawn W d') os) fun e w'' => e = .returned (.string ⟨(be 8 z.toNat).toArray⟩) ∧ ∃ p : Regrown, w'' = Sort.grow (redrawn W p.d) p.os := num_in z 8 W (by omega) (by omega) (by omega)
  have c1 : ∀ d' os, Calls Tryz.prog 135 #[.int .i64 o, .int .i64 1] (Sort.grow (redrawn W d') os) fun e w'' => e = .returned (.string ⟨(be 1 o.toNat).toArray⟩) ∧ ∃ p : Regrown, w'' = Sort.grow (redrawn W p.d) p.os := num_in o 1 W (by omega) (by omega) (by omega)
  have c2 : ∀ d' os, Calls Tryz.prog 135 #[.int .i64 s, .int .i64 4] (Sort.grow (redrawn W d') os) fun e w'' => e = .returned (.string ⟨(be 4 s.toNat).toArray⟩) ∧ ∃ p : Regrown, w'' = Sort.grow (redrawn W p.d) p.os := num_in s 4 W (by omega) (by omega) (by omega)
  have c3 : ∀ d' os, Calls Tryz.prog 135 #[.int .i64 v, .int .i64 4] (Sort.grow (redrawn W d') os) fun e w'' => e = .returned (.string ⟨(be 4 v.toNat).toArray⟩) ∧ ∃ p : Regrown, w'' = Sort.grow (redrawn W p.d) p.os := num_in v 4 W (by omega) (by omega) (by omega)
  have c4 : ∀ d' os, Calls Tryz.prog 135 #[.int .i64 u, .int .i64 4] (Sort.grow (redrawn W d') os) fun e w'' => e = .returned (.string ⟨(be 4 u.toNat).toArray⟩) ∧ ∃ p : Regrown, w'' = Sort.grow (redrawn W p.d) p.os := num_in u 4 W (by omega) (by omega) (by omega)
  have c5 : ∀ d' os, Calls Tryz.prog 135 #[.int .i64 (p.length : Nat), .int .i64 1] (Sort.grow (redrawn W d') os) fun e w'' => e = .returned (.string ⟨(be 1 p.length).toArray⟩) ∧ ∃ p : Regrown, w'' = Sort.grow (redrawn W p.d) p.os := num_in p.length 1 W (by omega) (by omega) (by omega)
  have c6 : ∀ d' os, Calls Tryz.prog 135 #[.int .i64 (d.length : Nat), .int .i64 2] (Sort.grow (redrawn W d') os) fun e w'' => e = .returned (.string ⟨(be 2 d.length).toArray⟩) ∧ ∃ p : Regrown, w'' = Sort.grow (redrawn W p.d) p.os := num_in d.length 2 W (by omega) (by omega) (by omega)
  have l0 := be_length 8 z.toNat
  have l1 := be_length 1 o.toNat
  have l2 := be_length 4 s.toNat
  have l3 := be_length 4 v.toNat
  have l4 := be_length 4 u.toNat
  have l5 := be_length 1 p.length
  have l6 := be_length 2 d.length
  obtain ⟨b0, e0⟩ : ∃ b, be 8 z.toNat = b := ⟨_, rfl⟩
  rw [e0] at c0 l0
  have E0 := hide e0
  clear e0
  obtain ⟨b1, e1⟩ : ∃ b, be 1 o.toNat = b := ⟨_, rfl⟩
  rw [e1] at c1 l1
  have E1 := hide e1
  clear e1
  obtain ⟨b2, e2⟩ : ∃ b, be 4 s.toNat = b := ⟨_, rfl⟩
  rw [e2] at c2 l2
  have E2 := hide e2
  clear e2
  obtain ⟨b3, e3⟩ : ∃ b, be 4 v.toNat = b := ⟨_, rfl⟩
  rw [e3] at c3 l3
  have E3 := hide e3
  clear e3
  obtain ⟨b4, e4⟩ : ∃ b, be 4 u.toNat = b := ⟨_, rfl⟩
  rw [e4] at c4 l4
  have E4 := hide e4
  clear e4
  obtain ⟨b5, e5⟩ : ∃ b, be 1 p.length = b := ⟨_, rfl⟩
  rw [e5] at c5 l5
  have E5 := hide e5
  clear e5
  obtain ⟨b6, e6⟩ : ∃ b, be 2 d.length = b := ⟨_, rfl⟩
  rw [e6] at c6 l6
  have E6 := hide e6
  clear e6
  refine wp_region_quiet_below (by kernel_rfl) (by kernel_rfl) ?_
  repeat (first | go_big_quiet_step (first | with_reducible exact c0 _ _ | with_reducible exact c1 _ _ | with_reducible exact c2 _ _ | with_reducible exact c3 _ _ | with_reducible exact c4 _ _ | with_reducible exact c5 _ _ | with_reducible exact c6 _ _) | quiet_step (first | with_reducible exact c0 _ _ | with_reducible exact c1 _ _ | with_reducible exact c2 _ _ | with_reducible exact c3 _ _ | with_reducible exact c4 _ _ | with_reducible exact c5 _ _ | with_reducible exact c6 _ _))
  refine wpQuiet_nil ?_
  intro _ hw'
  obtain ⟨⟨dq, osq⟩, hw''⟩ := hw'
  subst hw''
  have hb2 : Below w.heap.size w (Sort.grow (redrawn W dq) osq) := below_next hB (below_regrown W dq osq)
  clear c0 c1 c2 c3 c4 c5 c6 k0 k1 k2 k3 k4 k5 k6
  go_wp2_with fail
  go_ret
  refine ⟨ret_str0 ?_, hb2⟩
  rw [cat_one, cat_one, cat_one, cat_one, cat_one, cat_one, cat_one, cat_one]
  simp only [List.append_assoc]
  rw [unhide E0, unhide E1, unhide E2, unhide E3, unhide E4, unhide E5, unhide E6]

theorem ret_strI {a b : ByteArray} {i j : Int} (h : a = b) (h' : i = j) : Ending.returned (.tuple #[.string a, .int .i64 i]) = .returned (.tuple #[.string b, .int .i64 j]) := by rw [h, h']

set_option maxRecDepth 10000 in
set_option maxHeartbeats 1000000 in
theorem encode_yes (t : WTxn) (w : World) (h : gdE t = 0) :
    Calls Tryz.prog 104 #[txnV t] w fun e w' => e = .returned (.tuple #[.string ⟨(recL t).toArray⟩, .int .i64 0]) ∧ Below w.heap.size w w' := by
  have H := hide h
  obtain ⟨_, _, _, _, _, _, hd⟩ := gd_bounds h
  have hbl := gd_body_le h
  clear h
  obtain ⟨b, hb⟩ : ∃ b, bodyL t = b := ⟨_, rfl⟩
  have Hb := hide hb
  rw [hb] at hbl
  clear hb
  have hzb : (ByteArray.mk b.toArray).size = b.length := Lib.size_eq ⟨b.toArray⟩
  obtain ⟨z, o, s, p, d, v, u⟩ := t
  unfold txnV
  replace hd : d.length ≤ 256 := hd
  go_enter Tryz.func104, Tryz.ntmps104
  go_wp2_with fail
  refine (wgood_any ⟨z, o, s, p, d, v, u⟩ _ (by show d.length ≤ _; omega)).mono ?_
  rintro e w1 ⟨rfl, hb1⟩
  have hbz := box_then hb1
  obtain ⟨hc, hf⟩ := bcell hb1
  have hz1 : w.heap.size < w1.heap.size := by have := hb1.size; simp at this; omega
  rw [unhide H]
  go_wp2_with fail
  refine (body_any ⟨z, o, s, p, d, v, u⟩ _ (unhide H)).mono ?_
  rintro e w2 ⟨rfl, hb2⟩
  replace hb2 := below_next hbz hb2
  rw [unhide Hb]
  clear hc hf hb1 hbz hz1
  go_wp2_with fail
  refine (number_any b.length 2 _ (by omega) (by omega)).mono ?_
  rintro e w3 ⟨rfl, hb3⟩
  replace hb3 := below_next hb2 hb3
  clear hb2
  have l2 := be_length 2 b.length
  obtain ⟨n2, e2⟩ : ∃ n2, be 2 b.length = n2 := ⟨_, rfl⟩
  rw [e2] at l2 ⊢
  have E2 := hide e2
  clear e2
  go_wp2_with fail
  have hF : (ByteArray.mk #[84] ++ ByteArray.mk n2.toArray ++ ByteArray.mk b.toArray) = ⟨(frontL b).toArray⟩ := by
    rw [show (ByteArray.mk #[84]) = ⟨[(84 : UInt8)].toArray⟩ from rfl, cat_one, cat_one, frontL, unhide E2]
    rfl
  rw [hF]
  have lF := frontL_length b
  obtain ⟨F, eF⟩ : ∃ F, frontL b = F := ⟨_, rfl⟩
  rw [eF] at lF ⊢
  have EF := hide eF
  clear eF hF
  have hzF : (ByteArray.mk F.toArray).size = F.length := Lib.size_eq ⟨F.toArray⟩
  refine (wsum_any ⟨F.toArray⟩ _ (by omega)).mono ?_
  rintro e w4 ⟨rfl, rfl⟩
  rw [show (ByteArray.mk F.toArray).data.toList = F from rfl]
  have hsl := sumN_lt F
  obtain ⟨X, hX⟩ : ∃ X, sumN F = X := ⟨_, rfl⟩
  rw [hX] at hsl ⊢
  have HX := hide hX
  clear hX
  go_wp2_with fail
  refine (number_any X 4 _ (by omega) (by omega)).mono ?_
  rintro e w5 ⟨rfl, hb5⟩
  replace hb5 := below_next hb3 hb5
  clear hb3
  have l4 := be_length 4 X
  obtain ⟨n4, e4⟩ : ∃ n4, be 4 X = n4 := ⟨_, rfl⟩
  rw [e4] at l4 ⊢
  have E4 := hide e4
  clear e4
  go_wp2_with fail
  go_ret2
  refine ⟨ret_strI ?_ rfl, hb5⟩
  rw [cat_one, recL, unhide Hb, unhide EF, unhide HX, unhide E4]

end Go.Proofs.YtoacignhobchbaaGreatDoor

namespace Go.Proofs.YtoacignhobchbaaGreatDoor
open Go.RowKit

/-- a store into a box that holds no text leaves a disk's files alone -/
theorem disk_box {W : World} {v : Value} {fs : List DF} (h : DiskV W v fs) {k : Nat} {a : Option Addr} {n c : Nat} (hb : BoxAt W k (.slice a n c)) (u : Value) : DiskV (W.setCell ⟨k, 0, none⟩ u) v fs := by
  rcases h with h | ⟨b, off, cap, rfl, h1, h2, h3, h0, h4⟩
  · exact .inl h
  · have hne : b ≠ k := by
      rintro rfl
      obtain ⟨f, r, rfl⟩ : ∃ f r, fs = f :: r := by
        cases fs with
        | nil => exact absurd rfl h0
        | cons f r => exact ⟨f, r, rfl⟩
      have e := h4.c0 (i := 0) (f := f) rfl
      unfold BoxAt at hb
      simp only [World.cell?, hb] at e
      cases off with
      | zero => simp at e
      | succ m => simp at e
    refine .inr ⟨b, off, cap, rfl, h1, h2, by simpa [World.setCell] using h3, h0, fun j x hj => ?_⟩
    rw [← h4 j x hj]
    exact World.cell?_of_block (Below.heap_setCell W ⟨k, 0, none⟩ u b hne)
theorem BoxAt.other {W : World} {k j : Nat} {v : Value} (h : BoxAt W k v) (hj : k ≠ j) (u : Value) : BoxAt (W.setCell ⟨j, 0, none⟩ u) k v := (Below.heap_setCell W ⟨j, 0, none⟩ u k hj).trans h
theorem BoxAt.lt {W : World} {k : Nat} {v : Value} (h : BoxAt W k v) : k < W.heap.size := by unfold BoxAt at h; exact (Array.getElem?_eq_some_iff.1 h).1

/-- blocks of a call that is handed a disk and a transaction: the disk's, the result's -/
structure ABox (w W : World) (v : Value) : Prop where
  below : Below w.heap.size w W
  d : BoxAt W w.heap.size v
  r : BoxAt W (w.heap.size + 1 + 1) (.slice none 0 0)
theorem ABox.next {w W V : World} {v : Value} (h : ABox w W v) (hb : Below W.heap.size W V) : ABox w V v := ⟨below_next2 h.below hb, h.d.next hb, h.r.next hb⟩
theorem ABox.start (w : World) (v : Value) (o : Obj) : ABox w (((w.alloc (.cells #[v] 28)).alloc o).alloc (.cells #[.slice none 0 0] 28)) v := by
  have b1 : Below (w.alloc (.cells #[v] 28)).heap.size (w.alloc (.cells #[v] 28)) ((w.alloc (.cells #[v] 28)).alloc o) := (Below.refl _ _).alloc (Nat.le_refl _) _
  have b2 : Below ((w.alloc (.cells #[v] 28)).alloc o).heap.size ((w.alloc (.cells #[v] 28)).alloc o) (((w.alloc (.cells #[v] 28)).alloc o).alloc (.cells #[.slice none 0 0] 28)) := (Below.refl _ _).alloc (Nat.le_refl _) _
  have b0 : Below w.heap.size w (w.alloc (.cells #[v] 28)) := (Below.refl _ _).alloc (Nat.le_refl _) _
  refine ⟨below_next2 (below_next2 b0 b1) b2, ((BoxAt.new w v).next b1).next b2, ?_⟩
  have h := BoxAt.new ((w.alloc (.cells #[v] 28)).alloc o) (.slice none 0 0)
  have hz : ((w.alloc (.cells #[v] 28)).alloc o).heap.size = w.heap.size + 1 + 1 := by simp
  rw [hz] at h
  exact h

end Go.Proofs.YtoacignhobchbaaGreatDoor

namespace Go.Proofs.YtoacignhobchbaaGreatDoor
open Go.RowKit

/-- blocks of a call that is handed a disk: the disk's, the result's -/
structure RBox (w W : World) (v : Value) : Prop where
  below : Below w.heap.size w W
  d : BoxAt W w.heap.size v
  r : BoxAt W (w.heap.size + 1) (.slice none 0 0)
theorem RBox.next {w W V : World} {v : Value} (h : RBox w W v) (hb : Below W.heap.size W V) : RBox w V v := ⟨below_next2 h.below hb, h.d.next hb, h.r.next hb⟩
theorem RBox.start (w : World) (v : Value) : RBox w ((w.alloc (.cells #[v] 28)).alloc (.cells #[.slice none 0 0] 28)) v := by
  have b1 : Below w.heap.size w (w.alloc (.cells #[v] 28)) := (Below.refl _ _).alloc (Nat.le_refl _) _
  have b2 : Below (w.alloc (.cells #[v] 28)).heap.size (w.alloc (.cells #[v] 28)) ((w.alloc (.cells #[v] 28)).alloc (.cells #[.slice none 0 0] 28)) := (Below.refl _ _).alloc (Nat.le_refl _) _
  refine ⟨below_next2 b1 b2, (BoxAt.new w v).next b2, ?_⟩
  have h := BoxAt.new (w.alloc (.cells #[v] 28)) (.slice none 0 0)
  have hz : (w.alloc (.cells #[v] 28)).heap.size = w.heap.size + 1 := by simp
  rw [hz] at h
  exact h
/-- a call on a disk says E, and hands back a log and a disk -/
def GivesW (f : FuncId) (args : Value → Array Value) (fs : List DF) (ts : List WTxn) (d : List DF) (E : Int) : Prop := ∀ v W, DiskV W v fs → Calls Tryz.prog f (args (.agg #[v])) W fun e w' => ∃ a1 k1 c1 a n c, e = .returned (.tuple #[.slice a1 k1 c1, .agg #[.slice a n c], .int .i64 E]) ∧ Hid (LogV w' (.slice a1 k1 c1) ts) ∧ Hid (DiskV w' (.slice a n c) d) ∧ Below W.heap.size W w'
/-- what reading the log says -/
def GivesS (f : FuncId) (fs : List DF) (s : List UInt8) (E : Int) : Prop := ∀ v W, DiskV W v fs → Calls Tryz.prog f #[.agg #[v], .string ⟨#[108, 111, 103]⟩] W fun e w' => e = .returned (.tuple #[.string ⟨s.toArray⟩, .int .i64 E]) ∧ Below W.heap.size W w'
set_option maxRecDepth 10000 in
set_option maxHeartbeats 1000000 in
theorem wrec_gap_any (fs d1 : List DF) (E : Int) (CR : GivesS 60 fs [] 7) (GW : GivesD 61 (fun x => #[x, .string ⟨logN.toArray⟩, .string ⟨(([] : List UInt8)).toArray⟩]) fs d1 E) : GivesW 27 (fun x => #[x]) fs [] d1 E := by
  intro v w hv
  simp only [show logN.toArray = #[108, 111, 103] from rfl] at GW
  have HV := hide hv
  obtain ⟨a, n, c, rfl⟩ := disk_slice hv
  clear hv
  go_enter Tryz.func27, Tryz.ntmps27
  go_wp2_with fail
  have X := hide (RBox.start w (.slice a n c))
  generalize (w.alloc (.cells #[.slice a n c] 28)).alloc (.cells #[.slice none 0 0] 28) = W0 at *
  refine (CR _ _ ((unhide HV).next (unhide X).below)).mono ?_
  rintro e w1 ⟨rfl, hb1⟩
  have X1 := (unhide X).next hb1
  have cd := X1.d.c
  have HX1 := hide X1
  clear hb1 X X1 CR
  go_wp2_with fail
  refine (GW _ _ ((unhide HV).next (unhide HX1).below)).mono ?_
  rintro e w2 ⟨a2, n2, c2, rfl, HD2, hb2⟩
  have hal := (Below.refl w2.heap.size w2).alloc (Nat.le_refl _) (.cells #[.slice a2 n2 c2] 28)
  have X2 := ((unhide HX1).next hb2).next hal
  have cr := X2.r.c
  have fr := X2.r.f
  have cy := (BoxAt.new w2 (.slice a2 n2 c2)).c
  have hz2 := ((unhide HX1).next hb2).r.lt
  have hnz : w.heap.size + 1 ≠ w2.heap.size := by omega
  have HF := hide (And.intro (X2.below.setCell (p := ⟨w.heap.size + 1, 0, none⟩) (by show w.heap.size ≤ w.heap.size + 1; omega) (.slice a2 n2 c2)) (disk_box ((unhide HD2).next hal) X2.r (.slice a2 n2 c2)))
  clear hb2 hal X2 HX1 HD2 GW cd HV
  go_wp2_with fail
  generalize w2.alloc (.cells #[.slice a2 n2 c2] 28) = W2 at *
  go_region
  go_wp2_with fail
  exact bodyPost_ret (v := .tuple #[.slice none 0 0, .agg #[.slice a2 n2 c2], .int .i64 E]) (by simp [results, Tryz.results27, go_sem, cr]) rfl ⟨_, _, _, _, _, _, rfl, hide (LogV.nil _), hide (unhide HF).2.drew, (unhide HF).1.drew⟩

end Go.Proofs.YtoacignhobchbaaGreatDoor
