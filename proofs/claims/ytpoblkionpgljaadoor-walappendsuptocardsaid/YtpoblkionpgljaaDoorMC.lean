/-
  What wire.Sum answers, for every text: the walk.
  What wire.Number answers, for numbers from 0 on and up to eight bytes: the walk.
  What wire.body and wire.Encode answer: the walks.
  What wire's cursor answers: the walks of text and number; a world in which one block alone has turned.
  What wire.unfold answers, for every text: the walk.
  What wire.Decode answers, for every text: the walk.
  What wire.Decode answers of a text that has a record's form: the walk.
  What aviarykeep's own functions answer: opening, writes.
-/
import Derived.Test.YtpoblkionpgljaaDoorRows
import Derived.Test.YtpoblkionpgljaaDoorMA
import Derived.WalkKit
import Derived.WalkSpells
import Derived.WalkLawsBesides
import Derived.Laws.MakeOwn
import Derived.Laws.IdiomStrings
import Derived.OwnWalk
import Derived.Test.YtpoblkionpgljaaDoorMB
import Derived.Lib.QuietBelow
import Derived.BigQuiet
namespace Go.Proofs.YtpoblkionpgljaaDoor
open Go.RowKit

theorem u32_val {a b : Int} (h : a = b) : Value.int .u32 a = .int .u32 b := by rw [h]
theorem crc1_bits {c : Nat} (h : c < 4294967296) : bits .xor .u32 ((c : Int) / 2) (3988292384 * bits .and .u32 (c : Int) 1 % 4294967296) = (crc1 c : Nat) := by
  have h2 : c % 2 < 2 := Nat.mod_lt _ (by decide)
  rw [and1_u32 h, show (3988292384 * ((c % 2 : Nat) : Int) % 4294967296) = ((3988292384 * (c % 2) : Nat) : Int) from by omega]
  rw [show ((c : Int) / 2) = ((c / 2 : Nat) : Int) from by omega]
  exact xor_u32 (by omega) (by omega)
theorem crc_snoc (s : ByteArray) (k : Nat) (h : k < s.size) : crcL (s.data.toList.take (k + 1)) = crcN 8 (crcL (s.data.toList.take k) ^^^ s[k].toNat) := by
  rw [take_snoc s k h, crcL_snoc]; rfl
theorem ret_i64 {a b : Int} (h : a = b) : Ending.returned (.int .i64 a) = .returned (.int .i64 b) := by rw [h]

set_option maxHeartbeats 400000 in
theorem wsum_any (s : ByteArray) (w : World) (hs : s.size ≤ 140737488355328) :
    Calls Tryd.prog 55 #[.string s] w fun e w' => e = .returned (.int .i64 (sumN s.data.toList : Nat)) ∧ w' = w := by
  go_enter Tryd.func55, Tryd.ntmps55
  go_wp2
  go_loop [3, 8] (fun c i => ∃ k : Nat, k ≤ s.size ∧ i = .int .i64 k ∧ c = .int .u32 (crcL (s.data.toList.take k) : Nat)) (fun _ i => s.size - (intOf i).toNat)
  case atStart => exact ⟨0, Nat.zero_le _, rfl, rfl⟩
  case round =>
    obtain ⟨k, hk, rfl, rfl⟩ := hrel
    obtain ⟨c, hc⟩ : ∃ c, crcL (s.data.toList.take k) = c := ⟨_, rfl⟩
    have hcl : c < 4294967296 := hc ▸ crcL_lt _
    have Hc := hide hc
    rw [hc]
    clear hc
    by_cases hlt : k < s.size
    · have hb := s[k].toNat_lt
      have Hsn := hide (crc_snoc s k hlt)
      go_wp2
      rw [xor_u32 hcl (by omega)]
      obtain ⟨x, hx⟩ : ∃ x, c ^^^ s[k].toNat = x := ⟨_, rfl⟩
      have hxl : x < 4294967296 := hx ▸ xor_lt32 hcl (by omega)
      have Hx := hide hx
      rw [hx]
      clear hx hb
      go_loop [3, 17] (fun d j => ∃ n : Nat, n ≤ 8 ∧ j = .int .i64 n ∧ d = .int .u32 (crcN n x : Nat)) (fun _ j => 8 - (intOf j).toNat)
      case atStart => exact ⟨0, Nat.zero_le _, rfl, rfl⟩
      case round =>
        obtain ⟨n, hn, rfl, rfl⟩ := hrel
        have hy := crcN_lt hxl n
        have Hs : Hid (crcN (n + 1) x = crc1 (crcN n x)) := hide rfl
        by_cases h8 : n < 8
        · obtain ⟨y, hyy⟩ : ∃ y, crcN n x = y := ⟨_, rfl⟩
          rw [hyy] at hy Hs ⊢
          clear hyy
          go_wp2
          exact ⟨⟨n + 1, by omega, by go_num, u32_val (by rw [crc1_bits hy, unhide Hs])⟩, by simp [intOf]; omega⟩
        · obtain rfl : n = 8 := by omega
          go_wp2
          exact ⟨⟨k + 1, by omega, by go_num, u32_val (by rw [unhide Hsn, unhide Hc, unhide Hx])⟩, by simp [intOf]; omega⟩
    · obtain rfl : k = s.size := by omega
      go_wp2
      go_ret
      refine ⟨ret_i64 ?_, rfl⟩
      rw [← size_list s, List.take_length] at Hc
      rw [show IntKind.u32.max = ((4294967295 : Nat) : Int) from rfl, xor_u32 (by decide) hcl, sumN, unhide Hc]
      have h32 := xor_lt32 (show 4294967295 < 4294967296 by decide) hcl
      unfold wrap64
      omega

end Go.Proofs.YtpoblkionpgljaaDoor

namespace Go.Proofs.YtpoblkionpgljaaDoor
open Go.RowKit

theorem be_front : ∀ j n, be (j + 1) n = UInt8.ofNat (n / 256 ^ j) :: be j n
  | 0, n => by simp [be]
  | j + 1, n => by
    rw [be, be_front j (n / 256), be, Nat.div_div_eq_div_mul, Nat.pow_succ, Nat.mul_comm 256]; rfl
/- cells that hold bytes -/
def byteV (l : List UInt8) : List Value := l.map fun b => .int .u8 (b.toNat : Int)
def bytesAt (W : World) (g : Nat) (l : List UInt8) : Prop := W.heap[g]? = some (.cells (byteV l).toArray 5 (0, 0))
theorem bytesAt.cell {W : World} {g : Nat} {l : List UInt8} (h : bytesAt W g l) {j : Nat} (hj : j < l.length) : W.cell? ⟨g, j, none⟩ = some (.int .u8 (l[j].toNat : Int)) := by
  unfold bytesAt at h; simp [World.cell?, h, byteV, List.getElem?_eq_getElem hj]
theorem bytesAt.soft {W : World} {g : Nat} {l : List UInt8} (h : bytesAt W g l) (j : Nat) : W.frozen? ⟨g, j, none⟩ = false := by
  unfold bytesAt at h; simp [World.frozen?, h]
theorem bytesAt.set {W : World} {g : Nat} {l : List UInt8} (h : bytesAt W g l) (j : Nat) (b : UInt8) : bytesAt (W.setCell ⟨g, j, none⟩ (.int .u8 (b.toNat : Int))) g (l.set j b) := by
  unfold bytesAt at h ⊢
  obtain ⟨hlt, hk⟩ := Array.getElem?_eq_some_iff.1 h
  show (W.heap.modify g _)[g]? = _
  rw [Array.getElem?_eq_getElem (by rw [Array.size_modify]; exact hlt), Array.getElem_modify_self, hk]
  simp [byteV, List.map_set]
theorem set_mid (m : Nat) (b : UInt8) (r : List UInt8) : (List.replicate (m + 1) 0 ++ r).set m b = List.replicate m 0 ++ b :: r := by
  rw [List.replicate_succ', List.append_assoc, List.set_append_right _ _ (by simp)]
  simp
theorem bytesAt.text {W : World} {g : Nat} {l : List UInt8} (h : bytesAt W g l) (cap : Nat) :
    (convert 82 9 (.slice (some ⟨g, 0, none⟩) l.length cap)).run Tryd.prog W = .ok (.string ⟨l.toArray⟩) W :=
  run_convert_bytes_back W 82 9 5 ⟨g, 0, none⟩ cap l Tryd.underlying82 Tryd.underlying5 Tryd.underlying9 (fun j hj => by
    rw [show (⟨g, 0, none⟩ : Addr).add j = ⟨g, j, none⟩ from by unfold Addr.add; split <;> simp_all]
    exact h.cell hj)
theorem ofNat_mod (x : Nat) : ((x : Int) % 256) = ((UInt8.ofNat x).toNat : Int) := by simp
theorem div_256 (n j : Nat) : n / 256 ^ j / 256 = n / 256 ^ (j + 1) := by rw [Nat.div_div_eq_div_mul, Nat.pow_succ]
theorem i64_v {a b : Int} (h : a = b) : Value.int .i64 a = .int .i64 b := by rw [h]
theorem ret_str0 {a b : ByteArray} (h : a = b) : Ending.returned (.string a) = .returned (.string b) := by rw [h]

theorem made_zero (k : Nat) : madeCells (Value.int .u8 0).cells k = (byteV (List.replicate k 0)).toArray := by
  apply Array.ext'
  apply List.ext_getElem
  · simp [madeCells, byteV]
  · intro j h1 h2
    simp [madeCells, byteV, Value.cells, Nat.mod_one]
theorem infoU8 : (Tryd.prog.info? 5).map (fun i => (i.zero, i.size, i.bytes)) = some (some (.int .u8 0), 1, 1) := by kernel_rfl
theorem make_bytes (k : Nat) (hk : k ≤ 8) (w : World) : (Instr.makeSlice 82 (.int .i64 k) (.int .i64 k)).run Tryd.prog w = .ok (.slice (some ⟨w.heap.size, 0, none⟩) k k) (w.alloc (.cells (byteV (List.replicate k 0)).toArray 5)) := by
  obtain ⟨i0, hi, hz0, hz1, hz2⟩ := info_parts infoU8
  have h := run_make (P := Tryd.prog) w 82 5 i0 (.int .u8 0) Tryd.underlying82 hi hz0 .i64 .i64 k k (by omega) (by omega) (by rw [hz2]; omega) (by omega)
  rw [h, hz1, Nat.mul_one, Int.toNat_natCast, made_zero]

set_option maxHeartbeats 1000000 in
theorem number_any (n k : Nat) (w : World) (hn : n < 9223372036854775808) (hk : k ≤ 8) :
    Calls Tryd.prog 54 #[.int .i64 n, .int .i64 k] w fun e w' => e = .returned (.string ⟨(be k n).toArray⟩) ∧ Below w.heap.size w w' := by
  have hmk := make_bytes k hk w
  go_enter Tryd.func54, Tryd.ntmps54
  go_wp2
  generalize hW1 : w.alloc (Obj.cells (byteV (List.replicate k 0)).toArray 5) = W1
  have HR1 : Hid (bytesAt W1 w.heap.size (List.replicate k 0 ++ be 0 n)) := hide (by
    rw [← hW1]
    show (w.heap.push _)[w.heap.size]? = _
    simp [be])
  have hB1 : Below w.heap.size w W1 := by rw [← hW1]; exact (Below.refl _ _).alloc (Nat.le_refl _) _
  clear hW1 hmk
  go_loopw [0, 6] (fun x i wr => ∃ j : Nat, j ≤ k ∧ x = .int .i64 (n / 256 ^ j : Nat) ∧ i = .int .i64 ((k : Int) - 1 - j) ∧ bytesAt wr w.heap.size (List.replicate (k - j) 0 ++ be j n) ∧ Below w.heap.size w wr) (fun _ i _ => (intOf i + 1).toNat)
  case atStart => exact ⟨0, Nat.zero_le _, by simp, by simp, unhide HR1, hB1⟩
  case round =>
    obtain ⟨j, hj, rfl, rfl, hr, hB⟩ := hrel
    have HR := hide hr
    clear hr HR1 hB1
    by_cases hlt : j < k
    · obtain ⟨m, hm⟩ : ∃ m, k - j = m + 1 := ⟨k - j - 1, by omega⟩
      have hlen : m < (List.replicate (k - j) (0 : UInt8) ++ be j n).length := by simp; omega
      have h1 := (unhide HR).cell hlen
      have h2 := (unhide HR).soft m
      have hmk : (k : Int) - 1 - j = (m : Int) := by omega
      rw [hmk]
      have hmlt : m < k := by omega
      have hq : n / 256 ^ j < 9223372036854775808 := Nat.lt_of_le_of_lt (Nat.div_le_self _ _) hn
      have Hdiv := hide (div_256 n j)
      have Hby := hide (ofNat_mod (n / 256 ^ j))
      have Hfr := hide (be_front j n)
      generalize (List.replicate (k - j) (0 : UInt8) ++ be j n)[m] = c0 at h1
      obtain ⟨x, hx⟩ : ∃ x, n / 256 ^ j = x := ⟨_, rfl⟩
      rw [hx] at hq Hdiv Hby Hfr ⊢
      have Hm := hide hm
      have Hmk := hide hmk
      clear hx hm hmk hlen
      go_wp2
      rw [unhide Hby]
      refine ⟨⟨j + 1, by omega, i64_v (by rw [← unhide Hdiv]; omega), i64_v (by have := unhide Hmk; omega), ?_, hB.setCell (by show w.heap.size ≤ w.heap.size; exact Nat.le_refl _) _⟩, by simp only [intOf]; omega⟩
      have hset := (unhide HR).set m (UInt8.ofNat x)
      rw [unhide Hm, set_mid, ← unhide Hfr] at hset
      rw [show k - (j + 1) = m from by have := unhide Hm; omega]
      exact hset
    · obtain rfl : j = k := by omega
      have hlen : (List.replicate (j - j) (0 : UInt8) ++ be j n).length = j := by simp [be_length]
      have htx := (unhide HR).text j
      rw [hlen] at htx
      rw [show (j : Int) - 1 - (j : Int) = -1 from by omega]
      have Hrep : Hid (List.replicate (j - j) (0 : UInt8) ++ be j n = be j n) := hide (by simp)
      rw [unhide Hrep] at htx
      clear hlen
      go_wp2
      go_ret
      exact ⟨rfl, hB⟩

end Go.Proofs.YtpoblkionpgljaaDoor

namespace Go.Proofs.YtpoblkionpgljaaDoor
open Go.RowKit

theorem num_in (n : Int) (k : Nat) (w : World) (h0 : 0 ≤ n) (hn : n < 9223372036854775808) (hk : k ≤ 8) (d : Nat) (os : Array Obj) :
    Calls Tryd.prog 54 #[.int .i64 n, .int .i64 k] (Sort.grow (redrawn w d) os) fun e w'' => e = .returned (.string ⟨(be k n.toNat).toArray⟩) ∧ ∃ p : Regrown, w'' = Sort.grow (redrawn w p.d) p.os := by
  have h := number_any n.toNat k (Sort.grow (redrawn w d) os) (by omega) hk
  rw [Int.toNat_of_nonneg h0] at h
  exact Calls.regrown_of h

set_option maxRecDepth 100000 in
set_option maxHeartbeats 2000000 in
theorem body_any (t : WTxn) (w : World) (ht : gdE t = 0) :
    Calls Tryd.prog 53 #[txnV t] w fun e w' => e = .returned (.string ⟨(bodyL t).toArray⟩) ∧ Below w.heap.size w w' := by
  obtain ⟨hz, ho, hs, hv, hu, hp, hd⟩ := gd_bounds ht
  clear ht
  obtain ⟨z, o, s, p, d, v, u⟩ := t
  unfold txnV bodyL
  simp only at hz ho hs hv hu hp hd ⊢
  have hzp : (ByteArray.mk p.toArray).size = p.length := Lib.size_eq ⟨p.toArray⟩
  have hzd : (ByteArray.mk d.toArray).size = d.length := Lib.size_eq ⟨d.toArray⟩
  go_enter Tryd.func53, Tryd.ntmps53
  go_wp2_with fail
  obtain ⟨W, hW⟩ : ∃ W, w.alloc (Obj.cells #[.int .i64 z, .int .i64 o, .int .i64 s, .string ⟨p.toArray⟩, .string ⟨d.toArray⟩, .int .i64 v, .int .i64 u] 29) = W := ⟨_, rfl⟩
  have hB : Below w.heap.size w W := by rw [← hW]; exact (Below.refl _ _).alloc (Nat.le_refl _) _
  have k0 : ∀ d' os, (Sort.grow (redrawn W d') os).cell? ⟨w.heap.size, 0, none⟩ = some (.int .i64 z) := fun d' os => cell_regrown (by rw [← hW]; simp) d' os
  have k1 : ∀ d' os, (Sort.grow (redrawn W d') os).cell? ⟨w.heap.size, 1, none⟩ = some (.int .i64 o) := fun d' os => cell_regrown (by rw [← hW]; simp) d' os
  have k2 : ∀ d' os, (Sort.grow (redrawn W d') os).cell? ⟨w.heap.size, 2, none⟩ = some (.int .i64 s) := fun d' os => cell_regrown (by rw [← hW]; simp) d' os
  have k3 : ∀ d' os, (Sort.grow (redrawn W d') os).cell? ⟨w.heap.size, 3, none⟩ = some (.string ⟨p.toArray⟩) := fun d' os => cell_regrown (by rw [← hW]; simp) d' os
  have k4 : ∀ d' os, (Sort.grow (redrawn W d') os).cell? ⟨w.heap.size, 4, none⟩ = some (.string ⟨d.toArray⟩) := fun d' os => cell_regrown (by rw [← hW]; simp) d' os
  have k5 : ∀ d' os, (Sort.grow (redrawn W d') os).cell? ⟨w.heap.size, 5, none⟩ = some (.int .i64 v) := fun d' os => cell_regrown (by rw [← hW]; simp) d' os
  have k6 : ∀ d' os, (Sort.grow (redrawn W d') os).cell? ⟨w.heap.size, 6, none⟩ = some (.int .i64 u) := fun d' os => cell_regrown (by rw [← hW]; simp) d' os
  rw [hW]
  clear hW
  have c0 : ∀ d' os, Calls Tryd.prog 54 #[.int .i64 z, .int .i64 8] (Sort.grow (redrawn W d') os) fun e w'' => e = .returned (.string ⟨(be 8 z.toNat).toArray⟩) ∧ ∃ p : Regrown, w'' = Sort.grow (redrawn W p.d) p.os := num_in z 8 W (by omega) (by omega) (by omega)
  have c1 : ∀ d' os, Calls Tryd.prog 54 #[.int .i64 o, .int .i64 1] (Sort.grow (redrawn W d') os) fun e w'' => e = .returned (.string ⟨(be 1 o.toNat).toArray⟩) ∧ ∃ p : Regrown, w'' = Sort.grow (redrawn W p.d) p.os := num_in o 1 W (by omega) (by omega) (by omega)
  have c2 : ∀ d' os, Calls Tryd.prog 54 #[.int .i64 s, .int .i64 4] (Sort.grow (redrawn W d') os) fun e w'' => e = .returned (.string ⟨(be 4 s.toNat).toArray⟩) ∧ ∃ p : Regrown, w'' = Sort.grow (redrawn W p.d) p.os := num_in s 4 W (by omega) (by omega) (by omega)
  have c3 : ∀ d' os, Calls Tryd.prog 54 #[.int .i64 v, .int .i64 4] (Sort.grow (redrawn W d') os) fun e w'' => e = .returned (.string ⟨(be 4 v.toNat).toArray⟩) ∧ ∃ p : Regrown, w'' = Sort.grow (redrawn W p.d) p.os := num_in v 4 W (by omega) (by omega) (by omega)
  have c4 : ∀ d' os, Calls Tryd.prog 54 #[.int .i64 u, .int .i64 4] (Sort.grow (redrawn W d') os) fun e w'' => e = .returned (.string ⟨(be 4 u.toNat).toArray⟩) ∧ ∃ p : Regrown, w'' = Sort.grow (redrawn W p.d) p.os := num_in u 4 W (by omega) (by omega) (by omega)
  have c5 : ∀ d' os, Calls Tryd.prog 54 #[.int .i64 (p.length : Nat), .int .i64 1] (Sort.grow (redrawn W d') os) fun e w'' => e = .returned (.string ⟨(be 1 p.length).toArray⟩) ∧ ∃ p : Regrown, w'' = Sort.grow (redrawn W p.d) p.os := num_in p.length 1 W (by omega) (by omega) (by omega)
  have c6 : ∀ d' os, Calls Tryd.prog 54 #[.int .i64 (d.length : Nat), .int .i64 2] (Sort.grow (redrawn W d') os) fun e w'' => e = .returned (.string ⟨(be 2 d.length).toArray⟩) ∧ ∃ p : Regrown, w'' = Sort.grow (redrawn W p.d) p.os := num_in d.length 2 W (by omega) (by omega) (by omega)
  have l0 := be_length 8 z.toNat
  have l1 := be_length 1 o.toNat
  have l2 := be_length 4 s.toNat
  have l3 := be_length 4 v.toNat
  have l4 := be_length 4 u.toNat
  have l5 := be_length 1 p.length
  have l6 := be_length 2 d.length
  obtain ⟨b0, e0⟩ : ∃ b, be 8 z.toNat = b := ⟨_, rfl⟩
  rw [e0] at c0 l0
  have E0 := hide e0
  clear e0
  obtain ⟨b1, e1⟩ : ∃ b, be 1 o.toNat = b := ⟨_, rfl⟩
  rw [e1] at c1 l1
  have E1 := hide e1
  clear e1
  obtain ⟨b2, e2⟩ : ∃ b, be 4 s.toNat = b := ⟨_, rfl⟩
  rw [e2] at c2 l2
  have E2 := hide e2
  clear e2
  obtain ⟨b3, e3⟩ : ∃ b, be 4 v.toNat = b := ⟨_, rfl⟩
  rw [e3] at c3 l3
  have E3 := hide e3
  clear e3
  obtain ⟨b4, e4⟩ : ∃ b, be 4 u.toNat = b := ⟨_, rfl⟩
  rw [e4] at c4 l4
  have E4 := hide e4
  clear e4
  obtain ⟨b5, e5⟩ : ∃ b, be 1 p.length = b := ⟨_, rfl⟩
  rw [e5] at c5 l5
  have E5 := hide e5
  clear e5
  obtain ⟨b6, e6⟩ : ∃ b, be 2 d.length = b := ⟨_, rfl⟩
  rw [e6] at c6 l6
  have E6 := hide e6
  clear e6
  refine wp_region_quiet_below (by kernel_rfl) (by kernel_rfl) ?_
  repeat (first | go_big_quiet_step (first | with_reducible exact c0 _ _ | with_reducible exact c1 _ _ | with_reducible exact c2 _ _ | with_reducible exact c3 _ _ | with_reducible exact c4 _ _ | with_reducible exact c5 _ _ | with_reducible exact c6 _ _) | quiet_step (first | with_reducible exact c0 _ _ | with_reducible exact c1 _ _ | with_reducible exact c2 _ _ | with_reducible exact c3 _ _ | with_reducible exact c4 _ _ | with_reducible exact c5 _ _ | with_reducible exact c6 _ _))
  refine wpQuiet_nil ?_
  intro _ hw'
  obtain ⟨⟨dq, osq⟩, hw''⟩ := hw'
  subst hw''
  have hb2 : Below w.heap.size w (Sort.grow (redrawn W dq) osq) := below_next hB (below_regrown W dq osq)
  clear c0 c1 c2 c3 c4 c5 c6 k0 k1 k2 k3 k4 k5 k6
  go_wp2_with fail
  go_ret
  refine ⟨ret_str0 ?_, hb2⟩
  rw [cat_one, cat_one, cat_one, cat_one, cat_one, cat_one, cat_one, cat_one]
  simp only [List.append_assoc]
  rw [unhide E0, unhide E1, unhide E2, unhide E3, unhide E4, unhide E5, unhide E6]

theorem ret_strI {a b : ByteArray} {i j : Int} (h : a = b) (h' : i = j) : Ending.returned (.tuple #[.string a, .int .i64 i]) = .returned (.tuple #[.string b, .int .i64 j]) := by rw [h, h']

set_option maxHeartbeats 1000000 in
theorem encode_no (t : WTxn) (w : World) (hd : t.d.length ≤ 140737488355328) (h : gdE t ≠ 0) :
    Calls Tryd.prog 31 #[txnV t] w fun e w' => e = .returned (.tuple #[.string ⟨#[]⟩, .int .i64 (gdE t)]) ∧ Below w.heap.size w w' := by
  obtain ⟨E, hE⟩ : ∃ E, gdE t = E := ⟨_, rfl⟩
  have hne : (E == 0) = false := by rw [← hE]; simpa using h
  have hne' : (E != 0) = true := by simp [bne, hne]
  have HE := hide hE
  rw [hE]
  clear hE h
  obtain ⟨z, o, s, p, d, v, u⟩ := t
  unfold txnV
  go_enter Tryd.func31, Tryd.ntmps31
  go_wp2_with fail
  refine (wgood_any ⟨z, o, s, p, d, v, u⟩ _ hd).mono ?_
  rintro e w1 ⟨rfl, hb1⟩
  have hbz := box_then hb1
  rw [unhide HE]
  go_wp2_with fail
  go_ret2
  exact ⟨rfl, hbz⟩

set_option maxHeartbeats 1000000 in
theorem encode_yes (t : WTxn) (w : World) (h : gdE t = 0) :
    Calls Tryd.prog 31 #[txnV t] w fun e w' => e = .returned (.tuple #[.string ⟨(recL t).toArray⟩, .int .i64 0]) ∧ Below w.heap.size w w' := by
  have H := hide h
  obtain ⟨_, _, _, _, _, _, hd⟩ := gd_bounds h
  have hbl := gd_body_le h
  clear h
  obtain ⟨b, hb⟩ : ∃ b, bodyL t = b := ⟨_, rfl⟩
  have Hb := hide hb
  rw [hb] at hbl
  clear hb
  have hzb : (ByteArray.mk b.toArray).size = b.length := Lib.size_eq ⟨b.toArray⟩
  obtain ⟨z, o, s, p, d, v, u⟩ := t
  unfold txnV
  replace hd : d.length ≤ 256 := hd
  go_enter Tryd.func31, Tryd.ntmps31
  go_wp2_with fail
  refine (wgood_any ⟨z, o, s, p, d, v, u⟩ _ (by show d.length ≤ _; omega)).mono ?_
  rintro e w1 ⟨rfl, hb1⟩
  have hbz := box_then hb1
  obtain ⟨hc, hf⟩ := bcell hb1
  have hz1 : w.heap.size < w1.heap.size := by have := hb1.size; simp at this; omega
  rw [unhide H]
  go_wp2_with fail
  refine (body_any ⟨z, o, s, p, d, v, u⟩ _ (unhide H)).mono ?_
  rintro e w2 ⟨rfl, hb2⟩
  replace hb2 := below_next hbz hb2
  rw [unhide Hb]
  clear hc hf hb1 hbz hz1
  go_wp2_with fail
  refine (number_any b.length 2 _ (by omega) (by omega)).mono ?_
  rintro e w3 ⟨rfl, hb3⟩
  replace hb3 := below_next hb2 hb3
  clear hb2
  have l2 := be_length 2 b.length
  obtain ⟨n2, e2⟩ : ∃ n2, be 2 b.length = n2 := ⟨_, rfl⟩
  rw [e2] at l2 ⊢
  have E2 := hide e2
  clear e2
  go_wp2_with fail
  have hF : (ByteArray.mk #[84] ++ ByteArray.mk n2.toArray ++ ByteArray.mk b.toArray) = ⟨(frontL b).toArray⟩ := by
    rw [show (ByteArray.mk #[84]) = ⟨[(84 : UInt8)].toArray⟩ from rfl, cat_one, cat_one, frontL, unhide E2]
    rfl
  rw [hF]
  have lF := frontL_length b
  obtain ⟨F, eF⟩ : ∃ F, frontL b = F := ⟨_, rfl⟩
  rw [eF] at lF ⊢
  have EF := hide eF
  clear eF hF
  have hzF : (ByteArray.mk F.toArray).size = F.length := Lib.size_eq ⟨F.toArray⟩
  refine (wsum_any ⟨F.toArray⟩ _ (by omega)).mono ?_
  rintro e w4 ⟨rfl, rfl⟩
  rw [show (ByteArray.mk F.toArray).data.toList = F from rfl]
  have hsl := sumN_lt F
  obtain ⟨X, hX⟩ : ∃ X, sumN F = X := ⟨_, rfl⟩
  rw [hX] at hsl ⊢
  have HX := hide hX
  clear hX
  go_wp2_with fail
  refine (number_any X 4 _ (by omega) (by omega)).mono ?_
  rintro e w5 ⟨rfl, hb5⟩
  replace hb5 := below_next hb3 hb5
  clear hb3
  have l4 := be_length 4 X
  obtain ⟨n4, e4⟩ : ∃ n4, be 4 X = n4 := ⟨_, rfl⟩
  rw [e4] at l4 ⊢
  have E4 := hide e4
  clear e4
  go_wp2_with fail
  go_ret2
  refine ⟨ret_strI ?_ rfl, hb5⟩
  rw [cat_one, recL, unhide Hb, unhide EF, unhide HX, unhide E4]

end Go.Proofs.YtpoblkionpgljaaDoor

namespace Go.Proofs.YtpoblkionpgljaaDoor
open Go.RowKit

/-- of what there was, block g alone may have turned; nothing is new -/
structure Only (g : Nat) (w w' : World) : Prop where
  os : w'.os = w.os
  tape : w'.tape = w.tape
  output : w'.output = w.output
  size : w'.heap.size = w.heap.size
  block : ∀ k, k ≠ g → w'.heap[k]? = w.heap[k]?
theorem Only.refl (g : Nat) (w : World) : Only g w w := ⟨rfl, rfl, rfl, rfl, fun _ _ => rfl⟩
theorem Only.trans {g : Nat} {a b c : World} (h : Only g a b) (k : Only g b c) : Only g a c :=
  ⟨k.os.trans h.os, k.tape.trans h.tape, k.output.trans h.output, k.size.trans h.size, fun i hi => (k.block i hi).trans (h.block i hi)⟩
theorem Only.below {B g : Nat} {a w w' : World} (h : Only g w w') (hb : Below B a w) (hg : B ≤ g) : Below B a w' :=
  hb.trans ⟨h.os, h.tape, h.output, Nat.le_of_eq h.size.symm, fun k hk => h.block k (by omega)⟩
theorem Only.setCell {g : Nat} {a w : World} (h : Only g a w) (j : Nat) (v : Value) : Only g a (w.setCell ⟨g, j, none⟩ v) :=
  h.trans ⟨rfl, rfl, rfl, by simp [World.setCell], fun k hk => Below.heap_setCell _ _ _ _ hk⟩

/-- a cursor's two cells -/
def Cur (W : World) (g : Nat) (rest : List UInt8) (short : Bool) : Prop := W.heap[g]? = some (.cells #[.string ⟨rest.toArray⟩, .bool short] 99 (0, 0))
theorem Cur.c0 {W : World} {g : Nat} {r : List UInt8} {b : Bool} (h : Cur W g r b) : W.cell? ⟨g, 0, none⟩ = some (.string ⟨r.toArray⟩) := by unfold Cur at h; simp [World.cell?, h]
theorem Cur.c1 {W : World} {g : Nat} {r : List UInt8} {b : Bool} (h : Cur W g r b) : W.cell? ⟨g, 1, none⟩ = some (.bool b) := by unfold Cur at h; simp [World.cell?, h]
theorem Cur.f {W : World} {g : Nat} {r : List UInt8} {b : Bool} (h : Cur W g r b) (j : Nat) : W.frozen? ⟨g, j, none⟩ = false := by unfold Cur at h; simp [World.frozen?, h]
theorem cur_set {w : World} {g j : Nat} {cur : Array Value} {t : TypeId} {fz : Nat × Nat} (v : Value) (h : w.heap[g]? = some (.cells cur t fz)) :
    (w.setCell ⟨g, j, none⟩ v).heap[g]? = some (.cells (cur.setIfInBounds j v) t fz) := by
  obtain ⟨hlt, hk⟩ := Array.getElem?_eq_some_iff.1 h
  show (w.heap.modify g _)[g]? = _
  rw [Array.getElem?_eq_getElem (by rw [Array.size_modify]; exact hlt), Array.getElem_modify_self, hk]
  rfl
theorem Cur.s0 {W : World} {g : Nat} {r : List UInt8} {b : Bool} (h : Cur W g r b) (r' : List UInt8) : Cur (W.setCell ⟨g, 0, none⟩ (.string ⟨r'.toArray⟩)) g r' b := cur_set _ h
theorem Cur.s1 {W : World} {g : Nat} {r : List UInt8} {b : Bool} (h : Cur W g r b) (b' : Bool) : Cur (W.setCell ⟨g, 1, none⟩ (.bool b')) g r b' := cur_set _ h
theorem Cur.kept {W V : World} {g B : Nat} {r : List UInt8} {b : Bool} (h : Cur W g r b) (hb : Below B W V) (hg : g < B) : Cur V g r b := (hb.block _ hg).trans h
theorem Cur.other {W V : World} {g k : Nat} {r : List UInt8} {b : Bool} (h : Cur W g r b) (ho : Only k W V) (hg : g ≠ k) : Cur V g r b := (ho.block _ hg).trans h

theorem ex_front (l : List UInt8) (d : Nat) : (ByteArray.mk l.toArray).extract 0 d = ⟨(l.take d).toArray⟩ := by
  apply ByteArray.ext
  apply Array.toList_inj.1
  have h := Lib.extract_toList (ByteArray.mk l.toArray) 0 d
  rw [Lib.toList_data] at h
  refine h.trans ?_
  show (l.drop 0).take (d - 0) = _
  simp
theorem ex_back (l : List UInt8) (d : Nat) : (ByteArray.mk l.toArray).extract d l.length = ⟨(l.drop d).toArray⟩ := by
  apply ByteArray.ext
  apply Array.toList_inj.1
  have h := Lib.extract_toList (ByteArray.mk l.toArray) d l.length
  rw [Lib.toList_data] at h
  refine h.trans ?_
  show (l.drop d).take (l.length - d) = l.drop d
  exact List.take_of_length_le (by simp)
theorem ret_txt {a b : ByteArray} (h : a = b) : Ending.returned (.string a) = .returned (.string b) := by rw [h]

set_option maxHeartbeats 1000000 in
theorem text_any (g n : Nat) (r : List UInt8) (b : Bool) (w : World) (hn : n ≤ 140737488355328) (hc : Cur w g r b) :
    Calls Tryd.prog 60 #[.pointer (some ⟨g, 0, none⟩), .int .i64 n] w fun e w' => e = .returned (.string ⟨(r.take n).toArray⟩) ∧ Cur w' g (r.drop n) (b || decide (r.length < n)) ∧ Only g w w' := by
  have hz : (ByteArray.mk r.toArray).size = r.length := Lib.size_eq ⟨r.toArray⟩
  have h0 := hc.c0
  have h1 := hc.c1
  have hf0 := hc.f 0
  have hf1 := hc.f 1
  have HC := hide hc
  clear hc
  by_cases hlt : r.length < n
  · go_enter Tryd.func60, Tryd.ntmps60
    go_wp2
    go_ret
    refine ⟨ret_txt ?_, ?_, ((Only.refl g w).setCell 1 _).setCell 0 _⟩
    · rw [ex_front, List.take_length, List.take_of_length_le (by omega)]
    · rw [List.drop_of_length_le (by omega), decide_eq_true hlt, Bool.or_true]
      exact ((unhide HC).s1 true).s0 []
  · go_enter Tryd.func60, Tryd.ntmps60
    go_wp2
    go_ret
    refine ⟨ret_txt (ex_front r n), ?_, (Only.refl g w).setCell 0 _⟩
    rw [ex_back, decide_eq_false hlt, Bool.or_false]
    exact (unhide HC).s0 _

/- numbers out of bytes, eight at most -/
theorem or_def (x y : Int) : bits .or .i64 x y = IntKind.i64.wrap ((BitVec.ofInt 64 x ||| BitVec.ofInt 64 y).toNat : Int) := rfl
theorem or_byte (t b : Nat) (ht : t < 72057594037927936) (hb : b < 256) : bits .or .i64 (wrap64 ((t : Int) * 256)) (b : Int) = wrap64 ((t * 256 + b : Nat) : Int) := by
  have e1 : BitVec.ofInt 64 (wrap64 ((t : Int) * 256)) = BitVec.ofNat 64 (t * 256) := by
    apply BitVec.eq_of_toNat_eq
    rw [BitVec.toNat_ofInt, BitVec.toNat_ofNat]
    unfold wrap64
    omega
  have e2 : (BitVec.ofNat 64 (t * 256) ||| BitVec.ofInt 64 (b : Int)).toNat = t * 256 + b := by
    rw [BitVec.ofInt_natCast, BitVec.toNat_or, BitVec.toNat_ofNat, BitVec.toNat_ofNat, Nat.mod_eq_of_lt (by omega), Nat.mod_eq_of_lt (by omega)]
    have := Nat.two_pow_add_eq_or_of_lt (i := 8) (b := b) (by omega) t
    rw [Nat.mul_comm t 256]
    exact this.symm
  rw [or_def, e1, e2, IntKind.wrap_i64, wrap64]
theorem un_small {l : List UInt8} (h : l.length ≤ 7) : un l < 72057594037927936 := by
  have h1 := un_lt l
  have h2 : 256 ^ l.length ≤ 256 ^ 7 := Nat.pow_le_pow_right (by decide) h
  have h3 : (256 : Nat) ^ 7 = 72057594037927936 := by decide
  omega
theorem un_take (l : List UInt8) (k : Nat) (h : k < l.length) : un (l.take (k + 1)) = un (l.take k) * 256 + l[k].toNat := by
  rw [List.take_succ_eq_append_getElem h, un_snoc]

theorem ret_ci {a b : Int} (h : a = b) : Ending.returned (.int .i64 a) = .returned (.int .i64 b) := by rw [h]
theorem i64_c {a b : Int} (h : a = b) : Value.int .i64 a = .int .i64 b := by rw [h]
theorem ba_get (l : List UInt8) (k : Nat) (h : k < (ByteArray.mk l.toArray).size) : (ByteArray.mk l.toArray)[k] = l[k]'(by rwa [Lib.size_eq] at h) := rfl

set_option maxHeartbeats 1000000 in
theorem cnumber_any (g n : Nat) (r : List UInt8) (b : Bool) (w : World) (hn : n ≤ 8) (hc : Cur w g r b) :
    Calls Tryd.prog 61 #[.pointer (some ⟨g, 0, none⟩), .int .i64 n] w fun e w' => e = .returned (.int .i64 (wrap64 (un (r.take n) : Nat))) ∧ Cur w' g (r.drop n) (b || decide (r.length < n)) ∧ Only g w w' := by
  have HC := hide hc
  clear hc
  go_enter Tryd.func61, Tryd.ntmps61
  go_wp2_with fail
  refine (text_any g n r b _ (by omega) (unhide HC)).mono ?_
  rintro e w1 ⟨rfl, hc1, ho1⟩
  have H1 := hide hc1
  clear hc1 HC
  obtain ⟨p, hp⟩ : ∃ p, r.take n = p := ⟨_, rfl⟩
  have hpl : p.length ≤ 8 := by rw [← hp, List.length_take]; omega
  rw [hp]
  have Hp := hide hp
  clear hp
  have hz : (ByteArray.mk p.toArray).size = p.length := Lib.size_eq ⟨p.toArray⟩
  go_wp2_with fail
  go_loop [6, 13] (fun t i => ∃ k : Nat, k ≤ p.length ∧ i = .int .i64 k ∧ t = .int .i64 (wrap64 (un (p.take k) : Nat))) (fun _ i => p.length - (intOf i).toNat)
  case atStart => exact ⟨0, Nat.zero_le _, rfl, i64_c (by simp [un, wrap64])⟩
  case round =>
    obtain ⟨k, hk, rfl, rfl⟩ := hrel
    by_cases hlt : k < p.length
    · have Hs := hide (un_take p k hlt)
      have hsm := un_small (l := p.take k) (by rw [List.length_take]; omega)
      obtain ⟨x, hx⟩ : ∃ x, un (p.take k) = x := ⟨_, rfl⟩
      rw [hx] at hsm Hs ⊢
      clear hx
      rw [show wrap64 (x : Int) = x from by unfold wrap64; omega]
      have hb := p[k].toNat_lt
      go_wp2_with fail
      refine ⟨⟨k + 1, by omega, by go_num, i64_c ?_⟩, by simp [intOf]; omega⟩
      rw [unhide Hs, ba_get, show wrap64 ((p[k].toNat : Nat) : Int) = (p[k].toNat : Int) from by unfold wrap64; omega]
      exact or_byte x _ hsm (by omega)
    · obtain rfl : k = p.length := by omega
      rw [List.take_length]
      go_wp2_with fail
      go_ret
      exact ⟨ret_ci (by rw [unhide Hp]), unhide H1, ho1⟩


set_option maxHeartbeats 400000 in
theorem along_any (s : List UInt8) (w : World) :
    Calls Tryd.prog 59 #[.string ⟨s.toArray⟩] w fun e w' => e = .returned (.pointer (some ⟨w.heap.size, 0, none⟩)) ∧ w' = w.alloc (.cells #[.string ⟨s.toArray⟩, .bool false] 99) := by
  go_enter Tryd.func59, Tryd.ntmps59
  go_wp2_with fail
  go_ret
  exact ⟨rfl, rfl⟩
theorem cur_new (s : List UInt8) (w : World) : Cur (w.alloc (.cells #[.string ⟨s.toArray⟩, .bool false] 99)) w.heap.size s false := by
  show (w.heap.push _)[w.heap.size]? = _
  simp
set_option maxHeartbeats 400000 in
theorem short_any (g : Nat) (r : List UInt8) (b : Bool) (w : World) (h : Cur w g r b) :
    Calls Tryd.prog 63 #[.pointer (some ⟨g, 0, none⟩)] w fun e w' => e = .returned (.bool b) ∧ w' = w := by
  have c1 := h.c1
  go_enter Tryd.func63, Tryd.ntmps63
  go_wp2_with fail
  go_ret
  exact ⟨rfl, rfl⟩
set_option maxHeartbeats 400000 in
theorem left_any (g : Nat) (r : List UInt8) (b : Bool) (w : World) (h : Cur w g r b) :
    Calls Tryd.prog 62 #[.pointer (some ⟨g, 0, none⟩)] w fun e w' => e = .returned (.int .i64 r.length) ∧ w' = w := by
  have c0 := h.c0
  have hz : (ByteArray.mk r.toArray).size = r.length := Lib.size_eq ⟨r.toArray⟩
  go_enter Tryd.func62, Tryd.ntmps62
  go_wp2_with fail
  go_ret
  exact ⟨rfl, rfl⟩
end Go.Proofs.YtpoblkionpgljaaDoor

namespace Go.Proofs.YtpoblkionpgljaaDoor
open Go.RowKit

/-- the seven cells of a transaction -/
def TxnAt (W : World) (g : Nat) (t : WTxn) : Prop := W.heap[g]? = some (.cells #[.int .i64 t.z, .int .i64 t.o, .int .i64 t.s, .string ⟨t.p.toArray⟩, .string ⟨t.d.toArray⟩, .int .i64 t.v, .int .i64 t.w] 29 (0, 0))
theorem TxnAt.c0 {W : World} {g : Nat} {t : WTxn} (h : TxnAt W g t) : W.cell? ⟨g, 0, none⟩ = some (.int .i64 t.z) := by unfold TxnAt at h; simp [World.cell?, h]
theorem TxnAt.c1 {W : World} {g : Nat} {t : WTxn} (h : TxnAt W g t) : W.cell? ⟨g, 1, none⟩ = some (.int .i64 t.o) := by unfold TxnAt at h; simp [World.cell?, h]
theorem TxnAt.c2 {W : World} {g : Nat} {t : WTxn} (h : TxnAt W g t) : W.cell? ⟨g, 2, none⟩ = some (.int .i64 t.s) := by unfold TxnAt at h; simp [World.cell?, h]
theorem TxnAt.c3 {W : World} {g : Nat} {t : WTxn} (h : TxnAt W g t) : W.cell? ⟨g, 3, none⟩ = some (.string ⟨t.p.toArray⟩) := by unfold TxnAt at h; simp [World.cell?, h]
theorem TxnAt.c4 {W : World} {g : Nat} {t : WTxn} (h : TxnAt W g t) : W.cell? ⟨g, 4, none⟩ = some (.string ⟨t.d.toArray⟩) := by unfold TxnAt at h; simp [World.cell?, h]
theorem TxnAt.c5 {W : World} {g : Nat} {t : WTxn} (h : TxnAt W g t) : W.cell? ⟨g, 5, none⟩ = some (.int .i64 t.v) := by unfold TxnAt at h; simp [World.cell?, h]
theorem TxnAt.c6 {W : World} {g : Nat} {t : WTxn} (h : TxnAt W g t) : W.cell? ⟨g, 6, none⟩ = some (.int .i64 t.w) := by unfold TxnAt at h; simp [World.cell?, h]
theorem TxnAt.f {W : World} {g : Nat} {t : WTxn} (h : TxnAt W g t) (j : Nat) : W.frozen? ⟨g, j, none⟩ = false := by unfold TxnAt at h; simp [World.frozen?, h]
theorem TxnAt.kept {W V : World} {g B : Nat} {t : WTxn} (h : TxnAt W g t) (hb : Below B W V) (hg : g < B) : TxnAt V g t := (hb.block _ hg).trans h
theorem TxnAt.other {W V : World} {g k : Nat} {t : WTxn} (h : TxnAt W g t) (ho : Only k W V) (hg : g ≠ k) : TxnAt V g t := (ho.block _ hg).trans h
theorem only_set (g : Nat) (w : World) (j : Nat) (v : Value) : Only g w (w.setCell ⟨g, j, none⟩ v) := (Only.refl g w).setCell j v

theorem heap_new (w : World) (o : Obj) : (w.alloc o).heap[w.heap.size]? = some o := by
  show (w.heap.push o)[w.heap.size]? = _
  simp
/-- how far unfold has come: the result's cells, the cursor, the transaction -/
structure Unf (w W : World) (r : List UInt8) (b : Bool) (t : WTxn) : Prop where
  res : TxnAt W w.heap.size t0
  cur : Cur W (w.heap.size + 1) r b
  txn : TxnAt W (w.heap.size + 1 + 1) t
  size : w.heap.size + 3 ≤ W.heap.size
  below : Below w.heap.size w W
theorem Unf.took {w W V : World} {r r' : List UInt8} {b b' : Bool} {t : WTxn} (h : Unf w W r b t) (hc : Cur V (w.heap.size + 1) r' b') (ho : Only (w.heap.size + 1) W V) : Unf w V r' b' t :=
  ⟨h.res.other ho (by omega), hc, h.txn.other ho (by omega), by rw [ho.size]; exact h.size, ho.below h.below (by omega)⟩
theorem Unf.kept {w W V : World} {r : List UInt8} {b : Bool} {t : WTxn} (h : Unf w W r b t) (hb : Below W.heap.size W V) : Unf w V r b t :=
  ⟨h.res.kept hb (by have := h.size; omega), h.cur.kept hb (by have := h.size; omega), h.txn.kept hb (by have := h.size; omega), Nat.le_trans h.size hb.size, h.below.trans (hb.mono h.below.size)⟩
theorem Unf.put {w W : World} {r : List UInt8} {b : Bool} {t : WTxn} (h : Unf w W r b t) (j : Nat) (v : Value) {t' : WTxn} (ht : TxnAt (W.setCell ⟨w.heap.size + 1 + 1, j, none⟩ v) (w.heap.size + 1 + 1) t') : Unf w (W.setCell ⟨w.heap.size + 1 + 1, j, none⟩ v) r b t' :=
  ⟨h.res.other (only_set _ _ _ _) (by omega), h.cur.other (only_set _ _ _ _) (by omega), ht, by rw [(only_set _ W j v).size]; exact h.size, (only_set _ _ _ _).below h.below (by omega)⟩
theorem Unf.z {w W : World} {r : List UInt8} {b : Bool} {t : WTxn} (h : Unf w W r b t) (x : Int) : Unf w (W.setCell ⟨w.heap.size + 1 + 1, 0, none⟩ (.int .i64 x)) r b { t with z := x } := h.put 0 _ (cur_set _ h.txn)
theorem Unf.o {w W : World} {r : List UInt8} {b : Bool} {t : WTxn} (h : Unf w W r b t) (x : Int) : Unf w (W.setCell ⟨w.heap.size + 1 + 1, 1, none⟩ (.int .i64 x)) r b { t with o := x } := h.put 1 _ (cur_set _ h.txn)
theorem Unf.s {w W : World} {r : List UInt8} {b : Bool} {t : WTxn} (h : Unf w W r b t) (x : Int) : Unf w (W.setCell ⟨w.heap.size + 1 + 1, 2, none⟩ (.int .i64 x)) r b { t with s := x } := h.put 2 _ (cur_set _ h.txn)
theorem Unf.p {w W : World} {r : List UInt8} {b : Bool} {t : WTxn} (h : Unf w W r b t) (x : List UInt8) : Unf w (W.setCell ⟨w.heap.size + 1 + 1, 3, none⟩ (.string ⟨x.toArray⟩)) r b { t with p := x } := h.put 3 _ (cur_set _ h.txn)
theorem Unf.d {w W : World} {r : List UInt8} {b : Bool} {t : WTxn} (h : Unf w W r b t) (x : List UInt8) : Unf w (W.setCell ⟨w.heap.size + 1 + 1, 4, none⟩ (.string ⟨x.toArray⟩)) r b { t with d := x } := h.put 4 _ (cur_set _ h.txn)
theorem Unf.v {w W : World} {r : List UInt8} {b : Bool} {t : WTxn} (h : Unf w W r b t) (x : Int) : Unf w (W.setCell ⟨w.heap.size + 1 + 1, 5, none⟩ (.int .i64 x)) r b { t with v := x } := h.put 5 _ (cur_set _ h.txn)
theorem Unf.w {w W : World} {r : List UInt8} {b : Bool} {t : WTxn} (h : Unf w W r b t) (x : Int) : Unf w (W.setCell ⟨w.heap.size + 1 + 1, 6, none⟩ (.int .i64 x)) r b { t with w := x } := h.put 6 _ (cur_set _ h.txn)

theorem wrap_un {l : List UInt8} (h : l.length ≤ 7) : wrap64 ((un l : Nat) : Int) = (un l : Nat) := by
  have := un_small h; unfold wrap64; omega
theorem un_take_le (l : List UInt8) (k : Nat) (hk : k ≤ 7) : wrap64 ((un (l.take k) : Nat) : Int) = (un (l.take k) : Nat) := wrap_un (by rw [List.length_take]; omega)
/-- a transaction stored whole -/
def putTxn (W : World) (g : Nat) (t : WTxn) : World :=
  ((((((W.setCell ⟨g, 0, none⟩ (.int .i64 t.z)).setCell ⟨g, 1, none⟩ (.int .i64 t.o)).setCell ⟨g, 2, none⟩ (.int .i64 t.s)).setCell ⟨g, 3, none⟩ (.string ⟨t.p.toArray⟩)).setCell ⟨g, 4, none⟩ (.string ⟨t.d.toArray⟩)).setCell ⟨g, 5, none⟩ (.int .i64 t.v)).setCell ⟨g, 6, none⟩ (.int .i64 t.w)
theorem TxnAt.s0 {W : World} {g : Nat} {t : WTxn} (h : TxnAt W g t) (x : Int) : TxnAt (W.setCell ⟨g, 0, none⟩ (.int .i64 x)) g { t with z := x } := cur_set _ h
theorem TxnAt.s1 {W : World} {g : Nat} {t : WTxn} (h : TxnAt W g t) (x : Int) : TxnAt (W.setCell ⟨g, 1, none⟩ (.int .i64 x)) g { t with o := x } := cur_set _ h
theorem TxnAt.s2 {W : World} {g : Nat} {t : WTxn} (h : TxnAt W g t) (x : Int) : TxnAt (W.setCell ⟨g, 2, none⟩ (.int .i64 x)) g { t with s := x } := cur_set _ h
theorem TxnAt.s3 {W : World} {g : Nat} {t : WTxn} (h : TxnAt W g t) (x : List UInt8) : TxnAt (W.setCell ⟨g, 3, none⟩ (.string ⟨x.toArray⟩)) g { t with p := x } := cur_set _ h
theorem TxnAt.s4 {W : World} {g : Nat} {t : WTxn} (h : TxnAt W g t) (x : List UInt8) : TxnAt (W.setCell ⟨g, 4, none⟩ (.string ⟨x.toArray⟩)) g { t with d := x } := cur_set _ h
theorem TxnAt.s5 {W : World} {g : Nat} {t : WTxn} (h : TxnAt W g t) (x : Int) : TxnAt (W.setCell ⟨g, 5, none⟩ (.int .i64 x)) g { t with v := x } := cur_set _ h
theorem TxnAt.s6 {W : World} {g : Nat} {t : WTxn} (h : TxnAt W g t) (x : Int) : TxnAt (W.setCell ⟨g, 6, none⟩ (.int .i64 x)) g { t with w := x } := cur_set _ h
theorem TxnAt.store {W : World} {g : Nat} {t : WTxn} (h : TxnAt W g t) (t' : WTxn) : TxnAt (putTxn W g t') g t' :=
  ((((((h.s0 t'.z).s1 t'.o).s2 t'.s).s3 t'.p).s4 t'.d).s5 t'.v).s6 t'.w
theorem only_put (W : World) (g : Nat) (t : WTxn) : Only g W (putTxn W g t) :=
  (((((((Only.refl g W).setCell 0 _).setCell 1 _).setCell 2 _).setCell 3 _).setCell 4 _).setCell 5 _).setCell 6 _
/-- was a piece wanted that is not there? -/
def lackB (b : List UInt8) : Bool :=
  false || decide (b.length < 8) || decide ((b.drop 8).length < 1) || decide ((b.drop 9).length < 4) || decide ((b.drop 13).length < 4) || decide ((b.drop 17).length < 4) || decide ((b.drop 21).length < 1) || decide ((b.drop 22).length < plOf b) || decide ((b.drop (22 + plOf b)).length < 2) || decide ((b.drop (24 + plOf b)).length < dlOf b)
theorem lackB_iff {b : List UInt8} : lackB b = false ↔ 24 + plOf b + dlOf b ≤ b.length := by
  simp only [lackB, Bool.or_eq_false_iff, decide_eq_false_iff_not, List.length_drop, true_and]
  omega
theorem plOf_le (b : List UInt8) : plOf b < 256 := by
  have h := un_lt ((b.drop 21).take 1)
  have h2 : ((b.drop 21).take 1).length ≤ 1 := List.length_take_le _ _
  have h3 : 256 ^ ((b.drop 21).take 1).length ≤ 256 ^ 1 := Nat.pow_le_pow_right (by decide) h2
  unfold plOf
  omega
theorem dlOf_le (b : List UInt8) : dlOf b < 65536 := by
  have h := un_lt ((b.drop (22 + plOf b)).take 2)
  have h2 : ((b.drop (22 + plOf b)).take 2).length ≤ 2 := List.length_take_le _ _
  have h3 : 256 ^ ((b.drop (22 + plOf b)).take 2).length ≤ 256 ^ 2 := Nat.pow_le_pow_right (by decide) h2
  unfold dlOf
  omega

/-- what the walk has laid down when it asks whether the lengths fit -/
def tIn (b : List UInt8) : WTxn :=
  ⟨wrap64 (un (b.take 8)), un ((b.drop 8).take 1), un ((b.drop 9).take 4), (b.drop 22).take (plOf b), (b.drop (24 + plOf b)).take (dlOf b), un ((b.drop 13).take 4), un ((b.drop 17).take 4)⟩
theorem tIn_fit {b : List UInt8} (h : fitB b = true) : tIn b = tOf b := by
  obtain ⟨h1, h2⟩ := fitB_iff.1 h
  rw [tIn, tOf, List.take_of_length_le (l := b.drop (24 + plOf b)) (by rw [List.length_drop]; omega)]

set_option maxHeartbeats 2000000 in
theorem unfold_any (b : List UInt8) (w : World) :
    Calls Tryd.prog 64 #[.string ⟨b.toArray⟩] w fun e w' => e = .returned (.tuple #[txnV (unfT b), .int .i64 (unfE b)]) ∧ Below w.heap.size w w' := by
  have hpl := plOf_le b
  have hdl := dlOf_le b
  go_enter Tryd.func64, Tryd.ntmps64
  go_wp2_with fail
  refine (along_any b _).mono ?_
  rintro e wA ⟨rfl, rfl⟩
  go_wp2_with fail
  generalize hW : ((w.alloc _).alloc _).alloc _ = W
  have H : Hid (Unf w W b false t0) := hide (by
    rw [← hW]
    refine ⟨?_, ?_, ?_, by simp, (((Below.refl _ _).alloc (Nat.le_refl _) _).alloc (by simp) _).alloc (by simp; omega) _⟩
    · exact (Below.heap_alloc _ _ _ (by simp; omega)).trans ((Below.heap_alloc _ _ _ (by simp)).trans (heap_new _ _))
    · exact (Below.heap_alloc _ _ _ (by simp)).trans (by have := heap_new (w.alloc (.cells #[.int .i64 0, .int .i64 0, .int .i64 0, .string ⟨#[]⟩, .string ⟨#[]⟩, .int .i64 0, .int .i64 0] 29)) (.cells #[.string ⟨b.toArray⟩, .bool false] 99); rwa [World.size_alloc] at this)
    · have := heap_new ((w.alloc (.cells #[.int .i64 0, .int .i64 0, .int .i64 0, .string ⟨#[]⟩, .string ⟨#[]⟩, .int .i64 0, .int .i64 0] 29)).alloc (.cells #[.string ⟨b.toArray⟩, .bool false] 99)) (.cells #[.int .i64 0, .int .i64 0, .int .i64 0, .string ⟨#[]⟩, .string ⟨#[]⟩, .int .i64 0, .int .i64 0] 29)
      rwa [World.size_alloc, World.size_alloc] at this)
  clear hW
  refine (cnumber_any (w.heap.size + 1) 8 _ _ _ (by decide) (unhide H).cur).mono ?_
  rintro e w1 ⟨rfl, hc1, ho1⟩
  have H1 := hide ((unhide H).took hc1 ho1)
  clear hc1 ho1 H W
  generalize w1 = W at *
  obtain ⟨x0, h0⟩ : ∃ x, wrap64 (un (b.take 8) : Nat) = x := ⟨_, rfl⟩
  rw [h0]
  have E0 := hide h0
  clear h0
  have q1 := (unhide H1).txn.c0
  have q2 := (unhide H1).txn.f 0
  go_wp2_with fail
  have H := hide ((unhide H1).z x0)
  clear q1 q2 H1
  generalize W.setCell _ _ = W at *
  refine (cnumber_any (w.heap.size + 1) 1 _ _ _ (by decide) (unhide H).cur).mono ?_
  rintro e w1 ⟨rfl, hc1, ho1⟩
  have H1 := hide ((unhide H).took hc1 ho1)
  clear hc1 ho1 H W
  generalize w1 = W at *
  simp only [List.drop_drop, Nat.reduceAdd] at H1
  rw [un_take_le _ _ (by decide)]
  obtain ⟨x1, h1⟩ : ∃ x, un ((b.drop 8).take 1) = x := ⟨_, rfl⟩
  rw [h1]
  have E1 := hide h1
  clear h1
  have q1 := (unhide H1).txn.c1
  have q2 := (unhide H1).txn.f 1
  go_wp2_with fail
  have H := hide ((unhide H1).o x1)
  clear q1 q2 H1
  generalize W.setCell _ _ = W at *
  refine (cnumber_any (w.heap.size + 1) 4 _ _ _ (by decide) (unhide H).cur).mono ?_
  rintro e w1 ⟨rfl, hc1, ho1⟩
  have H1 := hide ((unhide H).took hc1 ho1)
  clear hc1 ho1 H W
  generalize w1 = W at *
  simp only [List.drop_drop, Nat.reduceAdd] at H1
  rw [un_take_le _ _ (by decide)]
  obtain ⟨x2, h2⟩ : ∃ x, un ((b.drop 9).take 4) = x := ⟨_, rfl⟩
  rw [h2]
  have E2 := hide h2
  clear h2
  have q1 := (unhide H1).txn.c2
  have q2 := (unhide H1).txn.f 2
  go_wp2_with fail
  have H := hide ((unhide H1).s x2)
  clear q1 q2 H1
  generalize W.setCell _ _ = W at *
  refine (cnumber_any (w.heap.size + 1) 4 _ _ _ (by decide) (unhide H).cur).mono ?_
  rintro e w1 ⟨rfl, hc1, ho1⟩
  have H1 := hide ((unhide H).took hc1 ho1)
  clear hc1 ho1 H W
  generalize w1 = W at *
  simp only [List.drop_drop, Nat.reduceAdd] at H1
  rw [un_take_le _ _ (by decide)]
  obtain ⟨x3, h3⟩ : ∃ x, un ((b.drop 13).take 4) = x := ⟨_, rfl⟩
  rw [h3]
  have E3 := hide h3
  clear h3
  have q1 := (unhide H1).txn.c5
  have q2 := (unhide H1).txn.f 5
  go_wp2_with fail
  have H := hide ((unhide H1).v x3)
  clear q1 q2 H1
  generalize W.setCell _ _ = W at *
  refine (cnumber_any (w.heap.size + 1) 4 _ _ _ (by decide) (unhide H).cur).mono ?_
  rintro e w1 ⟨rfl, hc1, ho1⟩
  have H1 := hide ((unhide H).took hc1 ho1)
  clear hc1 ho1 H W
  generalize w1 = W at *
  simp only [List.drop_drop, Nat.reduceAdd] at H1
  rw [un_take_le _ _ (by decide)]
  obtain ⟨x4, h4⟩ : ∃ x, un ((b.drop 17).take 4) = x := ⟨_, rfl⟩
  rw [h4]
  have E4 := hide h4
  clear h4
  have q1 := (unhide H1).txn.c6
  have q2 := (unhide H1).txn.f 6
  go_wp2_with fail
  have H := hide ((unhide H1).w x4)
  clear q1 q2 H1
  generalize W.setCell _ _ = W at *
  refine (cnumber_any (w.heap.size + 1) 1 _ _ _ (by decide) (unhide H).cur).mono ?_
  rintro e w1 ⟨rfl, hc1, ho1⟩
  have H1 := hide ((unhide H).took hc1 ho1)
  clear hc1 ho1 H W
  generalize w1 = W at *
  simp only [List.drop_drop, Nat.reduceAdd] at H1
  rw [un_take_le _ _ (by decide)]
  rw [show un ((b.drop 21).take 1) = plOf b from rfl]
  go_wp2_with fail
  refine (text_any (w.heap.size + 1) (plOf b) _ _ _ (by omega) (unhide H1).cur).mono ?_
  rintro e w2 ⟨rfl, hc2, ho2⟩
  have H2 := hide ((unhide H1).took hc2 ho2)
  clear hc2 ho2 H1 W
  generalize w2 = W at *
  obtain ⟨P, hP⟩ : ∃ x, (b.drop 22).take (plOf b) = x := ⟨_, rfl⟩
  have lP : P.length ≤ 65536 := by rw [← hP, List.length_take]; omega
  rw [hP]
  have EP := hide hP
  clear hP
  go_wp2_with fail
  refine (clone_any ⟨P.toArray⟩ _ (by rw [Lib.size_eq]; show P.length ≤ _; omega)).mono ?_
  rintro e w3 ⟨rfl, hb3⟩
  have H1 := hide ((unhide H2).kept hb3)
  clear hb3 H2 W
  generalize w3 = W at *
  simp only [List.drop_drop] at H1
  have q1 := (unhide H1).txn.c3
  have q2 := (unhide H1).txn.f 3
  go_wp2_with fail
  have H := hide ((unhide H1).p P)
  clear q1 q2 H1
  generalize W.setCell _ _ = W at *
  refine (cnumber_any (w.heap.size + 1) 2 _ _ _ (by decide) (unhide H).cur).mono ?_
  rintro e w1 ⟨rfl, hc1, ho1⟩
  have H1 := hide ((unhide H).took hc1 ho1)
  clear hc1 ho1 H W
  generalize w1 = W at *
  simp only [List.drop_drop] at H1
  rw [un_take_le _ _ (by decide)]
  rw [show un ((b.drop (22 + plOf b)).take 2) = dlOf b from rfl]
  go_wp2_with fail
  refine (text_any (w.heap.size + 1) (dlOf b) _ _ _ (by omega) (unhide H1).cur).mono ?_
  rintro e w2 ⟨rfl, hc2, ho2⟩
  have H2 := hide ((unhide H1).took hc2 ho2)
  clear hc2 ho2 H1 W
  generalize w2 = W at *
  obtain ⟨D, hD⟩ : ∃ x, (b.drop (22 + plOf b + 2)).take (dlOf b) = x := ⟨_, rfl⟩
  have lD : D.length ≤ 65536 := by rw [← hD, List.length_take]; omega
  rw [hD]
  have ED := hide hD
  clear hD
  go_wp2_with fail
  refine (clone_any ⟨D.toArray⟩ _ (by rw [Lib.size_eq]; show D.length ≤ _; omega)).mono ?_
  rintro e w3 ⟨rfl, hb3⟩
  have H1 := hide ((unhide H2).kept hb3)
  clear hb3 H2 W
  generalize w3 = W at *
  simp only [List.drop_drop] at H1
  have hT : tIn b = ⟨x0, x1, x2, P, D, x3, x4⟩ := by
    rw [tIn, unhide E0, unhide E1, unhide E2, unhide E3, unhide E4, unhide EP, show 24 + plOf b = 22 + plOf b + 2 from by omega, unhide ED]
  have HT := hide hT
  have h24 : 22 + plOf b + 2 = 24 + plOf b := by omega
  have HL : Hid (Unf w W (b.drop (24 + plOf b + dlOf b)) (lackB b) ⟨x0, x1, x2, P, [], x3, x4⟩) := hide (by
    have h := unhide H1
    rw [h24] at h
    exact h)
  clear hT h24 H1 E0 E1 E2 E3 E4 EP ED
  have q0 : W.cell? ⟨w.heap.size + 1 + 1, 0, none⟩ = some (.int .i64 x0) := (unhide HL).txn.c0
  have q1 : W.cell? ⟨w.heap.size + 1 + 1, 1, none⟩ = some (.int .i64 x1) := (unhide HL).txn.c1
  have q2 : W.cell? ⟨w.heap.size + 1 + 1, 2, none⟩ = some (.int .i64 x2) := (unhide HL).txn.c2
  have q3 : W.cell? ⟨w.heap.size + 1 + 1, 3, none⟩ = some (.string ⟨P.toArray⟩) := (unhide HL).txn.c3
  have q4 : W.cell? ⟨w.heap.size + 1 + 1, 4, none⟩ = some (.string ⟨#[]⟩) := (unhide HL).txn.c4
  have q5 : W.cell? ⟨w.heap.size + 1 + 1, 5, none⟩ = some (.int .i64 x3) := (unhide HL).txn.c5
  have q6 : W.cell? ⟨w.heap.size + 1 + 1, 6, none⟩ = some (.int .i64 x4) := (unhide HL).txn.c6
  have qf := (unhide HL).txn.f 4
  have r0 : W.cell? ⟨w.heap.size, 0, none⟩ = some (.int .i64 0) := (unhide HL).res.c0
  have r1 : W.cell? ⟨w.heap.size, 1, none⟩ = some (.int .i64 0) := (unhide HL).res.c1
  have r2 : W.cell? ⟨w.heap.size, 2, none⟩ = some (.int .i64 0) := (unhide HL).res.c2
  have r3 : W.cell? ⟨w.heap.size, 3, none⟩ = some (.string ⟨#[]⟩) := (unhide HL).res.c3
  have r4 : W.cell? ⟨w.heap.size, 4, none⟩ = some (.string ⟨#[]⟩) := (unhide HL).res.c4
  have r5 : W.cell? ⟨w.heap.size, 5, none⟩ = some (.int .i64 0) := (unhide HL).res.c5
  have r6 : W.cell? ⟨w.heap.size, 6, none⟩ = some (.int .i64 0) := (unhide HL).res.c6
  have rf := (unhide HL).res.f
  have CSh := hide (short_any _ _ _ _ ((unhide HL).d D).cur)
  have CLf := hide (left_any _ _ _ _ ((unhide HL).d D).cur)
  cases hfit : fitB b
  · have HU := hide (unf_bad hfit)
    cases hl : lackB b
    · have hR : b.drop (24 + plOf b + dlOf b) ≠ [] := fun hh => by
        have h1 := lackB_iff.1 hl
        have h2 := congrArg List.length hh
        rw [List.length_drop, List.length_nil] at h2
        have h3 : fitB b = true := fitB_iff.2 ⟨by omega, by omega⟩
        rw [hfit] at h3
        exact absurd h3 (by decide)
      rw [hl] at CSh
      obtain ⟨R, hRR⟩ : ∃ R, b.drop (24 + plOf b + dlOf b) = R := ⟨_, rfl⟩
      rw [hRR] at CLf hR
      have hR' : (0 : Int) < (R.length : Int) := by have := List.length_pos_iff.2 hR; omega
      obtain ⟨m, hm⟩ : ∃ m, R.length = m := ⟨_, rfl⟩
      rw [hm] at CLf hR'
      clear hRR hl hfit hm hR
      go_wp2_with fail
      refine (unhide CSh).mono ?_
      rintro e wS ⟨rfl, rfl⟩
      go_wp2_with fail
      refine (unhide CLf).mono ?_
      rintro e wL ⟨rfl, rfl⟩
      clear CSh CLf
      go_wp2_with fail
      change bodyPost _ _ _ _ _ (putTxn (W.setCell ⟨w.heap.size + 1 + 1, 4, none⟩ (.string ⟨D.toArray⟩)) w.heap.size t0)
      have HV := hide ((unhide HL).d D)
      generalize W.setCell ⟨w.heap.size + 1 + 1, 4, none⟩ (.string ⟨D.toArray⟩) = V at HV ⊢
      have HP := hide ((unhide HV).res.store t0)
      have hB : Below w.heap.size w (putTxn V w.heap.size t0) := (only_put _ _ _).below (unhide HV).below (Nat.le_refl _)
      generalize putTxn V w.heap.size t0 = V2 at HP hB ⊢
      have s0 := (unhide HP).c0
      have s1 := (unhide HP).c1
      have s2 := (unhide HP).c2
      have s3 := (unhide HP).c3
      have s4 := (unhide HP).c4
      have s5 := (unhide HP).c5
      have s6 := (unhide HP).c6
      exact bodyPost_ret (v := .tuple #[txnV t0, .int .i64 2]) (by simp [results, Tryd.results64, go_sem, s0, s1, s2, s3, s4, s5, s6, txnV]) rfl ⟨by rw [(unhide HU).1, (unhide HU).2], hB⟩
    · rw [hl] at CSh
      clear hl hfit CLf
      go_wp2_with fail
      refine (unhide CSh).mono ?_
      rintro e wS ⟨rfl, rfl⟩
      clear CSh
      go_wp2_with fail
      change bodyPost _ _ _ _ _ (putTxn (W.setCell ⟨w.heap.size + 1 + 1, 4, none⟩ (.string ⟨D.toArray⟩)) w.heap.size t0)
      have HV := hide ((unhide HL).d D)
      generalize W.setCell ⟨w.heap.size + 1 + 1, 4, none⟩ (.string ⟨D.toArray⟩) = V at HV ⊢
      have HP := hide ((unhide HV).res.store t0)
      have hB : Below w.heap.size w (putTxn V w.heap.size t0) := (only_put _ _ _).below (unhide HV).below (Nat.le_refl _)
      generalize putTxn V w.heap.size t0 = V2 at HP hB ⊢
      have s0 := (unhide HP).c0
      have s1 := (unhide HP).c1
      have s2 := (unhide HP).c2
      have s3 := (unhide HP).c3
      have s4 := (unhide HP).c4
      have s5 := (unhide HP).c5
      have s6 := (unhide HP).c6
      exact bodyPost_ret (v := .tuple #[txnV t0, .int .i64 2]) (by simp [results, Tryd.results64, go_sem, s0, s1, s2, s3, s4, s5, s6, txnV]) rfl ⟨by rw [(unhide HU).1, (unhide HU).2], hB⟩
  · have hl : lackB b = false := lackB_iff.2 (by have := fitB_iff.1 hfit; omega)
    have hR : b.drop (24 + plOf b + dlOf b) = [] := List.drop_of_length_le (by have := fitB_iff.1 hfit; omega)
    rw [hl] at CSh
    rw [hR] at CLf
    rw [tIn_fit hfit] at HT
    have Hfit := hide hfit
    clear hl hR hfit
    cases hg : (gdE (tOf b) == 0)
    · have hg' : gdE (tOf b) ≠ 0 := by simpa using hg
      have HU := hide (unf_no (unhide Hfit) hg')
      obtain ⟨E, hE⟩ : ∃ E, gdE (tOf b) = E := ⟨_, rfl⟩
      have hne : (E != 0) = true := by rw [← hE]; simp [bne, hg]
      rw [unhide HT] at hE
      rw [unhide HT] at HU
      have HE := hide hE
      clear hE hg hg'
      go_wp2_with fail
      refine (unhide CSh).mono ?_
      rintro e wS ⟨rfl, rfl⟩
      go_wp2_with fail
      refine (unhide CLf).mono ?_
      rintro e wL ⟨rfl, rfl⟩
      clear CSh CLf
      go_wp2_with fail
      refine (wgood_any ⟨x0, x1, x2, P, D, x3, x4⟩ _ (by show D.length ≤ _; omega)).mono ?_
      rintro e w4 ⟨rfl, hb4⟩
      rw [unhide HE]
      have HV0 := hide ((unhide HL).d D)
      have HV := hide ((unhide HV0).kept hb4)
      clear hb4 HV0 HL q0 q1 q2 q3 q4 q5 q6 qf r0 r1 r2 r3 r4 r5 r6 rf
      generalize w4 = V at *
      have r0 : V.cell? ⟨w.heap.size, 0, none⟩ = some (.int .i64 0) := (unhide HV).res.c0
      have r1 : V.cell? ⟨w.heap.size, 1, none⟩ = some (.int .i64 0) := (unhide HV).res.c1
      have r2 : V.cell? ⟨w.heap.size, 2, none⟩ = some (.int .i64 0) := (unhide HV).res.c2
      have r3 : V.cell? ⟨w.heap.size, 3, none⟩ = some (.string ⟨#[]⟩) := (unhide HV).res.c3
      have r4 : V.cell? ⟨w.heap.size, 4, none⟩ = some (.string ⟨#[]⟩) := (unhide HV).res.c4
      have r5 : V.cell? ⟨w.heap.size, 5, none⟩ = some (.int .i64 0) := (unhide HV).res.c5
      have r6 : V.cell? ⟨w.heap.size, 6, none⟩ = some (.int .i64 0) := (unhide HV).res.c6
      have rf := (unhide HV).res.f
      go_wp2_with fail
      change bodyPost _ _ _ _ _ (putTxn V w.heap.size t0)
      have HP := hide ((unhide HV).res.store t0)
      have hB : Below w.heap.size w (putTxn V w.heap.size t0) := (only_put _ _ _).below (unhide HV).below (Nat.le_refl _)
      generalize putTxn V w.heap.size t0 = V2 at HP hB ⊢
      have s0 := (unhide HP).c0
      have s1 := (unhide HP).c1
      have s2 := (unhide HP).c2
      have s3 := (unhide HP).c3
      have s4 := (unhide HP).c4
      have s5 := (unhide HP).c5
      have s6 := (unhide HP).c6
      exact bodyPost_ret (v := .tuple #[txnV t0, .int .i64 E]) (by simp [results, Tryd.results64, go_sem, s0, s1, s2, s3, s4, s5, s6, txnV]) rfl ⟨by rw [(unhide HU).1, (unhide HU).2, unhide HE], hB⟩
    · have hg' : gdE (tOf b) = 0 := by simpa using hg
      have HU := hide (unf_ok (unhide Hfit) hg')
      rw [unhide HT] at hg' HU
      have HE := hide hg'
      clear hg hg'
      go_wp2_with fail
      refine (unhide CSh).mono ?_
      rintro e wS ⟨rfl, rfl⟩
      go_wp2_with fail
      refine (unhide CLf).mono ?_
      rintro e wL ⟨rfl, rfl⟩
      clear CSh CLf
      go_wp2_with fail
      refine (wgood_any ⟨x0, x1, x2, P, D, x3, x4⟩ _ (by show D.length ≤ _; omega)).mono ?_
      rintro e w4 ⟨rfl, hb4⟩
      rw [unhide HE]
      have HV0 := hide ((unhide HL).d D)
      have HV := hide ((unhide HV0).kept hb4)
      clear hb4 HV0 HL q0 q1 q2 q3 q4 q5 q6 qf r0 r1 r2 r3 r4 r5 r6 rf
      generalize w4 = V at *
      have q0 : V.cell? ⟨w.heap.size + 1 + 1, 0, none⟩ = some (.int .i64 x0) := (unhide HV).txn.c0
      have q1 : V.cell? ⟨w.heap.size + 1 + 1, 1, none⟩ = some (.int .i64 x1) := (unhide HV).txn.c1
      have q2 : V.cell? ⟨w.heap.size + 1 + 1, 2, none⟩ = some (.int .i64 x2) := (unhide HV).txn.c2
      have q3 : V.cell? ⟨w.heap.size + 1 + 1, 3, none⟩ = some (.string ⟨P.toArray⟩) := (unhide HV).txn.c3
      have q4 : V.cell? ⟨w.heap.size + 1 + 1, 4, none⟩ = some (.string ⟨D.toArray⟩) := (unhide HV).txn.c4
      have q5 : V.cell? ⟨w.heap.size + 1 + 1, 5, none⟩ = some (.int .i64 x3) := (unhide HV).txn.c5
      have q6 : V.cell? ⟨w.heap.size + 1 + 1, 6, none⟩ = some (.int .i64 x4) := (unhide HV).txn.c6
      have r0 : V.cell? ⟨w.heap.size, 0, none⟩ = some (.int .i64 0) := (unhide HV).res.c0
      have r1 : V.cell? ⟨w.heap.size, 1, none⟩ = some (.int .i64 0) := (unhide HV).res.c1
      have r2 : V.cell? ⟨w.heap.size, 2, none⟩ = some (.int .i64 0) := (unhide HV).res.c2
      have r3 : V.cell? ⟨w.heap.size, 3, none⟩ = some (.string ⟨#[]⟩) := (unhide HV).res.c3
      have r4 : V.cell? ⟨w.heap.size, 4, none⟩ = some (.string ⟨#[]⟩) := (unhide HV).res.c4
      have r5 : V.cell? ⟨w.heap.size, 5, none⟩ = some (.int .i64 0) := (unhide HV).res.c5
      have r6 : V.cell? ⟨w.heap.size, 6, none⟩ = some (.int .i64 0) := (unhide HV).res.c6
      have rf := (unhide HV).res.f
      go_wp2_with fail
      change bodyPost _ _ _ _ _ (putTxn V w.heap.size ⟨x0, x1, x2, P, D, x3, x4⟩)
      have HP := hide ((unhide HV).res.store ⟨x0, x1, x2, P, D, x3, x4⟩)
      have hB : Below w.heap.size w (putTxn V w.heap.size ⟨x0, x1, x2, P, D, x3, x4⟩) := (only_put _ _ _).below (unhide HV).below (Nat.le_refl _)
      generalize putTxn V w.heap.size ⟨x0, x1, x2, P, D, x3, x4⟩ = V2 at HP hB ⊢
      have s0 := (unhide HP).c0
      have s1 := (unhide HP).c1
      have s2 := (unhide HP).c2
      have s3 := (unhide HP).c3
      have s4 := (unhide HP).c4
      have s5 := (unhide HP).c5
      have s6 := (unhide HP).c6
      exact bodyPost_ret (v := .tuple #[txnV ⟨x0, x1, x2, P, D, x3, x4⟩, .int .i64 0]) (by simp [results, Tryd.results64, go_sem, s0, s1, s2, s3, s4, s5, s6, txnV]) rfl ⟨by rw [(unhide HU).1, (unhide HU).2], hB⟩

end Go.Proofs.YtpoblkionpgljaaDoor

namespace Go.Proofs.YtpoblkionpgljaaDoor
open Go.RowKit

/-- how far Decode has come: the result's cells and the cursor -/
structure Dec (w W : World) (r : List UInt8) (b : Bool) : Prop where
  res : TxnAt W w.heap.size t0
  cur : Cur W (w.heap.size + 1) r b
  size : w.heap.size + 2 ≤ W.heap.size
  below : Below w.heap.size w W
theorem Dec.took {w W V : World} {r r' : List UInt8} {b b' : Bool} (h : Dec w W r b) (hc : Cur V (w.heap.size + 1) r' b') (ho : Only (w.heap.size + 1) W V) : Dec w V r' b' :=
  ⟨h.res.other ho (by omega), hc, by rw [ho.size]; exact h.size, ho.below h.below (by omega)⟩
theorem Dec.kept {w W V : World} {r : List UInt8} {b : Bool} (h : Dec w W r b) (hb : Below W.heap.size W V) : Dec w V r b :=
  ⟨h.res.kept hb (by have := h.size; omega), h.cur.kept hb (by have := h.size; omega), Nat.le_trans h.size hb.size, h.below.trans (hb.mono h.below.size)⟩
theorem Dec.new {w : World} {s : List UInt8} : Dec w ((w.alloc (.cells #[.int .i64 0, .int .i64 0, .int .i64 0, .string ⟨#[]⟩, .string ⟨#[]⟩, .int .i64 0, .int .i64 0] 29)).alloc (.cells #[.string ⟨s.toArray⟩, .bool false] 99)) s false := by
  refine ⟨?_, ?_, by simp, ((Below.refl _ _).alloc (Nat.le_refl _) _).alloc (by simp) _⟩
  · exact (Below.heap_alloc _ _ _ (by simp)).trans (heap_new _ _)
  · have := heap_new (w.alloc (.cells #[.int .i64 0, .int .i64 0, .int .i64 0, .string ⟨#[]⟩, .string ⟨#[]⟩, .int .i64 0, .int .i64 0] 29)) (.cells #[.string ⟨s.toArray⟩, .bool false] 99)
    rwa [World.size_alloc] at this
theorem lenOf_lt (s : List UInt8) : lenOf s < 65536 := by
  have h := un_lt ((s.drop 1).take 2)
  have h2 : ((s.drop 1).take 2).length ≤ 2 := List.length_take_le _ _
  have h3 : 256 ^ ((s.drop 1).take 2).length ≤ 256 ^ 2 := Nat.pow_le_pow_right (by decide) h2
  unfold lenOf
  omega
def lackD (s : List UInt8) : Bool := false || decide (s.length < 1) || decide ((s.drop 1).length < 2) || decide ((s.drop 3).length < lenOf s) || decide ((s.drop (3 + lenOf s)).length < 4)
theorem lackD_iff {s : List UInt8} : lackD s = false ↔ lenOf s + 7 ≤ s.length := by
  simp only [lackD, Bool.or_eq_false_iff, decide_eq_false_iff_not, List.length_drop, true_and]
  omega
theorem ret_dec {a b : Value} {i j k l : Int} (h : a = b) (h1 : i = j) (h2 : k = l) : Ending.returned (.tuple #[a, .int .i64 i, .int .i64 k]) = .returned (.tuple #[b, .int .i64 j, .int .i64 l]) := by rw [h, h1, h2]

set_option maxHeartbeats 2000000 in
theorem decode_mark (s : List UInt8) (w : World) (hm : s.take 1 ≠ [84]) :
    Calls Tryd.prog 33 #[.string ⟨s.toArray⟩] w fun e w' => e = .returned (.tuple #[txnV (decT s), .int .i64 (decN s), .int .i64 (decE s)]) ∧ Below w.heap.size w w' := by
  have HU := hide (dec_bad (s := s) (wholeB_no (fun h => hm h.1)))
  have hlt := lenOf_lt s
  obtain ⟨T, hT⟩ : ∃ T, s.take 1 = T := ⟨_, rfl⟩
  rw [hT] at hm
  have hm' : (T == [84]) = false := by simpa using hm
  have ET := hide hT
  clear hT hm
  go_enter Tryd.func33, Tryd.ntmps33
  go_wp2_with fail
  refine (along_any s _).mono ?_
  rintro e wA ⟨rfl, rfl⟩
  go_wp2_with fail
  have H := hide (Dec.new (w := w) (s := s))
  generalize (w.alloc _).alloc _ = W at H ⊢
  refine (text_any (w.heap.size + 1) 1 _ _ _ (by decide) (unhide H).cur).mono ?_
  rintro e w1 ⟨rfl, hc1, ho1⟩
  replace H := hide ((unhide H).took hc1 ho1)
  clear hc1 ho1 W
  generalize w1 = W at *
  rw [unhide ET]
  go_wp2_with fail
  refine (cnumber_any (w.heap.size + 1) 2 _ _ _ (by decide) (unhide H).cur).mono ?_
  rintro e w1 ⟨rfl, hc1, ho1⟩
  replace H := hide ((unhide H).took hc1 ho1)
  clear hc1 ho1 W
  generalize w1 = W at *
  rw [un_take_le _ _ (by decide)]
  rw [show un ((s.drop 1).take 2) = lenOf s from rfl]
  simp only [List.drop_drop, Nat.reduceAdd] at H
  obtain ⟨L, hL⟩ : ∃ L, lenOf s = L := ⟨_, rfl⟩
  rw [hL] at hlt ⊢
  have EL := hide hL
  clear hL
  have r0 : W.cell? ⟨w.heap.size, 0, none⟩ = some (.int .i64 0) := (unhide H).res.c0
  have r1 : W.cell? ⟨w.heap.size, 1, none⟩ = some (.int .i64 0) := (unhide H).res.c1
  have r2 : W.cell? ⟨w.heap.size, 2, none⟩ = some (.int .i64 0) := (unhide H).res.c2
  have r3 : W.cell? ⟨w.heap.size, 3, none⟩ = some (.string ⟨#[]⟩) := (unhide H).res.c3
  have r4 : W.cell? ⟨w.heap.size, 4, none⟩ = some (.string ⟨#[]⟩) := (unhide H).res.c4
  have r5 : W.cell? ⟨w.heap.size, 5, none⟩ = some (.int .i64 0) := (unhide H).res.c5
  have r6 : W.cell? ⟨w.heap.size, 6, none⟩ = some (.int .i64 0) := (unhide H).res.c6
  have rf := (unhide H).res.f
  go_wp2_with fail
  change bodyPost _ _ _ _ _ (putTxn W w.heap.size t0)
  have HP := hide ((unhide H).res.store t0)
  have hB : Below w.heap.size w (putTxn W w.heap.size t0) := (only_put _ _ _).below (unhide H).below (Nat.le_refl _)
  generalize putTxn W w.heap.size t0 = V2 at HP hB ⊢
  have s0 := (unhide HP).c0
  have s1 := (unhide HP).c1
  have s2 := (unhide HP).c2
  have s3 := (unhide HP).c3
  have s4 := (unhide HP).c4
  have s5 := (unhide HP).c5
  have s6 := (unhide HP).c6
  exact bodyPost_ret (v := .tuple #[txnV t0, .int .i64 0, .int .i64 2]) (by simp [results, Tryd.results33, go_sem, s0, s1, s2, s3, s4, s5, s6, txnV]) rfl ⟨by rw [(unhide HU).1, (unhide HU).2.1, (unhide HU).2.2], hB⟩

set_option maxHeartbeats 2000000 in
theorem decode_long (s : List UInt8) (w : World) (hm : s.take 1 = [84]) (hl : 1024 < lenOf s) :
    Calls Tryd.prog 33 #[.string ⟨s.toArray⟩] w fun e w' => e = .returned (.tuple #[txnV (decT s), .int .i64 (decN s), .int .i64 (decE s)]) ∧ Below w.heap.size w w' := by
  have HU := hide (dec_bad (s := s) (wholeB_no (fun h => by omega)))
  have ET := hide hm
  clear hm
  go_enter Tryd.func33, Tryd.ntmps33
  go_wp2_with fail
  refine (along_any s _).mono ?_
  rintro e wA ⟨rfl, rfl⟩
  go_wp2_with fail
  have H := hide (Dec.new (w := w) (s := s))
  generalize (w.alloc _).alloc _ = W at H ⊢
  refine (text_any (w.heap.size + 1) 1 _ _ _ (by decide) (unhide H).cur).mono ?_
  rintro e w1 ⟨rfl, hc1, ho1⟩
  replace H := hide ((unhide H).took hc1 ho1)
  clear hc1 ho1 W
  generalize w1 = W at *
  rw [unhide ET]
  go_wp2_with fail
  refine (cnumber_any (w.heap.size + 1) 2 _ _ _ (by decide) (unhide H).cur).mono ?_
  rintro e w1 ⟨rfl, hc1, ho1⟩
  replace H := hide ((unhide H).took hc1 ho1)
  clear hc1 ho1 W
  generalize w1 = W at *
  rw [un_take_le _ _ (by decide)]
  rw [show un ((s.drop 1).take 2) = lenOf s from rfl]
  simp only [List.drop_drop, Nat.reduceAdd] at H
  obtain ⟨L, hL⟩ : ∃ L, lenOf s = L := ⟨_, rfl⟩
  rw [hL] at hl ⊢
  have EL := hide hL
  clear hL
  have r0 : W.cell? ⟨w.heap.size, 0, none⟩ = some (.int .i64 0) := (unhide H).res.c0
  have r1 : W.cell? ⟨w.heap.size, 1, none⟩ = some (.int .i64 0) := (unhide H).res.c1
  have r2 : W.cell? ⟨w.heap.size, 2, none⟩ = some (.int .i64 0) := (unhide H).res.c2
  have r3 : W.cell? ⟨w.heap.size, 3, none⟩ = some (.string ⟨#[]⟩) := (unhide H).res.c3
  have r4 : W.cell? ⟨w.heap.size, 4, none⟩ = some (.string ⟨#[]⟩) := (unhide H).res.c4
  have r5 : W.cell? ⟨w.heap.size, 5, none⟩ = some (.int .i64 0) := (unhide H).res.c5
  have r6 : W.cell? ⟨w.heap.size, 6, none⟩ = some (.int .i64 0) := (unhide H).res.c6
  have rf := (unhide H).res.f
  go_wp2_with fail
  change bodyPost _ _ _ _ _ (putTxn W w.heap.size t0)
  have HP := hide ((unhide H).res.store t0)
  have hB : Below w.heap.size w (putTxn W w.heap.size t0) := (only_put _ _ _).below (unhide H).below (Nat.le_refl _)
  generalize putTxn W w.heap.size t0 = V2 at HP hB ⊢
  have s0 := (unhide HP).c0
  have s1 := (unhide HP).c1
  have s2 := (unhide HP).c2
  have s3 := (unhide HP).c3
  have s4 := (unhide HP).c4
  have s5 := (unhide HP).c5
  have s6 := (unhide HP).c6
  exact bodyPost_ret (v := .tuple #[txnV t0, .int .i64 0, .int .i64 2]) (by simp [results, Tryd.results33, go_sem, s0, s1, s2, s3, s4, s5, s6, txnV]) rfl ⟨by rw [(unhide HU).1, (unhide HU).2.1, (unhide HU).2.2], hB⟩

set_option maxHeartbeats 2000000 in
theorem decode_short (s : List UInt8) (w : World) (hs : s.length ≤ 140737488355328) (hm : s.take 1 = [84]) (hl : lenOf s ≤ 1024) (hn : s.length < lenOf s + 7) :
    Calls Tryd.prog 33 #[.string ⟨s.toArray⟩] w fun e w' => e = .returned (.tuple #[txnV (decT s), .int .i64 (decN s), .int .i64 (decE s)]) ∧ Below w.heap.size w w' := by
  have HU := hide (dec_bad (s := s) (wholeB_no (fun h => by omega)))
  have hlk : lackD s = true := by
    cases h : lackD s with
    | true => rfl
    | false => have := lackD_iff.1 h; omega
  have HK := hide hlk
  have ET := hide hm
  clear hm hlk
  go_enter Tryd.func33, Tryd.ntmps33
  go_wp2_with fail
  refine (along_any s _).mono ?_
  rintro e wA ⟨rfl, rfl⟩
  go_wp2_with fail
  have H := hide (Dec.new (w := w) (s := s))
  generalize (w.alloc _).alloc _ = W at H ⊢
  refine (text_any (w.heap.size + 1) 1 _ _ _ (by decide) (unhide H).cur).mono ?_
  rintro e w1 ⟨rfl, hc1, ho1⟩
  replace H := hide ((unhide H).took hc1 ho1)
  clear hc1 ho1 W
  generalize w1 = W at *
  rw [unhide ET]
  go_wp2_with fail
  refine (cnumber_any (w.heap.size + 1) 2 _ _ _ (by decide) (unhide H).cur).mono ?_
  rintro e w1 ⟨rfl, hc1, ho1⟩
  replace H := hide ((unhide H).took hc1 ho1)
  clear hc1 ho1 W
  generalize w1 = W at *
  rw [un_take_le _ _ (by decide)]
  rw [show un ((s.drop 1).take 2) = lenOf s from rfl]
  simp only [List.drop_drop, Nat.reduceAdd] at H
  obtain ⟨L, hL⟩ : ∃ L, lenOf s = L := ⟨_, rfl⟩
  rw [hL] at hl hn ⊢
  have EL := hide hL
  clear hL
  go_wp2_with fail
  refine (text_any (w.heap.size + 1) L _ _ _ (by omega) (unhide H).cur).mono ?_
  rintro e w1 ⟨rfl, hc1, ho1⟩
  replace H := hide ((unhide H).took hc1 ho1)
  clear hc1 ho1 W
  generalize w1 = W at *
  simp only [List.drop_drop] at H
  have CL := hide (left_any (w.heap.size + 1) _ _ _ (unhide H).cur)
  rw [List.length_drop] at CL
  have hzs : (ByteArray.mk s.toArray).size = s.length := Lib.size_eq ⟨s.toArray⟩
  go_wp2_with fail
  refine (unhide CL).mono ?_
  rintro e wL ⟨rfl, hwL⟩
  rw [hwL]
  clear hwL
  clear CL
  go_wp2_with fail
  refine (cnumber_any (w.heap.size + 1) 4 _ _ _ (by decide) (unhide H).cur).mono ?_
  rintro e w1 ⟨rfl, hc1, ho1⟩
  replace H := hide ((unhide H).took hc1 ho1)
  clear hc1 ho1 W
  generalize w1 = W at *
  simp only [List.drop_drop] at H
  have cc1 := (unhide H).cur
  rw [← unhide EL] at cc1
  have cc2 : Cur W (w.heap.size + 1) _ (lackD s) := cc1
  rw [unhide HK] at cc2
  have CSh := hide (short_any _ _ _ _ cc2)
  clear cc1 cc2
  go_wp2_with fail
  refine (unhide CSh).mono ?_
  rintro e wS ⟨rfl, hwS⟩
  rw [hwS]
  clear hwS
  clear CSh
  have r0 : W.cell? ⟨w.heap.size, 0, none⟩ = some (.int .i64 0) := (unhide H).res.c0
  have r1 : W.cell? ⟨w.heap.size, 1, none⟩ = some (.int .i64 0) := (unhide H).res.c1
  have r2 : W.cell? ⟨w.heap.size, 2, none⟩ = some (.int .i64 0) := (unhide H).res.c2
  have r3 : W.cell? ⟨w.heap.size, 3, none⟩ = some (.string ⟨#[]⟩) := (unhide H).res.c3
  have r4 : W.cell? ⟨w.heap.size, 4, none⟩ = some (.string ⟨#[]⟩) := (unhide H).res.c4
  have r5 : W.cell? ⟨w.heap.size, 5, none⟩ = some (.int .i64 0) := (unhide H).res.c5
  have r6 : W.cell? ⟨w.heap.size, 6, none⟩ = some (.int .i64 0) := (unhide H).res.c6
  have rf := (unhide H).res.f
  go_wp2_with fail
  change bodyPost _ _ _ _ _ (putTxn W w.heap.size t0)
  have HP := hide ((unhide H).res.store t0)
  have hB : Below w.heap.size w (putTxn W w.heap.size t0) := (only_put _ _ _).below (unhide H).below (Nat.le_refl _)
  generalize putTxn W w.heap.size t0 = V2 at HP hB ⊢
  have s0 := (unhide HP).c0
  have s1 := (unhide HP).c1
  have s2 := (unhide HP).c2
  have s3 := (unhide HP).c3
  have s4 := (unhide HP).c4
  have s5 := (unhide HP).c5
  have s6 := (unhide HP).c6
  exact bodyPost_ret (v := .tuple #[txnV t0, .int .i64 0, .int .i64 2]) (by simp [results, Tryd.results33, go_sem, s0, s1, s2, s3, s4, s5, s6, txnV]) rfl ⟨by rw [(unhide HU).1, (unhide HU).2.1, (unhide HU).2.2], hB⟩

end Go.Proofs.YtpoblkionpgljaaDoor

namespace Go.Proofs.YtpoblkionpgljaaDoor
open Go.RowKit

set_option maxHeartbeats 400000 in
theorem decode_whole (s : List UInt8) (w : World) (hm : s.take 1 = [84]) (hl : lenOf s ≤ 1024) (hn : lenOf s + 7 ≤ s.length) :
    Calls Tryd.prog 33 #[.string ⟨s.toArray⟩] w fun e w' => e = .returned (.tuple #[txnV (decT s), .int .i64 (decN s), .int .i64 (decE s)]) ∧ Below w.heap.size w w' := by
  have HW := hide (wholeB_iff.2 ⟨hm, hl, hn⟩)
  have hlk : lackD s = false := lackD_iff.2 hn
  have HK := hide hlk
  have ET := hide hm
  clear hm hlk
  go_enter Tryd.func33, Tryd.ntmps33
  go_wp2_with fail
  refine (along_any s _).mono ?_
  rintro e wA ⟨rfl, rfl⟩
  go_wp2_with fail
  have H := hide (Dec.new (w := w) (s := s))
  generalize (w.alloc _).alloc _ = W at H ⊢
  refine (text_any (w.heap.size + 1) 1 _ _ _ (by decide) (unhide H).cur).mono ?_
  rintro e w1 ⟨rfl, hc1, ho1⟩
  replace H := hide ((unhide H).took hc1 ho1)
  clear hc1 ho1 W
  generalize w1 = W at *
  rw [unhide ET]
  go_wp2_with fail
  refine (cnumber_any (w.heap.size + 1) 2 _ _ _ (by decide) (unhide H).cur).mono ?_
  rintro e w1 ⟨rfl, hc1, ho1⟩
  replace H := hide ((unhide H).took hc1 ho1)
  clear hc1 ho1 W
  generalize w1 = W at *
  rw [un_take_le _ _ (by decide)]
  rw [show un ((s.drop 1).take 2) = lenOf s from rfl]
  simp only [List.drop_drop, Nat.reduceAdd] at H
  obtain ⟨L, hL⟩ : ∃ L, lenOf s = L := ⟨_, rfl⟩
  rw [hL] at hl hn ⊢
  have EL := hide hL
  clear hL
  go_wp2_with fail
  refine (text_any (w.heap.size + 1) L _ _ _ (by omega) (unhide H).cur).mono ?_
  rintro e w1 ⟨rfl, hc1, ho1⟩
  replace H := hide ((unhide H).took hc1 ho1)
  clear hc1 ho1 W
  generalize w1 = W at *
  simp only [List.drop_drop] at H
  obtain ⟨B, hB⟩ : ∃ B, (s.drop 3).take L = B := ⟨_, rfl⟩
  rw [hB]
  have EB := hide hB
  clear hB
  have CL := hide (left_any (w.heap.size + 1) _ _ _ (unhide H).cur)
  rw [List.length_drop] at CL
  have hzs : (ByteArray.mk s.toArray).size = s.length := Lib.size_eq ⟨s.toArray⟩
  obtain ⟨M, hM⟩ : ∃ M, s.length - (3 + L) = M := ⟨_, rfl⟩
  rw [hM] at CL
  have hM2 : s.length = M + (L + 3) := by omega
  obtain ⟨Y, hY⟩ : ∃ Y, s.drop (3 + L) = Y := ⟨_, rfl⟩
  have EY := hide hY
  have HM := hide hM2
  clear hY hM hM2
  go_wp2_with fail
  refine (unhide CL).mono ?_
  rintro e wL ⟨rfl, hwL⟩
  rw [hwL]
  clear hwL
  clear CL
  go_wp2_with fail
  refine (cnumber_any (w.heap.size + 1) 4 _ _ _ (by decide) (unhide H).cur).mono ?_
  rintro e w1 ⟨rfl, hc1, ho1⟩
  replace H := hide ((unhide H).took hc1 ho1)
  clear hc1 ho1 W
  generalize w1 = W at *
  simp only [List.drop_drop] at H
  have cc1 := (unhide H).cur
  rw [← unhide EL] at cc1
  have cc3 : Cur W (w.heap.size + 1) _ (lackD s) := cc1
  rw [unhide HK] at cc3
  have CSh := hide (short_any _ _ _ _ cc3)
  have cc2 := cc3.c1
  clear cc1 cc3
  rw [un_take_le _ _ (by decide), show 3 + L = L + 3 from by omega]
  obtain ⟨Q, hQ⟩ : ∃ Q, un ((s.drop (L + 3)).take 4) = Q := ⟨_, rfl⟩
  rw [hQ]
  have EQ := hide hQ
  clear hQ
  have hd3 : wrap64 ((s.length : Int) - (M : Int)) = (L : Int) + 3 := by have := unhide HM; unfold wrap64; omega
  rw [hd3]
  clear hd3
  have c1 : (0 : Int) ≤ (L : Int) + 3 := by omega
  have c2 : (L : Int) + 3 ≤ (s.length : Int) := by omega
  go_wp2_with fail
  refine (unhide CSh).mono ?_
  rintro e wS ⟨rfl, hwS⟩
  rw [hwS]
  clear hwS
  clear CSh
  go_wp2_with fail
  rw [ex_front]
  have hzp : (ByteArray.mk (s.take (L + 3)).toArray).size = (s.take (L + 3)).length := Lib.size_eq ⟨_⟩
  rw [List.length_take] at hzp
  refine (wsum_any ⟨(s.take (L + 3)).toArray⟩ _ (by omega)).mono ?_
  rintro e w6 ⟨rfl, hw6⟩
  rw [hw6]
  clear hzp hw6
  rw [show (ByteArray.mk (s.take (L + 3)).toArray).data.toList = s.take (L + 3) from rfl]
  obtain ⟨X, hX⟩ : ∃ X, sumN (s.take (L + 3)) = X := ⟨_, rfl⟩
  rw [hX]
  have EX := hide hX
  clear hX
  by_cases hXQ : X = Q
  · subst hXQ
    have Hsum : Hid (sumB s = true) := hide (sumB_iff.2 (by rw [unhide EL, unhide EQ, unhide EX]))
    have Hin : Hid (insideL s = B) := hide (by rw [insideL, unhide EL, unhide EB])
    go_wp2_with fail
    refine (unfold_any B _).mono ?_
    rintro e w5 ⟨rfl, hb5⟩
    replace H := hide ((unhide H).kept hb5)
    clear hb5 cc2 W
    generalize w5 = W at *
    by_cases hE : unfE B = 0
    · have HU := hide (dec_ok (unhide HW) (unhide Hsum) (by rw [unhide Hin]; exact hE))
      have Ht : Hid (unfT B = tOf B) := hide (by rw [unfT, hE, if_pos rfl])
      rw [hE, unhide Ht]
      rw [unhide Hin, unhide EL] at HU
      obtain ⟨t, ht⟩ : ∃ t, tOf B = t := ⟨_, rfl⟩
      rw [ht] at HU ⊢
      clear ht hE Ht
      obtain ⟨z, o, s', p, d, v, u⟩ := t
      unfold txnV
      have r0 : W.cell? ⟨w.heap.size, 0, none⟩ = some (.int .i64 0) := (unhide H).res.c0
      have r1 : W.cell? ⟨w.heap.size, 1, none⟩ = some (.int .i64 0) := (unhide H).res.c1
      have r2 : W.cell? ⟨w.heap.size, 2, none⟩ = some (.int .i64 0) := (unhide H).res.c2
      have r3 : W.cell? ⟨w.heap.size, 3, none⟩ = some (.string ⟨#[]⟩) := (unhide H).res.c3
      have r4 : W.cell? ⟨w.heap.size, 4, none⟩ = some (.string ⟨#[]⟩) := (unhide H).res.c4
      have r5 : W.cell? ⟨w.heap.size, 5, none⟩ = some (.int .i64 0) := (unhide H).res.c5
      have r6 : W.cell? ⟨w.heap.size, 6, none⟩ = some (.int .i64 0) := (unhide H).res.c6
      have rf := (unhide H).res.f
      have hlt2 : w.heap.size < W.heap.size := by have := (unhide H).size; omega
      go_wp2_with fail
      change bodyPost _ _ _ _ _ ((putTxn W w.heap.size ⟨z, o, s', p, d, v, u⟩).alloc (.cells #[.int .i64 z, .int .i64 o, .int .i64 s', .string ⟨p.toArray⟩, .string ⟨d.toArray⟩, .int .i64 v, .int .i64 u] 29))
      have HP := hide (((unhide H).res.store ⟨z, o, s', p, d, v, u⟩).kept ((Below.refl _ _).alloc (Nat.le_refl _) (.cells #[.int .i64 z, .int .i64 o, .int .i64 s', .string ⟨p.toArray⟩, .string ⟨d.toArray⟩, .int .i64 v, .int .i64 u] 29)) (by rw [(only_put _ _ _).size]; exact hlt2))
      have hB : Below w.heap.size w ((putTxn W w.heap.size ⟨z, o, s', p, d, v, u⟩).alloc (.cells #[.int .i64 z, .int .i64 o, .int .i64 s', .string ⟨p.toArray⟩, .string ⟨d.toArray⟩, .int .i64 v, .int .i64 u] 29)) := ((only_put _ _ _).below (unhide H).below (Nat.le_refl _)).alloc (by rw [(only_put _ _ _).size]; exact Nat.le_of_lt hlt2) _
      generalize (putTxn W w.heap.size ⟨z, o, s', p, d, v, u⟩).alloc (.cells #[.int .i64 z, .int .i64 o, .int .i64 s', .string ⟨p.toArray⟩, .string ⟨d.toArray⟩, .int .i64 v, .int .i64 u] 29) = V2 at HP hB ⊢
      have s0 := (unhide HP).c0
      have s1 := (unhide HP).c1
      have s2 := (unhide HP).c2
      have s3 := (unhide HP).c3
      have s4 := (unhide HP).c4
      have s5 := (unhide HP).c5
      have s6 := (unhide HP).c6
      exact bodyPost_ret (v := .tuple #[txnV ⟨z, o, s', p, d, v, u⟩, .int .i64 ((L : Int) + 3 + 4), .int .i64 0]) (by simp [results, Tryd.results33, go_sem, s0, s1, s2, s3, s4, s5, s6, txnV]) rfl ⟨ret_dec (by rw [(unhide HU).2.1]) (by rw [(unhide HU).2.2]; omega) (unhide HU).1.symm, hB⟩
    · have HU := hide (dec_form (unhide HW) (unhide Hsum) (by rw [unhide Hin]) hE)
      have Ht : Hid (unfT B = t0) := hide (by rw [unfT, if_neg hE])
      rw [unhide Ht]
      obtain ⟨E, hEE⟩ : ∃ E, unfE B = E := ⟨_, rfl⟩
      rw [hEE] at HU hE ⊢
      have hne : (E != 0) = true := by simpa [bne] using hE
      clear hEE hE Ht
      unfold txnV t0
      have r0 : W.cell? ⟨w.heap.size, 0, none⟩ = some (.int .i64 0) := (unhide H).res.c0
      have r1 : W.cell? ⟨w.heap.size, 1, none⟩ = some (.int .i64 0) := (unhide H).res.c1
      have r2 : W.cell? ⟨w.heap.size, 2, none⟩ = some (.int .i64 0) := (unhide H).res.c2
      have r3 : W.cell? ⟨w.heap.size, 3, none⟩ = some (.string ⟨#[]⟩) := (unhide H).res.c3
      have r4 : W.cell? ⟨w.heap.size, 4, none⟩ = some (.string ⟨#[]⟩) := (unhide H).res.c4
      have r5 : W.cell? ⟨w.heap.size, 5, none⟩ = some (.int .i64 0) := (unhide H).res.c5
      have r6 : W.cell? ⟨w.heap.size, 6, none⟩ = some (.int .i64 0) := (unhide H).res.c6
      have rf := (unhide H).res.f
      have hlt2 : w.heap.size < W.heap.size := by have := (unhide H).size; omega
      go_wp2_with fail
      change bodyPost _ _ _ _ _ ((putTxn W w.heap.size t0).alloc (.cells #[.int .i64 0, .int .i64 0, .int .i64 0, .string ⟨#[]⟩, .string ⟨#[]⟩, .int .i64 0, .int .i64 0] 29))
      have HP := hide (((unhide H).res.store t0).kept ((Below.refl _ _).alloc (Nat.le_refl _) (.cells #[.int .i64 0, .int .i64 0, .int .i64 0, .string ⟨#[]⟩, .string ⟨#[]⟩, .int .i64 0, .int .i64 0] 29)) (by rw [(only_put _ _ _).size]; exact hlt2))
      have hB : Below w.heap.size w ((putTxn W w.heap.size t0).alloc (.cells #[.int .i64 0, .int .i64 0, .int .i64 0, .string ⟨#[]⟩, .string ⟨#[]⟩, .int .i64 0, .int .i64 0] 29)) := ((only_put _ _ _).below (unhide H).below (Nat.le_refl _)).alloc (by rw [(only_put _ _ _).size]; exact Nat.le_of_lt hlt2) _
      generalize (putTxn W w.heap.size t0).alloc (.cells #[.int .i64 0, .int .i64 0, .int .i64 0, .string ⟨#[]⟩, .string ⟨#[]⟩, .int .i64 0, .int .i64 0] 29) = V2 at HP hB ⊢
      have s0 := (unhide HP).c0
      have s1 := (unhide HP).c1
      have s2 := (unhide HP).c2
      have s3 := (unhide HP).c3
      have s4 := (unhide HP).c4
      have s5 := (unhide HP).c5
      have s6 := (unhide HP).c6
      exact bodyPost_ret (v := .tuple #[txnV t0, .int .i64 0, .int .i64 E]) (by simp [results, Tryd.results33, go_sem, s0, s1, s2, s3, s4, s5, s6, txnV]) rfl ⟨by rw [(unhide HU).1, (unhide HU).2.1, (unhide HU).2.2], hB⟩
  · have Hsum : Hid (sumB s = false) := hide (by
      cases h : sumB s with
      | false => rfl
      | true =>
        have h2 := sumB_iff.1 h
        rw [unhide EL, unhide EQ, unhide EX] at h2
        exact absurd h2.symm hXQ)
    have HU := hide (dec_sum (unhide HW) (unhide Hsum))
    have hne : ((X : Int) != (Q : Int)) = true := by simp [bne]; omega
    have r0 : W.cell? ⟨w.heap.size, 0, none⟩ = some (.int .i64 0) := (unhide H).res.c0
    have r1 : W.cell? ⟨w.heap.size, 1, none⟩ = some (.int .i64 0) := (unhide H).res.c1
    have r2 : W.cell? ⟨w.heap.size, 2, none⟩ = some (.int .i64 0) := (unhide H).res.c2
    have r3 : W.cell? ⟨w.heap.size, 3, none⟩ = some (.string ⟨#[]⟩) := (unhide H).res.c3
    have r4 : W.cell? ⟨w.heap.size, 4, none⟩ = some (.string ⟨#[]⟩) := (unhide H).res.c4
    have r5 : W.cell? ⟨w.heap.size, 5, none⟩ = some (.int .i64 0) := (unhide H).res.c5
    have r6 : W.cell? ⟨w.heap.size, 6, none⟩ = some (.int .i64 0) := (unhide H).res.c6
    have rf := (unhide H).res.f
    go_wp2_with fail
    change bodyPost _ _ _ _ _ (putTxn W w.heap.size t0)
    have HP := hide ((unhide H).res.store t0)
    have hB : Below w.heap.size w (putTxn W w.heap.size t0) := (only_put _ _ _).below (unhide H).below (Nat.le_refl _)
    generalize putTxn W w.heap.size t0 = V2 at HP hB ⊢
    have s0 := (unhide HP).c0
    have s1 := (unhide HP).c1
    have s2 := (unhide HP).c2
    have s3 := (unhide HP).c3
    have s4 := (unhide HP).c4
    have s5 := (unhide HP).c5
    have s6 := (unhide HP).c6
    exact bodyPost_ret (v := .tuple #[txnV t0, .int .i64 0, .int .i64 5]) (by simp [results, Tryd.results33, go_sem, s0, s1, s2, s3, s4, s5, s6, txnV]) rfl ⟨by rw [(unhide HU).1, (unhide HU).2.1, (unhide HU).2.2], hB⟩


theorem decode_any (s : List UInt8) (w : World) (hs : s.length ≤ 140737488355328) :
    Calls Tryd.prog 33 #[.string ⟨s.toArray⟩] w fun e w' => e = .returned (.tuple #[txnV (decT s), .int .i64 (decN s), .int .i64 (decE s)]) ∧ Below w.heap.size w w' := by
  by_cases hm : s.take 1 = [84]
  · by_cases hl : lenOf s ≤ 1024
    · by_cases hn : lenOf s + 7 ≤ s.length
      · exact decode_whole s w hm hl hn
      · exact decode_short s w hs hm hl (by omega)
    · exact decode_long s w hm (by omega)
  · exact decode_mark s w hm

end Go.Proofs.YtpoblkionpgljaaDoor

namespace Go.Proofs.YtpoblkionpgljaaDoor
open Go.RowKit

def tOpen : WTxn := ⟨1, 1, 1, [], [], 0, 0⟩
theorem gd_open : gdE tOpen = 0 := by decide +kernel

set_option maxHeartbeats 400000 in
theorem opening_txn (w : World) : Calls Tryd.prog 49 #[] w fun e w' => e = .returned (txnV tOpen) ∧ Below w.heap.size w w' := by
  go_enter Tryd.func49, Tryd.ntmps49
  go_wp2_with fail
  exact bodyPost_ret (v := txnV tOpen) (by simp [results, Tryd.results49, go_sem, txnV, tOpen]) rfl ⟨rfl, (Below.refl _ _).alloc (Nat.le_refl _) _⟩

end Go.Proofs.YtpoblkionpgljaaDoor
