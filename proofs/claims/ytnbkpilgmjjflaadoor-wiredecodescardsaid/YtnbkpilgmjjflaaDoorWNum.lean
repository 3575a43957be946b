/-
  What wire.number answers, for numbers from 0 on and up to eight bytes: the walk.
-/
import Derived.Test.YtnbkpilgmjjflaaDoorRows
import Derived.Test.YtnbkpilgmjjflaaDoorWRec
import Derived.Laws.MakeOwn
import Derived.Laws.IdiomStrings
import Derived.OwnWalk
import Derived.WalkKit
import Derived.WalkSpells
import Derived.WalkLawsBesides
namespace Go.Proofs.YtnbkpilgmjjflaaDoor
open Go.RowKit

theorem be_front : ∀ j n, be (j + 1) n = UInt8.ofNat (n / 256 ^ j) :: be j n
  | 0, n => by simp [be]
  | j + 1, n => by
    rw [be, be_front j (n / 256), be, Nat.div_div_eq_div_mul, Nat.pow_succ, Nat.mul_comm 256]; rfl
/- cells that hold bytes -/
def byteV (l : List UInt8) : List Value := l.map fun b => .int .u8 (b.toNat : Int)
def bytesAt (W : World) (g : Nat) (l : List UInt8) : Prop := W.heap[g]? = some (.cells (byteV l).toArray 5 (0, 0))
theorem bytesAt.cell {W : World} {g : Nat} {l : List UInt8} (h : bytesAt W g l) {j : Nat} (hj : j < l.length) : W.cell? ⟨g, j, none⟩ = some (.int .u8 (l[j].toNat : Int)) := by
  unfold bytesAt at h; simp [World.cell?, h, byteV, List.getElem?_eq_getElem hj]
theorem bytesAt.soft {W : World} {g : Nat} {l : List UInt8} (h : bytesAt W g l) (j : Nat) : W.frozen? ⟨g, j, none⟩ = false := by
  unfold bytesAt at h; simp [World.frozen?, h]
theorem bytesAt.set {W : World} {g : Nat} {l : List UInt8} (h : bytesAt W g l) (j : Nat) (b : UInt8) : bytesAt (W.setCell ⟨g, j, none⟩ (.int .u8 (b.toNat : Int))) g (l.set j b) := by
  unfold bytesAt at h ⊢
  obtain ⟨hlt, hk⟩ := Array.getElem?_eq_some_iff.1 h
  show (W.heap.modify g _)[g]? = _
  rw [Array.getElem?_eq_getElem (by rw [Array.size_modify]; exact hlt), Array.getElem_modify_self, hk]
  simp [byteV, List.map_set]
theorem set_mid (m : Nat) (b : UInt8) (r : List UInt8) : (List.replicate (m + 1) 0 ++ r).set m b = List.replicate m 0 ++ b :: r := by
  rw [List.replicate_succ', List.append_assoc, List.set_append_right _ _ (by simp)]
  simp
theorem bytesAt.text {W : World} {g : Nat} {l : List UInt8} (h : bytesAt W g l) (cap : Nat) :
    (convert 49 9 (.slice (some ⟨g, 0, none⟩) l.length cap)).run Tryd.prog W = .ok (.string ⟨l.toArray⟩) W :=
  run_convert_bytes_back W 49 9 5 ⟨g, 0, none⟩ cap l Tryd.underlying49 Tryd.underlying5 Tryd.underlying9 (fun j hj => by
    rw [show (⟨g, 0, none⟩ : Addr).add j = ⟨g, j, none⟩ from by unfold Addr.add; split <;> simp_all]
    exact h.cell hj)
theorem ofNat_mod (x : Nat) : ((x : Int) % 256) = ((UInt8.ofNat x).toNat : Int) := by simp
theorem div_256 (n j : Nat) : n / 256 ^ j / 256 = n / 256 ^ (j + 1) := by rw [Nat.div_div_eq_div_mul, Nat.pow_succ]
theorem i64_v {a b : Int} (h : a = b) : Value.int .i64 a = .int .i64 b := by rw [h]
theorem ret_str0 {a b : ByteArray} (h : a = b) : Ending.returned (.string a) = .returned (.string b) := by rw [h]

theorem made_zero (k : Nat) : madeCells (Value.int .u8 0).cells k = (byteV (List.replicate k 0)).toArray := by
  apply Array.ext'
  apply List.ext_getElem
  · simp [madeCells, byteV]
  · intro j h1 h2
    simp [madeCells, byteV, Value.cells, Nat.mod_one]
theorem infoU8 : (Tryd.prog.info? 5).map (fun i => (i.zero, i.size, i.bytes)) = some (some (.int .u8 0), 1, 1) := by kernel_rfl
theorem make_bytes (k : Nat) (hk : k ≤ 8) (w : World) : (Instr.makeSlice 49 (.int .i64 k) (.int .i64 k)).run Tryd.prog w = .ok (.slice (some ⟨w.heap.size, 0, none⟩) k k) (w.alloc (.cells (byteV (List.replicate k 0)).toArray 5)) := by
  obtain ⟨i0, hi, hz0, hz1, hz2⟩ := info_parts infoU8
  have h := run_make (P := Tryd.prog) w 49 5 i0 (.int .u8 0) Tryd.underlying49 hi hz0 .i64 .i64 k k (by omega) (by omega) (by rw [hz2]; omega) (by omega)
  rw [h, hz1, Nat.mul_one, Int.toNat_natCast, made_zero]

set_option maxHeartbeats 1000000 in
theorem number_any (n k : Nat) (w : World) (hn : n < 9223372036854775808) (hk : k ≤ 8) :
    Calls Tryd.prog 17 #[.int .i64 n, .int .i64 k] w fun e w' => e = .returned (.string ⟨(be k n).toArray⟩) ∧ Below w.heap.size w w' := by
  have hmk := make_bytes k hk w
  go_enter Tryd.func17, Tryd.ntmps17
  go_wp2
  generalize hW1 : w.alloc (Obj.cells (byteV (List.replicate k 0)).toArray 5) = W1
  have HR1 : Hid (bytesAt W1 w.heap.size (List.replicate k 0 ++ be 0 n)) := hide (by
    rw [← hW1]
    show (w.heap.push _)[w.heap.size]? = _
    simp [be])
  have hB1 : Below w.heap.size w W1 := by rw [← hW1]; exact (Below.refl _ _).alloc (Nat.le_refl _) _
  clear hW1 hmk
  go_loopw [0, 6] (fun x i wr => ∃ j : Nat, j ≤ k ∧ x = .int .i64 (n / 256 ^ j : Nat) ∧ i = .int .i64 ((k : Int) - 1 - j) ∧ bytesAt wr w.heap.size (List.replicate (k - j) 0 ++ be j n) ∧ Below w.heap.size w wr) (fun _ i _ => (intOf i + 1).toNat)
  case atStart => exact ⟨0, Nat.zero_le _, by simp, by simp, unhide HR1, hB1⟩
  case round =>
    obtain ⟨j, hj, rfl, rfl, hr, hB⟩ := hrel
    have HR := hide hr
    clear hr HR1 hB1
    by_cases hlt : j < k
    · obtain ⟨m, hm⟩ : ∃ m, k - j = m + 1 := ⟨k - j - 1, by omega⟩
      have hlen : m < (List.replicate (k - j) (0 : UInt8) ++ be j n).length := by simp; omega
      have h1 := (unhide HR).cell hlen
      have h2 := (unhide HR).soft m
      have hmk : (k : Int) - 1 - j = (m : Int) := by omega
      rw [hmk]
      have hmlt : m < k := by omega
      have hq : n / 256 ^ j < 9223372036854775808 := Nat.lt_of_le_of_lt (Nat.div_le_self _ _) hn
      have Hdiv := hide (div_256 n j)
      have Hby := hide (ofNat_mod (n / 256 ^ j))
      have Hfr := hide (be_front j n)
      generalize (List.replicate (k - j) (0 : UInt8) ++ be j n)[m] = c0 at h1
      obtain ⟨x, hx⟩ : ∃ x, n / 256 ^ j = x := ⟨_, rfl⟩
      rw [hx] at hq Hdiv Hby Hfr ⊢
      have Hm := hide hm
      have Hmk := hide hmk
      clear hx hm hmk hlen
      go_wp2
      rw [unhide Hby]
      refine ⟨⟨j + 1, by omega, i64_v (by rw [← unhide Hdiv]; omega), i64_v (by have := unhide Hmk; omega), ?_, hB.setCell (by show w.heap.size ≤ w.heap.size; exact Nat.le_refl _) _⟩, by simp only [intOf]; omega⟩
      have hset := (unhide HR).set m (UInt8.ofNat x)
      rw [unhide Hm, set_mid, ← unhide Hfr] at hset
      rw [show k - (j + 1) = m from by have := unhide Hm; omega]
      exact hset
    · obtain rfl : j = k := by omega
      have hlen : (List.replicate (j - j) (0 : UInt8) ++ be j n).length = j := by simp [be_length]
      have htx := (unhide HR).text j
      rw [hlen] at htx
      rw [show (j : Int) - 1 - (j : Int) = -1 from by omega]
      have Hrep : Hid (List.replicate (j - j) (0 : UInt8) ++ be j n = be j n) := hide (by simp)
      rw [unhide Hrep] at htx
      clear hlen
      go_wp2
      go_ret
      exact ⟨rfl, hB⟩

end Go.Proofs.YtnbkpilgmjjflaaDoor
