/-
  What aviaryref.bytesOf and numberOf answer: the walks.
  What aviaryref.Sum answers, for every text: the sum by single bits, and the walk.
  What aviaryref.Encode answers: the walk.
  What aviaryref.Append answers: the walks.
  That aviarykeep.sameLog and aviaryref.SameLog say yes of two logs that are alike: the walks.
  tree.Get and tree.Kids: the walks.
  aviaryref's SameTree and SameEvents, of alike ones: the walks.
  What watch.own, copied, setOff and its closures answer: the walks.
  What slices.IndexFunc answers at watches, with the closures of Fire and Drop: the walks.
  What watch.told answers: the walk.
  What watch.Fire and watch.Drop answer: the walks.
-/
import Derived.Test.YthkggmmalffcdaaGreatDoorSFH
import Derived.Test.YthkggmmalffcdaaGreatDoorSFG
import Derived.Test.YthkggmmalffcdaaGreatDoorSFC
import Derived.Test.YthkggmmalffcdaaGreatDoorSFR
import Derived.Test.YthkggmmalffcdaaGreatDoorRows
import Derived.Test.YthkggmmalffcdaaGreatDoorSFA
import Derived.Lib.ConvBytes
import Derived.Lib.Strings
import Derived.RegionTactic
import Derived.Laws.CopyOwn
import Derived.WalkKit
import Derived.WalkSpells
import Derived.WalkLawsBesides
import Derived.Test.YthkggmmalffcdaaGreatDoorSFAE
import Derived.Test.YthkggmmalffcdaaGreatDoorSFI
import Derived.Test.YthkggmmalffcdaaGreatDoorSFAB
import Derived.Lib.LastIndexByte
import Derived.Lib.QuietBelow
import Derived.ChangeAlike
import Derived.Test.YthkggmmalffcdaaGreatDoorShelf
import Derived.Deep.RegionHeld3
import Derived.BigQuiet
import Derived.Laws.MakeOwn
import Derived.Lib.SliceRun
import Derived.Lib.AppendZerosOnto
import Derived.Deep.RegionLaw
import Derived.Maps.AppendAt
import Derived.Laws.AppendOwnNone
namespace Go.Proofs.YthkggmmalffcdaaGreatDoor
open Go.RowKit

theorem one_text (c : UInt8) (W : World) (X : Nat) (h : W.cell? ⟨X, 0, none⟩ = some (.int .u8 (c.toNat : Int))) :
    (convert 176 9 (.slice (some ⟨X, 0, none⟩) 1 1)).run Tryz.prog W = .ok (.string ⟨#[c]⟩) W :=
  run_convert_bytes_back W 176 9 5 ⟨X, 0, none⟩ 1 [c] Tryz.underlying176 Tryz.underlying5 Tryz.underlying9 (fun j hj => by
    obtain rfl : j = 0 := by simpa using hj
    simpa [Addr.add] using h)

set_option maxRecDepth 10000 in
set_option maxHeartbeats 1000000 in
theorem bytesOf_any (n k : Nat) (w : World) (hn : n < 9223372036854775808) (hk : k ≤ 8) :
    Calls Tryz.prog 127 #[.int .i64 n, .int .i64 k] w fun e w' => e = .returned (.string ⟨(be k n).toArray⟩) ∧ Below w.heap.size w w' := by
  go_enter Tryz.func127, Tryz.ntmps127
  go_wp2
  go_loopw [0, 1, 5] (fun x i t wr => ∃ j : Nat, j ≤ k ∧ x = .int .i64 (n / 256 ^ j : Nat) ∧ i = .int .i64 ((k : Int) - j) ∧ t = .string ⟨(be j n).toArray⟩ ∧ Below w.heap.size w wr) (fun _ i _ _ => (intOf i).toNat)
  case atStart => exact ⟨0, Nat.zero_le _, by simp, by simp, rfl, Below.refl _ _⟩
  case round =>
    obtain ⟨j, hj, rfl, rfl, rfl, hB⟩ := hrel
    by_cases hlt : j < k
    · have hq : n / 256 ^ j < 9223372036854775808 := Nat.lt_of_le_of_lt (Nat.div_le_self _ _) hn
      have Hdiv := hide (div_256 n j)
      have Hby := hide (ofNat_mod (n / 256 ^ j))
      have Hfr := hide (be_front j n)
      have hbl := be_length j n
      obtain ⟨x, hx⟩ : ∃ x, n / 256 ^ j = x := ⟨_, rfl⟩
      obtain ⟨B, hB'⟩ : ∃ B, be j n = B := ⟨_, rfl⟩
      rw [hx] at hq Hdiv Hby Hfr ⊢
      rw [hB'] at Hfr hbl ⊢
      clear hx hB'
      have hzB : (ByteArray.mk B.toArray).size = B.length := Lib.size_eq ⟨_⟩
      have htx : ∀ W X, W.cell? ⟨X, 0, none⟩ = some (.int .u8 ((x : Int) % 256)) → (convert 176 9 (.slice (some ⟨X, 0, none⟩) 1 1)).run Tryz.prog W = .ok (.string ⟨#[UInt8.ofNat x]⟩) W := fun W X h => one_text (UInt8.ofNat x) W X (by rw [← unhide Hby]; exact h)
      have hkj : (0 : Int) < (k : Int) - j := by omega
      go_wp2
      refine ⟨⟨j + 1, by omega, i64_v (by rw [← unhide Hdiv]; omega), i64_v (by omega), ?_, hB.alloc hB.size _⟩, by simp only [intOf]; omega⟩
      rw [show (ByteArray.mk #[UInt8.ofNat x]) = ⟨[UInt8.ofNat x].toArray⟩ from rfl, cat_one, unhide Hfr]
      rfl
    · obtain rfl : j = k := by omega
      rw [show (j : Int) - (j : Int) = 0 from by omega]
      go_wp2
      go_ret
      exact ⟨rfl, hB⟩

theorem wrap_mul_add (t b : Nat) : wrap64 (wrap64 ((t : Int) * 256) + (b : Int)) = wrap64 ((t * 256 + b : Nat) : Int) := by unfold wrap64; omega

set_option maxRecDepth 10000 in
set_option maxHeartbeats 1000000 in
theorem numberOf_any (s : ByteArray) (w : World) (hs : s.size ≤ 8) :
    Calls Tryz.prog 188 #[.string s] w fun e w' => e = .returned (.int .i64 (wrap64 (un s.data.toList : Nat))) ∧ Below w.heap.size w w' := by
  obtain ⟨l, rfl⟩ := ba_list s
  show Calls _ _ _ _ fun e w' => e = .returned (.int .i64 (wrap64 (un l : Nat))) ∧ _
  have hz : (ByteArray.mk l.toArray).size = l.length := Lib.size_eq ⟨l.toArray⟩
  rw [hz] at hs
  have hconv : ∀ W s, (convert 9 176 (.string s)).run Tryz.prog W = .ok (.slice (some ⟨W.heap.size, 0, none⟩) s.size (grownCap W s.size 0 5)) (Lib.bytesWorld W 5 s) := fun W s =>
    Lib.run_convert_string_bytes W 9 176 5 s Tryz.underlying9 Tryz.underlying176 Tryz.underlying5
  go_enter Tryz.func188, Tryz.ntmps188
  go_wp2
  generalize hW1 : Lib.bytesWorld w 5 ⟨l.toArray⟩ = W1
  have Hcell : Hid (∀ j (hj : j < l.length), W1.cell? ⟨w.heap.size, j, none⟩ = some (.int .u8 (l[j].toNat : Int))) := hide (fun j hj => by
    rw [← hW1]; exact bytes_cell w 5 ⟨l.toArray⟩ l rfl j hj)
  have hB1 : Below w.heap.size w W1 := by rw [← hW1]; exact bytes_below _ _ _
  clear hW1 hconv
  go_loop [3, 9] (fun t i => ∃ k : Nat, k ≤ l.length ∧ i = .int .i64 k ∧ t = .int .i64 (wrap64 (un (l.take k) : Nat))) (fun _ i => l.length - (intOf i).toNat)
  case atStart => exact ⟨0, Nat.zero_le _, rfl, i64_c (by simp [un, wrap64])⟩
  case round =>
    obtain ⟨k, hk, rfl, rfl⟩ := hrel
    by_cases hlt : k < l.length
    · have hc := unhide Hcell k hlt
      have Hs := hide (un_take l k hlt)
      have hsm := un_small (l := l.take k) (by rw [List.length_take]; omega)
      obtain ⟨x, hx⟩ : ∃ x, un (l.take k) = x := ⟨_, rfl⟩
      rw [hx] at hsm Hs ⊢
      clear hx
      rw [show wrap64 (x : Int) = x from by unfold wrap64; omega]
      have hb := l[k].toNat_lt
      generalize l[k] = c at hc Hs hb
      go_wp2
      refine ⟨⟨k + 1, by omega, by go_num, i64_c ?_⟩, by simp [intOf]; omega⟩
      rw [unhide Hs, ← wrap_mul_add]
    · obtain rfl : k = l.length := by omega
      rw [List.take_length]
      go_wp2
      go_ret
      exact ⟨rfl, hB1⟩

end Go.Proofs.YthkggmmalffcdaaGreatDoor

namespace Go.Proofs.YthkggmmalffcdaaGreatDoor
open Go.RowKit

/- plain: one bit of a byte at a time -/
def bitR (r x : Nat) : Nat := (r / 2) ^^^ (3988292384 * (r % 2 ^^^ x))
def bitsR (b : Nat) : Nat → Nat → Nat
  | 0, c => c
  | k + 1, c => bitR (bitsR b k c) (bitN b k)
theorem half_xor (a b : Nat) : (a ^^^ b) / 2 = a / 2 ^^^ b / 2 := by
  have e : ∀ x : Nat, x / 2 = x >>> 1 := fun x => by rw [Nat.shiftRight_eq_div_pow]
  rw [e, e, e, Nat.shiftRight_xor_distrib]
theorem mod2_xor (a b : Nat) : (a ^^^ b) % 2 = a % 2 ^^^ b % 2 := by
  have := Nat.xor_mod_two_pow (a := a) (b := b) (n := 1)
  simpa using this
theorem bitsR_crcN (b c : Nat) : ∀ k, bitsR b k c ^^^ b / 2 ^ k = crcN k (c ^^^ b)
  | 0 => by simp [bitsR, crcN]
  | k + 1 => by
    have ih := bitsR_crcN b c k
    show bitR (bitsR b k c) (bitN b k) ^^^ _ = crc1 (crcN k (c ^^^ b))
    rw [← ih]
    generalize bitsR b k c = r
    have e : b / 2 ^ (k + 1) = b / 2 ^ k / 2 := by rw [Nat.pow_succ, Nat.div_div_eq_div_mul]
    rw [e, crc1, half_xor, mod2_xor, bitR, bitN]
    rw [Nat.xor_assoc, Nat.xor_assoc, Nat.xor_comm (3988292384 * _)]
theorem bit_xor_le {a b : Nat} (ha : a ≤ 1) (hb : b ≤ 1) : a ^^^ b ≤ 1 := by
  have : a ^^^ b < 2 ^ 1 := Nat.xor_lt_two_pow (by omega) (by omega)
  omega
theorem bitR_lt {r x : Nat} (h : r < 4294967296) (hx : x ≤ 1) : bitR r x < 4294967296 := by
  unfold bitR
  have := bit_xor_le (show r % 2 ≤ 1 by omega) hx
  exact xor_lt32 (by omega) (by omega)
theorem bitsR_lt {b c : Nat} (h : c < 4294967296) : ∀ k, bitsR b k c < 4294967296
  | 0 => h
  | k + 1 => bitR_lt (bitsR_lt h k) (bitN_le _ _)
theorem bitsR_all {c : Nat} (b : UInt8) : bitsR b.toNat 8 c = crcB c b := by
  have h := bitsR_crcN b.toNat c 8
  have hb := b.toNat_lt
  rw [show b.toNat / 2 ^ 8 = 0 from by omega, Nat.xor_zero] at h
  exact h
theorem bitN_top {r : Nat} (h : r < 4294967296) : bitN r 32 = 0 := by unfold bitN; omega
/-- one bit of the next state -/
theorem bitN_bitR {r x : Nat} (hx : x ≤ 1) (i : Nat) : bitN (bitR r x) i = bitN r (i + 1) ^^^ ((r % 2 ^^^ x) * bitN 3988292384 i) := by
  have := bit_xor_le (show r % 2 ≤ 1 by omega) hx
  rw [bitR, bitN_xor, bitN_half, bitN_mul _ _ _ this]
theorem bitN_ones : ∀ i, i < 32 → bitN 4294967295 i = 1 := by decide +kernel
theorem flip_step {r k : Nat} (hk : k < 32) : (4294967295 ^^^ r) / 2 ^ k + bitN r k = 2 * ((4294967295 ^^^ r) / 2 ^ (k + 1)) + 1 := by
  have h := bitN_xor 4294967295 r k
  rw [bitN_ones k hk] at h
  have hb := bitN_le r k
  have e : (4294967295 ^^^ r) / 2 ^ (k + 1) = (4294967295 ^^^ r) / 2 ^ k / 2 := by rw [Nat.pow_succ, Nat.div_div_eq_div_mul]
  rw [e]
  have hq : (4294967295 ^^^ r) / 2 ^ k % 2 = 1 ^^^ bitN r k := h
  have : bitN r k = 0 ∨ bitN r k = 1 := by omega
  rcases this with h0 | h0 <;> rw [h0] at hq ⊢ <;> simp at hq <;> omega

/- the 32 cells -/
def regV (f : Nat → Nat) : List Value := (List.range 32).map fun i => .int .i64 (f i : Nat)
def regAt (W : World) (g : Nat) (f : Nat → Nat) : Prop := W.heap[g]? = some (.cells (regV f).toArray 190 (0, 0))
theorem regV_length (f : Nat → Nat) : (regV f).length = 32 := by simp [regV]
theorem regV_get (f : Nat → Nat) {j : Nat} (h : j < 32) : (regV f)[j]? = some (.int .i64 (f j : Nat)) := by
  simp [regV, List.getElem?_map, List.getElem?_range h]
theorem regV_congr {f f' : Nat → Nat} (h : ∀ j, j < 32 → f j = f' j) : regV f = regV f' := by
  unfold regV
  exact List.map_congr_left fun j hj => by rw [h j (List.mem_range.1 hj)]
theorem regAt.congr {W : World} {g : Nat} {f f' : Nat → Nat} (h : regAt W g f) (he : ∀ j, j < 32 → f j = f' j) : regAt W g f' := by
  unfold regAt at h ⊢; rw [← regV_congr he]; exact h
theorem regAt.cell {W : World} {g : Nat} {f : Nat → Nat} (h : regAt W g f) {j : Nat} (hj : j < 32) : W.cell? ⟨g, j, none⟩ = some (.int .i64 (f j : Nat)) := by
  unfold regAt at h; simp [World.cell?, h, regV_get f hj]
theorem regAt.soft {W : World} {g : Nat} {f : Nat → Nat} (h : regAt W g f) (j : Nat) : W.frozen? ⟨g, j, none⟩ = false := by
  unfold regAt at h; simp [World.frozen?, h]
theorem reg_set_same {w : World} {g j : Nat} {cur : Array Value} {t : TypeId} {fz : Nat × Nat} (v : Value) (h : w.heap[g]? = some (.cells cur t fz)) :
    (w.setCell ⟨g, j, none⟩ v).heap[g]? = some (.cells (cur.setIfInBounds j v) t fz) := by
  obtain ⟨hlt, hk⟩ := Array.getElem?_eq_some_iff.1 h
  show (w.heap.modify g _)[g]? = _
  rw [Array.getElem?_eq_getElem (by rw [Array.size_modify]; exact hlt), Array.getElem_modify_self, hk]
  rfl
theorem regAt.set {W : World} {g : Nat} {f : Nat → Nat} (h : regAt W g f) {j v : Nat} (hj : j < 32) : regAt (W.setCell ⟨g, j, none⟩ (.int .i64 (v : Nat))) g (fun i => if i = j then v else f i) := by
  unfold regAt at h ⊢
  rw [reg_set_same _ h]
  congr 2
  apply Array.ext'
  rw [Array.toList_setIfInBounds]
  apply List.ext_getElem?
  intro i
  rw [List.getElem?_set]
  by_cases hi : i < 32
  · by_cases e : j = i
    · subst e
      rw [regV_get (fun i => if i = j then v else f i) hi, if_pos rfl, if_pos (by simp [regV_length]; omega), if_pos rfl]
    · rw [if_neg e, regV_get _ hi, regV_get (fun i => if i = j then v else f i) hi, if_neg (fun h => e h.symm)]
  · have e1 : ∀ f' : Nat → Nat, (regV f')[i]? = none := fun f' => by rw [List.getElem?_eq_none_iff, regV_length]; omega
    rw [if_neg (by omega), e1, e1]
/-- behind copy(reg[:], reg[1:]) -/
theorem reg_copy {f : Nat → Nat} : regV (fun i => if i < 31 then f (i + 1) else f i) = (regV f).take 0 ++ ((regV f).drop 1) ++ (regV f).drop (0 + ((regV f).drop 1).length) := by
  apply List.ext_getElem?
  intro i
  simp only [List.take_zero, List.nil_append, Nat.zero_add, List.length_drop, regV_length]
  by_cases hi : i < 31
  · rw [regV_get _ (by omega), List.getElem?_append_left (by simp [regV_length]; omega), List.getElem?_drop, if_pos hi, regV_get _ (by omega), Nat.add_comm]
  · rw [List.getElem?_append_right (by simp [regV_length]; omega), List.getElem?_drop, List.length_drop, regV_length]
    by_cases h32 : i < 32
    · obtain rfl : i = 31 := by omega
      rw [regV_get _ (by omega), regV_get _ (by omega)]; rfl
    · have e1 : ∀ f' : Nat → Nat, ∀ i', 32 ≤ i' → (regV f')[i']? = none := fun f' i' h' => by rw [List.getElem?_eq_none_iff, regV_length]; omega
      rw [e1 _ _ (by omega), e1 _ _ (by omega)]
theorem regAt.copied {W : World} {g : Nat} {f : Nat → Nat} (h : regAt W g f) (ty : TypeId) :
    (Builtin.copy_ #[29, 29] ty #[.slice (some ⟨g, 0, none⟩) 32 32, .slice (some ⟨g, 1, none⟩) 31 31]).run Tryz.prog W = .ok (goInt 31) (W.setRow g (regV (fun i => if i < 31 then f (i + 1) else f i)).toArray) := by
  rw [reg_copy]
  have hl : ((regV f).drop 1).length = 31 := by simp [regV_length]
  have := run_copy_row (P := Tryz.prog) W 29 29 ty 3 g 0 32 32 ⟨g, 1, none⟩ 31 31 (regV f).toArray 190 ((regV f).drop 1) Tryz.underlying29 (by kernel_rfl) h (by rw [hl]; rfl)
    (fun j v hv => by
      rw [List.getElem?_drop] at hv
      rw [show (⟨g, 1, none⟩ : Addr).add j = ⟨g, 1 + j, none⟩ from by unfold Addr.add; split <;> simp_all]
      unfold regAt at h
      simp only [World.cell?, h]
      simpa using hv) (by rw [hl]; simp [regV_length]) (fun v hv => by
      obtain ⟨i, _, rfl⟩ := List.mem_map.1 (List.mem_of_mem_drop hv)
      rfl)
  rw [hl] at this ⊢
  exact this
theorem regAt.row {W : World} {g : Nat} {f : Nat → Nat} (h : regAt W g f) (f' : Nat → Nat) : regAt (W.setRow g (regV f').toArray) g f' := setRow_heap W g _ _ _ _ h

theorem rbytes_below (w : World) (e : TypeId) (s : ByteArray) : Below w.heap.size w (Lib.bytesWorld w e s) :=
  ⟨rfl, rfl, rfl, by rw [Lib.bytesWorld_size]; omega, fun k hk => Lib.bytesWorld_at_old w e s k hk⟩
theorem rbytes_cell (w : World) (e : TypeId) (s : ByteArray) (l : List UInt8) (h : s.data.toList = l) (j : Nat) (hj : j < l.length) : (Lib.bytesWorld w e s).cell? ⟨w.heap.size, j, none⟩ = some (.int .u8 (l[j].toNat : Int)) := by
  subst h
  rw [Lib.bytesWorld_cell _ _ _ _ (by rw [Lib.size_eq]; exact hj), List.getD_eq_getElem?_getD, List.getElem?_eq_getElem hj]; rfl

theorem i64_val {a b : Int} (h : a = b) : Value.int .i64 a = .int .i64 b := by rw [h]
theorem and1_u8 {a : Nat} (ha : a < 256) : bits .and .u8 a 1 = ((a % 2 : Nat) : Int) := by
  have h := bits_mask .u8 8 (by decide) wraps_u8 1 (by decide) (a : Int) (by omega) (by omega)
  exact_mod_cast h
theorem and1_i64 {a : Nat} (ha : a < 9223372036854775808) : bits .and .i64 a 1 = ((a % 2 : Nat) : Int) := by
  have h := bits_mask .i64 63 (by decide) wraps63 1 (by decide) (a : Int) (by omega) (by omega)
  exact_mod_cast h
theorem wrap64_nat {a : Nat} (ha : a < 9223372036854775808) : wrap64 a = a := by unfold wrap64; omega
theorem out_bits {x c n : Nat} (hc : c < 256) : bits .xor .i64 ((bitN x 0 : Nat) : Int) (wrap64 (bits .and .u8 ((c : Int) / 2 ^ n) 1)) = ((x % 2 ^^^ bitN c n : Nat) : Int) := by
  have h1 : ((c : Int) / 2 ^ n) = ((c / 2 ^ n : Nat) : Int) := by rw [Int.natCast_ediv, Int.natCast_pow]; rfl
  have h2 : c / 2 ^ n < 256 := Nat.lt_of_le_of_lt (Nat.div_le_self _ _) hc
  have h3 := bitN_le x 0
  have h4 : bitN x 0 = x % 2 := by simp [bitN]
  rw [h1, and1_u8 h2, wrap64_nat (by omega), xor_i64 (by omega) (by omega), h4]
  rfl
theorem cell_bits {f o i : Nat} (hf : f ≤ 1) (ho : o ≤ 1) : bits .xor .i64 (f : Int) (wrap64 (o * bits .and .i64 ((3988292384 : Int) / 2 ^ i) 1)) = ((f ^^^ (o * bitN 3988292384 i) : Nat) : Int) := by
  have h1 : ((3988292384 : Int) / 2 ^ i) = ((3988292384 / 2 ^ i : Nat) : Int) := by rw [Int.natCast_ediv, Int.natCast_pow]; rfl
  have h2 : 3988292384 / 2 ^ i ≤ 3988292384 := Nat.div_le_self _ _
  have h5 := bitN_le 3988292384 i
  have h6 : o * bitN 3988292384 i ≤ 1 * 1 := Nat.mul_le_mul ho h5
  rw [h1, and1_i64 (by omega)]
  rw [show ((o : Int) * ((3988292384 / 2 ^ i % 2 : Nat) : Int)) = ((o * bitN 3988292384 i : Nat) : Int) from by rw [Int.natCast_mul]; rfl, wrap64_nat (by omega)]
  exact xor_i64 (by omega) (by omega)

set_option maxRecDepth 10000 in
set_option maxHeartbeats 1000000 in
theorem rsum_any (l : List UInt8) (w : World) (hl : l.length ≤ 140737488355328) :
    Calls Tryz.prog 128 #[.string ⟨l.toArray⟩] w fun e w' => e = .returned (.int .i64 (sumN l : Nat)) ∧ Below w.heap.size w w' := by
  have hz : (ByteArray.mk l.toArray).size = l.length := Lib.size_eq ⟨l.toArray⟩
  have hconv : ∀ W s, (convert 9 176 (.string s)).run Tryz.prog W = .ok (.slice (some ⟨W.heap.size, 0, none⟩) s.size (grownCap W s.size 0 5)) (Lib.bytesWorld W 5 s) := fun W s =>
    Lib.run_convert_string_bytes W 9 176 5 s Tryz.underlying9 Tryz.underlying176 Tryz.underlying5
  go_enter Tryz.func128, Tryz.ntmps128
  go_wp2
  generalize hW1 : w.alloc (Obj.cells _ 190) = W1
  have hs1 : W1.heap.size = w.heap.size + 1 := by rw [← hW1]; simp
  have HR1 : Hid (regAt W1 w.heap.size (fun _ => 0)) := hide (by
    rw [← hW1]
    show (w.heap.push _)[w.heap.size]? = _
    simp [regV]
    rfl)
  have hB1 : Below w.heap.size w W1 := by rw [← hW1]; exact (Below.refl _ _).alloc (Nat.le_refl _) _
  clear hW1
  go_loopw [12] (fun i wr => ∃ k : Nat, k ≤ 32 ∧ i = .int .i64 k ∧ regAt wr w.heap.size (fun j => if j < k then 1 else 0) ∧ wr.heap.size = w.heap.size + 1 ∧ Below w.heap.size w wr) (fun i _ => 32 - (intOf i).toNat)
  case atStart => exact ⟨0, Nat.zero_le _, rfl, (unhide HR1).congr (fun j _ => by simp), hs1, hB1⟩
  case round =>
    obtain ⟨k, hk, rfl, hr, hsz, hB⟩ := hrel
    have HR := hide hr
    clear hr HR1 hs1 hB1
    by_cases hlt : k < 32
    · have h1 := (unhide HR).cell hlt
      have h2 := (unhide HR).soft k
      go_wp2
      refine ⟨⟨k + 1, by omega, by go_num, ?_, ?_, ?_⟩, by simp [intOf]; omega⟩
      · exact ((unhide HR).set (v := 1) hlt).congr (fun j hj => by by_cases e : j = k <;> by_cases e' : j < k <;> simp [e, e'] <;> omega)
      · simpa [World.setCell] using hsz
      · exact hB.setCell (by show w.heap.size ≤ w.heap.size; exact Nat.le_refl _) _
    · obtain rfl : k = 32 := by omega
      have HR2 : Hid (regAt wr w.heap.size (bitN 4294967295)) := hide ((unhide HR).congr (fun j hj => by rw [if_pos hj, bitN_ones j hj]))
      clear HR
      go_wp2
      generalize hW2 : Lib.bytesWorld wr 5 ⟨l.toArray⟩ = W2
      have hs2 : W2.heap.size = w.heap.size + 2 := by rw [← hW2, Lib.bytesWorld_size]; omega
      have hb2 : Below wr.heap.size wr W2 := by rw [← hW2]; exact rbytes_below _ _ _
      have Hcell : Hid (∀ j (hj : j < l.length), W2.cell? ⟨w.heap.size + 1, j, none⟩ = some (.int .u8 (l[j].toNat : Int))) := hide (fun j hj => by
        rw [← hW2, ← hsz]; exact rbytes_cell wr 5 ⟨l.toArray⟩ l rfl j hj)
      have HR3 : Hid (regAt W2 w.heap.size (bitN 4294967295)) := hide ((hb2.block _ (by omega)).trans (unhide HR2))
      have hB2 : Below w.heap.size w W2 := hB.trans (hb2.mono (by omega))
      clear hW2 hb2 HR2 hB hsz
      go_loopw [21] (fun i wr => ∃ k : Nat, k ≤ l.length ∧ i = .int .i64 k ∧ regAt wr w.heap.size (bitN (crcL (l.take k))) ∧ wr.heap[w.heap.size + 1]? = W2.heap[w.heap.size + 1]? ∧ wr.heap.size = w.heap.size + 2 ∧ Below w.heap.size w wr) (fun i _ => l.length - (intOf i).toNat)
      case atStart => exact ⟨0, Nat.zero_le _, rfl, unhide HR3, rfl, hs2, hB2⟩
      case round =>
        obtain ⟨k, hk, rfl, hr, hblk, hsz, hB⟩ := hrel
        have HR := hide hr
        have HK := hide hblk
        clear hr hblk HR3 hB2
        obtain ⟨r, hr⟩ : ∃ r, crcL (l.take k) = r := ⟨_, rfl⟩
        have hrl : r < 4294967296 := hr ▸ crcL_lt _
        rw [hr] at HR
        have Hr := hide hr
        clear hr
        by_cases hlt : k < l.length
        · have hc : wr.cell? ⟨w.heap.size + 1, k, none⟩ = some (.int .u8 (l[k].toNat : Int)) := (World.cell?_of_block (a := ⟨w.heap.size + 1, k, none⟩) (unhide HK)).trans (unhide Hcell k hlt)
          have Hnext : Hid (crcL (l.take (k + 1)) = bitsR l[k].toNat 8 r) := hide (by rw [List.take_succ_eq_append_getElem hlt, crcL_snoc, bitsR_all, unhide Hr])
          generalize l[k] = c at hc Hnext
          have hcb := c.toNat_lt
          go_wp2
          clear hc
          generalize wr = V at *
          go_loopw [7] (fun i wr => ∃ n : Nat, n ≤ 8 ∧ i = .int .u64 n ∧ regAt wr w.heap.size (bitN (bitsR c.toNat n r)) ∧ wr.heap[w.heap.size + 1]? = W2.heap[w.heap.size + 1]? ∧ wr.heap.size = w.heap.size + 2 ∧ Below w.heap.size w wr) (fun i _ => 8 - (intOf i).toNat)
          case atStart => exact ⟨0, Nat.zero_le _, rfl, unhide HR, unhide HK, hsz, hB⟩
          case round =>
            clear HR HK hsz hB
            obtain ⟨n, hn, rfl, hr, hblk, hsz, hB⟩ := hrel
            have HR := hide hr
            have HK := hide hblk
            clear hr hblk
            have hxl := bitsR_lt (b := c.toNat) hrl n
            have Hs : Hid (bitsR c.toNat (n + 1) r = bitR (bitsR c.toNat n r) (bitN c.toNat n)) := hide rfl
            by_cases h8 : n < 8
            · obtain ⟨x, hx⟩ : ∃ x, bitsR c.toNat n r = x := ⟨_, rfl⟩
              rw [hx] at HR hxl Hs
              clear hx
              have h1 := (unhide HR).cell (show 0 < 32 by decide)
              have hn2 : (n : Int) ≤ 8 := by omega
              go_wp2
              rw [out_bits (by omega)]
              obtain ⟨o, ho⟩ : ∃ o, x % 2 ^^^ bitN c.toNat n = o := ⟨_, rfl⟩
              have hol : o ≤ 1 := ho ▸ bit_xor_le (by omega) (bitN_le _ _)
              have Ho := hide ho
              rw [ho]
              clear ho h1
              have hcopy := regAt.copied (W := wr.drew) (g := w.heap.size) (f := bitN x) (unhide HR)
              go_region
              clear hcopy
              generalize hW3 : wr.drew.setRow w.heap.size (regV fun i => if i < 31 then bitN x (i + 1) else bitN x i).toArray = W3
              have HR3 : Hid (regAt W3 w.heap.size (fun i => if i < 31 then bitN x (i + 1) else bitN x i)) := hide (by
                rw [← hW3]; exact regAt.row (W := wr.drew) (f := bitN x) (unhide HR) _)
              have HK3 : Hid (W3.heap[w.heap.size + 1]? = W2.heap[w.heap.size + 1]?) := hide (by
                rw [← hW3, setRow_other _ _ _ _ (by omega)]; exact unhide HK)
              have hs3 : W3.heap.size = w.heap.size + 2 := by rw [← hW3]; simpa [World.setRow] using hsz
              have hB3 : Below w.heap.size w W3 := by rw [← hW3]; exact below_setRow hB.drew (Nat.le_refl _) _
              clear hW3 HR HK hsz hB
              have h1 := (unhide HR3).cell (show 31 < 32 by decide)
              have h2 := (unhide HR3).soft 31
              go_wp2
              clear h1 h2
              generalize hW4 : W3.setCell ⟨w.heap.size, 31, none⟩ (.int .i64 0) = W4
              have HR4 : Hid (regAt W4 w.heap.size (fun i => bitN x (i + 1))) := hide (by
                rw [← hW4]
                refine ((unhide HR3).set (v := 0) (show 31 < 32 by decide)).congr (fun j hj => ?_)
                by_cases e : j = 31
                · subst e; simp [bitN_top hxl]
                · rw [if_neg e, if_pos (by omega)])
              have HK4 : Hid (W4.heap[w.heap.size + 1]? = W2.heap[w.heap.size + 1]?) := hide (by
                rw [← hW4, Below.heap_setCell _ _ _ _ (by show w.heap.size + 1 ≠ w.heap.size; omega)]; exact unhide HK3)
              have hs4 : W4.heap.size = w.heap.size + 2 := by rw [← hW4]; simpa [World.setCell] using hs3
              have hB4 : Below w.heap.size w W4 := by rw [← hW4]; exact hB3.setCell (by show w.heap.size ≤ w.heap.size; exact Nat.le_refl _) _
              clear hW4 HR3 HK3 hs3 hB3
              generalize wr = V2 at *
              go_loopw [41] (fun i wr => ∃ j : Nat, j ≤ 32 ∧ i = .int .i64 j ∧ regAt wr w.heap.size (fun i => if i < j then bitN x (i + 1) ^^^ (o * bitN 3988292384 i) else bitN x (i + 1)) ∧ wr.heap[w.heap.size + 1]? = W2.heap[w.heap.size + 1]? ∧ wr.heap.size = w.heap.size + 2 ∧ Below w.heap.size w wr) (fun i _ => 32 - (intOf i).toNat)
              case atStart => exact ⟨0, Nat.zero_le _, rfl, (unhide HR4).congr (fun j _ => by simp), unhide HK4, hs4, hB4⟩
              case round =>
                clear HR4 HK4 hs4 hB4
                obtain ⟨j, hj, rfl, hr, hblk, hsz, hB⟩ := hrel
                have HR := hide hr
                have HK := hide hblk
                clear hr hblk
                by_cases hj2 : j < 32
                · have h1 := (unhide HR).cell hj2
                  have h2 := (unhide HR).soft j
                  simp only [Nat.lt_irrefl, if_false] at h1
                  have hle := bitN_le x (j + 1)
                  obtain ⟨y, hy⟩ : ∃ y, bitN x (j + 1) = y := ⟨_, rfl⟩
                  rw [hy] at h1 hle
                  have Hy := hide hy
                  clear hy
                  have hj3 : (j : Int) ≤ 64 := by omega
                  go_wp2
                  rw [cell_bits hle hol]
                  refine ⟨⟨j + 1, by omega, by go_num, ?_, ?_, ?_, ?_⟩, by simp [intOf]; omega⟩
                  · refine ((unhide HR).set hj2).congr (fun i hi => ?_)
                    by_cases e : i = j
                    · subst e; rw [if_pos rfl, if_pos (by omega), unhide Hy]
                    · rw [if_neg e]
                      by_cases e' : i < j
                      · rw [if_pos e', if_pos (by omega)]
                      · rw [if_neg e', if_neg (by omega)]
                  · rw [Below.heap_setCell _ _ _ _ (by show w.heap.size + 1 ≠ w.heap.size; omega)]; exact unhide HK
                  · simpa [World.setCell] using hsz
                  · exact hB.setCell (by show w.heap.size ≤ w.heap.size; exact Nat.le_refl _) _
                · obtain rfl : j = 32 := by omega
                  have hfin : regAt wr w.heap.size (bitN (bitsR c.toNat (n + 1) r)) := (unhide HR).congr (fun i hi => by
                    rw [if_pos hi, unhide Hs, bitN_bitR (bitN_le _ _), unhide Ho])
                  have HF := hide hfin
                  clear hfin HR
                  go_wp2
                  exact ⟨⟨n + 1, by omega, by go_num, unhide HF, unhide HK, hsz, hB⟩, by simp [intOf]; omega⟩
            · obtain rfl : n = 8 := by omega
              have Hn' := hide (unhide Hnext)
              go_wp2
              exact ⟨⟨k + 1, by omega, by go_num, by rw [unhide Hn']; exact unhide HR, unhide HK, hsz, hB⟩, by simp [intOf]; omega⟩
        · obtain rfl : k = l.length := by omega
          rw [List.take_length] at Hr
          clear HK Hcell hs2 hlt hk
          go_wp2
          go_loop [10, 11] (fun n i => ∃ j : Nat, j ≤ 32 ∧ i = .int .i64 ((j : Int) - 1) ∧ n = .int .i64 ((4294967295 ^^^ r) / 2 ^ j : Nat)) (fun _ i => (intOf i + 1).toNat)
          case atStart => exact ⟨32, by omega, rfl, by rw [Nat.div_eq_of_lt (by have := xor_lt32 (show 4294967295 < 4294967296 by decide) hrl; omega)]; rfl⟩
          case round =>
            obtain ⟨j, hj, rfl, rfl⟩ := hrel
            by_cases hj0 : j = 0
            · subst hj0
              have hfin : (4294967295 ^^^ r) / 2 ^ 0 = sumN l := by rw [sumN, unhide Hr]; simp
              rw [hfin]
              clear hfin
              go_wp2
              go_ret
              exact ⟨rfl, hB⟩
            · obtain ⟨i, rfl⟩ : ∃ i, j = i + 1 := ⟨j - 1, by omega⟩
              have hst := flip_step (r := r) (k := i) (by omega)
              have hcl := (unhide HR).cell (show i < 32 by omega)
              have hle := bitN_le r i
              have hlt : (4294967295 ^^^ r) / 2 ^ (i + 1) < 4294967296 := Nat.lt_of_le_of_lt (Nat.div_le_self _ _) (xor_lt32 (by decide) hrl)
              obtain ⟨a, ha⟩ : ∃ a, (4294967295 ^^^ r) / 2 ^ (i + 1) = a := ⟨_, rfl⟩
              obtain ⟨y, hy⟩ : ∃ y, bitN r i = y := ⟨_, rfl⟩
              rw [ha] at hst hlt ⊢
              rw [hy] at hst hcl hle
              have Hst := hide hst
              clear ha hy hst
              rw [show ((i + 1 : Nat) : Int) - 1 = (i : Int) from by omega]
              go_wp2
              have hst := unhide Hst
              exact ⟨⟨i, by omega, rfl, i64_val (by omega)⟩, by simp only [intOf]; omega⟩

end Go.Proofs.YthkggmmalffcdaaGreatDoor

namespace Go.Proofs.YthkggmmalffcdaaGreatDoor
open Go.RowKit

theorem rnum_in (n : Int) (k : Nat) (w : World) (h0 : 0 ≤ n) (hn : n < 9223372036854775808) (hk : k ≤ 8) (d : Nat) (os : Array Obj) :
    Calls Tryz.prog 127 #[.int .i64 n, .int .i64 k] (Sort.grow (redrawn w d) os) fun e w'' => e = .returned (.string ⟨(be k n.toNat).toArray⟩) ∧ ∃ p : Regrown, w'' = Sort.grow (redrawn w p.d) p.os := by
  have h := bytesOf_any n.toNat k (Sort.grow (redrawn w d) os) (by omega) hk
  rw [Int.toNat_of_nonneg h0] at h
  exact Calls.regrown_of h

set_option maxRecDepth 10000 in
set_option maxHeartbeats 1000000 in
theorem rencode_no (t : WTxn) (w : World) (hzb : t.z ≤ 9223372036854775807) (hp : t.p.length ≤ 1048576) (hd : t.d.length ≤ 140737488355328) (h : gdE t ≠ 0) :
    Calls Tryz.prog 76 #[txnV t] w fun e w' => e = .returned (.tuple #[.string ⟨#[]⟩, .int .i64 (gdE t)]) ∧ Below w.heap.size w w' := by
  obtain ⟨E, hE⟩ : ∃ E, gdE t = E := ⟨_, rfl⟩
  have hne : (E == 0) = false := by rw [← hE]; simpa using h
  have hne' : (E != 0) = true := by simp [bne, hne]
  have HE := hide hE
  rw [hE]
  clear hE h
  obtain ⟨z, o, s, p, d, v, u⟩ := t
  unfold txnV
  go_enter Tryz.func76, Tryz.ntmps76
  go_wp2_with fail
  refine (rgd_any ⟨z, o, s, p, d, v, u⟩ _ hzb hp hd).mono ?_
  rintro e w1 ⟨rfl, hb1⟩
  have hbz := box_then hb1
  rw [unhide HE]
  go_wp2_with fail
  go_ret2
  exact ⟨rfl, hbz⟩

set_option maxRecDepth 100000 in
set_option maxHeartbeats 2000000 in
theorem rencode_yes (t : WTxn) (w : World) (ht : gdE t = 0) :
    Calls Tryz.prog 76 #[txnV t] w fun e w' => e = .returned (.tuple #[.string ⟨(recL t).toArray⟩, .int .i64 0]) ∧ Below w.heap.size w w' := by
  have H := hide ht
  obtain ⟨hz, ho, hs, hv, hu, hp, hd⟩ := gd_bounds ht
  have hbl := gd_body_le ht
  clear ht
  obtain ⟨bb, hbb⟩ : ∃ b, bodyL t = b := ⟨_, rfl⟩
  have Hb := hide hbb
  rw [hbb] at hbl
  clear hbb
  obtain ⟨z, o, s, p, d, v, u⟩ := t
  unfold txnV
  simp only at hz ho hs hv hu hp hd
  have hzp : (ByteArray.mk p.toArray).size = p.length := Lib.size_eq ⟨p.toArray⟩
  have hzd : (ByteArray.mk d.toArray).size = d.length := Lib.size_eq ⟨d.toArray⟩
  go_enter Tryz.func76, Tryz.ntmps76
  go_wp2_with fail
  refine (rgd_any ⟨z, o, s, p, d, v, u⟩ _ (by show z ≤ _; omega) (by show p.length ≤ _; omega) (by show d.length ≤ _; omega)).mono ?_
  rintro e W ⟨rfl, hb1⟩
  have hB := box_then hb1
  have hW : W.heap[w.heap.size]? = some (.cells #[.int .i64 z, .int .i64 o, .int .i64 s, .string ⟨p.toArray⟩, .string ⟨d.toArray⟩, .int .i64 v, .int .i64 u] 48) :=
    (hb1.block _ (by simp)).trans (by show (w.heap.push _)[w.heap.size]? = _; simp)
  rw [unhide H]
  go_wp2_with fail
  have k0 : ∀ d' os, (Sort.grow (redrawn W d') os).cell? ⟨w.heap.size, 0, none⟩ = some (.int .i64 z) := fun d' os => cell_regrown (by simp [World.cell?, hW]) d' os
  have k1 : ∀ d' os, (Sort.grow (redrawn W d') os).cell? ⟨w.heap.size, 1, none⟩ = some (.int .i64 o) := fun d' os => cell_regrown (by simp [World.cell?, hW]) d' os
  have k2 : ∀ d' os, (Sort.grow (redrawn W d') os).cell? ⟨w.heap.size, 2, none⟩ = some (.int .i64 s) := fun d' os => cell_regrown (by simp [World.cell?, hW]) d' os
  have k3 : ∀ d' os, (Sort.grow (redrawn W d') os).cell? ⟨w.heap.size, 3, none⟩ = some (.string ⟨p.toArray⟩) := fun d' os => cell_regrown (by simp [World.cell?, hW]) d' os
  have k4 : ∀ d' os, (Sort.grow (redrawn W d') os).cell? ⟨w.heap.size, 4, none⟩ = some (.string ⟨d.toArray⟩) := fun d' os => cell_regrown (by simp [World.cell?, hW]) d' os
  have k5 : ∀ d' os, (Sort.grow (redrawn W d') os).cell? ⟨w.heap.size, 5, none⟩ = some (.int .i64 v) := fun d' os => cell_regrown (by simp [World.cell?, hW]) d' os
  have k6 : ∀ d' os, (Sort.grow (redrawn W d') os).cell? ⟨w.heap.size, 6, none⟩ = some (.int .i64 u) := fun d' os => cell_regrown (by simp [World.cell?, hW]) d' os
  clear hW hb1
  have c0 : ∀ d' os, Calls Tryz.prog 127 #[.int .i64 z, .int .i64 8] (Sort.grow (redrawn W d') os) fun e w'' => e = .returned (.string ⟨(be 8 z.toNat).toArray⟩) ∧ ∃ p : Regrown, w'' = Sort.grow (redrawn W p.d) p.os := rnum_in z 8 W (by omega) (by omega) (by omega)
  have c1 : ∀ d' os, Calls Tryz.prog 127 #[.int .i64 o, .int .i64 1] (Sort.grow (redrawn W d') os) fun e w'' => e = .returned (.string ⟨(be 1 o.toNat).toArray⟩) ∧ ∃ p : Regrown, w'' = Sort.grow (redrawn W p.d) p.os := rnum_in o 1 W (by omega) (by omega) (by omega)
  have c2 : ∀ d' os, Calls Tryz.prog 127 #[.int .i64 s, .int .i64 4] (Sort.grow (redrawn W d') os) fun e w'' => e = .returned (.string ⟨(be 4 s.toNat).toArray⟩) ∧ ∃ p : Regrown, w'' = Sort.grow (redrawn W p.d) p.os := rnum_in s 4 W (by omega) (by omega) (by omega)
  have c3 : ∀ d' os, Calls Tryz.prog 127 #[.int .i64 v, .int .i64 4] (Sort.grow (redrawn W d') os) fun e w'' => e = .returned (.string ⟨(be 4 v.toNat).toArray⟩) ∧ ∃ p : Regrown, w'' = Sort.grow (redrawn W p.d) p.os := rnum_in v 4 W (by omega) (by omega) (by omega)
  have c4 : ∀ d' os, Calls Tryz.prog 127 #[.int .i64 u, .int .i64 4] (Sort.grow (redrawn W d') os) fun e w'' => e = .returned (.string ⟨(be 4 u.toNat).toArray⟩) ∧ ∃ p : Regrown, w'' = Sort.grow (redrawn W p.d) p.os := rnum_in u 4 W (by omega) (by omega) (by omega)
  have c5 : ∀ d' os, Calls Tryz.prog 127 #[.int .i64 (p.length : Nat), .int .i64 1] (Sort.grow (redrawn W d') os) fun e w'' => e = .returned (.string ⟨(be 1 p.length).toArray⟩) ∧ ∃ p : Regrown, w'' = Sort.grow (redrawn W p.d) p.os := rnum_in p.length 1 W (by omega) (by omega) (by omega)
  have c6 : ∀ d' os, Calls Tryz.prog 127 #[.int .i64 (d.length : Nat), .int .i64 2] (Sort.grow (redrawn W d') os) fun e w'' => e = .returned (.string ⟨(be 2 d.length).toArray⟩) ∧ ∃ p : Regrown, w'' = Sort.grow (redrawn W p.d) p.os := rnum_in d.length 2 W (by omega) (by omega) (by omega)
  have l0 := be_length 8 z.toNat
  have l1 := be_length 1 o.toNat
  have l2 := be_length 4 s.toNat
  have l3 := be_length 4 v.toNat
  have l4 := be_length 4 u.toNat
  have l5 := be_length 1 p.length
  have l6 := be_length 2 d.length
  obtain ⟨b0, e0⟩ : ∃ b, be 8 z.toNat = b := ⟨_, rfl⟩
  rw [e0] at c0 l0
  have E0 := hide e0
  clear e0
  obtain ⟨b1, e1⟩ : ∃ b, be 1 o.toNat = b := ⟨_, rfl⟩
  rw [e1] at c1 l1
  have E1 := hide e1
  clear e1
  obtain ⟨b2, e2⟩ : ∃ b, be 4 s.toNat = b := ⟨_, rfl⟩
  rw [e2] at c2 l2
  have E2 := hide e2
  clear e2
  obtain ⟨b3, e3⟩ : ∃ b, be 4 v.toNat = b := ⟨_, rfl⟩
  rw [e3] at c3 l3
  have E3 := hide e3
  clear e3
  obtain ⟨b4, e4⟩ : ∃ b, be 4 u.toNat = b := ⟨_, rfl⟩
  rw [e4] at c4 l4
  have E4 := hide e4
  clear e4
  obtain ⟨b5, e5⟩ : ∃ b, be 1 p.length = b := ⟨_, rfl⟩
  rw [e5] at c5 l5
  have E5 := hide e5
  clear e5
  obtain ⟨b6, e6⟩ : ∃ b, be 2 d.length = b := ⟨_, rfl⟩
  rw [e6] at c6 l6
  have E6 := hide e6
  clear e6
  refine wp_region_quiet_below (by kernel_rfl) (by kernel_rfl) ?_
  repeat (first | go_big_quiet_step (first | with_reducible exact c0 _ _ | with_reducible exact c1 _ _ | with_reducible exact c2 _ _ | with_reducible exact c3 _ _ | with_reducible exact c4 _ _ | with_reducible exact c5 _ _ | with_reducible exact c6 _ _) | quiet_step (first | with_reducible exact c0 _ _ | with_reducible exact c1 _ _ | with_reducible exact c2 _ _ | with_reducible exact c3 _ _ | with_reducible exact c4 _ _ | with_reducible exact c5 _ _ | with_reducible exact c6 _ _))
  refine wpQuiet_nil ?_
  intro _ hw'
  obtain ⟨⟨dq, osq⟩, hw''⟩ := hw'
  subst hw''
  have hb2 : Below w.heap.size w (Sort.grow (redrawn W dq) osq) := below_next hB (below_regrown W dq osq)
  clear c0 c1 c2 c3 c4 c5 c6 k0 k1 k2 k3 k4 k5 k6
  have hcat : (ByteArray.mk b0.toArray ++ ByteArray.mk b1.toArray ++ ByteArray.mk b2.toArray ++ ByteArray.mk b3.toArray ++ ByteArray.mk b4.toArray ++ ByteArray.mk b5.toArray ++ ByteArray.mk p.toArray ++ ByteArray.mk b6.toArray ++ ByteArray.mk d.toArray) = ⟨bb.toArray⟩ := by
    rw [cat_one, cat_one, cat_one, cat_one, cat_one, cat_one, cat_one, cat_one, ← unhide Hb]
    simp only [List.append_assoc, bodyL]
    rw [unhide E0, unhide E1, unhide E2, unhide E3, unhide E4, unhide E5, unhide E6]
  rw [hcat]
  clear hcat E0 E1 E2 E3 E4 E5 E6 l0 l1 l2 l3 l4 l5 l6 hB
  have hzb : (ByteArray.mk bb.toArray).size = bb.length := Lib.size_eq ⟨bb.toArray⟩
  go_wp2_with fail
  refine (bytesOf_any bb.length 2 _ (by omega) (by omega)).mono ?_
  rintro e w3 ⟨rfl, hb3⟩
  replace hb3 := below_next hb2 hb3
  clear hb2
  have l2 := be_length 2 bb.length
  obtain ⟨n2, e2⟩ : ∃ n2, be 2 bb.length = n2 := ⟨_, rfl⟩
  rw [e2] at l2 ⊢
  have E2 := hide e2
  clear e2
  go_wp2_with fail
  have hF : (ByteArray.mk #[84] ++ ByteArray.mk n2.toArray ++ ByteArray.mk bb.toArray) = ⟨(frontL bb).toArray⟩ := by
    rw [show (ByteArray.mk #[84]) = ⟨[(84 : UInt8)].toArray⟩ from rfl, cat_one, cat_one, frontL, unhide E2]
    rfl
  rw [hF]
  have lF := frontL_length bb
  obtain ⟨F, eF⟩ : ∃ F, frontL bb = F := ⟨_, rfl⟩
  rw [eF] at lF ⊢
  have EF := hide eF
  clear eF hF
  have hzF : (ByteArray.mk F.toArray).size = F.length := Lib.size_eq ⟨F.toArray⟩
  refine (rsum_any F _ (by omega)).mono ?_
  rintro e w4 ⟨rfl, hb4⟩
  replace hb4 := below_next hb3 hb4
  clear hb3
  have hsl := sumN_lt F
  obtain ⟨X, hX⟩ : ∃ X, sumN F = X := ⟨_, rfl⟩
  rw [hX] at hsl ⊢
  have HX := hide hX
  clear hX
  go_wp2_with fail
  refine (bytesOf_any X 4 _ (by omega) (by omega)).mono ?_
  rintro e w5 ⟨rfl, hb5⟩
  replace hb5 := below_next hb4 hb5
  clear hb4
  have l4 := be_length 4 X
  obtain ⟨n4, e4⟩ : ∃ n4, be 4 X = n4 := ⟨_, rfl⟩
  rw [e4] at l4 ⊢
  have E4 := hide e4
  clear e4
  go_wp2_with fail
  go_ret2
  refine ⟨ret_strI ?_ rfl, hb5⟩
  rw [cat_one, recL, unhide Hb, unhide EF, unhide HX, unhide E4]

end Go.Proofs.YthkggmmalffcdaaGreatDoor

namespace Go.Proofs.YthkggmmalffcdaaGreatDoor
open Go.RowKit

set_option maxRecDepth 10000 in
set_option maxHeartbeats 1000000 in
theorem rapp_no (fs : List DF) (t : WTxn) (safe : Bool) (hg : gdE t ≠ 0) (hzb : t.z ≤ 9223372036854775807) (hp : t.p.length ≤ 1048576) (hd : t.d.length ≤ 140737488355328) : GivesD 84 (fun x => #[x, txnV t, .bool safe]) fs [] (gdE t) := by
  refine dgives_no fun v w hv => ?_
  have C := fun W => rencode_no t W hzb hp hd hg
  have hne : (gdE t != 0) = true := by simpa using hg
  generalize gdE t = E at *
  obtain ⟨a, n, c, rfl⟩ := disk_slice hv
  obtain ⟨z, o, s, p, d, y, u⟩ := t
  unfold txnV at C ⊢
  clear hv hg hd hzb hp
  go_enter Tryz.func84, Tryz.ntmps84
  go_wp2_with fail
  have X := hide (ABox.start w (.slice a n c) (.cells #[.int .i64 z, .int .i64 o, .int .i64 s, .string ⟨p.toArray⟩, .string ⟨d.toArray⟩, .int .i64 y, .int .i64 u] 48))
  generalize ((w.alloc (.cells #[.slice a n c] 24)).alloc (.cells #[.int .i64 z, .int .i64 o, .int .i64 s, .string ⟨p.toArray⟩, .string ⟨d.toArray⟩, .int .i64 y, .int .i64 u] 48)).alloc (.cells #[.slice none 0 0] 24) = W0 at *
  refine (C _).mono ?_
  rintro e w1 ⟨rfl, hb1⟩
  have X1 := (unhide X).next hb1
  have cr := X1.r.c
  have fr := X1.r.f
  have HB := hide (X1.below.setCell (p := ⟨w.heap.size + 1 + 1, 0, none⟩) (by show w.heap.size ≤ w.heap.size + 1 + 1; omega) (.slice none 0 0))
  clear hb1 X C X1
  go_wp2_with fail
  exact bodyPost_ret (v := .tuple #[.agg #[.slice none 0 0], .int .i64 E]) (by simp [results, Tryz.results84, go_sem, cr]) rfl ⟨rfl, unhide HB⟩

set_option maxRecDepth 10000 in
set_option maxHeartbeats 1000000 in
theorem rapp_err (fs d1 : List DF) (t : WTxn) (safe : Bool) (E : Int) (hg : gdE t = 0) (W1 : GivesD 81 (fun x => #[x, .string ⟨logN.toArray⟩, .string ⟨(recL t).toArray⟩]) fs d1 E) (hE : E ≠ 0) : GivesD 84 (fun x => #[x, txnV t, .bool safe]) fs d1 E := by
  intro v w hv
  have C := fun W => rencode_yes t W hg
  have CW := fun W (h : Below w.heap.size w W) => W1 v W (hv.next h)
  have hne : (E != 0) = true := by simpa using hE
  simp only [show logN.toArray = #[108, 111, 103] from rfl] at CW
  generalize recL t = rb at *
  obtain ⟨a, n, c, rfl⟩ := disk_slice hv
  obtain ⟨z, o, s, p, d, y, u⟩ := t
  unfold txnV at C ⊢
  clear hv hg W1 hE
  go_enter Tryz.func84, Tryz.ntmps84
  go_wp2_with fail
  have X := hide (ABox.start w (.slice a n c) (.cells #[.int .i64 z, .int .i64 o, .int .i64 s, .string ⟨p.toArray⟩, .string ⟨d.toArray⟩, .int .i64 y, .int .i64 u] 48))
  generalize ((w.alloc (.cells #[.slice a n c] 24)).alloc (.cells #[.int .i64 z, .int .i64 o, .int .i64 s, .string ⟨p.toArray⟩, .string ⟨d.toArray⟩, .int .i64 y, .int .i64 u] 48)).alloc (.cells #[.slice none 0 0] 24) = W0 at *
  refine (C _).mono ?_
  rintro e w1 ⟨rfl, hb1⟩
  have X1 := (unhide X).next hb1
  have cd := X1.d.c
  have HX1 := hide X1
  clear hb1 X C X1
  go_wp2_with fail
  refine (CW _ (unhide HX1).below).mono ?_
  rintro e w2 ⟨a2, n2, c2, rfl, HD2, hb2⟩
  have X1b := (unhide HX1).next hb2
  have cd2 := X1b.d.c
  have fd2 := X1b.d.f
  have X2 := X1b.setd (.slice a2 n2 c2)
  have HD3 := hide (disk_box (unhide HD2) X1b.d (.slice a2 n2 c2))
  have cr2 := X2.r.c
  have fr2 := X2.r.f
  have ce2 := X2.d.c
  have HF := hide (And.intro (X2.below.setCell (p := ⟨w.heap.size + 1 + 1, 0, none⟩) (by show w.heap.size ≤ w.heap.size + 1 + 1; omega) (.slice a2 n2 c2)) (disk_box (unhide HD3) X2.r (.slice a2 n2 c2)))
  clear hb2 X2 X1b HX1 HD2 CW cd
  go_wp2_with fail
  exact bodyPost_ret (v := .tuple #[.agg #[.slice a2 n2 c2], .int .i64 E]) (by simp [results, Tryz.results84, go_sem, cr2]) rfl ⟨_, _, _, rfl, hide (unhide HF).2, (unhide HF).1⟩

set_option maxRecDepth 10000 in
set_option maxHeartbeats 1000000 in
theorem rapp_soft (fs d1 : List DF) (t : WTxn) (hg : gdE t = 0) (W1 : GivesD 81 (fun x => #[x, .string ⟨logN.toArray⟩, .string ⟨(recL t).toArray⟩]) fs d1 0) : GivesD 84 (fun x => #[x, txnV t, .bool false]) fs d1 0 := by
  intro v w hv
  have C := fun W => rencode_yes t W hg
  have CW := fun W (h : Below w.heap.size w W) => W1 v W (hv.next h)
  simp only [show logN.toArray = #[108, 111, 103] from rfl] at CW
  generalize recL t = rb at *
  obtain ⟨a, n, c, rfl⟩ := disk_slice hv
  obtain ⟨z, o, s, p, d, y, u⟩ := t
  unfold txnV at C ⊢
  clear hv hg W1
  go_enter Tryz.func84, Tryz.ntmps84
  go_wp2_with fail
  have X := hide (ABox.start w (.slice a n c) (.cells #[.int .i64 z, .int .i64 o, .int .i64 s, .string ⟨p.toArray⟩, .string ⟨d.toArray⟩, .int .i64 y, .int .i64 u] 48))
  generalize ((w.alloc (.cells #[.slice a n c] 24)).alloc (.cells #[.int .i64 z, .int .i64 o, .int .i64 s, .string ⟨p.toArray⟩, .string ⟨d.toArray⟩, .int .i64 y, .int .i64 u] 48)).alloc (.cells #[.slice none 0 0] 24) = W0 at *
  refine (C _).mono ?_
  rintro e w1 ⟨rfl, hb1⟩
  have X1 := (unhide X).next hb1
  have cd := X1.d.c
  have HX1 := hide X1
  clear hb1 X C X1
  go_wp2_with fail
  refine (CW _ (unhide HX1).below).mono ?_
  rintro e w2 ⟨a2, n2, c2, rfl, HD2, hb2⟩
  have X1b := (unhide HX1).next hb2
  have cd2 := X1b.d.c
  have fd2 := X1b.d.f
  have X2 := X1b.setd (.slice a2 n2 c2)
  have HD3 := hide (disk_box (unhide HD2) X1b.d (.slice a2 n2 c2))
  have cr2 := X2.r.c
  have fr2 := X2.r.f
  have ce2 := X2.d.c
  have HF := hide (And.intro (X2.below.setCell (p := ⟨w.heap.size + 1 + 1, 0, none⟩) (by show w.heap.size ≤ w.heap.size + 1 + 1; omega) (.slice a2 n2 c2)) (disk_box (unhide HD3) X2.r (.slice a2 n2 c2)))
  clear hb2 X2 X1b HX1 HD2 CW cd
  go_wp2_with fail
  exact bodyPost_ret (v := .tuple #[.agg #[.slice a2 n2 c2], .int .i64 0]) (by simp [results, Tryz.results84, go_sem, cr2]) rfl ⟨_, _, _, rfl, hide (unhide HF).2, (unhide HF).1⟩

set_option maxRecDepth 10000 in
set_option maxHeartbeats 1000000 in
theorem rapp_safe (fs d1 d2 : List DF) (t : WTxn) (E2 : Int) (hg : gdE t = 0) (W1 : GivesD 81 (fun x => #[x, .string ⟨logN.toArray⟩, .string ⟨(recL t).toArray⟩]) fs d1 0) (S1 : GivesD 82 (fun x => #[x, .string ⟨logN.toArray⟩]) d1 d2 E2) : GivesD 84 (fun x => #[x, txnV t, .bool true]) fs d2 E2 := by
  intro v w hv
  have C := fun W => rencode_yes t W hg
  have CW := fun W (h : Below w.heap.size w W) => W1 v W (hv.next h)
  have HCS := hide S1
  simp only [show logN.toArray = #[108, 111, 103] from rfl] at CW
  generalize recL t = rb at *
  simp only [show logN.toArray = #[108, 111, 103] from rfl] at HCS
  obtain ⟨a, n, c, rfl⟩ := disk_slice hv
  obtain ⟨z, o, s, p, d, y, u⟩ := t
  unfold txnV at C ⊢
  clear hv hg W1 S1
  go_enter Tryz.func84, Tryz.ntmps84
  go_wp2_with fail
  have X := hide (ABox.start w (.slice a n c) (.cells #[.int .i64 z, .int .i64 o, .int .i64 s, .string ⟨p.toArray⟩, .string ⟨d.toArray⟩, .int .i64 y, .int .i64 u] 48))
  generalize ((w.alloc (.cells #[.slice a n c] 24)).alloc (.cells #[.int .i64 z, .int .i64 o, .int .i64 s, .string ⟨p.toArray⟩, .string ⟨d.toArray⟩, .int .i64 y, .int .i64 u] 48)).alloc (.cells #[.slice none 0 0] 24) = W0 at *
  refine (C _).mono ?_
  rintro e w1 ⟨rfl, hb1⟩
  have X1 := (unhide X).next hb1
  have cd := X1.d.c
  have HX1 := hide X1
  clear hb1 X C X1
  go_wp2_with fail
  refine (CW _ (unhide HX1).below).mono ?_
  rintro e w2 ⟨a2, n2, c2, rfl, HD2, hb2⟩
  have X1b := (unhide HX1).next hb2
  have cd2 := X1b.d.c
  have fd2 := X1b.d.f
  have X2 := X1b.setd (.slice a2 n2 c2)
  have HD3 := hide (disk_box (unhide HD2) X1b.d (.slice a2 n2 c2))
  have cr2 := X2.r.c
  have fr2 := X2.r.f
  have ce2 := X2.d.c
  have HX2 := hide X2
  clear hb2 X2 X1b HX1 HD2 CW cd
  go_wp2_with fail
  refine (unhide HCS _ _ (unhide HD3)).mono ?_
  rintro e w4 ⟨a4, n4, c4, rfl, HD4, hb4⟩
  have X4 := (unhide HX2).next hb4
  have cr4 := X4.r.c
  have fr4 := X4.r.f
  have HF := hide (And.intro (X4.below.setCell (p := ⟨w.heap.size + 1 + 1, 0, none⟩) (by show w.heap.size ≤ w.heap.size + 1 + 1; omega) (.slice a4 n4 c4)) (disk_box (unhide HD4) X4.r (.slice a4 n4 c4)))
  clear hb4 X4 HX2 HD3 HD4 HCS
  go_wp2_with fail
  exact bodyPost_ret (v := .tuple #[.agg #[.slice a4 n4 c4], .int .i64 E2]) (by simp [results, Tryz.results84, go_sem, cr4]) rfl ⟨_, _, _, rfl, hide (unhide HF).2, (unhide HF).1⟩
end Go.Proofs.YthkggmmalffcdaaGreatDoor

namespace Go.Proofs.YthkggmmalffcdaaGreatDoor
open Go.RowKit

theorem log_len {w : World} {v : Value} {ts : List WTxn} (hv : LogV w v ts) : (∃ a c, v = .slice a 0 c ∧ ts = []) ∨ ∃ b off c, v = .slice (some ⟨b, off, none⟩) ts.length c ∧ b < w.heap.size ∧ RowAt w b off (cellsT ts) ∧ ts ≠ [] := by
  rcases hv with ⟨a, cap, rfl, rfl, _⟩ | ⟨b, off, cap, rfl, _, _, hb, h0, hr⟩
  · exact .inl ⟨a, cap, rfl, rfl⟩
  · exact .inr ⟨b, off, cap, rfl, hb, hr, h0⟩

set_option maxRecDepth 10000 in
set_option maxHeartbeats 400000 in
theorem rsl_none (a a' : Option Addr) (c c' : Nat) (w : World) :
    Calls Tryz.prog 62 #[.slice a 0 c, .slice a' 0 c'] w fun e w' => e = .returned (.bool true) ∧ Below w.heap.size w w' := by
  go_enter Tryz.func62, Tryz.ntmps62
  go_wp2_with fail
  go_loopg [13] 1 (fun _ s wr => s = .int .i64 0 ∧ wr = w)
  case atStart => exact ⟨rfl, rfl⟩
  case round =>
    obtain ⟨rfl, rfl⟩ := hrel
    go_wp2_with fail
    go_ret
    exact ⟨rfl, Below.refl _ _⟩

set_option maxRecDepth 10000 in
set_option maxHeartbeats 1000000 in
theorem rsl_some (b off c b' off' c' : Nat) (ts : List WTxn) (w : World) (hl : ts.length ≤ 1000000) (hr : RowAt w b off (cellsT ts)) (hr' : RowAt w b' off' (cellsT ts)) :
    Calls Tryz.prog 62 #[.slice (some ⟨b, off, none⟩) ts.length c, .slice (some ⟨b', off', none⟩) ts.length c'] w fun e w' => e = .returned (.bool true) ∧ Below w.heap.size w w' := by
  have HR := hide hr
  have HR' := hide hr'
  clear hr hr'
  go_enter Tryz.func62, Tryz.ntmps62
  go_wp2_with fail
  go_loopg [13] ts.length (fun kx s wr => ∃ (k : Nat) (q : Nat), s = .int .i64 k ∧ k ≤ ts.length ∧ ts.length - k ≤ kx ∧ wr = w.drewN q)
  case atStart => exact ⟨0, 0, rfl, Nat.zero_le _, by omega, rfl⟩
  case round =>
    obtain ⟨k, q, rfl, hk, hkx, rfl⟩ := hrel
    by_cases hlt : k < ts.length
    · obtain ⟨t, ht⟩ : ∃ t, ts[k]? = some t := ⟨_, List.getElem?_eq_getElem hlt⟩
      have r := unhide HR
      have e0 := r.z ht
      have e1 := r.o ht
      have e2 := r.s ht
      have e3 := r.p ht
      have e4 := r.d ht
      have e5 := r.v ht
      have e6 := r.w ht
      have r' := unhide HR'
      have e0' := r'.z ht
      have e1' := r'.o ht
      have e2' := r'.s ht
      have e3' := r'.p ht
      have e4' := r'.d ht
      have e5' := r'.v ht
      have e6' := r'.w ht
      have hlti : (k : Int) < (ts.length : Int) := by omega
      clear r r' ht
      go_wp2_with fail
      go_region
      go_wp2_with fail
      go_roundg (ts.length - (k + 1))
      case measure => omega
      case rel => exact ⟨k + 1, q + 1, rfl, by omega, Nat.le_refl _, rfl⟩
    · have hki : ¬ ((k : Int) < (ts.length : Int)) := by omega
      go_wp2_with fail
      go_ret
      exact ⟨rfl, ⟨rfl, rfl, rfl, Nat.le_refl _, fun _ _ => rfl⟩⟩

theorem rsl_any (v v' : Value) (ts : List WTxn) (w : World) (hl : ts.length ≤ 1000000) (hv : LogV w v ts) (hv' : LogV w v' ts) :
    Calls Tryz.prog 62 #[v, v'] w fun e w' => e = .returned (.bool true) ∧ Below w.heap.size w w' := by
  rcases log_len hv with ⟨a, c, rfl, h0⟩ | ⟨b, off, c, rfl, hb, hr, h0⟩
  · rcases log_len hv' with ⟨a', c', rfl, _⟩ | ⟨b', off', c', rfl, hb', hr', h0'⟩
    · exact rsl_none a a' c c' w
    · exact absurd h0 h0'
  · rcases log_len hv' with ⟨a', c', rfl, h0'⟩ | ⟨b', off', c', rfl, hb', hr', h0'⟩
    · exact absurd h0' h0
    · exact rsl_some b off c b' off' c' ts w hl hr hr'
end Go.Proofs.YthkggmmalffcdaaGreatDoor

namespace Go.Proofs.YthkggmmalffcdaaGreatDoor
open Go.RowKit

/-- a tree's box, and a node's for the answer -/
structure GB (w W : World) (z : Int) (vn vs : Value) : Prop where
  t : W.heap[w.heap.size]? = some (.cells #[.int .i64 z, vn, vs] 31 (0, 0))
  r : W.heap[w.heap.size + 1]? = some (.cells #[.string ⟨#[]⟩, .string ⟨#[]⟩, .int .i64 0, .int .i64 0, .int .i64 0, .int .i64 0, .int .i64 0, .int .i64 0, .int .i64 0] 81 (0, 0))
  b : Below w.heap.size w W
theorem GB.new (w : World) (z : Int) (vn vs : Value) : GB w ((w.alloc (.cells #[.int .i64 z, vn, vs] 31)).alloc (.cells #[.string ⟨#[]⟩, .string ⟨#[]⟩, .int .i64 0, .int .i64 0, .int .i64 0, .int .i64 0, .int .i64 0, .int .i64 0, .int .i64 0] 81)) z vn vs := by
  refine ⟨?_, ?_, nnext (allocB _ _) (allocB _ _)⟩
  · rw [(allocB _ _).block _ (by simp)]
    exact heap_alloc_new w _
  · have h := heap_alloc_new (w.alloc (.cells #[.int .i64 z, vn, vs] 31)) (.cells #[.string ⟨#[]⟩, .string ⟨#[]⟩, .int .i64 0, .int .i64 0, .int .i64 0, .int .i64 0, .int .i64 0, .int .i64 0, .int .i64 0] 81)
    rw [show (w.alloc (.cells #[.int .i64 z, vn, vs] 31)).heap.size = w.heap.size + 1 by simp] at h
    exact h
theorem GB.lt {w W : World} {z : Int} {vn vs : Value} (h : GB w W z vn vs) : w.heap.size + 1 < W.heap.size := (Array.getElem?_eq_some_iff.1 h.r).1
theorem GB.next {w W V : World} {z : Int} {vn vs : Value} (h : GB w W z vn vs) (hb : Below W.heap.size W V) : GB w V z vn vs := by
  have := h.lt
  exact ⟨(hb.block _ (by omega)).trans h.t, (hb.block _ (by omega)).trans h.r, nnext h.b hb⟩
theorem GB.c1 {w W : World} {z : Int} {vn vs : Value} (h : GB w W z vn vs) : W.cell? ⟨w.heap.size, 1, none⟩ = some vn := by simp [World.cell?, h.t]
theorem GB.one {w W : World} {z : Int} {vn vs : Value} (h : GB w W z vn vs) : OneR W (w.heap.size + 1) nzero := h.r

/- Kids -/
end Go.Proofs.YthkggmmalffcdaaGreatDoor

namespace Go.Proofs.YthkggmmalffcdaaGreatDoor
open Go.RowKit

/-- two boxes of trees -/
structure TT (w W : World) (z : Int) (vn vs un us : Value) : Prop where
  a : W.heap[w.heap.size]? = some (.cells #[.int .i64 z, vn, vs] 31 (0, 0))
  b : W.heap[w.heap.size + 1]? = some (.cells #[.int .i64 z, un, us] 31 (0, 0))
  bl : Below w.heap.size w W
theorem TT.new (w : World) (z : Int) (vn vs un us : Value) : TT w ((w.alloc (.cells #[.int .i64 z, vn, vs] 31)).alloc (.cells #[.int .i64 z, un, us] 31)) z vn vs un us := by
  refine ⟨?_, ?_, nnext (allocB _ _) (allocB _ _)⟩
  · rw [(allocB _ _).block _ (by simp)]
    exact heap_alloc_new w _
  · have h := heap_alloc_new (w.alloc (.cells #[.int .i64 z, vn, vs] 31)) (.cells #[.int .i64 z, un, us] 31)
    rw [show (w.alloc (.cells #[.int .i64 z, vn, vs] 31)).heap.size = w.heap.size + 1 by simp] at h
    exact h
theorem TT.next {w W V : World} {z : Int} {vn vs un us : Value} (h : TT w W z vn vs un us) (hb : Below W.heap.size W V) : TT w V z vn vs un us :=
  ⟨(hb.block _ (Array.getElem?_eq_some_iff.1 h.a).1).trans h.a, (hb.block _ (Array.getElem?_eq_some_iff.1 h.b).1).trans h.b, nnext h.bl hb⟩
theorem TT.six {w W : World} {z : Int} {vn vs un us : Value} (h : TT w W z vn vs un us) : W.cell? ⟨w.heap.size, 0, none⟩ = some (.int .i64 z) ∧ W.cell? ⟨w.heap.size, 1, none⟩ = some vn ∧ W.cell? ⟨w.heap.size, 2, none⟩ = some vs ∧ W.cell? ⟨w.heap.size + 1, 0, none⟩ = some (.int .i64 z) ∧ W.cell? ⟨w.heap.size + 1, 1, none⟩ = some un ∧ W.cell? ⟨w.heap.size + 1, 2, none⟩ = some us := by
  have h1 := h.a
  have h2 := h.b
  refine ⟨?_, ?_, ?_, ?_, ?_, ?_⟩ <;> simp [World.cell?, h1, h2]

set_option maxRecDepth 20000 in
set_option maxHeartbeats 4000000 in
theorem rsameT_any (t : Tr) (vn vs un us : Value) (w : World) (hn : SeqV w vn t.ns) (hs : SeqV w vs t.ss) (gn : SeqV w un t.ns) (gs : SeqV w us t.ss) (hl : t.ns.length ≤ 140737488355328) (hls : t.ss.length ≤ 140737488355328) :
    Calls Tryz.prog 25 #[.agg #[.int .i64 t.z, vn, vs], .agg #[.int .i64 t.z, un, us]] w fun e w' => e = .returned (.bool true) ∧ Below w.heap.size w w' := by
  have K : ∀ {α : Type} [Lay α] (v : Value) (xs : List α), SeqV w v xs → ∀ W, Below w.heap.size w W → ∀ (i : Nat) (x : α), xs[i]? = some x → ∃ b off c, v = .slice (some ⟨b, off, none⟩) xs.length c ∧ b < w.heap.size ∧ RowAt W b off (cellsL xs) := by
    intro α _ v xs hv W hW i x hx
    obtain ⟨b, off, c, e, hb, hr, _, _⟩ := seq_row hv (by intro h0; rw [h0] at hx; simp at hx)
    exact ⟨b, off, c, e, hb, hr.kept hW hb⟩
  have K1 := hide (K vn t.ns hn)
  have K2 := hide (K un t.ns gn)
  have K3 := hide (K vs t.ss hs)
  have K4 := hide (K us t.ss gs)
  have T0 := hide (TT.new w t.z vn vs un us)
  obtain ⟨na, nc, rfl⟩ := seq_slice hn
  obtain ⟨sa, sc, rfl⟩ := seq_slice hs
  obtain ⟨ma, mc, rfl⟩ := seq_slice gn
  obtain ⟨ra, rc, rfl⟩ := seq_slice gs
  clear hn hs gn gs K
  go_enter Tryz.func25, Tryz.ntmps25
  go_wp2_with fail
  go_loopg [33] t.ns.length (fun kx s33 wr => ∃ k : Nat, s33 = .int .i64 k ∧ k ≤ t.ns.length ∧ t.ns.length - k ≤ kx ∧ Hid (TT w wr t.z (.slice na t.ns.length nc) (.slice sa t.ss.length sc) (.slice ma t.ns.length mc) (.slice ra t.ss.length rc)))
  case atStart => exact ⟨0, rfl, Nat.zero_le _, Nat.le_refl _, T0⟩
  case round =>
    obtain ⟨k, rfl, hk, hg, hT⟩ := hrel
    obtain ⟨c0, c1, c2, c3, c4, c5⟩ := (unhide hT).six
    have hsz := (unhide hT).bl.size
    by_cases hlt : k < t.ns.length
    · obtain ⟨x, hx⟩ : ∃ x, t.ns[k]? = some x := ⟨_, List.getElem?_eq_getElem hlt⟩
      obtain ⟨b1, o1, cc1, he, hb1, q1⟩ := unhide K1 wr (unhide hT).bl k x hx
      simp only [Value.slice.injEq] at he
      obtain ⟨rfl, _, rfl⟩ := he
      obtain ⟨b2, o2, cc2, he, hb2, q2⟩ := unhide K2 wr (unhide hT).bl k x hx
      simp only [Value.slice.injEq] at he
      obtain ⟨rfl, _, rfl⟩ := he
      have d0 := q1.n0 hx
      have d1 := q1.n1 hx
      have d2 := q1.n2 hx
      have d3 := q1.n3 hx
      have d4 := q1.n4 hx
      have d5 := q1.n5 hx
      have d6 := q1.n6 hx
      have d7 := q1.n7 hx
      have d8 := q1.n8 hx
      have r0 := q2.n0 hx
      have r1 := q2.n1 hx
      have r2 := q2.n2 hx
      have r3 := q2.n3 hx
      have r4 := q2.n4 hx
      have r5 := q2.n5 hx
      have r6 := q2.n6 hx
      have r7 := q2.n7 hx
      have r8 := q2.n8 hx
      clear q1 q2 hx
      go_wp2_with fail
      go_region
      go_wp2_with fail
      go_roundg (t.ns.length - (k + 1))
      case measure => omega
      case rel => exact ⟨k + 1, rfl, by omega, Nat.le_refl _, hide ((unhide hT).next (Below.refl _ _).drew)⟩
    · obtain rfl : k = t.ns.length := by omega
      go_wp2_with fail
      go_loopg [51] t.ss.length (fun kx s51 wr => ∃ k : Nat, s51 = .int .i64 k ∧ k ≤ t.ss.length ∧ t.ss.length - k ≤ kx ∧ Hid (TT w wr t.z (.slice na t.ns.length nc) (.slice sa t.ss.length sc) (.slice ma t.ns.length mc) (.slice ra t.ss.length rc)))
      case atStart => exact ⟨0, rfl, Nat.zero_le _, Nat.le_refl _, hT⟩
      case round =>
        obtain ⟨k, rfl, hk, hg, hT⟩ := hrel
        obtain ⟨c0, c1, c2, c3, c4, c5⟩ := (unhide hT).six
        by_cases hlt : k < t.ss.length
        · obtain ⟨x, hx⟩ : ∃ x, t.ss[k]? = some x := ⟨_, List.getElem?_eq_getElem hlt⟩
          obtain ⟨b1, o1, cc1, he, hb1, q1⟩ := unhide K3 wr (unhide hT).bl k x hx
          simp only [Value.slice.injEq] at he
          obtain ⟨rfl, _, rfl⟩ := he
          obtain ⟨b2, o2, cc2, he, hb2, q2⟩ := unhide K4 wr (unhide hT).bl k x hx
          simp only [Value.slice.injEq] at he
          obtain ⟨rfl, _, rfl⟩ := he
          have d0 := q1.i0 hx
          have r0 := q2.i0 hx
          clear q1 q2 hx
          go_wp2_with fail
          go_region
          go_wp2_with fail
          go_roundg (t.ss.length - (k + 1))
          case measure => omega
          case rel => exact ⟨k + 1, rfl, by omega, Nat.le_refl _, hide ((unhide hT).next (Below.refl _ _).drew)⟩
        · obtain rfl : k = t.ss.length := by omega
          go_wp2_with fail
          go_ret
          exact ⟨rfl, (unhide hT).bl⟩

end Go.Proofs.YthkggmmalffcdaaGreatDoor

namespace Go.Proofs.YthkggmmalffcdaaGreatDoor
open Go.RowKit
theorem grownO {w w' : World} {r : Option Nat} (h : w.grownBy w' r) (B : Nat) (hB : B ≤ w.heap.size) (hr : ∀ k, r = some k → B ≤ k) : Below B w w' := (Below.refl _ _).grown h hB hr

end Go.Proofs.YthkggmmalffcdaaGreatDoor

namespace Go.Proofs.YthkggmmalffcdaaGreatDoor
open Go.RowKit
theorem OwnR.head {α : Type} [Lay α] {W : World} {g cap : Nat} {A B : List α} (h : OwnR W g cap (A ++ B)) : OwnR W g cap A := by
  obtain ⟨rest, h1, h2, h4, h3⟩ := h
  refine ⟨cellsL B ++ rest, by rw [h1, cellsL_append, List.append_assoc], ?_, ?_, h3⟩
  · rw [List.length_append, cellsL_length B]
    rw [List.length_append, Nat.add_mul] at h2
    omega
  · rw [List.length_append] at h4; omega
end Go.Proofs.YthkggmmalffcdaaGreatDoor

namespace Go.Proofs.YthkggmmalffcdaaGreatDoor
open Go.RowKit

theorem ownS_base {α : Type} [Lay α] {W : World} {B C : Nat} {v : Value} {xs : List α} (h : OwnS W C v xs) (hB : ∀ k, v.ownBlock = some k → B ≤ k) : OwnS W B v xs := by
  rcases h with h | ⟨g, cap, rfl, _, h⟩
  · exact .inl h
  · exact .inr ⟨g, cap, rfl, hB g rfl, h⟩
theorem ownS_above {α : Type} [Lay α] {W : World} {B : Nat} {v : Value} {xs : List α} (h : OwnS W B v xs) : ∀ k, v.ownBlock = some k → B ≤ k := by
  rcases h with ⟨rfl, _⟩ | ⟨g, cap, rfl, h1, h⟩
  · intro k hk; cases hk
  · intro k hk; simp only [Value.ownBlock, Option.some.injEq] at hk; omega
end Go.Proofs.YthkggmmalffcdaaGreatDoor

namespace Go.Proofs.YthkggmmalffcdaaGreatDoor
open Go.RowKit
theorem OneR.grown {W V : World} {B q : Nat} {e : Ev} (h : OneR W B e) (hg : W.grownBy V (some q)) (hne : B ≠ q) : OneR V B e :=
  (hg.block B (Array.getElem?_eq_some_iff.1 h).1 (by simp [hne])).trans h
end Go.Proofs.YthkggmmalffcdaaGreatDoor
