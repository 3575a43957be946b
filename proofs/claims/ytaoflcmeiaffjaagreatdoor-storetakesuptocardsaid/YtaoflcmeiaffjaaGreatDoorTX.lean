/-
  What aviaryref.bytesOf and numberOf answer: the walks.
  What aviaryref.Sum answers, for every text: the sum by single bits, and the walk.
  What aviaryref.Encode answers: the walk.
  What aviaryref.Append answers: the walks.
  That aviarykeep.sameLog and aviaryref.SameLog say yes of two logs that are alike: the walks.
  What growth's parentChanges does: the walks.
  What growth's remove does: the walks.
  What growth's open, owned and close do: the walks.
  tree.Get and tree.Kids: the walks.
  aviaryref's has, IsOpen, node: the walks.
  What path.Depth answers, for every text: the walk.
-/
import Derived.Test.YtaoflcmeiaffjaaGreatDoorTI
import Derived.Test.YtaoflcmeiaffjaaGreatDoorTH
import Derived.Test.YtaoflcmeiaffjaaGreatDoorTC
import Derived.Test.YtaoflcmeiaffjaaGreatDoorTR
import Derived.Test.YtaoflcmeiaffjaaGreatDoorRows
import Derived.Test.YtaoflcmeiaffjaaGreatDoorTA
import Derived.Lib.ConvBytes
import Derived.Lib.Strings
import Derived.RegionTactic
import Derived.Laws.CopyOwn
import Derived.WalkKit
import Derived.WalkSpells
import Derived.WalkLawsBesides
import Derived.Test.YtaoflcmeiaffjaaGreatDoorTW
import Derived.Test.YtaoflcmeiaffjaaGreatDoorTK
namespace Go.Proofs.YtaoflcmeiaffjaaGreatDoor
open Go.RowKit

theorem one_text (c : UInt8) (W : World) (X : Nat) (h : W.cell? ⟨X, 0, none⟩ = some (.int .u8 (c.toNat : Int))) :
    (convert 122 9 (.slice (some ⟨X, 0, none⟩) 1 1)).run Tryz.prog W = .ok (.string ⟨#[c]⟩) W :=
  run_convert_bytes_back W 122 9 5 ⟨X, 0, none⟩ 1 [c] Tryz.underlying122 Tryz.underlying5 Tryz.underlying9 (fun j hj => by
    obtain rfl : j = 0 := by simpa using hj
    simpa [Addr.add] using h)

set_option maxRecDepth 10000 in
set_option maxHeartbeats 1000000 in
theorem bytesOf_any (n k : Nat) (w : World) (hn : n < 9223372036854775808) (hk : k ≤ 8) :
    Calls Tryz.prog 144 #[.int .i64 n, .int .i64 k] w fun e w' => e = .returned (.string ⟨(be k n).toArray⟩) ∧ Below w.heap.size w w' := by
  go_enter Tryz.func144, Tryz.ntmps144
  go_wp2
  go_loopw [0, 1, 5] (fun x i t wr => ∃ j : Nat, j ≤ k ∧ x = .int .i64 (n / 256 ^ j : Nat) ∧ i = .int .i64 ((k : Int) - j) ∧ t = .string ⟨(be j n).toArray⟩ ∧ Below w.heap.size w wr) (fun _ i _ _ => (intOf i).toNat)
  case atStart => exact ⟨0, Nat.zero_le _, by simp, by simp, rfl, Below.refl _ _⟩
  case round =>
    obtain ⟨j, hj, rfl, rfl, rfl, hB⟩ := hrel
    by_cases hlt : j < k
    · have hq : n / 256 ^ j < 9223372036854775808 := Nat.lt_of_le_of_lt (Nat.div_le_self _ _) hn
      have Hdiv := hide (div_256 n j)
      have Hby := hide (ofNat_mod (n / 256 ^ j))
      have Hfr := hide (be_front j n)
      have hbl := be_length j n
      obtain ⟨x, hx⟩ : ∃ x, n / 256 ^ j = x := ⟨_, rfl⟩
      obtain ⟨B, hB'⟩ : ∃ B, be j n = B := ⟨_, rfl⟩
      rw [hx] at hq Hdiv Hby Hfr ⊢
      rw [hB'] at Hfr hbl ⊢
      clear hx hB'
      have hzB : (ByteArray.mk B.toArray).size = B.length := Lib.size_eq ⟨_⟩
      have htx : ∀ W X, W.cell? ⟨X, 0, none⟩ = some (.int .u8 ((x : Int) % 256)) → (convert 122 9 (.slice (some ⟨X, 0, none⟩) 1 1)).run Tryz.prog W = .ok (.string ⟨#[UInt8.ofNat x]⟩) W := fun W X h => one_text (UInt8.ofNat x) W X (by rw [← unhide Hby]; exact h)
      have hkj : (0 : Int) < (k : Int) - j := by omega
      go_wp2
      refine ⟨⟨j + 1, by omega, i64_v (by rw [← unhide Hdiv]; omega), i64_v (by omega), ?_, hB.alloc hB.size _⟩, by simp only [intOf]; omega⟩
      rw [show (ByteArray.mk #[UInt8.ofNat x]) = ⟨[UInt8.ofNat x].toArray⟩ from rfl, cat_one, unhide Hfr]
      rfl
    · obtain rfl : j = k := by omega
      rw [show (j : Int) - (j : Int) = 0 from by omega]
      go_wp2
      go_ret
      exact ⟨rfl, hB⟩

theorem wrap_mul_add (t b : Nat) : wrap64 (wrap64 ((t : Int) * 256) + (b : Int)) = wrap64 ((t * 256 + b : Nat) : Int) := by unfold wrap64; omega

set_option maxRecDepth 10000 in
set_option maxHeartbeats 1000000 in
theorem numberOf_any (s : ByteArray) (w : World) (hs : s.size ≤ 8) :
    Calls Tryz.prog 168 #[.string s] w fun e w' => e = .returned (.int .i64 (wrap64 (un s.data.toList : Nat))) ∧ Below w.heap.size w w' := by
  obtain ⟨l, rfl⟩ := ba_list s
  show Calls _ _ _ _ fun e w' => e = .returned (.int .i64 (wrap64 (un l : Nat))) ∧ _
  have hz : (ByteArray.mk l.toArray).size = l.length := Lib.size_eq ⟨l.toArray⟩
  rw [hz] at hs
  have hconv : ∀ W s, (convert 9 122 (.string s)).run Tryz.prog W = .ok (.slice (some ⟨W.heap.size, 0, none⟩) s.size (grownCap W s.size 0 5)) (Lib.bytesWorld W 5 s) := fun W s =>
    Lib.run_convert_string_bytes W 9 122 5 s Tryz.underlying9 Tryz.underlying122 Tryz.underlying5
  go_enter Tryz.func168, Tryz.ntmps168
  go_wp2
  generalize hW1 : Lib.bytesWorld w 5 ⟨l.toArray⟩ = W1
  have Hcell : Hid (∀ j (hj : j < l.length), W1.cell? ⟨w.heap.size, j, none⟩ = some (.int .u8 (l[j].toNat : Int))) := hide (fun j hj => by
    rw [← hW1]; exact bytes_cell w 5 ⟨l.toArray⟩ l rfl j hj)
  have hB1 : Below w.heap.size w W1 := by rw [← hW1]; exact bytes_below _ _ _
  clear hW1 hconv
  go_loop [3, 9] (fun t i => ∃ k : Nat, k ≤ l.length ∧ i = .int .i64 k ∧ t = .int .i64 (wrap64 (un (l.take k) : Nat))) (fun _ i => l.length - (intOf i).toNat)
  case atStart => exact ⟨0, Nat.zero_le _, rfl, i64_c (by simp [un, wrap64])⟩
  case round =>
    obtain ⟨k, hk, rfl, rfl⟩ := hrel
    by_cases hlt : k < l.length
    · have hc := unhide Hcell k hlt
      have Hs := hide (un_take l k hlt)
      have hsm := un_small (l := l.take k) (by rw [List.length_take]; omega)
      obtain ⟨x, hx⟩ : ∃ x, un (l.take k) = x := ⟨_, rfl⟩
      rw [hx] at hsm Hs ⊢
      clear hx
      rw [show wrap64 (x : Int) = x from by unfold wrap64; omega]
      have hb := l[k].toNat_lt
      generalize l[k] = c at hc Hs hb
      go_wp2
      refine ⟨⟨k + 1, by omega, by go_num, i64_c ?_⟩, by simp [intOf]; omega⟩
      rw [unhide Hs, ← wrap_mul_add]
    · obtain rfl : k = l.length := by omega
      rw [List.take_length]
      go_wp2
      go_ret
      exact ⟨rfl, hB1⟩

end Go.Proofs.YtaoflcmeiaffjaaGreatDoor

namespace Go.Proofs.YtaoflcmeiaffjaaGreatDoor
open Go.RowKit

/- plain: one bit of a byte at a time -/
def bitR (r x : Nat) : Nat := (r / 2) ^^^ (3988292384 * (r % 2 ^^^ x))
def bitsR (b : Nat) : Nat → Nat → Nat
  | 0, c => c
  | k + 1, c => bitR (bitsR b k c) (bitN b k)
theorem half_xor (a b : Nat) : (a ^^^ b) / 2 = a / 2 ^^^ b / 2 := by
  have e : ∀ x : Nat, x / 2 = x >>> 1 := fun x => by rw [Nat.shiftRight_eq_div_pow]
  rw [e, e, e, Nat.shiftRight_xor_distrib]
theorem mod2_xor (a b : Nat) : (a ^^^ b) % 2 = a % 2 ^^^ b % 2 := by
  have := Nat.xor_mod_two_pow (a := a) (b := b) (n := 1)
  simpa using this
theorem bitsR_crcN (b c : Nat) : ∀ k, bitsR b k c ^^^ b / 2 ^ k = crcN k (c ^^^ b)
  | 0 => by simp [bitsR, crcN]
  | k + 1 => by
    have ih := bitsR_crcN b c k
    show bitR (bitsR b k c) (bitN b k) ^^^ _ = crc1 (crcN k (c ^^^ b))
    rw [← ih]
    generalize bitsR b k c = r
    have e : b / 2 ^ (k + 1) = b / 2 ^ k / 2 := by rw [Nat.pow_succ, Nat.div_div_eq_div_mul]
    rw [e, crc1, half_xor, mod2_xor, bitR, bitN]
    rw [Nat.xor_assoc, Nat.xor_assoc, Nat.xor_comm (3988292384 * _)]
theorem bit_xor_le {a b : Nat} (ha : a ≤ 1) (hb : b ≤ 1) : a ^^^ b ≤ 1 := by
  have : a ^^^ b < 2 ^ 1 := Nat.xor_lt_two_pow (by omega) (by omega)
  omega
theorem bitR_lt {r x : Nat} (h : r < 4294967296) (hx : x ≤ 1) : bitR r x < 4294967296 := by
  unfold bitR
  have := bit_xor_le (show r % 2 ≤ 1 by omega) hx
  exact xor_lt32 (by omega) (by omega)
theorem bitsR_lt {b c : Nat} (h : c < 4294967296) : ∀ k, bitsR b k c < 4294967296
  | 0 => h
  | k + 1 => bitR_lt (bitsR_lt h k) (bitN_le _ _)
theorem bitsR_all {c : Nat} (b : UInt8) : bitsR b.toNat 8 c = crcB c b := by
  have h := bitsR_crcN b.toNat c 8
  have hb := b.toNat_lt
  rw [show b.toNat / 2 ^ 8 = 0 from by omega, Nat.xor_zero] at h
  exact h
theorem bitN_top {r : Nat} (h : r < 4294967296) : bitN r 32 = 0 := by unfold bitN; omega
/-- one bit of the next state -/
theorem bitN_bitR {r x : Nat} (hx : x ≤ 1) (i : Nat) : bitN (bitR r x) i = bitN r (i + 1) ^^^ ((r % 2 ^^^ x) * bitN 3988292384 i) := by
  have := bit_xor_le (show r % 2 ≤ 1 by omega) hx
  rw [bitR, bitN_xor, bitN_half, bitN_mul _ _ _ this]
theorem bitN_ones : ∀ i, i < 32 → bitN 4294967295 i = 1 := by decide +kernel
theorem flip_step {r k : Nat} (hk : k < 32) : (4294967295 ^^^ r) / 2 ^ k + bitN r k = 2 * ((4294967295 ^^^ r) / 2 ^ (k + 1)) + 1 := by
  have h := bitN_xor 4294967295 r k
  rw [bitN_ones k hk] at h
  have hb := bitN_le r k
  have e : (4294967295 ^^^ r) / 2 ^ (k + 1) = (4294967295 ^^^ r) / 2 ^ k / 2 := by rw [Nat.pow_succ, Nat.div_div_eq_div_mul]
  rw [e]
  have hq : (4294967295 ^^^ r) / 2 ^ k % 2 = 1 ^^^ bitN r k := h
  have : bitN r k = 0 ∨ bitN r k = 1 := by omega
  rcases this with h0 | h0 <;> rw [h0] at hq ⊢ <;> simp at hq <;> omega

/- the 32 cells -/
def regV (f : Nat → Nat) : List Value := (List.range 32).map fun i => .int .i64 (f i : Nat)
def regAt (W : World) (g : Nat) (f : Nat → Nat) : Prop := W.heap[g]? = some (.cells (regV f).toArray 186 (0, 0))
theorem regV_length (f : Nat → Nat) : (regV f).length = 32 := by simp [regV]
theorem regV_get (f : Nat → Nat) {j : Nat} (h : j < 32) : (regV f)[j]? = some (.int .i64 (f j : Nat)) := by
  simp [regV, List.getElem?_map, List.getElem?_range h]
theorem regV_congr {f f' : Nat → Nat} (h : ∀ j, j < 32 → f j = f' j) : regV f = regV f' := by
  unfold regV
  exact List.map_congr_left fun j hj => by rw [h j (List.mem_range.1 hj)]
theorem regAt.congr {W : World} {g : Nat} {f f' : Nat → Nat} (h : regAt W g f) (he : ∀ j, j < 32 → f j = f' j) : regAt W g f' := by
  unfold regAt at h ⊢; rw [← regV_congr he]; exact h
theorem regAt.cell {W : World} {g : Nat} {f : Nat → Nat} (h : regAt W g f) {j : Nat} (hj : j < 32) : W.cell? ⟨g, j, none⟩ = some (.int .i64 (f j : Nat)) := by
  unfold regAt at h; simp [World.cell?, h, regV_get f hj]
theorem regAt.soft {W : World} {g : Nat} {f : Nat → Nat} (h : regAt W g f) (j : Nat) : W.frozen? ⟨g, j, none⟩ = false := by
  unfold regAt at h; simp [World.frozen?, h]
theorem reg_set_same {w : World} {g j : Nat} {cur : Array Value} {t : TypeId} {fz : Nat × Nat} (v : Value) (h : w.heap[g]? = some (.cells cur t fz)) :
    (w.setCell ⟨g, j, none⟩ v).heap[g]? = some (.cells (cur.setIfInBounds j v) t fz) := by
  obtain ⟨hlt, hk⟩ := Array.getElem?_eq_some_iff.1 h
  show (w.heap.modify g _)[g]? = _
  rw [Array.getElem?_eq_getElem (by rw [Array.size_modify]; exact hlt), Array.getElem_modify_self, hk]
  rfl
theorem regAt.set {W : World} {g : Nat} {f : Nat → Nat} (h : regAt W g f) {j v : Nat} (hj : j < 32) : regAt (W.setCell ⟨g, j, none⟩ (.int .i64 (v : Nat))) g (fun i => if i = j then v else f i) := by
  unfold regAt at h ⊢
  rw [reg_set_same _ h]
  congr 2
  apply Array.ext'
  rw [Array.toList_setIfInBounds]
  apply List.ext_getElem?
  intro i
  rw [List.getElem?_set]
  by_cases hi : i < 32
  · by_cases e : j = i
    · subst e
      rw [regV_get (fun i => if i = j then v else f i) hi, if_pos rfl, if_pos (by simp [regV_length]; omega), if_pos rfl]
    · rw [if_neg e, regV_get _ hi, regV_get (fun i => if i = j then v else f i) hi, if_neg (fun h => e h.symm)]
  · have e1 : ∀ f' : Nat → Nat, (regV f')[i]? = none := fun f' => by rw [List.getElem?_eq_none_iff, regV_length]; omega
    rw [if_neg (by omega), e1, e1]
/-- behind copy(reg[:], reg[1:]) -/
theorem reg_copy {f : Nat → Nat} : regV (fun i => if i < 31 then f (i + 1) else f i) = (regV f).take 0 ++ ((regV f).drop 1) ++ (regV f).drop (0 + ((regV f).drop 1).length) := by
  apply List.ext_getElem?
  intro i
  simp only [List.take_zero, List.nil_append, Nat.zero_add, List.length_drop, regV_length]
  by_cases hi : i < 31
  · rw [regV_get _ (by omega), List.getElem?_append_left (by simp [regV_length]; omega), List.getElem?_drop, if_pos hi, regV_get _ (by omega), Nat.add_comm]
  · rw [List.getElem?_append_right (by simp [regV_length]; omega), List.getElem?_drop, List.length_drop, regV_length]
    by_cases h32 : i < 32
    · obtain rfl : i = 31 := by omega
      rw [regV_get _ (by omega), regV_get _ (by omega)]; rfl
    · have e1 : ∀ f' : Nat → Nat, ∀ i', 32 ≤ i' → (regV f')[i']? = none := fun f' i' h' => by rw [List.getElem?_eq_none_iff, regV_length]; omega
      rw [e1 _ _ (by omega), e1 _ _ (by omega)]
theorem regAt.copied {W : World} {g : Nat} {f : Nat → Nat} (h : regAt W g f) (ty : TypeId) :
    (Builtin.copy_ #[29, 29] ty #[.slice (some ⟨g, 0, none⟩) 32 32, .slice (some ⟨g, 1, none⟩) 31 31]).run Tryz.prog W = .ok (goInt 31) (W.setRow g (regV (fun i => if i < 31 then f (i + 1) else f i)).toArray) := by
  rw [reg_copy]
  have hl : ((regV f).drop 1).length = 31 := by simp [regV_length]
  have := run_copy_row (P := Tryz.prog) W 29 29 ty 3 g 0 32 32 ⟨g, 1, none⟩ 31 31 (regV f).toArray 186 ((regV f).drop 1) Tryz.underlying29 (by kernel_rfl) h (by rw [hl]; rfl)
    (fun j v hv => by
      rw [List.getElem?_drop] at hv
      rw [show (⟨g, 1, none⟩ : Addr).add j = ⟨g, 1 + j, none⟩ from by unfold Addr.add; split <;> simp_all]
      unfold regAt at h
      simp only [World.cell?, h]
      simpa using hv) (by rw [hl]; simp [regV_length]) (fun v hv => by
      obtain ⟨i, _, rfl⟩ := List.mem_map.1 (List.mem_of_mem_drop hv)
      rfl)
  rw [hl] at this ⊢
  exact this
theorem regAt.row {W : World} {g : Nat} {f : Nat → Nat} (h : regAt W g f) (f' : Nat → Nat) : regAt (W.setRow g (regV f').toArray) g f' := setRow_heap W g _ _ _ _ h

theorem rbytes_below (w : World) (e : TypeId) (s : ByteArray) : Below w.heap.size w (Lib.bytesWorld w e s) :=
  ⟨rfl, rfl, rfl, by rw [Lib.bytesWorld_size]; omega, fun k hk => Lib.bytesWorld_at_old w e s k hk⟩
theorem rbytes_cell (w : World) (e : TypeId) (s : ByteArray) (l : List UInt8) (h : s.data.toList = l) (j : Nat) (hj : j < l.length) : (Lib.bytesWorld w e s).cell? ⟨w.heap.size, j, none⟩ = some (.int .u8 (l[j].toNat : Int)) := by
  subst h
  rw [Lib.bytesWorld_cell _ _ _ _ (by rw [Lib.size_eq]; exact hj), List.getD_eq_getElem?_getD, List.getElem?_eq_getElem hj]; rfl

theorem i64_val {a b : Int} (h : a = b) : Value.int .i64 a = .int .i64 b := by rw [h]
theorem and1_u8 {a : Nat} (ha : a < 256) : bits .and .u8 a 1 = ((a % 2 : Nat) : Int) := by
  have h := bits_mask .u8 8 (by decide) wraps_u8 1 (by decide) (a : Int) (by omega) (by omega)
  exact_mod_cast h
theorem and1_i64 {a : Nat} (ha : a < 9223372036854775808) : bits .and .i64 a 1 = ((a % 2 : Nat) : Int) := by
  have h := bits_mask .i64 63 (by decide) wraps63 1 (by decide) (a : Int) (by omega) (by omega)
  exact_mod_cast h
theorem wrap64_nat {a : Nat} (ha : a < 9223372036854775808) : wrap64 a = a := by unfold wrap64; omega
theorem out_bits {x c n : Nat} (hc : c < 256) : bits .xor .i64 ((bitN x 0 : Nat) : Int) (wrap64 (bits .and .u8 ((c : Int) / 2 ^ n) 1)) = ((x % 2 ^^^ bitN c n : Nat) : Int) := by
  have h1 : ((c : Int) / 2 ^ n) = ((c / 2 ^ n : Nat) : Int) := by rw [Int.natCast_ediv, Int.natCast_pow]; rfl
  have h2 : c / 2 ^ n < 256 := Nat.lt_of_le_of_lt (Nat.div_le_self _ _) hc
  have h3 := bitN_le x 0
  have h4 : bitN x 0 = x % 2 := by simp [bitN]
  rw [h1, and1_u8 h2, wrap64_nat (by omega), xor_i64 (by omega) (by omega), h4]
  rfl
theorem cell_bits {f o i : Nat} (hf : f ≤ 1) (ho : o ≤ 1) : bits .xor .i64 (f : Int) (wrap64 (o * bits .and .i64 ((3988292384 : Int) / 2 ^ i) 1)) = ((f ^^^ (o * bitN 3988292384 i) : Nat) : Int) := by
  have h1 : ((3988292384 : Int) / 2 ^ i) = ((3988292384 / 2 ^ i : Nat) : Int) := by rw [Int.natCast_ediv, Int.natCast_pow]; rfl
  have h2 : 3988292384 / 2 ^ i ≤ 3988292384 := Nat.div_le_self _ _
  have h5 := bitN_le 3988292384 i
  have h6 : o * bitN 3988292384 i ≤ 1 * 1 := Nat.mul_le_mul ho h5
  rw [h1, and1_i64 (by omega)]
  rw [show ((o : Int) * ((3988292384 / 2 ^ i % 2 : Nat) : Int)) = ((o * bitN 3988292384 i : Nat) : Int) from by rw [Int.natCast_mul]; rfl, wrap64_nat (by omega)]
  exact xor_i64 (by omega) (by omega)

set_option maxRecDepth 10000 in
set_option maxHeartbeats 1000000 in
theorem rsum_any (l : List UInt8) (w : World) (hl : l.length ≤ 140737488355328) :
    Calls Tryz.prog 145 #[.string ⟨l.toArray⟩] w fun e w' => e = .returned (.int .i64 (sumN l : Nat)) ∧ Below w.heap.size w w' := by
  have hz : (ByteArray.mk l.toArray).size = l.length := Lib.size_eq ⟨l.toArray⟩
  have hconv : ∀ W s, (convert 9 122 (.string s)).run Tryz.prog W = .ok (.slice (some ⟨W.heap.size, 0, none⟩) s.size (grownCap W s.size 0 5)) (Lib.bytesWorld W 5 s) := fun W s =>
    Lib.run_convert_string_bytes W 9 122 5 s Tryz.underlying9 Tryz.underlying122 Tryz.underlying5
  go_enter Tryz.func145, Tryz.ntmps145
  go_wp2
  generalize hW1 : w.alloc (Obj.cells _ 186) = W1
  have hs1 : W1.heap.size = w.heap.size + 1 := by rw [← hW1]; simp
  have HR1 : Hid (regAt W1 w.heap.size (fun _ => 0)) := hide (by
    rw [← hW1]
    show (w.heap.push _)[w.heap.size]? = _
    simp [regV]
    rfl)
  have hB1 : Below w.heap.size w W1 := by rw [← hW1]; exact (Below.refl _ _).alloc (Nat.le_refl _) _
  clear hW1
  go_loopw [12] (fun i wr => ∃ k : Nat, k ≤ 32 ∧ i = .int .i64 k ∧ regAt wr w.heap.size (fun j => if j < k then 1 else 0) ∧ wr.heap.size = w.heap.size + 1 ∧ Below w.heap.size w wr) (fun i _ => 32 - (intOf i).toNat)
  case atStart => exact ⟨0, Nat.zero_le _, rfl, (unhide HR1).congr (fun j _ => by simp), hs1, hB1⟩
  case round =>
    obtain ⟨k, hk, rfl, hr, hsz, hB⟩ := hrel
    have HR := hide hr
    clear hr HR1 hs1 hB1
    by_cases hlt : k < 32
    · have h1 := (unhide HR).cell hlt
      have h2 := (unhide HR).soft k
      go_wp2
      refine ⟨⟨k + 1, by omega, by go_num, ?_, ?_, ?_⟩, by simp [intOf]; omega⟩
      · exact ((unhide HR).set (v := 1) hlt).congr (fun j hj => by by_cases e : j = k <;> by_cases e' : j < k <;> simp [e, e'] <;> omega)
      · simpa [World.setCell] using hsz
      · exact hB.setCell (by show w.heap.size ≤ w.heap.size; exact Nat.le_refl _) _
    · obtain rfl : k = 32 := by omega
      have HR2 : Hid (regAt wr w.heap.size (bitN 4294967295)) := hide ((unhide HR).congr (fun j hj => by rw [if_pos hj, bitN_ones j hj]))
      clear HR
      go_wp2
      generalize hW2 : Lib.bytesWorld wr 5 ⟨l.toArray⟩ = W2
      have hs2 : W2.heap.size = w.heap.size + 2 := by rw [← hW2, Lib.bytesWorld_size]; omega
      have hb2 : Below wr.heap.size wr W2 := by rw [← hW2]; exact rbytes_below _ _ _
      have Hcell : Hid (∀ j (hj : j < l.length), W2.cell? ⟨w.heap.size + 1, j, none⟩ = some (.int .u8 (l[j].toNat : Int))) := hide (fun j hj => by
        rw [← hW2, ← hsz]; exact rbytes_cell wr 5 ⟨l.toArray⟩ l rfl j hj)
      have HR3 : Hid (regAt W2 w.heap.size (bitN 4294967295)) := hide ((hb2.block _ (by omega)).trans (unhide HR2))
      have hB2 : Below w.heap.size w W2 := hB.trans (hb2.mono (by omega))
      clear hW2 hb2 HR2 hB hsz
      go_loopw [21] (fun i wr => ∃ k : Nat, k ≤ l.length ∧ i = .int .i64 k ∧ regAt wr w.heap.size (bitN (crcL (l.take k))) ∧ wr.heap[w.heap.size + 1]? = W2.heap[w.heap.size + 1]? ∧ wr.heap.size = w.heap.size + 2 ∧ Below w.heap.size w wr) (fun i _ => l.length - (intOf i).toNat)
      case atStart => exact ⟨0, Nat.zero_le _, rfl, unhide HR3, rfl, hs2, hB2⟩
      case round =>
        obtain ⟨k, hk, rfl, hr, hblk, hsz, hB⟩ := hrel
        have HR := hide hr
        have HK := hide hblk
        clear hr hblk HR3 hB2
        obtain ⟨r, hr⟩ : ∃ r, crcL (l.take k) = r := ⟨_, rfl⟩
        have hrl : r < 4294967296 := hr ▸ crcL_lt _
        rw [hr] at HR
        have Hr := hide hr
        clear hr
        by_cases hlt : k < l.length
        · have hc : wr.cell? ⟨w.heap.size + 1, k, none⟩ = some (.int .u8 (l[k].toNat : Int)) := (World.cell?_of_block (a := ⟨w.heap.size + 1, k, none⟩) (unhide HK)).trans (unhide Hcell k hlt)
          have Hnext : Hid (crcL (l.take (k + 1)) = bitsR l[k].toNat 8 r) := hide (by rw [List.take_succ_eq_append_getElem hlt, crcL_snoc, bitsR_all, unhide Hr])
          generalize l[k] = c at hc Hnext
          have hcb := c.toNat_lt
          go_wp2
          clear hc
          generalize wr = V at *
          go_loopw [7] (fun i wr => ∃ n : Nat, n ≤ 8 ∧ i = .int .u64 n ∧ regAt wr w.heap.size (bitN (bitsR c.toNat n r)) ∧ wr.heap[w.heap.size + 1]? = W2.heap[w.heap.size + 1]? ∧ wr.heap.size = w.heap.size + 2 ∧ Below w.heap.size w wr) (fun i _ => 8 - (intOf i).toNat)
          case atStart => exact ⟨0, Nat.zero_le _, rfl, unhide HR, unhide HK, hsz, hB⟩
          case round =>
            clear HR HK hsz hB
            obtain ⟨n, hn, rfl, hr, hblk, hsz, hB⟩ := hrel
            have HR := hide hr
            have HK := hide hblk
            clear hr hblk
            have hxl := bitsR_lt (b := c.toNat) hrl n
            have Hs : Hid (bitsR c.toNat (n + 1) r = bitR (bitsR c.toNat n r) (bitN c.toNat n)) := hide rfl
            by_cases h8 : n < 8
            · obtain ⟨x, hx⟩ : ∃ x, bitsR c.toNat n r = x := ⟨_, rfl⟩
              rw [hx] at HR hxl Hs
              clear hx
              have h1 := (unhide HR).cell (show 0 < 32 by decide)
              have hn2 : (n : Int) ≤ 8 := by omega
              go_wp2
              rw [out_bits (by omega)]
              obtain ⟨o, ho⟩ : ∃ o, x % 2 ^^^ bitN c.toNat n = o := ⟨_, rfl⟩
              have hol : o ≤ 1 := ho ▸ bit_xor_le (by omega) (bitN_le _ _)
              have Ho := hide ho
              rw [ho]
              clear ho h1
              have hcopy := regAt.copied (W := wr.drew) (g := w.heap.size) (f := bitN x) (unhide HR)
              go_region
              clear hcopy
              generalize hW3 : wr.drew.setRow w.heap.size (regV fun i => if i < 31 then bitN x (i + 1) else bitN x i).toArray = W3
              have HR3 : Hid (regAt W3 w.heap.size (fun i => if i < 31 then bitN x (i + 1) else bitN x i)) := hide (by
                rw [← hW3]; exact regAt.row (W := wr.drew) (f := bitN x) (unhide HR) _)
              have HK3 : Hid (W3.heap[w.heap.size + 1]? = W2.heap[w.heap.size + 1]?) := hide (by
                rw [← hW3, setRow_other _ _ _ _ (by omega)]; exact unhide HK)
              have hs3 : W3.heap.size = w.heap.size + 2 := by rw [← hW3]; simpa [World.setRow] using hsz
              have hB3 : Below w.heap.size w W3 := by rw [← hW3]; exact below_setRow hB.drew (Nat.le_refl _) _
              clear hW3 HR HK hsz hB
              have h1 := (unhide HR3).cell (show 31 < 32 by decide)
              have h2 := (unhide HR3).soft 31
              go_wp2
              clear h1 h2
              generalize hW4 : W3.setCell ⟨w.heap.size, 31, none⟩ (.int .i64 0) = W4
              have HR4 : Hid (regAt W4 w.heap.size (fun i => bitN x (i + 1))) := hide (by
                rw [← hW4]
                refine ((unhide HR3).set (v := 0) (show 31 < 32 by decide)).congr (fun j hj => ?_)
                by_cases e : j = 31
                · subst e; simp [bitN_top hxl]
                · rw [if_neg e, if_pos (by omega)])
              have HK4 : Hid (W4.heap[w.heap.size + 1]? = W2.heap[w.heap.size + 1]?) := hide (by
                rw [← hW4, Below.heap_setCell _ _ _ _ (by show w.heap.size + 1 ≠ w.heap.size; omega)]; exact unhide HK3)
              have hs4 : W4.heap.size = w.heap.size + 2 := by rw [← hW4]; simpa [World.setCell] using hs3
              have hB4 : Below w.heap.size w W4 := by rw [← hW4]; exact hB3.setCell (by show w.heap.size ≤ w.heap.size; exact Nat.le_refl _) _
              clear hW4 HR3 HK3 hs3 hB3
              generalize wr = V2 at *
              go_loopw [41] (fun i wr => ∃ j : Nat, j ≤ 32 ∧ i = .int .i64 j ∧ regAt wr w.heap.size (fun i => if i < j then bitN x (i + 1) ^^^ (o * bitN 3988292384 i) else bitN x (i + 1)) ∧ wr.heap[w.heap.size + 1]? = W2.heap[w.heap.size + 1]? ∧ wr.heap.size = w.heap.size + 2 ∧ Below w.heap.size w wr) (fun i _ => 32 - (intOf i).toNat)
              case atStart => exact ⟨0, Nat.zero_le _, rfl, (unhide HR4).congr (fun j _ => by simp), unhide HK4, hs4, hB4⟩
              case round =>
                clear HR4 HK4 hs4 hB4
                obtain ⟨j, hj, rfl, hr, hblk, hsz, hB⟩ := hrel
                have HR := hide hr
                have HK := hide hblk
                clear hr hblk
                by_cases hj2 : j < 32
                · have h1 := (unhide HR).cell hj2
                  have h2 := (unhide HR).soft j
                  simp only [Nat.lt_irrefl, if_false] at h1
                  have hle := bitN_le x (j + 1)
                  obtain ⟨y, hy⟩ : ∃ y, bitN x (j + 1) = y := ⟨_, rfl⟩
                  rw [hy] at h1 hle
                  have Hy := hide hy
                  clear hy
                  have hj3 : (j : Int) ≤ 64 := by omega
                  go_wp2
                  rw [cell_bits hle hol]
                  refine ⟨⟨j + 1, by omega, by go_num, ?_, ?_, ?_, ?_⟩, by simp [intOf]; omega⟩
                  · refine ((unhide HR).set hj2).congr (fun i hi => ?_)
                    by_cases e : i = j
                    · subst e; rw [if_pos rfl, if_pos (by omega), unhide Hy]
                    · rw [if_neg e]
                      by_cases e' : i < j
                      · rw [if_pos e', if_pos (by omega)]
                      · rw [if_neg e', if_neg (by omega)]
                  · rw [Below.heap_setCell _ _ _ _ (by show w.heap.size + 1 ≠ w.heap.size; omega)]; exact unhide HK
                  · simpa [World.setCell] using hsz
                  · exact hB.setCell (by show w.heap.size ≤ w.heap.size; exact Nat.le_refl _) _
                · obtain rfl : j = 32 := by omega
                  have hfin : regAt wr w.heap.size (bitN (bitsR c.toNat (n + 1) r)) := (unhide HR).congr (fun i hi => by
                    rw [if_pos hi, unhide Hs, bitN_bitR (bitN_le _ _), unhide Ho])
                  have HF := hide hfin
                  clear hfin HR
                  go_wp2
                  exact ⟨⟨n + 1, by omega, by go_num, unhide HF, unhide HK, hsz, hB⟩, by simp [intOf]; omega⟩
            · obtain rfl : n = 8 := by omega
              have Hn' := hide (unhide Hnext)
              go_wp2
              exact ⟨⟨k + 1, by omega, by go_num, by rw [unhide Hn']; exact unhide HR, unhide HK, hsz, hB⟩, by simp [intOf]; omega⟩
        · obtain rfl : k = l.length := by omega
          rw [List.take_length] at Hr
          clear HK Hcell hs2 hlt hk
          go_wp2
          go_loop [10, 11] (fun n i => ∃ j : Nat, j ≤ 32 ∧ i = .int .i64 ((j : Int) - 1) ∧ n = .int .i64 ((4294967295 ^^^ r) / 2 ^ j : Nat)) (fun _ i => (intOf i + 1).toNat)
          case atStart => exact ⟨32, by omega, rfl, by rw [Nat.div_eq_of_lt (by have := xor_lt32 (show 4294967295 < 4294967296 by decide) hrl; omega)]; rfl⟩
          case round =>
            obtain ⟨j, hj, rfl, rfl⟩ := hrel
            by_cases hj0 : j = 0
            · subst hj0
              have hfin : (4294967295 ^^^ r) / 2 ^ 0 = sumN l := by rw [sumN, unhide Hr]; simp
              rw [hfin]
              clear hfin
              go_wp2
              go_ret
              exact ⟨rfl, hB⟩
            · obtain ⟨i, rfl⟩ : ∃ i, j = i + 1 := ⟨j - 1, by omega⟩
              have hst := flip_step (r := r) (k := i) (by omega)
              have hcl := (unhide HR).cell (show i < 32 by omega)
              have hle := bitN_le r i
              have hlt : (4294967295 ^^^ r) / 2 ^ (i + 1) < 4294967296 := Nat.lt_of_le_of_lt (Nat.div_le_self _ _) (xor_lt32 (by decide) hrl)
              obtain ⟨a, ha⟩ : ∃ a, (4294967295 ^^^ r) / 2 ^ (i + 1) = a := ⟨_, rfl⟩
              obtain ⟨y, hy⟩ : ∃ y, bitN r i = y := ⟨_, rfl⟩
              rw [ha] at hst hlt ⊢
              rw [hy] at hst hcl hle
              have Hst := hide hst
              clear ha hy hst
              rw [show ((i + 1 : Nat) : Int) - 1 = (i : Int) from by omega]
              go_wp2
              have hst := unhide Hst
              exact ⟨⟨i, by omega, rfl, i64_val (by omega)⟩, by simp only [intOf]; omega⟩

end Go.Proofs.YtaoflcmeiaffjaaGreatDoor

namespace Go.Proofs.YtaoflcmeiaffjaaGreatDoor
open Go.RowKit

theorem rnum_in (n : Int) (k : Nat) (w : World) (h0 : 0 ≤ n) (hn : n < 9223372036854775808) (hk : k ≤ 8) (d : Nat) (os : Array Obj) :
    Calls Tryz.prog 144 #[.int .i64 n, .int .i64 k] (Sort.grow (redrawn w d) os) fun e w'' => e = .returned (.string ⟨(be k n.toNat).toArray⟩) ∧ ∃ p : Regrown, w'' = Sort.grow (redrawn w p.d) p.os := by
  have h := bytesOf_any n.toNat k (Sort.grow (redrawn w d) os) (by omega) hk
  rw [Int.toNat_of_nonneg h0] at h
  exact Calls.regrown_of h

set_option maxRecDepth 10000 in
set_option maxHeartbeats 1000000 in
theorem rencode_no (t : WTxn) (w : World) (hzb : t.z ≤ 9223372036854775807) (hp : t.p.length ≤ 1048576) (hd : t.d.length ≤ 140737488355328) (h : gdE t ≠ 0) :
    Calls Tryz.prog 107 #[txnV t] w fun e w' => e = .returned (.tuple #[.string ⟨#[]⟩, .int .i64 (gdE t)]) ∧ Below w.heap.size w w' := by
  obtain ⟨E, hE⟩ : ∃ E, gdE t = E := ⟨_, rfl⟩
  have hne : (E == 0) = false := by rw [← hE]; simpa using h
  have hne' : (E != 0) = true := by simp [bne, hne]
  have HE := hide hE
  rw [hE]
  clear hE h
  obtain ⟨z, o, s, p, d, v, u⟩ := t
  unfold txnV
  go_enter Tryz.func107, Tryz.ntmps107
  go_wp2_with fail
  refine (rgd_any ⟨z, o, s, p, d, v, u⟩ _ hzb hp hd).mono ?_
  rintro e w1 ⟨rfl, hb1⟩
  have hbz := box_then hb1
  rw [unhide HE]
  go_wp2_with fail
  go_ret2
  exact ⟨rfl, hbz⟩

set_option maxRecDepth 100000 in
set_option maxHeartbeats 2000000 in
theorem rencode_yes (t : WTxn) (w : World) (ht : gdE t = 0) :
    Calls Tryz.prog 107 #[txnV t] w fun e w' => e = .returned (.tuple #[.string ⟨(recL t).toArray⟩, .int .i64 0]) ∧ Below w.heap.size w w' := by
  have H := hide ht
  obtain ⟨hz, ho, hs, hv, hu, hp, hd⟩ := gd_bounds ht
  have hbl := gd_body_le ht
  clear ht
  obtain ⟨bb, hbb⟩ : ∃ b, bodyL t = b := ⟨_, rfl⟩
  have Hb := hide hbb
  rw [hbb] at hbl
  clear hbb
  obtain ⟨z, o, s, p, d, v, u⟩ := t
  unfold txnV
  simp only at hz ho hs hv hu hp hd
  have hzp : (ByteArray.mk p.toArray).size = p.length := Lib.size_eq ⟨p.toArray⟩
  have hzd : (ByteArray.mk d.toArray).size = d.length := Lib.size_eq ⟨d.toArray⟩
  go_enter Tryz.func107, Tryz.ntmps107
  go_wp2_with fail
  refine (rgd_any ⟨z, o, s, p, d, v, u⟩ _ (by show z ≤ _; omega) (by show p.length ≤ _; omega) (by show d.length ≤ _; omega)).mono ?_
  rintro e W ⟨rfl, hb1⟩
  have hB := box_then hb1
  have hW : W.heap[w.heap.size]? = some (.cells #[.int .i64 z, .int .i64 o, .int .i64 s, .string ⟨p.toArray⟩, .string ⟨d.toArray⟩, .int .i64 v, .int .i64 u] 47) :=
    (hb1.block _ (by simp)).trans (by show (w.heap.push _)[w.heap.size]? = _; simp)
  rw [unhide H]
  go_wp2_with fail
  have k0 : ∀ d' os, (Sort.grow (redrawn W d') os).cell? ⟨w.heap.size, 0, none⟩ = some (.int .i64 z) := fun d' os => cell_regrown (by simp [World.cell?, hW]) d' os
  have k1 : ∀ d' os, (Sort.grow (redrawn W d') os).cell? ⟨w.heap.size, 1, none⟩ = some (.int .i64 o) := fun d' os => cell_regrown (by simp [World.cell?, hW]) d' os
  have k2 : ∀ d' os, (Sort.grow (redrawn W d') os).cell? ⟨w.heap.size, 2, none⟩ = some (.int .i64 s) := fun d' os => cell_regrown (by simp [World.cell?, hW]) d' os
  have k3 : ∀ d' os, (Sort.grow (redrawn W d') os).cell? ⟨w.heap.size, 3, none⟩ = some (.string ⟨p.toArray⟩) := fun d' os => cell_regrown (by simp [World.cell?, hW]) d' os
  have k4 : ∀ d' os, (Sort.grow (redrawn W d') os).cell? ⟨w.heap.size, 4, none⟩ = some (.string ⟨d.toArray⟩) := fun d' os => cell_regrown (by simp [World.cell?, hW]) d' os
  have k5 : ∀ d' os, (Sort.grow (redrawn W d') os).cell? ⟨w.heap.size, 5, none⟩ = some (.int .i64 v) := fun d' os => cell_regrown (by simp [World.cell?, hW]) d' os
  have k6 : ∀ d' os, (Sort.grow (redrawn W d') os).cell? ⟨w.heap.size, 6, none⟩ = some (.int .i64 u) := fun d' os => cell_regrown (by simp [World.cell?, hW]) d' os
  clear hW hb1
  have c0 : ∀ d' os, Calls Tryz.prog 144 #[.int .i64 z, .int .i64 8] (Sort.grow (redrawn W d') os) fun e w'' => e = .returned (.string ⟨(be 8 z.toNat).toArray⟩) ∧ ∃ p : Regrown, w'' = Sort.grow (redrawn W p.d) p.os := rnum_in z 8 W (by omega) (by omega) (by omega)
  have c1 : ∀ d' os, Calls Tryz.prog 144 #[.int .i64 o, .int .i64 1] (Sort.grow (redrawn W d') os) fun e w'' => e = .returned (.string ⟨(be 1 o.toNat).toArray⟩) ∧ ∃ p : Regrown, w'' = Sort.grow (redrawn W p.d) p.os := rnum_in o 1 W (by omega) (by omega) (by omega)
  have c2 : ∀ d' os, Calls Tryz.prog 144 #[.int .i64 s, .int .i64 4] (Sort.grow (redrawn W d') os) fun e w'' => e = .returned (.string ⟨(be 4 s.toNat).toArray⟩) ∧ ∃ p : Regrown, w'' = Sort.grow (redrawn W p.d) p.os := rnum_in s 4 W (by omega) (by omega) (by omega)
  have c3 : ∀ d' os, Calls Tryz.prog 144 #[.int .i64 v, .int .i64 4] (Sort.grow (redrawn W d') os) fun e w'' => e = .returned (.string ⟨(be 4 v.toNat).toArray⟩) ∧ ∃ p : Regrown, w'' = Sort.grow (redrawn W p.d) p.os := rnum_in v 4 W (by omega) (by omega) (by omega)
  have c4 : ∀ d' os, Calls Tryz.prog 144 #[.int .i64 u, .int .i64 4] (Sort.grow (redrawn W d') os) fun e w'' => e = .returned (.string ⟨(be 4 u.toNat).toArray⟩) ∧ ∃ p : Regrown, w'' = Sort.grow (redrawn W p.d) p.os := rnum_in u 4 W (by omega) (by omega) (by omega)
  have c5 : ∀ d' os, Calls Tryz.prog 144 #[.int .i64 (p.length : Nat), .int .i64 1] (Sort.grow (redrawn W d') os) fun e w'' => e = .returned (.string ⟨(be 1 p.length).toArray⟩) ∧ ∃ p : Regrown, w'' = Sort.grow (redrawn W p.d) p.os := rnum_in p.length 1 W (by omega) (by omega) (by omega)
  have c6 : ∀ d' os, Calls Tryz.prog 144 #[.int .i64 (d.length : Nat), .int .i64 2] (Sort.grow (redrawn W d') os) fun e w'' => e = .returned (.string ⟨(be 2 d.length).toArray⟩) ∧ ∃ p : Regrown, w'' = Sort.grow (redrawn W p.d) p.os := rnum_in d.length 2 W (by omega) (by omega) (by omega)
  have l0 := be_length 8 z.toNat
  have l1 := be_length 1 o.toNat
  have l2 := be_length 4 s.toNat
  have l3 := be_length 4 v.toNat
  have l4 := be_length 4 u.toNat
  have l5 := be_length 1 p.length
  have l6 := be_length 2 d.length
  obtain ⟨b0, e0⟩ : ∃ b, be 8 z.toNat = b := ⟨_, rfl⟩
  rw [e0] at c0 l0
  have E0 := hide e0
  clear e0
  obtain ⟨b1, e1⟩ : ∃ b, be 1 o.toNat = b := ⟨_, rfl⟩
  rw [e1] at c1 l1
  have E1 := hide e1
  clear e1
  obtain ⟨b2, e2⟩ : ∃ b, be 4 s.toNat = b := ⟨_, rfl⟩
  rw [e2] at c2 l2
  have E2 := hide e2
  clear e2
  obtain ⟨b3, e3⟩ : ∃ b, be 4 v.toNat = b := ⟨_, rfl⟩
  rw [e3] at c3 l3
  have E3 := hide e3
  clear e3
  obtain ⟨b4, e4⟩ : ∃ b, be 4 u.toNat = b := ⟨_, rfl⟩
  rw [e4] at c4 l4
  have E4 := hide e4
  clear e4
  obtain ⟨b5, e5⟩ : ∃ b, be 1 p.length = b := ⟨_, rfl⟩
  rw [e5] at c5 l5
  have E5 := hide e5
  clear e5
  obtain ⟨b6, e6⟩ : ∃ b, be 2 d.length = b := ⟨_, rfl⟩
  rw [e6] at c6 l6
  have E6 := hide e6
  clear e6
  refine wp_region_quiet_below (by kernel_rfl) (by kernel_rfl) ?_
  repeat (first | go_big_quiet_step (first | with_reducible exact c0 _ _ | with_reducible exact c1 _ _ | with_reducible exact c2 _ _ | with_reducible exact c3 _ _ | with_reducible exact c4 _ _ | with_reducible exact c5 _ _ | with_reducible exact c6 _ _) | quiet_step (first | with_reducible exact c0 _ _ | with_reducible exact c1 _ _ | with_reducible exact c2 _ _ | with_reducible exact c3 _ _ | with_reducible exact c4 _ _ | with_reducible exact c5 _ _ | with_reducible exact c6 _ _))
  refine wpQuiet_nil ?_
  intro _ hw'
  obtain ⟨⟨dq, osq⟩, hw''⟩ := hw'
  subst hw''
  have hb2 : Below w.heap.size w (Sort.grow (redrawn W dq) osq) := below_next hB (below_regrown W dq osq)
  clear c0 c1 c2 c3 c4 c5 c6 k0 k1 k2 k3 k4 k5 k6
  have hcat : (ByteArray.mk b0.toArray ++ ByteArray.mk b1.toArray ++ ByteArray.mk b2.toArray ++ ByteArray.mk b3.toArray ++ ByteArray.mk b4.toArray ++ ByteArray.mk b5.toArray ++ ByteArray.mk p.toArray ++ ByteArray.mk b6.toArray ++ ByteArray.mk d.toArray) = ⟨bb.toArray⟩ := by
    rw [cat_one, cat_one, cat_one, cat_one, cat_one, cat_one, cat_one, cat_one, ← unhide Hb]
    simp only [List.append_assoc, bodyL]
    rw [unhide E0, unhide E1, unhide E2, unhide E3, unhide E4, unhide E5, unhide E6]
  rw [hcat]
  clear hcat E0 E1 E2 E3 E4 E5 E6 l0 l1 l2 l3 l4 l5 l6 hB
  have hzb : (ByteArray.mk bb.toArray).size = bb.length := Lib.size_eq ⟨bb.toArray⟩
  go_wp2_with fail
  refine (bytesOf_any bb.length 2 _ (by omega) (by omega)).mono ?_
  rintro e w3 ⟨rfl, hb3⟩
  replace hb3 := below_next hb2 hb3
  clear hb2
  have l2 := be_length 2 bb.length
  obtain ⟨n2, e2⟩ : ∃ n2, be 2 bb.length = n2 := ⟨_, rfl⟩
  rw [e2] at l2 ⊢
  have E2 := hide e2
  clear e2
  go_wp2_with fail
  have hF : (ByteArray.mk #[84] ++ ByteArray.mk n2.toArray ++ ByteArray.mk bb.toArray) = ⟨(frontL bb).toArray⟩ := by
    rw [show (ByteArray.mk #[84]) = ⟨[(84 : UInt8)].toArray⟩ from rfl, cat_one, cat_one, frontL, unhide E2]
    rfl
  rw [hF]
  have lF := frontL_length bb
  obtain ⟨F, eF⟩ : ∃ F, frontL bb = F := ⟨_, rfl⟩
  rw [eF] at lF ⊢
  have EF := hide eF
  clear eF hF
  have hzF : (ByteArray.mk F.toArray).size = F.length := Lib.size_eq ⟨F.toArray⟩
  refine (rsum_any F _ (by omega)).mono ?_
  rintro e w4 ⟨rfl, hb4⟩
  replace hb4 := below_next hb3 hb4
  clear hb3
  have hsl := sumN_lt F
  obtain ⟨X, hX⟩ : ∃ X, sumN F = X := ⟨_, rfl⟩
  rw [hX] at hsl ⊢
  have HX := hide hX
  clear hX
  go_wp2_with fail
  refine (bytesOf_any X 4 _ (by omega) (by omega)).mono ?_
  rintro e w5 ⟨rfl, hb5⟩
  replace hb5 := below_next hb4 hb5
  clear hb4
  have l4 := be_length 4 X
  obtain ⟨n4, e4⟩ : ∃ n4, be 4 X = n4 := ⟨_, rfl⟩
  rw [e4] at l4 ⊢
  have E4 := hide e4
  clear e4
  go_wp2_with fail
  go_ret2
  refine ⟨ret_strI ?_ rfl, hb5⟩
  rw [cat_one, recL, unhide Hb, unhide EF, unhide HX, unhide E4]

end Go.Proofs.YtaoflcmeiaffjaaGreatDoor

namespace Go.Proofs.YtaoflcmeiaffjaaGreatDoor
open Go.RowKit

set_option maxRecDepth 10000 in
set_option maxHeartbeats 1000000 in
theorem rapp_no (fs : List DF) (t : WTxn) (safe : Bool) (hg : gdE t ≠ 0) (hzb : t.z ≤ 9223372036854775807) (hp : t.p.length ≤ 1048576) (hd : t.d.length ≤ 140737488355328) : GivesD 54 (fun x => #[x, txnV t, .bool safe]) fs [] (gdE t) := by
  refine dgives_no fun v w hv => ?_
  have C := fun W => rencode_no t W hzb hp hd hg
  have hne : (gdE t != 0) = true := by simpa using hg
  generalize gdE t = E at *
  obtain ⟨a, n, c, rfl⟩ := disk_slice hv
  obtain ⟨z, o, s, p, d, y, u⟩ := t
  unfold txnV at C ⊢
  clear hv hg hd hzb hp
  go_enter Tryz.func54, Tryz.ntmps54
  go_wp2_with fail
  have X := hide (ABox.start w (.slice a n c) (.cells #[.int .i64 z, .int .i64 o, .int .i64 s, .string ⟨p.toArray⟩, .string ⟨d.toArray⟩, .int .i64 y, .int .i64 u] 47))
  generalize ((w.alloc (.cells #[.slice a n c] 24)).alloc (.cells #[.int .i64 z, .int .i64 o, .int .i64 s, .string ⟨p.toArray⟩, .string ⟨d.toArray⟩, .int .i64 y, .int .i64 u] 47)).alloc (.cells #[.slice none 0 0] 24) = W0 at *
  refine (C _).mono ?_
  rintro e w1 ⟨rfl, hb1⟩
  have X1 := (unhide X).next hb1
  have cr := X1.r.c
  have fr := X1.r.f
  have HB := hide (X1.below.setCell (p := ⟨w.heap.size + 1 + 1, 0, none⟩) (by show w.heap.size ≤ w.heap.size + 1 + 1; omega) (.slice none 0 0))
  clear hb1 X C X1
  go_wp2_with fail
  exact bodyPost_ret (v := .tuple #[.agg #[.slice none 0 0], .int .i64 E]) (by simp [results, Tryz.results54, go_sem, cr]) rfl ⟨rfl, unhide HB⟩

set_option maxRecDepth 10000 in
set_option maxHeartbeats 1000000 in
theorem rapp_err (fs d1 : List DF) (t : WTxn) (safe : Bool) (E : Int) (hg : gdE t = 0) (W1 : GivesD 39 (fun x => #[x, .string ⟨logN.toArray⟩, .string ⟨(recL t).toArray⟩]) fs d1 E) (hE : E ≠ 0) : GivesD 54 (fun x => #[x, txnV t, .bool safe]) fs d1 E := by
  intro v w hv
  have C := fun W => rencode_yes t W hg
  have CW := fun W (h : Below w.heap.size w W) => W1 v W (hv.next h)
  have hne : (E != 0) = true := by simpa using hE
  simp only [show logN.toArray = #[108, 111, 103] from rfl] at CW
  generalize recL t = rb at *
  obtain ⟨a, n, c, rfl⟩ := disk_slice hv
  obtain ⟨z, o, s, p, d, y, u⟩ := t
  unfold txnV at C ⊢
  clear hv hg W1 hE
  go_enter Tryz.func54, Tryz.ntmps54
  go_wp2_with fail
  have X := hide (ABox.start w (.slice a n c) (.cells #[.int .i64 z, .int .i64 o, .int .i64 s, .string ⟨p.toArray⟩, .string ⟨d.toArray⟩, .int .i64 y, .int .i64 u] 47))
  generalize ((w.alloc (.cells #[.slice a n c] 24)).alloc (.cells #[.int .i64 z, .int .i64 o, .int .i64 s, .string ⟨p.toArray⟩, .string ⟨d.toArray⟩, .int .i64 y, .int .i64 u] 47)).alloc (.cells #[.slice none 0 0] 24) = W0 at *
  refine (C _).mono ?_
  rintro e w1 ⟨rfl, hb1⟩
  have X1 := (unhide X).next hb1
  have cd := X1.d.c
  have HX1 := hide X1
  clear hb1 X C X1
  go_wp2_with fail
  refine (CW _ (unhide HX1).below).mono ?_
  rintro e w2 ⟨a2, n2, c2, rfl, HD2, hb2⟩
  have X1b := (unhide HX1).next hb2
  have cd2 := X1b.d.c
  have fd2 := X1b.d.f
  have X2 := X1b.setd (.slice a2 n2 c2)
  have HD3 := hide (disk_box (unhide HD2) X1b.d (.slice a2 n2 c2))
  have cr2 := X2.r.c
  have fr2 := X2.r.f
  have ce2 := X2.d.c
  have HF := hide (And.intro (X2.below.setCell (p := ⟨w.heap.size + 1 + 1, 0, none⟩) (by show w.heap.size ≤ w.heap.size + 1 + 1; omega) (.slice a2 n2 c2)) (disk_box (unhide HD3) X2.r (.slice a2 n2 c2)))
  clear hb2 X2 X1b HX1 HD2 CW cd
  go_wp2_with fail
  exact bodyPost_ret (v := .tuple #[.agg #[.slice a2 n2 c2], .int .i64 E]) (by simp [results, Tryz.results54, go_sem, cr2]) rfl ⟨_, _, _, rfl, hide (unhide HF).2, (unhide HF).1⟩

set_option maxRecDepth 10000 in
set_option maxHeartbeats 1000000 in
theorem rapp_soft (fs d1 : List DF) (t : WTxn) (hg : gdE t = 0) (W1 : GivesD 39 (fun x => #[x, .string ⟨logN.toArray⟩, .string ⟨(recL t).toArray⟩]) fs d1 0) : GivesD 54 (fun x => #[x, txnV t, .bool false]) fs d1 0 := by
  intro v w hv
  have C := fun W => rencode_yes t W hg
  have CW := fun W (h : Below w.heap.size w W) => W1 v W (hv.next h)
  simp only [show logN.toArray = #[108, 111, 103] from rfl] at CW
  generalize recL t = rb at *
  obtain ⟨a, n, c, rfl⟩ := disk_slice hv
  obtain ⟨z, o, s, p, d, y, u⟩ := t
  unfold txnV at C ⊢
  clear hv hg W1
  go_enter Tryz.func54, Tryz.ntmps54
  go_wp2_with fail
  have X := hide (ABox.start w (.slice a n c) (.cells #[.int .i64 z, .int .i64 o, .int .i64 s, .string ⟨p.toArray⟩, .string ⟨d.toArray⟩, .int .i64 y, .int .i64 u] 47))
  generalize ((w.alloc (.cells #[.slice a n c] 24)).alloc (.cells #[.int .i64 z, .int .i64 o, .int .i64 s, .string ⟨p.toArray⟩, .string ⟨d.toArray⟩, .int .i64 y, .int .i64 u] 47)).alloc (.cells #[.slice none 0 0] 24) = W0 at *
  refine (C _).mono ?_
  rintro e w1 ⟨rfl, hb1⟩
  have X1 := (unhide X).next hb1
  have cd := X1.d.c
  have HX1 := hide X1
  clear hb1 X C X1
  go_wp2_with fail
  refine (CW _ (unhide HX1).below).mono ?_
  rintro e w2 ⟨a2, n2, c2, rfl, HD2, hb2⟩
  have X1b := (unhide HX1).next hb2
  have cd2 := X1b.d.c
  have fd2 := X1b.d.f
  have X2 := X1b.setd (.slice a2 n2 c2)
  have HD3 := hide (disk_box (unhide HD2) X1b.d (.slice a2 n2 c2))
  have cr2 := X2.r.c
  have fr2 := X2.r.f
  have ce2 := X2.d.c
  have HF := hide (And.intro (X2.below.setCell (p := ⟨w.heap.size + 1 + 1, 0, none⟩) (by show w.heap.size ≤ w.heap.size + 1 + 1; omega) (.slice a2 n2 c2)) (disk_box (unhide HD3) X2.r (.slice a2 n2 c2)))
  clear hb2 X2 X1b HX1 HD2 CW cd
  go_wp2_with fail
  exact bodyPost_ret (v := .tuple #[.agg #[.slice a2 n2 c2], .int .i64 0]) (by simp [results, Tryz.results54, go_sem, cr2]) rfl ⟨_, _, _, rfl, hide (unhide HF).2, (unhide HF).1⟩

set_option maxRecDepth 10000 in
set_option maxHeartbeats 1000000 in
theorem rapp_safe (fs d1 d2 : List DF) (t : WTxn) (E2 : Int) (hg : gdE t = 0) (W1 : GivesD 39 (fun x => #[x, .string ⟨logN.toArray⟩, .string ⟨(recL t).toArray⟩]) fs d1 0) (S1 : GivesD 40 (fun x => #[x, .string ⟨logN.toArray⟩]) d1 d2 E2) : GivesD 54 (fun x => #[x, txnV t, .bool true]) fs d2 E2 := by
  intro v w hv
  have C := fun W => rencode_yes t W hg
  have CW := fun W (h : Below w.heap.size w W) => W1 v W (hv.next h)
  have HCS := hide S1
  simp only [show logN.toArray = #[108, 111, 103] from rfl] at CW
  generalize recL t = rb at *
  simp only [show logN.toArray = #[108, 111, 103] from rfl] at HCS
  obtain ⟨a, n, c, rfl⟩ := disk_slice hv
  obtain ⟨z, o, s, p, d, y, u⟩ := t
  unfold txnV at C ⊢
  clear hv hg W1 S1
  go_enter Tryz.func54, Tryz.ntmps54
  go_wp2_with fail
  have X := hide (ABox.start w (.slice a n c) (.cells #[.int .i64 z, .int .i64 o, .int .i64 s, .string ⟨p.toArray⟩, .string ⟨d.toArray⟩, .int .i64 y, .int .i64 u] 47))
  generalize ((w.alloc (.cells #[.slice a n c] 24)).alloc (.cells #[.int .i64 z, .int .i64 o, .int .i64 s, .string ⟨p.toArray⟩, .string ⟨d.toArray⟩, .int .i64 y, .int .i64 u] 47)).alloc (.cells #[.slice none 0 0] 24) = W0 at *
  refine (C _).mono ?_
  rintro e w1 ⟨rfl, hb1⟩
  have X1 := (unhide X).next hb1
  have cd := X1.d.c
  have HX1 := hide X1
  clear hb1 X C X1
  go_wp2_with fail
  refine (CW _ (unhide HX1).below).mono ?_
  rintro e w2 ⟨a2, n2, c2, rfl, HD2, hb2⟩
  have X1b := (unhide HX1).next hb2
  have cd2 := X1b.d.c
  have fd2 := X1b.d.f
  have X2 := X1b.setd (.slice a2 n2 c2)
  have HD3 := hide (disk_box (unhide HD2) X1b.d (.slice a2 n2 c2))
  have cr2 := X2.r.c
  have fr2 := X2.r.f
  have ce2 := X2.d.c
  have HX2 := hide X2
  clear hb2 X2 X1b HX1 HD2 CW cd
  go_wp2_with fail
  refine (unhide HCS _ _ (unhide HD3)).mono ?_
  rintro e w4 ⟨a4, n4, c4, rfl, HD4, hb4⟩
  have X4 := (unhide HX2).next hb4
  have cr4 := X4.r.c
  have fr4 := X4.r.f
  have HF := hide (And.intro (X4.below.setCell (p := ⟨w.heap.size + 1 + 1, 0, none⟩) (by show w.heap.size ≤ w.heap.size + 1 + 1; omega) (.slice a4 n4 c4)) (disk_box (unhide HD4) X4.r (.slice a4 n4 c4)))
  clear hb4 X4 HX2 HD3 HD4 HCS
  go_wp2_with fail
  exact bodyPost_ret (v := .tuple #[.agg #[.slice a4 n4 c4], .int .i64 E2]) (by simp [results, Tryz.results54, go_sem, cr4]) rfl ⟨_, _, _, rfl, hide (unhide HF).2, (unhide HF).1⟩
end Go.Proofs.YtaoflcmeiaffjaaGreatDoor

namespace Go.Proofs.YtaoflcmeiaffjaaGreatDoor
open Go.RowKit

theorem log_len {w : World} {v : Value} {ts : List WTxn} (hv : LogV w v ts) : (∃ a c, v = .slice a 0 c ∧ ts = []) ∨ ∃ b off c, v = .slice (some ⟨b, off, none⟩) ts.length c ∧ b < w.heap.size ∧ RowAt w b off (cellsT ts) ∧ ts ≠ [] := by
  rcases hv with ⟨a, cap, rfl, rfl, _⟩ | ⟨b, off, cap, rfl, _, _, hb, h0, hr⟩
  · exact .inl ⟨a, cap, rfl, rfl⟩
  · exact .inr ⟨b, off, cap, rfl, hb, hr, h0⟩

set_option maxRecDepth 10000 in
set_option maxHeartbeats 400000 in
theorem rsl_none (a a' : Option Addr) (c c' : Nat) (w : World) :
    Calls Tryz.prog 93 #[.slice a 0 c, .slice a' 0 c'] w fun e w' => e = .returned (.bool true) ∧ Below w.heap.size w w' := by
  go_enter Tryz.func93, Tryz.ntmps93
  go_wp2_with fail
  go_loopg [13] 1 (fun _ s wr => s = .int .i64 0 ∧ wr = w)
  case atStart => exact ⟨rfl, rfl⟩
  case round =>
    obtain ⟨rfl, rfl⟩ := hrel
    go_wp2_with fail
    go_ret
    exact ⟨rfl, Below.refl _ _⟩

set_option maxRecDepth 10000 in
set_option maxHeartbeats 1000000 in
theorem rsl_some (b off c b' off' c' : Nat) (ts : List WTxn) (w : World) (hl : ts.length ≤ 1000000) (hr : RowAt w b off (cellsT ts)) (hr' : RowAt w b' off' (cellsT ts)) :
    Calls Tryz.prog 93 #[.slice (some ⟨b, off, none⟩) ts.length c, .slice (some ⟨b', off', none⟩) ts.length c'] w fun e w' => e = .returned (.bool true) ∧ Below w.heap.size w w' := by
  have HR := hide hr
  have HR' := hide hr'
  clear hr hr'
  go_enter Tryz.func93, Tryz.ntmps93
  go_wp2_with fail
  go_loopg [13] ts.length (fun kx s wr => ∃ (k : Nat) (q : Nat), s = .int .i64 k ∧ k ≤ ts.length ∧ ts.length - k ≤ kx ∧ wr = w.drewN q)
  case atStart => exact ⟨0, 0, rfl, Nat.zero_le _, by omega, rfl⟩
  case round =>
    obtain ⟨k, q, rfl, hk, hkx, rfl⟩ := hrel
    by_cases hlt : k < ts.length
    · obtain ⟨t, ht⟩ : ∃ t, ts[k]? = some t := ⟨_, List.getElem?_eq_getElem hlt⟩
      have r := unhide HR
      have e0 := r.z ht
      have e1 := r.o ht
      have e2 := r.s ht
      have e3 := r.p ht
      have e4 := r.d ht
      have e5 := r.v ht
      have e6 := r.w ht
      have r' := unhide HR'
      have e0' := r'.z ht
      have e1' := r'.o ht
      have e2' := r'.s ht
      have e3' := r'.p ht
      have e4' := r'.d ht
      have e5' := r'.v ht
      have e6' := r'.w ht
      have hlti : (k : Int) < (ts.length : Int) := by omega
      clear r r' ht
      go_wp2_with fail
      go_region
      go_wp2_with fail
      go_roundg (ts.length - (k + 1))
      case measure => omega
      case rel => exact ⟨k + 1, q + 1, rfl, by omega, Nat.le_refl _, rfl⟩
    · have hki : ¬ ((k : Int) < (ts.length : Int)) := by omega
      go_wp2_with fail
      go_ret
      exact ⟨rfl, ⟨rfl, rfl, rfl, Nat.le_refl _, fun _ _ => rfl⟩⟩

theorem rsl_any (v v' : Value) (ts : List WTxn) (w : World) (hl : ts.length ≤ 1000000) (hv : LogV w v ts) (hv' : LogV w v' ts) :
    Calls Tryz.prog 93 #[v, v'] w fun e w' => e = .returned (.bool true) ∧ Below w.heap.size w w' := by
  rcases log_len hv with ⟨a, c, rfl, h0⟩ | ⟨b, off, c, rfl, hb, hr, h0⟩
  · rcases log_len hv' with ⟨a', c', rfl, _⟩ | ⟨b', off', c', rfl, hb', hr', h0'⟩
    · exact rsl_none a a' c c' w
    · exact absurd h0 h0'
  · rcases log_len hv' with ⟨a', c', rfl, h0'⟩ | ⟨b', off', c', rfl, hb', hr', h0'⟩
    · exact absurd h0' h0
    · exact rsl_some b off c b' off' c' ts w hl hr hr'
end Go.Proofs.YtaoflcmeiaffjaaGreatDoor

namespace Go.Proofs.YtaoflcmeiaffjaaGreatDoor
open Go.RowKit

theorem nat_at (A : List Nd) (x : Nd) (B : List Nd) : (A ++ x :: B)[A.length]? = some x := by simp

set_option maxRecDepth 20000 in
set_option maxHeartbeats 2000000 in
theorem parent_full (F : Nat → Prop) (b : Nat) (z : Int) (vn vs ve : Value) (ns A B : List Nd) (u : Nd) (ss : List Int) (es : List Ev) (p : List UInt8) (more : Int) (w : World)
    (h : Grow w F b z vn vs ve ns ss es) (T : NThere ns A u B p) (hl : ns.length ≤ 400) (hk : u.k = 2147483647) :
    Calls Tryz.prog 190 #[.pointer (some ⟨b, 0, none⟩), .string ⟨p.toArray⟩, .int .i64 more] w fun e w' => e = .returned (.int .i64 6) ∧ Touch F w w' := by
  have CF := fun W (hW : Below w.heap.size w W) => nfind_there vn ns A B u p W (h.n.next hW).seq (by omega) T
  obtain ⟨g, cap, rfl, hr, hgb, hFg⟩ := h.nrow (by rw [T.eq]; simp)
  have c1 := h.c1
  have HG := hide h
  have HE := hide T.eq
  have hlt : A.length < ns.length := by rw [T.eq]; simp
  clear h hr T
  go_enter Tryz.func190, Tryz.ntmps190
  go_wp2_with fail
  refine (CF _ (Below.refl _ _)).mono ?_
  rintro e w1 ⟨rfl, hb1⟩
  have g1 := (unhide HG).next hb1
  have d1 := g1.c1
  obtain ⟨g', cap', he, hr, _, _⟩ := g1.nrow (by rw [unhide HE]; simp)
  simp only [Value.slice.injEq, Option.some.injEq, Addr.mk.injEq, and_true] at he
  obtain ⟨rfl, _, rfl⟩ := he
  have r6 := hr.row.n6 (i := A.length) (x := u) (by rw [unhide HE]; exact nat_at A u B)
  rw [hk, Nat.zero_add] at r6
  have HB := hide hb1
  clear CF c1 g1 hr hb1
  go_wp2_with fail
  go_ret
  exact ⟨rfl, Touch.of_below (unhide HB)⟩

set_option maxRecDepth 20000 in
set_option maxHeartbeats 4000000 in
theorem parent_ok (F : Nat → Prop) (b : Nat) (z : Int) (vn vs ve : Value) (ns A B : List Nd) (u : Nd) (ss : List Int) (es : List Ev) (p : List UInt8) (more : Int) (w : World)
    (h : Grow w F b z vn vs ve ns ss es) (hF : ∀ k, w.heap.size ≤ k → F k) (T : NThere ns A u B p) (hl : ns.length ≤ 400) (hk : 0 ≤ u.k ∧ u.k < 2147483647) (hn : 0 ≤ u.n ∧ u.n ≤ 1000) (hm : -1 ≤ more ∧ more ≤ 1) (hp : p.length ≤ 140737488355328) (hes : es.length ≤ 99999) :
    Calls Tryz.prog 190 #[.pointer (some ⟨b, 0, none⟩), .string ⟨p.toArray⟩, .int .i64 more] w fun e w' => e = .returned (.int .i64 0) ∧ ∃ ve', Grow w' F b z vn vs ve' (A ++ bump z more u :: B) ss (es ++ [⟨4, p⟩]) ∧ Touch F w w' := by
  have CF := fun W (hW : Below w.heap.size w W) => nfind_there vn ns A B u p W (h.n.next hW).seq (by omega) T
  obtain ⟨g, cap, rfl, hr, hgb, hFg⟩ := h.nrow (by rw [T.eq]; simp)
  have c1 := h.c1
  have HG := hide h
  have HE := hide T.eq
  have HF := hide hF
  have hlt : A.length < ns.length := by rw [T.eq]; simp
  clear h hr T hF
  go_enter Tryz.func190, Tryz.ntmps190
  go_wp2_with fail
  refine (CF _ (Below.refl _ _)).mono ?_
  rintro e w1 ⟨rfl, hb1⟩
  have g1 := (unhide HG).next hb1
  have d1 := g1.c1
  have d0 := g1.c0
  obtain ⟨g', cap', he, hr, _, _⟩ := g1.nrow (by rw [unhide HE]; simp)
  simp only [Value.slice.injEq, Option.some.injEq, Addr.mk.injEq, and_true] at he
  obtain ⟨rfl, _, rfl⟩ := he
  have at' : ns[A.length]? = some u := by rw [unhide HE]; exact nat_at A u B
  have r4 := hr.row.n4 at'
  have r6 := hr.row.n6 at'
  have r8 := hr.row.n8 at'
  have z4 := hr.frozen (A.length * 9 + 4)
  have z6 := hr.frozen (A.length * 9 + 6)
  have z8 := hr.frozen (A.length * 9 + 8)
  rw [Nat.zero_add] at r4 r6 r8
  have hne : g ≠ b := hgb
  have hne' : b ≠ g := Ne.symm hgb
  have hk1 := hk.1
  have hk2 := hk.2
  have hkn : ¬ u.k = 2147483647 := by omega
  have g4 : Grow (((w1.setCell ⟨g, A.length * 9 + 8, none⟩ (.int .i64 (u.n + more))).setCell ⟨g, A.length * 9 + 6, none⟩ (.int .i64 (u.k + 1))).setCell ⟨g, A.length * 9 + 4, none⟩ (.int .i64 z)) F b z (.slice (some ⟨g, 0, none⟩) ns.length cap) vs ve (A ++ bump z more u :: B) ss es := by
    have e0 := g1
    rw [unhide HE] at e0
    have e1 := e0.put (m := ⟨u.p, u.d, u.c, u.m, u.q, u.v, u.k, u.o, u.n + more⟩) (c := 8) (by omega) (v := .int .i64 (u.n + more)) rfl
    have e2 := e1.put (m := ⟨u.p, u.d, u.c, u.m, u.q, u.v, u.k + 1, u.o, u.n + more⟩) (c := 6) (by omega) (v := .int .i64 (u.k + 1)) rfl
    have e3 := e2.put (m := bump z more u) (c := 4) (by omega) (v := .int .i64 z) rfl
    rw [unhide HE]
    exact e3
  have T4 : Touch F w (((w1.setCell ⟨g, A.length * 9 + 8, none⟩ (.int .i64 (u.n + more))).setCell ⟨g, A.length * 9 + 6, none⟩ (.int .i64 (u.k + 1))).setCell ⟨g, A.length * 9 + 4, none⟩ (.int .i64 z)) :=
    (((Touch.of_below hb1).trans (Touch.set hFg _)).trans (Touch.set hFg _)).trans (Touch.set hFg _)
  have CT := fun W (hW : Grow W F b z (.slice (some ⟨g, 0, none⟩) ns.length cap) vs ve (A ++ bump z more u :: B) ss es) (hs : w.heap.size ≤ W.heap.size) => tell_any F b z _ vs ve _ ss es 4 p W hW (fun k hk => unhide HF k (by omega)) hp (by omega)
  have HG4 := hide g4
  have HT4 := hide T4
  have HCT := hide CT
  clear CF c1 g1 hr hb1 at' g4 T4 CT
  go_wp2_with fail
  refine (unhide HCT _ (unhide HG4) (unhide HT4).size).mono ?_
  rintro e w5 ⟨rfl, ve', g5, t5⟩
  have HG5 := hide g5
  have HT5 := hide ((unhide HT4).trans t5)
  clear g5 t5
  go_wp2_with fail
  go_ret
  exact ⟨rfl, ve', unhide HG5, unhide HT5⟩

end Go.Proofs.YtaoflcmeiaffjaaGreatDoor

namespace Go.Proofs.YtaoflcmeiaffjaaGreatDoor
open Go.RowKit

/- remove -/
set_option maxRecDepth 20000 in
set_option maxHeartbeats 2000000 in
theorem remove_gap (F : Nat → Prop) (b : Nat) (z : Int) (vn vs ve : Value) (ns A B : List Nd) (ss : List Int) (es : List Ev) (p : List UInt8) (w : World)
    (h : Grow w F b z vn vs ve ns ss es) (G : NGap ns A B p) (hl : ns.length ≤ 400) :
    Calls Tryz.prog 153 #[.pointer (some ⟨b, 0, none⟩), .string ⟨p.toArray⟩] w fun e w' => e = .returned (.int .i64 7) ∧ Touch F w w' := by
  have CF := fun W (hW : Below w.heap.size w W) => nfind_gap vn ns A B p W (h.n.next hW).seq (by omega) G
  have c1 := h.c1
  obtain ⟨na, nc, rfl, _⟩ := h.n.slice
  clear h G
  go_enter Tryz.func153, Tryz.ntmps153
  go_wp2_with fail
  refine (CF _ (Below.refl _ _)).mono ?_
  rintro e w1 ⟨rfl, hb1⟩
  clear CF
  go_wp2_with fail
  go_ret
  exact ⟨rfl, Touch.of_below hb1⟩

set_option maxRecDepth 20000 in
set_option maxHeartbeats 2000000 in
theorem remove_kids (F : Nat → Prop) (b : Nat) (z : Int) (vn vs ve : Value) (ns A B : List Nd) (u : Nd) (ss : List Int) (es : List Ev) (p : List UInt8) (w : World)
    (h : Grow w F b z vn vs ve ns ss es) (T : NThere ns A u B p) (hl : ns.length ≤ 400) (hk : u.n ≠ 0) :
    Calls Tryz.prog 153 #[.pointer (some ⟨b, 0, none⟩), .string ⟨p.toArray⟩] w fun e w' => e = .returned (.int .i64 10) ∧ Touch F w w' := by
  have CF := fun W (hW : Below w.heap.size w W) => nfind_there vn ns A B u p W (h.n.next hW).seq (by omega) T
  obtain ⟨g, cap, rfl, hr, hgb, hFg⟩ := h.nrow (by rw [T.eq]; simp)
  have c1 := h.c1
  have HG := hide h
  have HE := hide T.eq
  have hlt : A.length < ns.length := by rw [T.eq]; simp
  clear h hr T
  go_enter Tryz.func153, Tryz.ntmps153
  go_wp2_with fail
  refine (CF _ (Below.refl _ _)).mono ?_
  rintro e w1 ⟨rfl, hb1⟩
  have g1 := (unhide HG).next hb1
  have d1 := g1.c1
  obtain ⟨g', cap', he, hr, _, _⟩ := g1.nrow (by rw [unhide HE]; simp)
  simp only [Value.slice.injEq, Option.some.injEq, Addr.mk.injEq, and_true] at he
  obtain ⟨rfl, _, rfl⟩ := he
  have r8 := hr.row.n8 (i := A.length) (x := u) (by rw [unhide HE]; exact nat_at A u B)
  rw [Nat.zero_add] at r8
  have hk' : (u.n != 0) = true := by simpa using hk
  have HB := hide hb1
  clear CF c1 g1 hr hb1 hk
  go_wp2_with fail
  go_ret
  exact ⟨rfl, Touch.of_below (unhide HB)⟩

set_option maxRecDepth 20000 in
set_option maxHeartbeats 4000000 in
theorem remove_main (F : Nat → Prop) (b : Nat) (z : Int) (vn vs ve : Value) (ns A B : List Nd) (n : Nd) (ss : List Int) (es : List Ev) (p : List UInt8) (w : World) (E : Int) (Post : World → Prop)
    (h : Grow w F b z vn vs ve ns ss es) (hF : ∀ k, w.heap.size ≤ k → F k) (T : NThere ns A n B p) (hl : ns.length ≤ 400) (hk : n.n = 0) (hp : p.length ≤ 140737488355328) (hes : es.length ≤ 99998)
    (hpar : ∀ W vn' ve', Grow W F b z vn' vs ve' (A ++ B) ss (es ++ [⟨2, p⟩]) → w.heap.size ≤ W.heap.size → Touch F w W → Calls Tryz.prog 190 #[.pointer (some ⟨b, 0, none⟩), .string ⟨(dirOf p).toArray⟩, .int .i64 (-1)] W fun e w' => e = .returned (.int .i64 E) ∧ Post w') :
    Calls Tryz.prog 153 #[.pointer (some ⟨b, 0, none⟩), .string ⟨p.toArray⟩] w fun e w' => e = .returned (.int .i64 E) ∧ Post w' := by
  have CF := fun W (hW : Below w.heap.size w W) => nfind_there vn ns A B n p W (h.n.next hW).seq (by omega) T
  obtain ⟨g, cap, rfl, hr, hgb, hFg⟩ := h.nrow (by rw [T.eq]; simp)
  have c1 := h.c1
  have HG := hide h
  have HE := hide T.eq
  have HF := hide hF
  have HP := hide hpar
  have hlen : ns.length = A.length + B.length + 1 := by rw [T.eq]; simp; omega
  have hlt : A.length < ns.length := by omega
  have HL := hide hlen
  have CD := fun W (ho : OwnR W g cap (A ++ n :: B)) => ndelete_any g cap A B n ns.length W ho (unhide HL) hl
  have CS := fun W => split_any p W
  have HCD := hide CD
  have HCS := hide CS
  clear h hr T hF hpar CD CS hlen
  go_enter Tryz.func153, Tryz.ntmps153
  go_wp2_with fail
  refine (CF _ (Below.refl _ _)).mono ?_
  rintro e w1 ⟨rfl, hb1⟩
  have g1 := (unhide HG).next hb1
  have d1 := g1.c1
  obtain ⟨g', cap', he, hr, _, _⟩ := g1.nrow (by rw [unhide HE]; simp)
  simp only [Value.slice.injEq, Option.some.injEq, Addr.mk.injEq, and_true] at he
  obtain ⟨rfl, _, rfl⟩ := he
  have r8 := hr.row.n8 (i := A.length) (x := n) (by rw [unhide HE]; exact nat_at A n B)
  rw [Nat.zero_add, hk] at r8
  have HB := hide hb1
  have HG1 := hide g1
  have HR := hide (show OwnR w1 g cap (A ++ n :: B) by rw [← unhide HE]; exact hr)
  clear CF c1 g1 hr hb1
  go_wp2_with fail
  rw [show ((A.length : Int) + 1) = ((A.length + 1 : Nat) : Int) from by omega]
  refine (unhide HCD _ (unhide HR)).mono ?_
  rintro e w2 ⟨rfl, ho2, hg2⟩
  have m1 : w2.cell? ⟨b, 1, none⟩ = some (.slice (some ⟨g, 0, none⟩) ns.length cap) := hg2.cell d1 (fun e => hgb (Option.some.inj e).symm)
  have l1 : w2.frozen? ⟨b, 1, none⟩ = false := (World.frozen?_of_block (hg2.block b (unhide HG1).lt (fun e => hgb (Option.some.inj e).symm))).trans ((unhide HG1).fz 1)
  have g2 := (unhide HG1).nd (vn' := .slice (some ⟨g, 0, none⟩) (A.length + B.length) cap) (ns' := A ++ B) (fun k hk => unhide HF k (by have := (unhide HB).size; omega)) hg2 (.inr ⟨g, cap, by rw [List.length_append], Nat.zero_le _, ho2⟩) (.inl rfl)
  have t2 : Touch F w (w2.setCell ⟨b, 1, none⟩ (.slice (some ⟨g, 0, none⟩) (A.length + B.length) cap)) := ((Touch.of_below (unhide HB)).trans (Touch.of_grown hg2 (fun k e => by cases e; exact hFg))).trans (Touch.set g2.fb _)
  have HG2 := hide g2
  have HT2 := hide t2
  clear g2 t2 ho2 hg2 d1 r8 HR
  go_wp2_with fail
  refine (tell_any F b z _ vs ve _ ss es 2 p _ (unhide HG2) (fun k hk => unhide HF k (by have := (unhide HT2).size; omega)) hp (by omega)).mono ?_
  rintro e w3 ⟨rfl, ve', g3, t3⟩
  have HG3 := hide g3
  have HT3 := hide ((unhide HT2).trans t3)
  clear g3 t3 m1 l1
  go_wp2_with fail
  refine (unhide HCS _).mono ?_
  rintro e w4 ⟨rfl, hb4⟩
  have HG4 := hide ((unhide HG3).next hb4)
  have HT4 := hide ((unhide HT3).trans (Touch.of_below hb4))
  clear hb4
  go_wp2_with fail
  refine (unhide HP _ _ _ (unhide HG4) (unhide HT4).size (unhide HT4)).mono ?_
  rintro e w5 ⟨rfl, hp5⟩
  have HP5 := hide hp5
  clear hp5
  go_wp2_with fail
  go_ret
  exact ⟨rfl, unhide HP5⟩

/-- a node goes, and its parent has room -/
theorem remove_ok (F : Nat → Prop) (b : Nat) (z : Int) (vn vs ve : Value) (ns A B A' B' : List Nd) (n u : Nd) (ss : List Int) (es : List Ev) (p : List UInt8) (w : World)
    (h : Grow w F b z vn vs ve ns ss es) (hF : ∀ k, w.heap.size ≤ k → F k) (T : NThere ns A n B p) (T' : NThere (A ++ B) A' u B' (dirOf p)) (hl : ns.length ≤ 400) (hk : n.n = 0) (hu : 0 ≤ u.k ∧ u.k < 2147483647) (hn : 0 ≤ u.n ∧ u.n ≤ 1000) (hp : p.length ≤ 140737488355328) (hd : (dirOf p).length ≤ 140737488355328) (hes : es.length ≤ 99998) :
    Calls Tryz.prog 153 #[.pointer (some ⟨b, 0, none⟩), .string ⟨p.toArray⟩] w fun e w' => e = .returned (.int .i64 0) ∧ ∃ vn' ve', Grow w' F b z vn' vs ve' (rmN z ns p) ss (es ++ [⟨2, p⟩, ⟨4, dirOf p⟩]) ∧ Touch F w w' := by
  refine remove_main F b z vn vs ve ns A B n ss es p w 0 _ h hF T hl hk hp hes (fun W vn' ve' hG hs ht => ?_)
  have hlen : (A ++ B).length ≤ 400 := by have := congrArg List.length T.eq; simp at this ⊢; omega
  refine (parent_ok F b z vn' vs ve' (A ++ B) A' B' u ss _ (dirOf p) (-1) W hG (fun k hk => hF k (by omega)) T' hlen hu hn (by omega) hd (by simp; omega)).mono ?_
  rintro e w' ⟨rfl, ve2, g, t⟩
  refine ⟨rfl, vn', ve2, ?_, ht.trans t⟩
  rw [rmN, T.drop, T'.bump]
  simpa using g
theorem remove_full (F : Nat → Prop) (b : Nat) (z : Int) (vn vs ve : Value) (ns A B A' B' : List Nd) (n u : Nd) (ss : List Int) (es : List Ev) (p : List UInt8) (w : World)
    (h : Grow w F b z vn vs ve ns ss es) (hF : ∀ k, w.heap.size ≤ k → F k) (T : NThere ns A n B p) (T' : NThere (A ++ B) A' u B' (dirOf p)) (hl : ns.length ≤ 400) (hk : n.n = 0) (hu : u.k = 2147483647) (hp : p.length ≤ 140737488355328) (hes : es.length ≤ 99998) :
    Calls Tryz.prog 153 #[.pointer (some ⟨b, 0, none⟩), .string ⟨p.toArray⟩] w fun e w' => e = .returned (.int .i64 6) ∧ Touch F w w' := by
  refine remove_main F b z vn vs ve ns A B n ss es p w 6 _ h hF T hl hk hp hes (fun W vn' ve' hG hs ht => ?_)
  have hlen : (A ++ B).length ≤ 400 := by have := congrArg List.length T.eq; simp at this ⊢; omega
  refine (parent_full F b z vn' vs ve' (A ++ B) A' B' u ss _ (dirOf p) (-1) W hG T' hlen hu).mono ?_
  rintro e w' ⟨rfl, t⟩
  exact ⟨rfl, ht.trans t⟩

end Go.Proofs.YtaoflcmeiaffjaaGreatDoor

namespace Go.Proofs.YtaoflcmeiaffjaaGreatDoor
open Go.RowKit

theorem one_newI (w : World) (x : Int) : OneR (w.alloc (.cells #[.int .i64 x] 3)) w.heap.size x := heap_alloc_new w _
theorem one_newS (w : World) (x : List UInt8) : OneR (w.alloc (.cells #[.string ⟨x.toArray⟩] 9)) w.heap.size x := heap_alloc_new w _

set_option maxRecDepth 20000 in
set_option maxHeartbeats 2000000 in
theorem gopen_ok (F : Nat → Prop) (b : Nat) (z : Int) (vn vs ve : Value) (ns : List Nd) (ss A B : List Int) (es : List Ev) (s : Int) (w : World)
    (h : Grow w F b z vn vs ve ns ss es) (hF : ∀ k, w.heap.size ≤ k → F k) (G : SGap ss A B s) (hl : ss.length ≤ 2147483646) :
    Calls Tryz.prog 150 #[.pointer (some ⟨b, 0, none⟩), .int .i64 s] w fun e w' => e = .returned (.tuple #[]) ∧ ∃ vs', Grow w' F b z vn vs' ve ns (A ++ s :: B) es ∧ Touch F w w' := by
  have CF := ibs_gap vs ss A B s w h.s.seq (by omega) G
  have h0 := (h.next (allocB w (.cells #[.int .i64 s] 3)))
  have CI := iinsert_any vs A B s w.heap.size _ (by rw [← G.eq]; exact h0.s) (by rw [← G.eq]; omega) (one_newI w s) (fun e => by have := h.s.low _ e; omega)
  have c2 := h.c2
  have HG0 := hide h0
  have HF := hide hF
  have hbl := h.lt
  obtain ⟨sa, sc, rfl, _⟩ := h.s.slice
  have HCI := hide CI
  clear h h0 hF G CI
  go_enter Tryz.func150, Tryz.ntmps150
  go_wp2_with fail
  refine CF.mono ?_
  rintro e w1 ⟨rfl, rfl⟩
  go_wp2_with fail
  refine (unhide HCI).mono ?_
  rintro e w2 ⟨v', rfl, ho, hg, hloc⟩
  have n2 : ¬ (Value.slice sa ss.length sc).ownBlock = some b := fun e => ((unhide HG0).fs b e).2 rfl
  have m2 : w2.cell? ⟨b, 2, none⟩ = some (.slice sa ss.length sc) := hg.cell (unhide HG0).c2 (fun e => n2 e.symm)
  have l2 : w2.frozen? ⟨b, 2, none⟩ = false := (World.frozen?_of_block (hg.block b (unhide HG0).lt (fun e => n2 e.symm))).trans ((unhide HG0).fz 2)
  have g2 := (unhide HG0).se (vs' := v') (ss' := A ++ s :: B) (fun k hk => unhide HF k (by simp at hk; omega)) hg ho hloc
  have t2 : Touch F w1 (w2.setCell ⟨b, 2, none⟩ v') := ((Touch.of_below (allocB w1 _)).trans (Touch.of_grown hg (fun k e => ((unhide HG0).fs k e).1))).trans (Touch.set (unhide HG0).fb _)
  obtain ⟨va, L, vc, rfl⟩ : ∃ va L vc, v' = .slice va L vc := by obtain ⟨va, vc, h, _⟩ := ho.slice; exact ⟨_, _, _, h⟩
  have HG2 := hide g2
  have HT2 := hide t2
  clear g2 t2 ho hg hloc n2
  go_wp2_with fail
  go_end0
  exact ⟨rfl, _, unhide HG2, unhide HT2⟩

/- owned -/
theorem sinfo0 : (Tryz.prog.info? 9).map (fun i => (i.zero, i.size, i.bytes)) = some (some (.string ⟨#[]⟩), 1, 16) := by kernel_rfl
theorem sinfo : ∃ i0, Tryz.prog.info? 9 = some i0 ∧ i0.zero = some (.string ⟨#[]⟩) ∧ i0.size = 1 ∧ i0.bytes = 16 := by
  obtain ⟨i0, h, e⟩ := Option.map_eq_some_iff.1 sinfo0
  simp only [Prod.mk.injEq] at e
  exact ⟨i0, h, e⟩
theorem owned_take {ns : List Nd} {k : Nat} {x : Nd} (hx : ns[k]? = some x) (s : Int) : ownedP (ns.take (k + 1)) s = ownedP (ns.take k) s ++ (if x.o = s then [x.p] else []) := by
  rw [List.take_add_one, hx]
  simp only [ownedP, Option.toList_some, List.filter_append, List.map_append, List.filter_cons, List.filter_nil, decide_eq_true_eq]
  split <;> simp
theorem owned_len (ns : List Nd) (s : Int) : (ownedP ns s).length ≤ ns.length := by
  rw [ownedP, List.length_map]
  exact List.length_filter_le _ _
set_option maxRecDepth 20000 in
set_option maxHeartbeats 4000000 in
theorem owned_any (F : Nat → Prop) (b : Nat) (z : Int) (vn vs ve : Value) (ns : List Nd) (ss : List Int) (es : List Ev) (s : Int) (w : World)
    (h : Grow w F b z vn vs ve ns ss es) (hl : ns.length ≤ 400) (h0 : ns ≠ []) :
    Calls Tryz.prog 185 #[.pointer (some ⟨b, 0, none⟩), .int .i64 s] w fun e w' => ∃ v', e = .returned v' ∧ OwnS w' w.heap.size v' (ownedP ns s) ∧ Below w.heap.size w w' := by
  obtain ⟨i0, hi0, hz0, hz1, hz2⟩ := sinfo
  obtain ⟨g, cap, rfl, hr, hgb, hFg⟩ := h.nrow h0
  have hgl := hr.lt
  have c1 := h.c1
  have H := hide hr.row
  clear h hr
  go_enter Tryz.func185, Tryz.ntmps185
  go_wp2_with fail
  go_loopg [5, 14] ns.length (fun kx s5 s14 wr => ∃ k : Nat, s14 = .int .i64 k ∧ k ≤ ns.length ∧ ns.length - k ≤ kx ∧ Hid (OwnS wr w.heap.size s5 (ownedP (ns.take k) s)) ∧ Hid (Below w.heap.size w wr))
  case atStart => exact ⟨0, rfl, Nat.zero_le _, Nat.le_refl _, hide (.inl ⟨rfl, rfl⟩), hide (Below.refl _ _)⟩
  case round =>
    obtain ⟨k, rfl, hk, hg, hO, hB⟩ := hrel
    by_cases hlt : k < ns.length
    · obtain ⟨x, hx⟩ : ∃ x, ns[k]? = some x := ⟨_, List.getElem?_eq_getElem hlt⟩
      have q := (unhide H).kept (unhide hB) hgl
      have d0 := q.n0 hx
      have d1 := q.n1 hx
      have d2 := q.n2 hx
      have d3 := q.n3 hx
      have d4 := q.n4 hx
      have d5 := q.n5 hx
      have d6 := q.n6 hx
      have d7 := q.n7 hx
      have d8 := q.n8 hx
      rw [Nat.zero_add] at d0 d1 d2 d3 d4 d5 d6 d7 d8
      have hbw : g < wr.heap.size := Nat.lt_of_lt_of_le hgl (unhide hB).size
      have HT := hide (owned_take hx s)
      have hln := owned_len (ns.take k) s
      simp only [List.length_take] at hln
      clear q hx
      obtain ⟨va, vc, rfl, _⟩ := (unhide hO).slice
      have hrow := (unhide hO).row
      by_cases hs : x.o = s
      · have hsb : (x.o == s) = true := by simpa using hs
        have HS := hide hs
        clear hs
        obtain ⟨P, hP⟩ : ∃ P, ownedP (ns.take k) s = P := ⟨_, rfl⟩
        rw [hP] at hO hln HT hrow
        rw [hP]
        clear hP
        have HRW := hide hrow
        clear hrow
        go_wp2_with (at_builtin; refine wpList_append_own _ rfl _ _ 124 rfl w.heap.size 9 i0 _ 1 16 Tryz.underlying124 hi0 hz0 hz1 hz2 rfl (by decide) _ P.length (cellsL P) rfl ((((unhide hO).next (allocB wr (.cells #[.string ⟨x.p.toArray⟩, .string ⟨x.d.toArray⟩, .int .i64 x.c, .int .i64 x.m, .int .i64 x.q, .int .i64 x.v, .int .i64 x.k, .int .i64 x.o, .int .i64 x.n] 97))).next (allocB _ _)).row) ⟨wr.heap.size + 1, 0, none⟩ 1 1 [.string ⟨x.p.toArray⟩] rfl (by rfl) ?qc2 (by intro u hu; simp at hu; subst hu; rfl) ?qc4 ?qc5 ?qc6 ?_)
        case qc2 =>
          intro j u hj
          have := one_news (one_newS (wr.alloc (.cells #[.string ⟨x.p.toArray⟩, .string ⟨x.d.toArray⟩, .int .i64 x.c, .int .i64 x.m, .int .i64 x.q, .int .i64 x.v, .int .i64 x.k, .int .i64 x.o, .int .i64 x.n] 97)) x.p) j u hj
          simpa using this
        case qc4 => simp only [maxLen]; omega
        case qc5 => omega
        case qc6 => have := (unhide hB).size; simp; omega
        intro v' w1 hown hgrow _
        have O1 : OwnS w1 w.heap.size v' (P ++ [x.p]) := OwnS.of_row (by rw [List.length_append, cellsL_snoc]; exact hown)
        have hB0 : Below w.heap.size w ((wr.alloc (.cells #[.string ⟨x.p.toArray⟩, .string ⟨x.d.toArray⟩, .int .i64 x.c, .int .i64 x.m, .int .i64 x.q, .int .i64 x.v, .int .i64 x.k, .int .i64 x.o, .int .i64 x.n] 97)).alloc (.cells #[.string ⟨x.p.toArray⟩] 9)) := nnext (unhide hB) (nnext (allocB _ _) (allocB _ _))
        have B1 : Below w.heap.size w w1 := hB0.grown hgrow hB0.size (fun j hj => by
          rcases unhide hO with ⟨e, _⟩ | ⟨q, c, e, hq, _⟩
          · rw [e] at hj; cases hj
          · rw [e] at hj; cases hj; exact hq)
        have HO1 := hide O1
        have HB1 := hide B1
        obtain ⟨wa, wc, rfl, _⟩ := O1.slice
        clear O1 B1 hB0 hown hgrow
        go_wp2_with fail
        go_roundg (ns.length - (k + 1))
        case measure => omega
        case rel => exact ⟨k + 1, rfl, by omega, Nat.le_refl _, (by rw [unhide HT, if_pos (unhide HS)]; exact HO1), HB1⟩
      · have hsb : (x.o == s) = false := by simpa using hs
        have HS := hide hs
        have HO1 := hide ((unhide hO).next (allocB wr (.cells #[.string ⟨x.p.toArray⟩, .string ⟨x.d.toArray⟩, .int .i64 x.c, .int .i64 x.m, .int .i64 x.q, .int .i64 x.v, .int .i64 x.k, .int .i64 x.o, .int .i64 x.n] 97)))
        clear hs hrow
        go_wp2_with fail
        go_roundg (ns.length - (k + 1))
        case measure => omega
        case rel => exact ⟨k + 1, rfl, by omega, Nat.le_refl _, (by rw [unhide HT, if_neg (unhide HS), List.append_nil]; exact HO1), hide (nnext (unhide hB) (allocB _ _))⟩
    · obtain rfl : k = ns.length := by omega
      have O1 := unhide hO
      rw [List.take_length] at O1
      have HO1 := hide O1
      obtain ⟨wa, wc, rfl, _⟩ := O1.slice
      clear O1
      go_wp2_with fail
      go_ret
      exact ⟨_, rfl, unhide HO1, unhide hB⟩

end Go.Proofs.YtaoflcmeiaffjaaGreatDoor

namespace Go.Proofs.YtaoflcmeiaffjaaGreatDoor
open Go.RowKit

/-- a tree's box, and a node's for the answer -/
structure GB (w W : World) (z : Int) (vn vs : Value) : Prop where
  t : W.heap[w.heap.size]? = some (.cells #[.int .i64 z, vn, vs] 31 (0, 0))
  r : W.heap[w.heap.size + 1]? = some (.cells #[.string ⟨#[]⟩, .string ⟨#[]⟩, .int .i64 0, .int .i64 0, .int .i64 0, .int .i64 0, .int .i64 0, .int .i64 0, .int .i64 0] 97 (0, 0))
  b : Below w.heap.size w W
theorem GB.new (w : World) (z : Int) (vn vs : Value) : GB w ((w.alloc (.cells #[.int .i64 z, vn, vs] 31)).alloc (.cells #[.string ⟨#[]⟩, .string ⟨#[]⟩, .int .i64 0, .int .i64 0, .int .i64 0, .int .i64 0, .int .i64 0, .int .i64 0, .int .i64 0] 97)) z vn vs := by
  refine ⟨?_, ?_, nnext (allocB _ _) (allocB _ _)⟩
  · rw [(allocB _ _).block _ (by simp)]
    exact heap_alloc_new w _
  · have h := heap_alloc_new (w.alloc (.cells #[.int .i64 z, vn, vs] 31)) (.cells #[.string ⟨#[]⟩, .string ⟨#[]⟩, .int .i64 0, .int .i64 0, .int .i64 0, .int .i64 0, .int .i64 0, .int .i64 0, .int .i64 0] 97)
    rw [show (w.alloc (.cells #[.int .i64 z, vn, vs] 31)).heap.size = w.heap.size + 1 by simp] at h
    exact h
theorem GB.lt {w W : World} {z : Int} {vn vs : Value} (h : GB w W z vn vs) : w.heap.size + 1 < W.heap.size := (Array.getElem?_eq_some_iff.1 h.r).1
theorem GB.next {w W V : World} {z : Int} {vn vs : Value} (h : GB w W z vn vs) (hb : Below W.heap.size W V) : GB w V z vn vs := by
  have := h.lt
  exact ⟨(hb.block _ (by omega)).trans h.t, (hb.block _ (by omega)).trans h.r, nnext h.b hb⟩
theorem GB.c1 {w W : World} {z : Int} {vn vs : Value} (h : GB w W z vn vs) : W.cell? ⟨w.heap.size, 1, none⟩ = some vn := by simp [World.cell?, h.t]
theorem GB.one {w W : World} {z : Int} {vn vs : Value} (h : GB w W z vn vs) : OneR W (w.heap.size + 1) nzero := h.r

/- Kids -/
def kidsP (ns : List Nd) (p : List UInt8) : List (List UInt8) := (ns.filter fun n => decide (dirOf n.p = p)).map fun n => stepOf n.p
theorem kidsP_take {ns : List Nd} {k : Nat} {x : Nd} (hx : ns[k]? = some x) (p : List UInt8) : kidsP (ns.take (k + 1)) p = kidsP (ns.take k) p ++ (if dirOf x.p = p then [stepOf x.p] else []) := by
  rw [List.take_add_one, hx]
  simp only [kidsP, Option.toList_some, List.filter_append, List.map_append, List.filter_cons, List.filter_nil, decide_eq_true_eq]
  split <;> simp
theorem kidsP_len (ns : List Nd) (p : List UInt8) : (kidsP ns p).length = kidsN ns p := by
  rw [kidsP, List.length_map, kidsN, List.countP_eq_length_filter]

end Go.Proofs.YtaoflcmeiaffjaaGreatDoor

namespace Go.Proofs.YtaoflcmeiaffjaaGreatDoor
open Go.RowKit

theorem rret {a b : Bool} (h : a = b) : Ending.returned (.bool a) = .returned (.bool b) := by rw [h]
set_option maxRecDepth 10000 in
set_option maxHeartbeats 1000000 in
theorem rhas_any (v : Value) (ss : List Int) (s : Int) (w : World) (hv : SeqV w v ss) (hl : ss.length ≤ 140737488355328) :
    Calls Tryz.prog 159 #[v, .int .i64 s] w fun e w' => e = .returned (.bool (decide (s ∈ ss))) ∧ w' = w := by
  have KR : ∀ (i : Nat) (x : Int), ss[i]? = some x → ∃ b off c, v = .slice (some ⟨b, off, none⟩) ss.length c ∧ w.cell? ⟨b, off + i, none⟩ = some (.int .i64 x) := by
    intro i x hx
    obtain ⟨b, off, c, e, _, hr, _, _⟩ := seq_row hv (by intro h0; rw [h0] at hx; simp at hx)
    exact ⟨b, off, c, e, hr.i0 hx⟩
  have HKR := hide KR
  obtain ⟨va, vc, rfl⟩ := seq_slice hv
  clear hv KR
  go_enter Tryz.func159, Tryz.ntmps159
  go_wp2_with fail
  go_loopg [9] ss.length (fun kx s9 wr => ∃ k : Nat, s9 = .int .i64 k ∧ k ≤ ss.length ∧ ss.length - k ≤ kx ∧ Hid (∀ x ∈ ss.take k, ¬ s = x) ∧ w = wr)
  case atStart => exact ⟨0, rfl, Nat.zero_le _, Nat.le_refl _, hide (by simp), rfl⟩
  case round =>
    obtain ⟨k, rfl, hk, hg, hN, hwr⟩ := hrel
    subst hwr
    by_cases hlt : k < ss.length
    · obtain ⟨x, hx⟩ : ∃ x, ss[k]? = some x := ⟨_, List.getElem?_eq_getElem hlt⟩
      obtain ⟨b, off, c, he, hc⟩ := unhide HKR k x hx
      simp only [Value.slice.injEq] at he
      obtain ⟨rfl, _, rfl⟩ := he
      have HX := hide hx
      clear hx
      by_cases hs : s = x
      · have hb : (s == x) = true := by simpa using hs
        have HS := hide hs
        clear hs
        go_wp2_with fail
        go_ret
        exact ⟨rret (decide_eq_true (by rw [unhide HS]; exact List.mem_of_getElem? (unhide HX))).symm, rfl⟩
      · have hb : (s == x) = false := by simpa using hs
        have HS := hide hs
        clear hs
        go_wp2_with fail
        go_roundg (ss.length - (k + 1))
        case measure => omega
        case rel =>
          refine ⟨k + 1, rfl, by omega, Nat.le_refl _, hide ?_, rfl⟩
          intro y hy
          rw [List.take_add_one, unhide HX] at hy
          rcases List.mem_append.1 hy with h | h
          · exact unhide hN y h
          · obtain rfl : y = x := by simpa using h
            exact unhide HS
    · obtain rfl : k = ss.length := by omega
      have hno : s ∉ ss := fun h => by
        have := unhide hN s (by rw [List.take_length]; exact h)
        exact this rfl
      have HNO := hide hno
      clear hno
      go_wp2_with fail
      go_ret
      exact ⟨rret (decide_eq_false (unhide HNO)).symm, rfl⟩

set_option maxRecDepth 10000 in
set_option maxHeartbeats 400000 in
theorem risopen_any (z : Int) (vn vs : Value) (ss : List Int) (s : Int) (w : World) (hv : SeqV w vs ss) (hl : ss.length ≤ 140737488355328) :
    Calls Tryz.prog 120 #[.agg #[.int .i64 z, vn, vs], .int .i64 s] w fun e w' => e = .returned (.bool (decide (s ∈ ss))) ∧ Below w.heap.size w w' := by
  have C := hide (fun W (hW : Below w.heap.size w W) => rhas_any vs ss s W (hv.next hW) hl)
  obtain ⟨a, c, rfl⟩ := seq_slice hv
  clear hv
  generalize decide (s ∈ ss) = hd at C ⊢
  generalize ss.length = n at C ⊢
  go_enter Tryz.func120, Tryz.ntmps120
  go_wp2_with fail
  refine (unhide C _ (allocB _ _)).mono ?_
  rintro e w1 ⟨rfl, rfl⟩
  go_wp2_with fail
  go_ret
  exact ⟨rfl, allocB _ _⟩

/-- the first place of a path -/
structure At (ns : List Nd) (p : List UInt8) (k : Nat) (n : Nd) : Prop where
  at' : ns[k]? = some n
  nm : n.p = p
  no : ∀ i m, i < k → ns[i]? = some m → m.p ≠ p
theorem at_there {ns A B : List Nd} {n : Nd} {p : List UInt8} (T : NThere ns A n B p) : At ns p A.length n := by
  refine ⟨by rw [T.eq]; exact nat_at A n B, T.nm, fun i m hi hm => ?_⟩
  rw [T.eq, List.getElem?_append_left hi] at hm
  exact bl_ne (T.lo m (List.mem_of_getElem? hm))

set_option maxRecDepth 20000 in
set_option maxHeartbeats 2000000 in
theorem rnode_at (z : Int) (vn vs : Value) (ns : List Nd) (p : List UInt8) (j : Nat) (n : Nd) (w : World) (hv : SeqV w vn ns) (hl : ns.length ≤ 140737488355328) (T : At ns p j n) :
    Calls Tryz.prog 121 #[.agg #[.int .i64 z, vn, vs], .string ⟨p.toArray⟩] w fun e w' => e = .returned (.int .i64 j) ∧ Below w.heap.size w w' := by
  have hjl : j < ns.length := (List.getElem?_eq_some_iff.1 T.at').1
  obtain ⟨b, off, cap, rfl, hb, hr, _, _⟩ := seq_row hv (by intro h0; rw [h0] at hjl; simp at hjl)
  have HR := hide (fun W (hW : Below w.heap.size w W) => hr.kept hW hb)
  have HT := hide T
  clear hv hr T
  go_enter Tryz.func121, Tryz.ntmps121
  go_wp2_with fail
  go_loopg [10] ns.length (fun kx s10 wr => ∃ k : Nat, s10 = .int .i64 k ∧ k ≤ j ∧ ns.length - k ≤ kx ∧ Hid (Below w.heap.size w wr))
  case atStart => exact ⟨0, rfl, Nat.zero_le _, Nat.le_refl _, hide (allocB _ _)⟩
  case round =>
    obtain ⟨k, rfl, hk, hg, hB⟩ := hrel
    obtain ⟨x, hx⟩ : ∃ x, ns[k]? = some x := ⟨_, List.getElem?_eq_getElem (by omega)⟩
    have hlt : k < ns.length := by omega
    have q := unhide HR wr (unhide hB)
    have d0 := q.n0 hx
    have d1 := q.n1 hx
    have d2 := q.n2 hx
    have d3 := q.n3 hx
    have d4 := q.n4 hx
    have d5 := q.n5 hx
    have d6 := q.n6 hx
    have d7 := q.n7 hx
    have d8 := q.n8 hx
    have hbw : b < wr.heap.size := Nat.lt_of_lt_of_le hb (unhide hB).size
    have HB1 := hide (nnext (unhide hB) (allocB wr (.cells #[.string ⟨x.p.toArray⟩, .string ⟨x.d.toArray⟩, .int .i64 x.c, .int .i64 x.m, .int .i64 x.q, .int .i64 x.v, .int .i64 x.k, .int .i64 x.o, .int .i64 x.n] 97)))
    clear q
    by_cases hkj : k = j
    · have hxn : x.p = p := by
        have := (unhide HT).at'
        rw [← hkj, hx] at this
        cases this
        exact (unhide HT).nm
      have hpb : (x.p == p) = true := by simpa using hxn
      have HKJ := hide hkj
      clear hxn hx hkj
      go_wp2_with fail
      go_ret
      exact ⟨by have h := unhide HKJ; subst h; rfl, unhide HB1⟩
    · have hxn : x.p ≠ p := (unhide HT).no k x (by omega) hx
      have hpb : (x.p == p) = false := by simpa using hxn
      clear hxn hx
      go_wp2_with fail
      go_roundg (ns.length - (k + 1))
      case measure => omega
      case rel => exact ⟨k + 1, rfl, by omega, Nat.le_refl _, HB1⟩

set_option maxRecDepth 20000 in
set_option maxHeartbeats 2000000 in
theorem rnode_no (z : Int) (vn vs : Value) (ns : List Nd) (p : List UInt8) (w : World) (hv : SeqV w vn ns) (hl : ns.length ≤ 140737488355328) (G : ∀ n ∈ ns, n.p ≠ p) :
    Calls Tryz.prog 121 #[.agg #[.int .i64 z, vn, vs], .string ⟨p.toArray⟩] w fun e w' => e = .returned (.int .i64 (-1)) ∧ Below w.heap.size w w' := by
  have KR : ∀ W, Below w.heap.size w W → ∀ (i : Nat) (x : Nd), ns[i]? = some x → ∃ b off c, vn = .slice (some ⟨b, off, none⟩) ns.length c ∧ b < w.heap.size ∧ RowAt W b off (cellsL ns) := by
    intro W hW i x hx
    obtain ⟨b, off, c, e, hb, hr, _, _⟩ := seq_row hv (by intro h0; rw [h0] at hx; simp at hx)
    exact ⟨b, off, c, e, hb, hr.kept hW hb⟩
  have HKR := hide KR
  obtain ⟨va, vc, rfl⟩ := seq_slice hv
  have HG := hide G
  clear hv KR G
  go_enter Tryz.func121, Tryz.ntmps121
  go_wp2_with fail
  go_loopg [10] ns.length (fun kx s10 wr => ∃ k : Nat, s10 = .int .i64 k ∧ k ≤ ns.length ∧ ns.length - k ≤ kx ∧ Hid (Below w.heap.size w wr))
  case atStart => exact ⟨0, rfl, Nat.zero_le _, Nat.le_refl _, hide (allocB _ _)⟩
  case round =>
    obtain ⟨k, rfl, hk, hg, hB⟩ := hrel
    by_cases hlt : k < ns.length
    · obtain ⟨x, hx⟩ : ∃ x, ns[k]? = some x := ⟨_, List.getElem?_eq_getElem hlt⟩
      obtain ⟨b, off, c, he, hb, q⟩ := unhide HKR wr (unhide hB) k x hx
      simp only [Value.slice.injEq] at he
      obtain ⟨rfl, _, rfl⟩ := he
      have d0 := q.n0 hx
      have d1 := q.n1 hx
      have d2 := q.n2 hx
      have d3 := q.n3 hx
      have d4 := q.n4 hx
      have d5 := q.n5 hx
      have d6 := q.n6 hx
      have d7 := q.n7 hx
      have d8 := q.n8 hx
      have hbw : b < wr.heap.size := Nat.lt_of_lt_of_le hb (unhide hB).size
      have HB1 := hide (nnext (unhide hB) (allocB wr (.cells #[.string ⟨x.p.toArray⟩, .string ⟨x.d.toArray⟩, .int .i64 x.c, .int .i64 x.m, .int .i64 x.q, .int .i64 x.v, .int .i64 x.k, .int .i64 x.o, .int .i64 x.n] 97)))
      have hxn : x.p ≠ p := unhide HG x (List.mem_of_getElem? hx)
      have hpb : (x.p == p) = false := by simpa using hxn
      clear hxn hx q
      go_wp2_with fail
      go_roundg (ns.length - (k + 1))
      case measure => omega
      case rel => exact ⟨k + 1, rfl, by omega, Nat.le_refl _, HB1⟩
    · obtain rfl : k = ns.length := by omega
      go_wp2_with fail
      go_ret
      exact ⟨rfl, unhide hB⟩

end Go.Proofs.YtaoflcmeiaffjaaGreatDoor

namespace Go.Proofs.YtaoflcmeiaffjaaGreatDoor
open Go.RowKit Go.Shelf
attribute [local go_sem] Oper.semAt_some

theorem ret_ints {a b i j : Int} (h : a = b) (h' : i = j) : Ending.returned (.tuple #[.int .i64 a, .int .i64 i]) = .returned (.tuple #[.int .i64 b, .int .i64 j]) := by rw [h, h']
theorem splitL_count (l : List UInt8) : (splitL l).length ≤ l.length + 1 := by
  induction l with
  | nil => simp [splitL]
  | cons c l ih =>
    by_cases hc : c = 47
    · subst hc; rw [splitL_slash]; simp; omega
    · cases hl : splitL l with
      | nil => exact absurd hl (splitL_ne l)
      | cons p ps => rw [splitL_other hc hl]; rw [hl] at ih; simp at ih ⊢; omega
theorem stepsL_count (l : List UInt8) : (stepsL l).length ≤ l.length + 1 := by
  unfold stepsL
  split
  · simp
  · have h1 := splitL_count (Lib.trimPrefix l [47])
    have h2 := Lib.trimPrefix_le l [47]
    omega

/-- What a path is made of: what stands ahead of its last slash, and its last step. -/
theorem pgood_parts {l : List UInt8} (hg : goodB l = true) (hne : l ≠ [47]) :
    ∃ a b, l = a ++ 47 :: b ∧ 47 ∉ b ∧ namedB b = true ∧ goodB (dirL a) = true ∧ openL (dirL a) ++ b = l ∧ stepsL l = stepsL (dirL a) ++ [b] := by
  obtain ⟨r, rfl⟩ : ∃ r, l = 47 :: r := by
    obtain ⟨t, ht⟩ := goodB_slash hg
    exact ⟨t, ht.symm⟩
  have hr : r ≠ [] := by rintro rfl; exact hne rfl
  rw [goodB_cons r hr, Bool.and_eq_true, decide_eq_true_eq] at hg
  obtain ⟨hlen, hall⟩ := hg
  have hst : stepsL (47 :: r) = splitL r := by
    rw [stepsL, if_neg hne, Lib.trimPrefix, if_pos (by simp [Lib.hasPrefix, List.isPrefixOf])]; rfl
  obtain ⟨a, b, e, hb⟩ := last_slash (47 :: r) (by simp)
  refine ⟨a, b, e, hb, ?_⟩
  cases a with
  | nil =>
    simp only [List.nil_append, List.cons.injEq, true_and] at e
    subst e
    rw [splitL_no r hb] at hall hst
    refine ⟨by simpa using hall, by rw [dirL_nil]; exact goodB_root, by rw [dirL_nil, openL_root]; rfl, ?_⟩
    rw [hst, dirL_nil, stepsL, if_pos rfl]; rfl
  | cons c a =>
    simp only [List.cons_append, List.cons.injEq] at e
    obtain ⟨rfl, rfl⟩ := e
    rw [splitL_tail a b hb] at hall hst
    rw [List.all_append, Bool.and_eq_true] at hall
    have ha : a ≠ [] := by
      rintro rfl
      have h := hall.1
      rw [show splitL [] = [[]] from rfl] at h
      simp [not_named_nil] at h
    have hd : dirL (47 :: a) = 47 :: a := dirL_other (by simp)
    have hd1 : (47 :: a : List UInt8) ≠ [47] := by simp [ha]
    refine ⟨by simpa using hall.2, ?_, ?_, ?_⟩
    · rw [hd, goodB_cons a ha, hall.1, Bool.and_true, decide_eq_true_eq]
      simp at hlen; omega
    · rw [hd, openL_other hd1]; simp
    · rw [hst, hd, stepsL, if_neg hd1, Lib.trimPrefix, if_pos (by simp [Lib.hasPrefix, List.isPrefixOf])]; rfl

/-- What comes of a path and a step more. -/
theorem join_parts {d m : List UInt8} (hd : goodB d = true) (hm : namedB m = true) (hl : (openL d ++ m).length ≤ 200) :
    ∃ a, openL d ++ m = a ++ 47 :: m ∧ 47 ∉ m ∧ dirL a = d ∧ goodB (openL d ++ m) = true ∧ openL d ++ m ≠ [47] ∧ stepsL (openL d ++ m) = stepsL d ++ [m] := by
  have hno := named_no_slash hm
  have hm1 := (namedB_le hm).1
  have hmn : m ≠ [] := by rintro rfl; simp at hm1
  obtain ⟨r, rfl⟩ : ∃ r, d = 47 :: r := by
    obtain ⟨t, ht⟩ := goodB_slash hd
    exact ⟨t, ht.symm⟩
  by_cases hr : r = []
  · subst hr
    rw [openL_root] at hl ⊢
    have hne : ([47] ++ m : List UInt8) ≠ [47] := by simp [hmn]
    have hst : stepsL ([47] ++ m) = [m] := by
      rw [stepsL, if_neg hne, Lib.trimPrefix, if_pos (by simp [Lib.hasPrefix, List.isPrefixOf])]
      exact splitL_no m hno
    refine ⟨[], rfl, hno, dirL_nil, ?_, hne, ?_⟩
    · show goodB (47 :: m) = true
      rw [goodB_cons m hmn, splitL_no m hno]
      simp at hl
      simp [hm]; omega
    · rw [hst, stepsL, if_pos rfl]; rfl
  · have hd1 : (47 :: r : List UInt8) ≠ [47] := by simp [hr]
    rw [openL_other hd1] at hl ⊢
    have e : (47 :: r) ++ [47] ++ m = 47 :: (r ++ 47 :: m) := by simp
    have hst : stepsL (47 :: (r ++ 47 :: m)) = splitL r ++ [m] := by
      rw [stepsL, if_neg (by simp), Lib.trimPrefix, if_pos (by simp [Lib.hasPrefix, List.isPrefixOf])]
      exact splitL_tail r m hno
    have hd2 := hd
    rw [goodB_cons r hr, Bool.and_eq_true, decide_eq_true_eq] at hd2
    refine ⟨47 :: r, by simp, hno, dirL_other (by simp), ?_, by simp, ?_⟩
    · rw [e, goodB_cons _ (by simp), splitL_tail r m hno, List.all_append, hd2.2]
      simp at hl
      simp [hm]; omega
    · rw [e, hst, stepsL, if_neg hd1, Lib.trimPrefix, if_pos (by simp [Lib.hasPrefix, List.isPrefixOf])]; rfl

end Go.Proofs.YtaoflcmeiaffjaaGreatDoor
