/-
  What aviaryref.bytesOf and numberOf answer: the walks.
  What aviaryref.Sum answers, for every text: the sum by single bits, and the walk.
  What aviaryref.Decode answers of a text that is no record: the walks.
  What aviaryref.Decode answers of a text that has a record's form: the walk.
-/
import Derived.Test.YtaoflcmeiaffjaaGreatDoorSI
import Derived.Test.YtaoflcmeiaffjaaGreatDoorSH
import Derived.Test.YtaoflcmeiaffjaaGreatDoorSC
import Derived.Test.YtaoflcmeiaffjaaGreatDoorSM
import Derived.Test.YtaoflcmeiaffjaaGreatDoorRows
import Derived.Test.YtaoflcmeiaffjaaGreatDoorSA
import Derived.Lib.ConvBytes
import Derived.Lib.Strings
import Derived.RegionTactic
import Derived.Laws.CopyOwn
import Derived.WalkKit
import Derived.WalkSpells
import Derived.WalkLawsBesides
import Derived.Test.YtaoflcmeiaffjaaGreatDoorSS
import Derived.Test.YtaoflcmeiaffjaaGreatDoorSQ
import Derived.Lib.QuietBelow
import Derived.BigQuiet
import Derived.Deep.RegionWith
import Derived.Deep.Cut
namespace Go.Proofs.YtaoflcmeiaffjaaGreatDoor
open Go.RowKit

theorem one_text (c : UInt8) (W : World) (X : Nat) (h : W.cell? ⟨X, 0, none⟩ = some (.int .u8 (c.toNat : Int))) :
    (convert 122 9 (.slice (some ⟨X, 0, none⟩) 1 1)).run Tryz.prog W = .ok (.string ⟨#[c]⟩) W :=
  run_convert_bytes_back W 122 9 5 ⟨X, 0, none⟩ 1 [c] Tryz.underlying122 Tryz.underlying5 Tryz.underlying9 (fun j hj => by
    obtain rfl : j = 0 := by simpa using hj
    simpa [Addr.add] using h)

set_option maxRecDepth 10000 in
set_option maxHeartbeats 1000000 in
theorem bytesOf_any (n k : Nat) (w : World) (hn : n < 9223372036854775808) (hk : k ≤ 8) :
    Calls Tryz.prog 144 #[.int .i64 n, .int .i64 k] w fun e w' => e = .returned (.string ⟨(be k n).toArray⟩) ∧ Below w.heap.size w w' := by
  go_enter Tryz.func144, Tryz.ntmps144
  go_wp2
  go_loopw [0, 1, 5] (fun x i t wr => ∃ j : Nat, j ≤ k ∧ x = .int .i64 (n / 256 ^ j : Nat) ∧ i = .int .i64 ((k : Int) - j) ∧ t = .string ⟨(be j n).toArray⟩ ∧ Below w.heap.size w wr) (fun _ i _ _ => (intOf i).toNat)
  case atStart => exact ⟨0, Nat.zero_le _, by simp, by simp, rfl, Below.refl _ _⟩
  case round =>
    obtain ⟨j, hj, rfl, rfl, rfl, hB⟩ := hrel
    by_cases hlt : j < k
    · have hq : n / 256 ^ j < 9223372036854775808 := Nat.lt_of_le_of_lt (Nat.div_le_self _ _) hn
      have Hdiv := hide (div_256 n j)
      have Hby := hide (ofNat_mod (n / 256 ^ j))
      have Hfr := hide (be_front j n)
      have hbl := be_length j n
      obtain ⟨x, hx⟩ : ∃ x, n / 256 ^ j = x := ⟨_, rfl⟩
      obtain ⟨B, hB'⟩ : ∃ B, be j n = B := ⟨_, rfl⟩
      rw [hx] at hq Hdiv Hby Hfr ⊢
      rw [hB'] at Hfr hbl ⊢
      clear hx hB'
      have hzB : (ByteArray.mk B.toArray).size = B.length := Lib.size_eq ⟨_⟩
      have htx : ∀ W X, W.cell? ⟨X, 0, none⟩ = some (.int .u8 ((x : Int) % 256)) → (convert 122 9 (.slice (some ⟨X, 0, none⟩) 1 1)).run Tryz.prog W = .ok (.string ⟨#[UInt8.ofNat x]⟩) W := fun W X h => one_text (UInt8.ofNat x) W X (by rw [← unhide Hby]; exact h)
      have hkj : (0 : Int) < (k : Int) - j := by omega
      go_wp2
      refine ⟨⟨j + 1, by omega, i64_v (by rw [← unhide Hdiv]; omega), i64_v (by omega), ?_, hB.alloc hB.size _⟩, by simp only [intOf]; omega⟩
      rw [show (ByteArray.mk #[UInt8.ofNat x]) = ⟨[UInt8.ofNat x].toArray⟩ from rfl, cat_one, unhide Hfr]
      rfl
    · obtain rfl : j = k := by omega
      rw [show (j : Int) - (j : Int) = 0 from by omega]
      go_wp2
      go_ret
      exact ⟨rfl, hB⟩

theorem wrap_mul_add (t b : Nat) : wrap64 (wrap64 ((t : Int) * 256) + (b : Int)) = wrap64 ((t * 256 + b : Nat) : Int) := by unfold wrap64; omega

set_option maxRecDepth 10000 in
set_option maxHeartbeats 1000000 in
theorem numberOf_any (s : ByteArray) (w : World) (hs : s.size ≤ 8) :
    Calls Tryz.prog 168 #[.string s] w fun e w' => e = .returned (.int .i64 (wrap64 (un s.data.toList : Nat))) ∧ Below w.heap.size w w' := by
  obtain ⟨l, rfl⟩ := ba_list s
  show Calls _ _ _ _ fun e w' => e = .returned (.int .i64 (wrap64 (un l : Nat))) ∧ _
  have hz : (ByteArray.mk l.toArray).size = l.length := Lib.size_eq ⟨l.toArray⟩
  rw [hz] at hs
  have hconv : ∀ W s, (convert 9 122 (.string s)).run Tryz.prog W = .ok (.slice (some ⟨W.heap.size, 0, none⟩) s.size (grownCap W s.size 0 5)) (Lib.bytesWorld W 5 s) := fun W s =>
    Lib.run_convert_string_bytes W 9 122 5 s Tryz.underlying9 Tryz.underlying122 Tryz.underlying5
  go_enter Tryz.func168, Tryz.ntmps168
  go_wp2
  generalize hW1 : Lib.bytesWorld w 5 ⟨l.toArray⟩ = W1
  have Hcell : Hid (∀ j (hj : j < l.length), W1.cell? ⟨w.heap.size, j, none⟩ = some (.int .u8 (l[j].toNat : Int))) := hide (fun j hj => by
    rw [← hW1]; exact bytes_cell w 5 ⟨l.toArray⟩ l rfl j hj)
  have hB1 : Below w.heap.size w W1 := by rw [← hW1]; exact bytes_below _ _ _
  clear hW1 hconv
  go_loop [3, 9] (fun t i => ∃ k : Nat, k ≤ l.length ∧ i = .int .i64 k ∧ t = .int .i64 (wrap64 (un (l.take k) : Nat))) (fun _ i => l.length - (intOf i).toNat)
  case atStart => exact ⟨0, Nat.zero_le _, rfl, i64_c (by simp [un, wrap64])⟩
  case round =>
    obtain ⟨k, hk, rfl, rfl⟩ := hrel
    by_cases hlt : k < l.length
    · have hc := unhide Hcell k hlt
      have Hs := hide (un_take l k hlt)
      have hsm := un_small (l := l.take k) (by rw [List.length_take]; omega)
      obtain ⟨x, hx⟩ : ∃ x, un (l.take k) = x := ⟨_, rfl⟩
      rw [hx] at hsm Hs ⊢
      clear hx
      rw [show wrap64 (x : Int) = x from by unfold wrap64; omega]
      have hb := l[k].toNat_lt
      generalize l[k] = c at hc Hs hb
      go_wp2
      refine ⟨⟨k + 1, by omega, by go_num, i64_c ?_⟩, by simp [intOf]; omega⟩
      rw [unhide Hs, ← wrap_mul_add]
    · obtain rfl : k = l.length := by omega
      rw [List.take_length]
      go_wp2
      go_ret
      exact ⟨rfl, hB1⟩

end Go.Proofs.YtaoflcmeiaffjaaGreatDoor

namespace Go.Proofs.YtaoflcmeiaffjaaGreatDoor
open Go.RowKit

/- plain: one bit of a byte at a time -/
def bitR (r x : Nat) : Nat := (r / 2) ^^^ (3988292384 * (r % 2 ^^^ x))
def bitsR (b : Nat) : Nat → Nat → Nat
  | 0, c => c
  | k + 1, c => bitR (bitsR b k c) (bitN b k)
theorem half_xor (a b : Nat) : (a ^^^ b) / 2 = a / 2 ^^^ b / 2 := by
  have e : ∀ x : Nat, x / 2 = x >>> 1 := fun x => by rw [Nat.shiftRight_eq_div_pow]
  rw [e, e, e, Nat.shiftRight_xor_distrib]
theorem mod2_xor (a b : Nat) : (a ^^^ b) % 2 = a % 2 ^^^ b % 2 := by
  have := Nat.xor_mod_two_pow (a := a) (b := b) (n := 1)
  simpa using this
theorem bitsR_crcN (b c : Nat) : ∀ k, bitsR b k c ^^^ b / 2 ^ k = crcN k (c ^^^ b)
  | 0 => by simp [bitsR, crcN]
  | k + 1 => by
    have ih := bitsR_crcN b c k
    show bitR (bitsR b k c) (bitN b k) ^^^ _ = crc1 (crcN k (c ^^^ b))
    rw [← ih]
    generalize bitsR b k c = r
    have e : b / 2 ^ (k + 1) = b / 2 ^ k / 2 := by rw [Nat.pow_succ, Nat.div_div_eq_div_mul]
    rw [e, crc1, half_xor, mod2_xor, bitR, bitN]
    rw [Nat.xor_assoc, Nat.xor_assoc, Nat.xor_comm (3988292384 * _)]
theorem bit_xor_le {a b : Nat} (ha : a ≤ 1) (hb : b ≤ 1) : a ^^^ b ≤ 1 := by
  have : a ^^^ b < 2 ^ 1 := Nat.xor_lt_two_pow (by omega) (by omega)
  omega
theorem bitR_lt {r x : Nat} (h : r < 4294967296) (hx : x ≤ 1) : bitR r x < 4294967296 := by
  unfold bitR
  have := bit_xor_le (show r % 2 ≤ 1 by omega) hx
  exact xor_lt32 (by omega) (by omega)
theorem bitsR_lt {b c : Nat} (h : c < 4294967296) : ∀ k, bitsR b k c < 4294967296
  | 0 => h
  | k + 1 => bitR_lt (bitsR_lt h k) (bitN_le _ _)
theorem bitsR_all {c : Nat} (b : UInt8) : bitsR b.toNat 8 c = crcB c b := by
  have h := bitsR_crcN b.toNat c 8
  have hb := b.toNat_lt
  rw [show b.toNat / 2 ^ 8 = 0 from by omega, Nat.xor_zero] at h
  exact h
theorem bitN_top {r : Nat} (h : r < 4294967296) : bitN r 32 = 0 := by unfold bitN; omega
/-- one bit of the next state -/
theorem bitN_bitR {r x : Nat} (hx : x ≤ 1) (i : Nat) : bitN (bitR r x) i = bitN r (i + 1) ^^^ ((r % 2 ^^^ x) * bitN 3988292384 i) := by
  have := bit_xor_le (show r % 2 ≤ 1 by omega) hx
  rw [bitR, bitN_xor, bitN_half, bitN_mul _ _ _ this]
theorem bitN_ones : ∀ i, i < 32 → bitN 4294967295 i = 1 := by decide +kernel
theorem flip_step {r k : Nat} (hk : k < 32) : (4294967295 ^^^ r) / 2 ^ k + bitN r k = 2 * ((4294967295 ^^^ r) / 2 ^ (k + 1)) + 1 := by
  have h := bitN_xor 4294967295 r k
  rw [bitN_ones k hk] at h
  have hb := bitN_le r k
  have e : (4294967295 ^^^ r) / 2 ^ (k + 1) = (4294967295 ^^^ r) / 2 ^ k / 2 := by rw [Nat.pow_succ, Nat.div_div_eq_div_mul]
  rw [e]
  have hq : (4294967295 ^^^ r) / 2 ^ k % 2 = 1 ^^^ bitN r k := h
  have : bitN r k = 0 ∨ bitN r k = 1 := by omega
  rcases this with h0 | h0 <;> rw [h0] at hq ⊢ <;> simp at hq <;> omega

/- the 32 cells -/
def regV (f : Nat → Nat) : List Value := (List.range 32).map fun i => .int .i64 (f i : Nat)
def regAt (W : World) (g : Nat) (f : Nat → Nat) : Prop := W.heap[g]? = some (.cells (regV f).toArray 186 (0, 0))
theorem regV_length (f : Nat → Nat) : (regV f).length = 32 := by simp [regV]
theorem regV_get (f : Nat → Nat) {j : Nat} (h : j < 32) : (regV f)[j]? = some (.int .i64 (f j : Nat)) := by
  simp [regV, List.getElem?_map, List.getElem?_range h]
theorem regV_congr {f f' : Nat → Nat} (h : ∀ j, j < 32 → f j = f' j) : regV f = regV f' := by
  unfold regV
  exact List.map_congr_left fun j hj => by rw [h j (List.mem_range.1 hj)]
theorem regAt.congr {W : World} {g : Nat} {f f' : Nat → Nat} (h : regAt W g f) (he : ∀ j, j < 32 → f j = f' j) : regAt W g f' := by
  unfold regAt at h ⊢; rw [← regV_congr he]; exact h
theorem regAt.cell {W : World} {g : Nat} {f : Nat → Nat} (h : regAt W g f) {j : Nat} (hj : j < 32) : W.cell? ⟨g, j, none⟩ = some (.int .i64 (f j : Nat)) := by
  unfold regAt at h; simp [World.cell?, h, regV_get f hj]
theorem regAt.soft {W : World} {g : Nat} {f : Nat → Nat} (h : regAt W g f) (j : Nat) : W.frozen? ⟨g, j, none⟩ = false := by
  unfold regAt at h; simp [World.frozen?, h]
theorem reg_set_same {w : World} {g j : Nat} {cur : Array Value} {t : TypeId} {fz : Nat × Nat} (v : Value) (h : w.heap[g]? = some (.cells cur t fz)) :
    (w.setCell ⟨g, j, none⟩ v).heap[g]? = some (.cells (cur.setIfInBounds j v) t fz) := by
  obtain ⟨hlt, hk⟩ := Array.getElem?_eq_some_iff.1 h
  show (w.heap.modify g _)[g]? = _
  rw [Array.getElem?_eq_getElem (by rw [Array.size_modify]; exact hlt), Array.getElem_modify_self, hk]
  rfl
theorem regAt.set {W : World} {g : Nat} {f : Nat → Nat} (h : regAt W g f) {j v : Nat} (hj : j < 32) : regAt (W.setCell ⟨g, j, none⟩ (.int .i64 (v : Nat))) g (fun i => if i = j then v else f i) := by
  unfold regAt at h ⊢
  rw [reg_set_same _ h]
  congr 2
  apply Array.ext'
  rw [Array.toList_setIfInBounds]
  apply List.ext_getElem?
  intro i
  rw [List.getElem?_set]
  by_cases hi : i < 32
  · by_cases e : j = i
    · subst e
      rw [regV_get (fun i => if i = j then v else f i) hi, if_pos rfl, if_pos (by simp [regV_length]; omega), if_pos rfl]
    · rw [if_neg e, regV_get _ hi, regV_get (fun i => if i = j then v else f i) hi, if_neg (fun h => e h.symm)]
  · have e1 : ∀ f' : Nat → Nat, (regV f')[i]? = none := fun f' => by rw [List.getElem?_eq_none_iff, regV_length]; omega
    rw [if_neg (by omega), e1, e1]
/-- behind copy(reg[:], reg[1:]) -/
theorem reg_copy {f : Nat → Nat} : regV (fun i => if i < 31 then f (i + 1) else f i) = (regV f).take 0 ++ ((regV f).drop 1) ++ (regV f).drop (0 + ((regV f).drop 1).length) := by
  apply List.ext_getElem?
  intro i
  simp only [List.take_zero, List.nil_append, Nat.zero_add, List.length_drop, regV_length]
  by_cases hi : i < 31
  · rw [regV_get _ (by omega), List.getElem?_append_left (by simp [regV_length]; omega), List.getElem?_drop, if_pos hi, regV_get _ (by omega), Nat.add_comm]
  · rw [List.getElem?_append_right (by simp [regV_length]; omega), List.getElem?_drop, List.length_drop, regV_length]
    by_cases h32 : i < 32
    · obtain rfl : i = 31 := by omega
      rw [regV_get _ (by omega), regV_get _ (by omega)]; rfl
    · have e1 : ∀ f' : Nat → Nat, ∀ i', 32 ≤ i' → (regV f')[i']? = none := fun f' i' h' => by rw [List.getElem?_eq_none_iff, regV_length]; omega
      rw [e1 _ _ (by omega), e1 _ _ (by omega)]
theorem regAt.copied {W : World} {g : Nat} {f : Nat → Nat} (h : regAt W g f) (ty : TypeId) :
    (Builtin.copy_ #[29, 29] ty #[.slice (some ⟨g, 0, none⟩) 32 32, .slice (some ⟨g, 1, none⟩) 31 31]).run Tryz.prog W = .ok (goInt 31) (W.setRow g (regV (fun i => if i < 31 then f (i + 1) else f i)).toArray) := by
  rw [reg_copy]
  have hl : ((regV f).drop 1).length = 31 := by simp [regV_length]
  have := run_copy_row (P := Tryz.prog) W 29 29 ty 3 g 0 32 32 ⟨g, 1, none⟩ 31 31 (regV f).toArray 186 ((regV f).drop 1) Tryz.underlying29 (by kernel_rfl) h (by rw [hl]; rfl)
    (fun j v hv => by
      rw [List.getElem?_drop] at hv
      rw [show (⟨g, 1, none⟩ : Addr).add j = ⟨g, 1 + j, none⟩ from by unfold Addr.add; split <;> simp_all]
      unfold regAt at h
      simp only [World.cell?, h]
      simpa using hv) (by rw [hl]; simp [regV_length]) (fun v hv => by
      obtain ⟨i, _, rfl⟩ := List.mem_map.1 (List.mem_of_mem_drop hv)
      rfl)
  rw [hl] at this ⊢
  exact this
theorem regAt.row {W : World} {g : Nat} {f : Nat → Nat} (h : regAt W g f) (f' : Nat → Nat) : regAt (W.setRow g (regV f').toArray) g f' := setRow_heap W g _ _ _ _ h

theorem rbytes_below (w : World) (e : TypeId) (s : ByteArray) : Below w.heap.size w (Lib.bytesWorld w e s) :=
  ⟨rfl, rfl, rfl, by rw [Lib.bytesWorld_size]; omega, fun k hk => Lib.bytesWorld_at_old w e s k hk⟩
theorem rbytes_cell (w : World) (e : TypeId) (s : ByteArray) (l : List UInt8) (h : s.data.toList = l) (j : Nat) (hj : j < l.length) : (Lib.bytesWorld w e s).cell? ⟨w.heap.size, j, none⟩ = some (.int .u8 (l[j].toNat : Int)) := by
  subst h
  rw [Lib.bytesWorld_cell _ _ _ _ (by rw [Lib.size_eq]; exact hj), List.getD_eq_getElem?_getD, List.getElem?_eq_getElem hj]; rfl

theorem i64_val {a b : Int} (h : a = b) : Value.int .i64 a = .int .i64 b := by rw [h]
theorem and1_u8 {a : Nat} (ha : a < 256) : bits .and .u8 a 1 = ((a % 2 : Nat) : Int) := by
  have h := bits_mask .u8 8 (by decide) wraps_u8 1 (by decide) (a : Int) (by omega) (by omega)
  exact_mod_cast h
theorem and1_i64 {a : Nat} (ha : a < 9223372036854775808) : bits .and .i64 a 1 = ((a % 2 : Nat) : Int) := by
  have h := bits_mask .i64 63 (by decide) wraps63 1 (by decide) (a : Int) (by omega) (by omega)
  exact_mod_cast h
theorem wrap64_nat {a : Nat} (ha : a < 9223372036854775808) : wrap64 a = a := by unfold wrap64; omega
theorem out_bits {x c n : Nat} (hc : c < 256) : bits .xor .i64 ((bitN x 0 : Nat) : Int) (wrap64 (bits .and .u8 ((c : Int) / 2 ^ n) 1)) = ((x % 2 ^^^ bitN c n : Nat) : Int) := by
  have h1 : ((c : Int) / 2 ^ n) = ((c / 2 ^ n : Nat) : Int) := by rw [Int.natCast_ediv, Int.natCast_pow]; rfl
  have h2 : c / 2 ^ n < 256 := Nat.lt_of_le_of_lt (Nat.div_le_self _ _) hc
  have h3 := bitN_le x 0
  have h4 : bitN x 0 = x % 2 := by simp [bitN]
  rw [h1, and1_u8 h2, wrap64_nat (by omega), xor_i64 (by omega) (by omega), h4]
  rfl
theorem cell_bits {f o i : Nat} (hf : f ≤ 1) (ho : o ≤ 1) : bits .xor .i64 (f : Int) (wrap64 (o * bits .and .i64 ((3988292384 : Int) / 2 ^ i) 1)) = ((f ^^^ (o * bitN 3988292384 i) : Nat) : Int) := by
  have h1 : ((3988292384 : Int) / 2 ^ i) = ((3988292384 / 2 ^ i : Nat) : Int) := by rw [Int.natCast_ediv, Int.natCast_pow]; rfl
  have h2 : 3988292384 / 2 ^ i ≤ 3988292384 := Nat.div_le_self _ _
  have h5 := bitN_le 3988292384 i
  have h6 : o * bitN 3988292384 i ≤ 1 * 1 := Nat.mul_le_mul ho h5
  rw [h1, and1_i64 (by omega)]
  rw [show ((o : Int) * ((3988292384 / 2 ^ i % 2 : Nat) : Int)) = ((o * bitN 3988292384 i : Nat) : Int) from by rw [Int.natCast_mul]; rfl, wrap64_nat (by omega)]
  exact xor_i64 (by omega) (by omega)

set_option maxRecDepth 10000 in
set_option maxHeartbeats 1000000 in
theorem rsum_any (l : List UInt8) (w : World) (hl : l.length ≤ 140737488355328) :
    Calls Tryz.prog 145 #[.string ⟨l.toArray⟩] w fun e w' => e = .returned (.int .i64 (sumN l : Nat)) ∧ Below w.heap.size w w' := by
  have hz : (ByteArray.mk l.toArray).size = l.length := Lib.size_eq ⟨l.toArray⟩
  have hconv : ∀ W s, (convert 9 122 (.string s)).run Tryz.prog W = .ok (.slice (some ⟨W.heap.size, 0, none⟩) s.size (grownCap W s.size 0 5)) (Lib.bytesWorld W 5 s) := fun W s =>
    Lib.run_convert_string_bytes W 9 122 5 s Tryz.underlying9 Tryz.underlying122 Tryz.underlying5
  go_enter Tryz.func145, Tryz.ntmps145
  go_wp2
  generalize hW1 : w.alloc (Obj.cells _ 186) = W1
  have hs1 : W1.heap.size = w.heap.size + 1 := by rw [← hW1]; simp
  have HR1 : Hid (regAt W1 w.heap.size (fun _ => 0)) := hide (by
    rw [← hW1]
    show (w.heap.push _)[w.heap.size]? = _
    simp [regV]
    rfl)
  have hB1 : Below w.heap.size w W1 := by rw [← hW1]; exact (Below.refl _ _).alloc (Nat.le_refl _) _
  clear hW1
  go_loopw [12] (fun i wr => ∃ k : Nat, k ≤ 32 ∧ i = .int .i64 k ∧ regAt wr w.heap.size (fun j => if j < k then 1 else 0) ∧ wr.heap.size = w.heap.size + 1 ∧ Below w.heap.size w wr) (fun i _ => 32 - (intOf i).toNat)
  case atStart => exact ⟨0, Nat.zero_le _, rfl, (unhide HR1).congr (fun j _ => by simp), hs1, hB1⟩
  case round =>
    obtain ⟨k, hk, rfl, hr, hsz, hB⟩ := hrel
    have HR := hide hr
    clear hr HR1 hs1 hB1
    by_cases hlt : k < 32
    · have h1 := (unhide HR).cell hlt
      have h2 := (unhide HR).soft k
      go_wp2
      refine ⟨⟨k + 1, by omega, by go_num, ?_, ?_, ?_⟩, by simp [intOf]; omega⟩
      · exact ((unhide HR).set (v := 1) hlt).congr (fun j hj => by by_cases e : j = k <;> by_cases e' : j < k <;> simp [e, e'] <;> omega)
      · simpa [World.setCell] using hsz
      · exact hB.setCell (by show w.heap.size ≤ w.heap.size; exact Nat.le_refl _) _
    · obtain rfl : k = 32 := by omega
      have HR2 : Hid (regAt wr w.heap.size (bitN 4294967295)) := hide ((unhide HR).congr (fun j hj => by rw [if_pos hj, bitN_ones j hj]))
      clear HR
      go_wp2
      generalize hW2 : Lib.bytesWorld wr 5 ⟨l.toArray⟩ = W2
      have hs2 : W2.heap.size = w.heap.size + 2 := by rw [← hW2, Lib.bytesWorld_size]; omega
      have hb2 : Below wr.heap.size wr W2 := by rw [← hW2]; exact rbytes_below _ _ _
      have Hcell : Hid (∀ j (hj : j < l.length), W2.cell? ⟨w.heap.size + 1, j, none⟩ = some (.int .u8 (l[j].toNat : Int))) := hide (fun j hj => by
        rw [← hW2, ← hsz]; exact rbytes_cell wr 5 ⟨l.toArray⟩ l rfl j hj)
      have HR3 : Hid (regAt W2 w.heap.size (bitN 4294967295)) := hide ((hb2.block _ (by omega)).trans (unhide HR2))
      have hB2 : Below w.heap.size w W2 := hB.trans (hb2.mono (by omega))
      clear hW2 hb2 HR2 hB hsz
      go_loopw [21] (fun i wr => ∃ k : Nat, k ≤ l.length ∧ i = .int .i64 k ∧ regAt wr w.heap.size (bitN (crcL (l.take k))) ∧ wr.heap[w.heap.size + 1]? = W2.heap[w.heap.size + 1]? ∧ wr.heap.size = w.heap.size + 2 ∧ Below w.heap.size w wr) (fun i _ => l.length - (intOf i).toNat)
      case atStart => exact ⟨0, Nat.zero_le _, rfl, unhide HR3, rfl, hs2, hB2⟩
      case round =>
        obtain ⟨k, hk, rfl, hr, hblk, hsz, hB⟩ := hrel
        have HR := hide hr
        have HK := hide hblk
        clear hr hblk HR3 hB2
        obtain ⟨r, hr⟩ : ∃ r, crcL (l.take k) = r := ⟨_, rfl⟩
        have hrl : r < 4294967296 := hr ▸ crcL_lt _
        rw [hr] at HR
        have Hr := hide hr
        clear hr
        by_cases hlt : k < l.length
        · have hc : wr.cell? ⟨w.heap.size + 1, k, none⟩ = some (.int .u8 (l[k].toNat : Int)) := (World.cell?_of_block (a := ⟨w.heap.size + 1, k, none⟩) (unhide HK)).trans (unhide Hcell k hlt)
          have Hnext : Hid (crcL (l.take (k + 1)) = bitsR l[k].toNat 8 r) := hide (by rw [List.take_succ_eq_append_getElem hlt, crcL_snoc, bitsR_all, unhide Hr])
          generalize l[k] = c at hc Hnext
          have hcb := c.toNat_lt
          go_wp2
          clear hc
          generalize wr = V at *
          go_loopw [7] (fun i wr => ∃ n : Nat, n ≤ 8 ∧ i = .int .u64 n ∧ regAt wr w.heap.size (bitN (bitsR c.toNat n r)) ∧ wr.heap[w.heap.size + 1]? = W2.heap[w.heap.size + 1]? ∧ wr.heap.size = w.heap.size + 2 ∧ Below w.heap.size w wr) (fun i _ => 8 - (intOf i).toNat)
          case atStart => exact ⟨0, Nat.zero_le _, rfl, unhide HR, unhide HK, hsz, hB⟩
          case round =>
            clear HR HK hsz hB
            obtain ⟨n, hn, rfl, hr, hblk, hsz, hB⟩ := hrel
            have HR := hide hr
            have HK := hide hblk
            clear hr hblk
            have hxl := bitsR_lt (b := c.toNat) hrl n
            have Hs : Hid (bitsR c.toNat (n + 1) r = bitR (bitsR c.toNat n r) (bitN c.toNat n)) := hide rfl
            by_cases h8 : n < 8
            · obtain ⟨x, hx⟩ : ∃ x, bitsR c.toNat n r = x := ⟨_, rfl⟩
              rw [hx] at HR hxl Hs
              clear hx
              have h1 := (unhide HR).cell (show 0 < 32 by decide)
              have hn2 : (n : Int) ≤ 8 := by omega
              go_wp2
              rw [out_bits (by omega)]
              obtain ⟨o, ho⟩ : ∃ o, x % 2 ^^^ bitN c.toNat n = o := ⟨_, rfl⟩
              have hol : o ≤ 1 := ho ▸ bit_xor_le (by omega) (bitN_le _ _)
              have Ho := hide ho
              rw [ho]
              clear ho h1
              have hcopy := regAt.copied (W := wr.drew) (g := w.heap.size) (f := bitN x) (unhide HR)
              go_region
              clear hcopy
              generalize hW3 : wr.drew.setRow w.heap.size (regV fun i => if i < 31 then bitN x (i + 1) else bitN x i).toArray = W3
              have HR3 : Hid (regAt W3 w.heap.size (fun i => if i < 31 then bitN x (i + 1) else bitN x i)) := hide (by
                rw [← hW3]; exact regAt.row (W := wr.drew) (f := bitN x) (unhide HR) _)
              have HK3 : Hid (W3.heap[w.heap.size + 1]? = W2.heap[w.heap.size + 1]?) := hide (by
                rw [← hW3, setRow_other _ _ _ _ (by omega)]; exact unhide HK)
              have hs3 : W3.heap.size = w.heap.size + 2 := by rw [← hW3]; simpa [World.setRow] using hsz
              have hB3 : Below w.heap.size w W3 := by rw [← hW3]; exact below_setRow hB.drew (Nat.le_refl _) _
              clear hW3 HR HK hsz hB
              have h1 := (unhide HR3).cell (show 31 < 32 by decide)
              have h2 := (unhide HR3).soft 31
              go_wp2
              clear h1 h2
              generalize hW4 : W3.setCell ⟨w.heap.size, 31, none⟩ (.int .i64 0) = W4
              have HR4 : Hid (regAt W4 w.heap.size (fun i => bitN x (i + 1))) := hide (by
                rw [← hW4]
                refine ((unhide HR3).set (v := 0) (show 31 < 32 by decide)).congr (fun j hj => ?_)
                by_cases e : j = 31
                · subst e; simp [bitN_top hxl]
                · rw [if_neg e, if_pos (by omega)])
              have HK4 : Hid (W4.heap[w.heap.size + 1]? = W2.heap[w.heap.size + 1]?) := hide (by
                rw [← hW4, Below.heap_setCell _ _ _ _ (by show w.heap.size + 1 ≠ w.heap.size; omega)]; exact unhide HK3)
              have hs4 : W4.heap.size = w.heap.size + 2 := by rw [← hW4]; simpa [World.setCell] using hs3
              have hB4 : Below w.heap.size w W4 := by rw [← hW4]; exact hB3.setCell (by show w.heap.size ≤ w.heap.size; exact Nat.le_refl _) _
              clear hW4 HR3 HK3 hs3 hB3
              generalize wr = V2 at *
              go_loopw [41] (fun i wr => ∃ j : Nat, j ≤ 32 ∧ i = .int .i64 j ∧ regAt wr w.heap.size (fun i => if i < j then bitN x (i + 1) ^^^ (o * bitN 3988292384 i) else bitN x (i + 1)) ∧ wr.heap[w.heap.size + 1]? = W2.heap[w.heap.size + 1]? ∧ wr.heap.size = w.heap.size + 2 ∧ Below w.heap.size w wr) (fun i _ => 32 - (intOf i).toNat)
              case atStart => exact ⟨0, Nat.zero_le _, rfl, (unhide HR4).congr (fun j _ => by simp), unhide HK4, hs4, hB4⟩
              case round =>
                clear HR4 HK4 hs4 hB4
                obtain ⟨j, hj, rfl, hr, hblk, hsz, hB⟩ := hrel
                have HR := hide hr
                have HK := hide hblk
                clear hr hblk
                by_cases hj2 : j < 32
                · have h1 := (unhide HR).cell hj2
                  have h2 := (unhide HR).soft j
                  simp only [Nat.lt_irrefl, if_false] at h1
                  have hle := bitN_le x (j + 1)
                  obtain ⟨y, hy⟩ : ∃ y, bitN x (j + 1) = y := ⟨_, rfl⟩
                  rw [hy] at h1 hle
                  have Hy := hide hy
                  clear hy
                  have hj3 : (j : Int) ≤ 64 := by omega
                  go_wp2
                  rw [cell_bits hle hol]
                  refine ⟨⟨j + 1, by omega, by go_num, ?_, ?_, ?_, ?_⟩, by simp [intOf]; omega⟩
                  · refine ((unhide HR).set hj2).congr (fun i hi => ?_)
                    by_cases e : i = j
                    · subst e; rw [if_pos rfl, if_pos (by omega), unhide Hy]
                    · rw [if_neg e]
                      by_cases e' : i < j
                      · rw [if_pos e', if_pos (by omega)]
                      · rw [if_neg e', if_neg (by omega)]
                  · rw [Below.heap_setCell _ _ _ _ (by show w.heap.size + 1 ≠ w.heap.size; omega)]; exact unhide HK
                  · simpa [World.setCell] using hsz
                  · exact hB.setCell (by show w.heap.size ≤ w.heap.size; exact Nat.le_refl _) _
                · obtain rfl : j = 32 := by omega
                  have hfin : regAt wr w.heap.size (bitN (bitsR c.toNat (n + 1) r)) := (unhide HR).congr (fun i hi => by
                    rw [if_pos hi, unhide Hs, bitN_bitR (bitN_le _ _), unhide Ho])
                  have HF := hide hfin
                  clear hfin HR
                  go_wp2
                  exact ⟨⟨n + 1, by omega, by go_num, unhide HF, unhide HK, hsz, hB⟩, by simp [intOf]; omega⟩
            · obtain rfl : n = 8 := by omega
              have Hn' := hide (unhide Hnext)
              go_wp2
              exact ⟨⟨k + 1, by omega, by go_num, by rw [unhide Hn']; exact unhide HR, unhide HK, hsz, hB⟩, by simp [intOf]; omega⟩
        · obtain rfl : k = l.length := by omega
          rw [List.take_length] at Hr
          clear HK Hcell hs2 hlt hk
          go_wp2
          go_loop [10, 11] (fun n i => ∃ j : Nat, j ≤ 32 ∧ i = .int .i64 ((j : Int) - 1) ∧ n = .int .i64 ((4294967295 ^^^ r) / 2 ^ j : Nat)) (fun _ i => (intOf i + 1).toNat)
          case atStart => exact ⟨32, by omega, rfl, by rw [Nat.div_eq_of_lt (by have := xor_lt32 (show 4294967295 < 4294967296 by decide) hrl; omega)]; rfl⟩
          case round =>
            obtain ⟨j, hj, rfl, rfl⟩ := hrel
            by_cases hj0 : j = 0
            · subst hj0
              have hfin : (4294967295 ^^^ r) / 2 ^ 0 = sumN l := by rw [sumN, unhide Hr]; simp
              rw [hfin]
              clear hfin
              go_wp2
              go_ret
              exact ⟨rfl, hB⟩
            · obtain ⟨i, rfl⟩ : ∃ i, j = i + 1 := ⟨j - 1, by omega⟩
              have hst := flip_step (r := r) (k := i) (by omega)
              have hcl := (unhide HR).cell (show i < 32 by omega)
              have hle := bitN_le r i
              have hlt : (4294967295 ^^^ r) / 2 ^ (i + 1) < 4294967296 := Nat.lt_of_le_of_lt (Nat.div_le_self _ _) (xor_lt32 (by decide) hrl)
              obtain ⟨a, ha⟩ : ∃ a, (4294967295 ^^^ r) / 2 ^ (i + 1) = a := ⟨_, rfl⟩
              obtain ⟨y, hy⟩ : ∃ y, bitN r i = y := ⟨_, rfl⟩
              rw [ha] at hst hlt ⊢
              rw [hy] at hst hcl hle
              have Hst := hide hst
              clear ha hy hst
              rw [show ((i + 1 : Nat) : Int) - 1 = (i : Int) from by omega]
              go_wp2
              have hst := unhide Hst
              exact ⟨⟨i, by omega, rfl, i64_val (by omega)⟩, by simp only [intOf]; omega⟩

end Go.Proofs.YtaoflcmeiaffjaaGreatDoor

namespace Go.Proofs.YtaoflcmeiaffjaaGreatDoor
open Go.RowKit

/-- how far it has come: the result's cells, and none's -/
structure RDec (w W : World) : Prop where
  res : TxnAt W w.heap.size t0
  non : TxnAt W (w.heap.size + 1) t0
  size : w.heap.size + 2 ≤ W.heap.size
  below : Below w.heap.size w W
theorem RDec.kept {w W V : World} (h : RDec w W) (hb : Below W.heap.size W V) : RDec w V :=
  ⟨h.res.kept hb (by have := h.size; omega), h.non.kept hb (by have := h.size; omega), Nat.le_trans h.size hb.size, h.below.trans (hb.mono h.below.size)⟩
theorem RDec.new {w : World} : RDec w ((w.alloc (.cells #[.int .i64 0, .int .i64 0, .int .i64 0, .string ⟨#[]⟩, .string ⟨#[]⟩, .int .i64 0, .int .i64 0] 47)).alloc (.cells #[.int .i64 0, .int .i64 0, .int .i64 0, .string ⟨#[]⟩, .string ⟨#[]⟩, .int .i64 0, .int .i64 0] 47)) := by
  refine ⟨?_, ?_, by simp, ((Below.refl _ _).alloc (Nat.le_refl _) _).alloc (by simp) _⟩
  · exact (Below.heap_alloc _ _ _ (by simp)).trans (heap_new _ _)
  · have := heap_new (w.alloc (.cells #[.int .i64 0, .int .i64 0, .int .i64 0, .string ⟨#[]⟩, .string ⟨#[]⟩, .int .i64 0, .int .i64 0] 47)) (.cells #[.int .i64 0, .int .i64 0, .int .i64 0, .string ⟨#[]⟩, .string ⟨#[]⟩, .int .i64 0, .int .i64 0] 47)
    rwa [World.size_alloc] at this
theorem ex_mid (l : List UInt8) (i j : Nat) : (ByteArray.mk l.toArray).extract i j = ⟨((l.drop i).take (j - i)).toArray⟩ := by
  apply ByteArray.ext
  apply Array.toList_inj.1
  have h := Lib.extract_toList (ByteArray.mk l.toArray) i j
  rw [Lib.toList_data] at h
  exact h
theorem take1_ne {s : List UInt8} (h : 3 ≤ s.length) (h1 : s[0] ≠ 84) : s.take 1 ≠ [84] := by
  cases s with
  | nil => simp at h
  | cons c l => simpa using h1
theorem take1_eq {s : List UInt8} (h : 3 ≤ s.length) (h1 : s[0] = 84) : s.take 1 = [84] := by
  cases s with
  | nil => simp at h
  | cons c l => simpa using h1

set_option maxRecDepth 10000 in
set_option maxHeartbeats 1000000 in
theorem rdec_tiny (s : List UInt8) (w : World) (h3 : s.length < 3) :
    Calls Tryz.prog 128 #[.string ⟨s.toArray⟩] w fun e w' => e = .returned (.tuple #[txnV (decT s), .int .i64 (decN s), .int .i64 (decE s)]) ∧ Below w.heap.size w w' := by
  have HU := hide (dec_bad (s := s) (wholeB_no (fun h => by omega)))
  have hzs : (ByteArray.mk s.toArray).size = s.length := Lib.size_eq ⟨s.toArray⟩
  go_enter Tryz.func128, Tryz.ntmps128
  go_wp2_with fail
  exact bodyPost_ret (v := .tuple #[txnV t0, .int .i64 0, .int .i64 2]) (by simp [results, Tryz.results128, go_sem, txnV, t0]) rfl ⟨by rw [(unhide HU).1, (unhide HU).2.1, (unhide HU).2.2], ((Below.refl _ _).alloc (Nat.le_refl _) _).alloc (by simp) _⟩

set_option maxRecDepth 10000 in
set_option maxHeartbeats 1000000 in
theorem rdec_mark (s : List UInt8) (w : World) (h3 : 3 ≤ s.length) (hm : s[0] ≠ 84) :
    Calls Tryz.prog 128 #[.string ⟨s.toArray⟩] w fun e w' => e = .returned (.tuple #[txnV (decT s), .int .i64 (decN s), .int .i64 (decE s)]) ∧ Below w.heap.size w w' := by
  have HU := hide (dec_bad (s := s) (wholeB_no (fun h => take1_ne h3 hm h.1)))
  have hb := s[0].toNat_lt
  have hm' : ((s[0].toNat : Int) != 84) = true := by
    rw [bne_iff_ne]
    intro h
    exact hm (UInt8.toNat_inj.1 (by show s[0].toNat = 84; omega))
  have hib : 0 < (ByteArray.mk s.toArray).size := by rw [Lib.size_eq]; show 0 < s.length; omega
  have hg := ba_get s 0 hib
  have hzs : (ByteArray.mk s.toArray).size = s.length := Lib.size_eq ⟨s.toArray⟩
  go_enter Tryz.func128, Tryz.ntmps128
  go_wp2_with fail
  exact bodyPost_ret (v := .tuple #[txnV t0, .int .i64 0, .int .i64 2]) (by simp [results, Tryz.results128, go_sem, txnV, t0]) rfl ⟨by rw [(unhide HU).1, (unhide HU).2.1, (unhide HU).2.2], ((Below.refl _ _).alloc (Nat.le_refl _) _).alloc (by simp) _⟩

set_option maxRecDepth 10000 in
set_option maxHeartbeats 1000000 in
theorem rdec_long (s : List UInt8) (w : World) (h3 : 3 ≤ s.length) (hm : s[0] = 84) (hl : 1024 < lenOf s) :
    Calls Tryz.prog 128 #[.string ⟨s.toArray⟩] w fun e w' => e = .returned (.tuple #[txnV (decT s), .int .i64 (decN s), .int .i64 (decE s)]) ∧ Below w.heap.size w w' := by
  have HU := hide (dec_bad (s := s) (wholeB_no (fun h => by omega)))
  have hlt := lenOf_lt s
  have hzs : (ByteArray.mk s.toArray).size = s.length := Lib.size_eq ⟨s.toArray⟩
  have hib : 0 < (ByteArray.mk s.toArray).size := by rw [Lib.size_eq]; show 0 < s.length; omega
  have hg : (ByteArray.mk s.toArray)[0] = 84 := (ba_get s 0 hib).trans hm
  have c0 : (3 : Int) ≤ (s.length : Int) := by omega
  have HL : Hid (∀ w, Calls Tryz.prog 168 #[.string ((ByteArray.mk s.toArray).extract 1 3)] w fun e w' => e = .returned (.int .i64 (lenOf s : Nat)) ∧ Below w.heap.size w w') := hide (fun w => by
    have h := numberOf_any ((ByteArray.mk s.toArray).extract 1 3) w (by rw [ex_mid, Lib.size_eq]; show ((s.drop 1).take 2).length ≤ 8; rw [List.length_take]; omega)
    rw [ex_mid] at h ⊢
    rw [show (ByteArray.mk (List.take (3 - 1) (List.drop 1 s)).toArray).data.toList = (s.drop 1).take 2 from rfl, un_take_le _ _ (by decide)] at h
    exact h)
  go_enter Tryz.func128, Tryz.ntmps128
  go_wp2_with fail
  refine (unhide HL _).mono ?_
  rintro e w1 ⟨rfl, hb1⟩
  have H := hide ((RDec.new (w := w)).kept hb1)
  clear hb1 HL hg
  generalize w1 = W at H ⊢
  obtain ⟨L, hL⟩ : ∃ L, lenOf s = L := ⟨_, rfl⟩
  rw [hL] at hl hlt ⊢
  have EL := hide hL
  clear hL
  have r0 : W.cell? ⟨w.heap.size, 0, none⟩ = some (.int .i64 0) := (unhide H).res.c0
  have r1 : W.cell? ⟨w.heap.size, 1, none⟩ = some (.int .i64 0) := (unhide H).res.c1
  have r2 : W.cell? ⟨w.heap.size, 2, none⟩ = some (.int .i64 0) := (unhide H).res.c2
  have r3 : W.cell? ⟨w.heap.size, 3, none⟩ = some (.string ⟨#[]⟩) := (unhide H).res.c3
  have r4 : W.cell? ⟨w.heap.size, 4, none⟩ = some (.string ⟨#[]⟩) := (unhide H).res.c4
  have r5 : W.cell? ⟨w.heap.size, 5, none⟩ = some (.int .i64 0) := (unhide H).res.c5
  have r6 : W.cell? ⟨w.heap.size, 6, none⟩ = some (.int .i64 0) := (unhide H).res.c6
  have rf := (unhide H).res.f
  have m0 : W.cell? ⟨w.heap.size + 1, 0, none⟩ = some (.int .i64 0) := (unhide H).non.c0
  have m1 : W.cell? ⟨w.heap.size + 1, 1, none⟩ = some (.int .i64 0) := (unhide H).non.c1
  have m2 : W.cell? ⟨w.heap.size + 1, 2, none⟩ = some (.int .i64 0) := (unhide H).non.c2
  have m3 : W.cell? ⟨w.heap.size + 1, 3, none⟩ = some (.string ⟨#[]⟩) := (unhide H).non.c3
  have m4 : W.cell? ⟨w.heap.size + 1, 4, none⟩ = some (.string ⟨#[]⟩) := (unhide H).non.c4
  have m5 : W.cell? ⟨w.heap.size + 1, 5, none⟩ = some (.int .i64 0) := (unhide H).non.c5
  have m6 : W.cell? ⟨w.heap.size + 1, 6, none⟩ = some (.int .i64 0) := (unhide H).non.c6
  go_wp2_with fail
  change bodyPost _ _ _ _ _ (putTxn W w.heap.size t0)
  have HP := hide ((unhide H).res.store t0)
  have hB : Below w.heap.size w (putTxn W w.heap.size t0) := (only_put _ _ _).below (unhide H).below (Nat.le_refl _)
  generalize putTxn W w.heap.size t0 = V2 at HP hB ⊢
  have s0 := (unhide HP).c0
  have s1 := (unhide HP).c1
  have s2 := (unhide HP).c2
  have s3 := (unhide HP).c3
  have s4 := (unhide HP).c4
  have s5 := (unhide HP).c5
  have s6 := (unhide HP).c6
  exact bodyPost_ret (v := .tuple #[txnV t0, .int .i64 0, .int .i64 2]) (by simp [results, Tryz.results128, go_sem, s0, s1, s2, s3, s4, s5, s6, txnV]) rfl ⟨by rw [(unhide HU).1, (unhide HU).2.1, (unhide HU).2.2], hB⟩

set_option maxRecDepth 10000 in
set_option maxHeartbeats 1000000 in
theorem rdec_short (s : List UInt8) (w : World) (h3 : 3 ≤ s.length) (hm : s[0] = 84) (hl : lenOf s ≤ 1024) (hn : s.length < lenOf s + 7) :
    Calls Tryz.prog 128 #[.string ⟨s.toArray⟩] w fun e w' => e = .returned (.tuple #[txnV (decT s), .int .i64 (decN s), .int .i64 (decE s)]) ∧ Below w.heap.size w w' := by
  have HU := hide (dec_bad (s := s) (wholeB_no (fun h => by omega)))
  have hzs : (ByteArray.mk s.toArray).size = s.length := Lib.size_eq ⟨s.toArray⟩
  have hib : 0 < (ByteArray.mk s.toArray).size := by rw [Lib.size_eq]; show 0 < s.length; omega
  have hg : (ByteArray.mk s.toArray)[0] = 84 := (ba_get s 0 hib).trans hm
  have c0 : (3 : Int) ≤ (s.length : Int) := by omega
  have HL : Hid (∀ w, Calls Tryz.prog 168 #[.string ((ByteArray.mk s.toArray).extract 1 3)] w fun e w' => e = .returned (.int .i64 (lenOf s : Nat)) ∧ Below w.heap.size w w') := hide (fun w => by
    have h := numberOf_any ((ByteArray.mk s.toArray).extract 1 3) w (by rw [ex_mid, Lib.size_eq]; show ((s.drop 1).take 2).length ≤ 8; rw [List.length_take]; omega)
    rw [ex_mid] at h ⊢
    rw [show (ByteArray.mk (List.take (3 - 1) (List.drop 1 s)).toArray).data.toList = (s.drop 1).take 2 from rfl, un_take_le _ _ (by decide)] at h
    exact h)
  go_enter Tryz.func128, Tryz.ntmps128
  go_wp2_with fail
  refine (unhide HL _).mono ?_
  rintro e w1 ⟨rfl, hb1⟩
  have H := hide ((RDec.new (w := w)).kept hb1)
  clear hb1 HL hg
  generalize w1 = W at H ⊢
  obtain ⟨L, hL⟩ : ∃ L, lenOf s = L := ⟨_, rfl⟩
  rw [hL] at hl hn ⊢
  have EL := hide hL
  clear hL
  have r0 : W.cell? ⟨w.heap.size, 0, none⟩ = some (.int .i64 0) := (unhide H).res.c0
  have r1 : W.cell? ⟨w.heap.size, 1, none⟩ = some (.int .i64 0) := (unhide H).res.c1
  have r2 : W.cell? ⟨w.heap.size, 2, none⟩ = some (.int .i64 0) := (unhide H).res.c2
  have r3 : W.cell? ⟨w.heap.size, 3, none⟩ = some (.string ⟨#[]⟩) := (unhide H).res.c3
  have r4 : W.cell? ⟨w.heap.size, 4, none⟩ = some (.string ⟨#[]⟩) := (unhide H).res.c4
  have r5 : W.cell? ⟨w.heap.size, 5, none⟩ = some (.int .i64 0) := (unhide H).res.c5
  have r6 : W.cell? ⟨w.heap.size, 6, none⟩ = some (.int .i64 0) := (unhide H).res.c6
  have rf := (unhide H).res.f
  have m0 : W.cell? ⟨w.heap.size + 1, 0, none⟩ = some (.int .i64 0) := (unhide H).non.c0
  have m1 : W.cell? ⟨w.heap.size + 1, 1, none⟩ = some (.int .i64 0) := (unhide H).non.c1
  have m2 : W.cell? ⟨w.heap.size + 1, 2, none⟩ = some (.int .i64 0) := (unhide H).non.c2
  have m3 : W.cell? ⟨w.heap.size + 1, 3, none⟩ = some (.string ⟨#[]⟩) := (unhide H).non.c3
  have m4 : W.cell? ⟨w.heap.size + 1, 4, none⟩ = some (.string ⟨#[]⟩) := (unhide H).non.c4
  have m5 : W.cell? ⟨w.heap.size + 1, 5, none⟩ = some (.int .i64 0) := (unhide H).non.c5
  have m6 : W.cell? ⟨w.heap.size + 1, 6, none⟩ = some (.int .i64 0) := (unhide H).non.c6
  go_wp2_with fail
  change bodyPost _ _ _ _ _ (putTxn W w.heap.size t0)
  have HP := hide ((unhide H).res.store t0)
  have hB : Below w.heap.size w (putTxn W w.heap.size t0) := (only_put _ _ _).below (unhide H).below (Nat.le_refl _)
  generalize putTxn W w.heap.size t0 = V2 at HP hB ⊢
  have s0 := (unhide HP).c0
  have s1 := (unhide HP).c1
  have s2 := (unhide HP).c2
  have s3 := (unhide HP).c3
  have s4 := (unhide HP).c4
  have s5 := (unhide HP).c5
  have s6 := (unhide HP).c6
  exact bodyPost_ret (v := .tuple #[txnV t0, .int .i64 0, .int .i64 2]) (by simp [results, Tryz.results128, go_sem, s0, s1, s2, s3, s4, s5, s6, txnV]) rfl ⟨by rw [(unhide HU).1, (unhide HU).2.1, (unhide HU).2.2], hB⟩

end Go.Proofs.YtaoflcmeiaffjaaGreatDoor

namespace Go.Proofs.YtaoflcmeiaffjaaGreatDoor
open Go.RowKit

set_option maxRecDepth 100000 in
set_option maxHeartbeats 1000000 in
theorem rdec_sum (s : List UInt8) (w : World) (h3 : 3 ≤ s.length) (hm : s[0] = 84) (hl : lenOf s ≤ 1024) (hn : lenOf s + 7 ≤ s.length) (hs : sumB s = false) :
    Calls Tryz.prog 128 #[.string ⟨s.toArray⟩] w fun e w' => e = .returned (.tuple #[txnV (decT s), .int .i64 (decN s), .int .i64 (decE s)]) ∧ Below w.heap.size w w' := by
  have HW := hide (wholeB_iff.2 ⟨take1_eq h3 hm, hl, hn⟩)
  have HU := hide (dec_sum (unhide HW) hs)
  have HS := hide hs
  clear hs
  have hzs : (ByteArray.mk s.toArray).size = s.length := Lib.size_eq ⟨s.toArray⟩
  have hib : 0 < (ByteArray.mk s.toArray).size := by rw [Lib.size_eq]; show 0 < s.length; omega
  have hg : (ByteArray.mk s.toArray)[0] = 84 := (ba_get s 0 hib).trans hm
  have c0 : (3 : Int) ≤ (s.length : Int) := by omega
  have HL : Hid (∀ w, Calls Tryz.prog 168 #[.string ((ByteArray.mk s.toArray).extract 1 3)] w fun e w' => e = .returned (.int .i64 (lenOf s : Nat)) ∧ Below w.heap.size w w') := hide (fun w => by
    have h := numberOf_any ((ByteArray.mk s.toArray).extract 1 3) w (by rw [ex_mid, Lib.size_eq]; show ((s.drop 1).take 2).length ≤ 8; rw [List.length_take]; omega)
    rw [ex_mid] at h ⊢
    rw [show (ByteArray.mk (List.take (3 - 1) (List.drop 1 s)).toArray).data.toList = (s.drop 1).take 2 from rfl, un_take_le _ _ (by decide)] at h
    exact h)
  go_enter Tryz.func128, Tryz.ntmps128
  go_wp2_with fail
  refine (unhide HL _).mono ?_
  rintro e w1 ⟨rfl, hb1⟩
  have H := hide ((RDec.new (w := w)).kept hb1)
  clear hb1 HL hg
  generalize w1 = W at H ⊢
  obtain ⟨L, hL⟩ : ∃ L, lenOf s = L := ⟨_, rfl⟩
  rw [hL] at hl hn ⊢
  have EL := hide hL
  clear hL
  have n1 : (0 : Int) ≤ (L : Int) + 3 := by omega
  have n2 : (L : Int) + 3 ≤ (L : Int) + 7 := by omega
  have n3 : (L : Int) + 7 ≤ (s.length : Int) := by omega
  have n4 : (L : Int) + 3 ≤ (s.length : Int) := by omega
  obtain ⟨Q, hQ⟩ : ∃ Q, un ((s.drop (L + 3)).take 4) = Q := ⟨_, rfl⟩
  obtain ⟨X, hX⟩ : ∃ X, sumN (s.take (L + 3)) = X := ⟨_, rfl⟩
  have q0 : ∀ d' os, Calls Tryz.prog 168 #[.string ((ByteArray.mk s.toArray).extract (L + 3) (L + 7))] (Sort.grow (redrawn W d') os) fun e w'' => e = .returned (.int .i64 (Q : Nat)) ∧ ∃ p : Regrown, w'' = Sort.grow (redrawn W p.d) p.os := fun d' os => Calls.regrown_of (by
    have h := numberOf_any ((ByteArray.mk s.toArray).extract (L + 3) (L + 7)) (Sort.grow (redrawn W d') os) (by rw [ex_mid, Lib.size_eq]; show ((s.drop (L + 3)).take (L + 7 - (L + 3))).length ≤ 8; rw [List.length_take]; omega)
    rw [ex_mid] at h ⊢
    rw [show (ByteArray.mk (List.take (L + 7 - (L + 3)) (List.drop (L + 3) s)).toArray).data.toList = (s.drop (L + 3)).take (L + 7 - (L + 3)) from rfl] at h
    rw [show L + 7 - (L + 3) = 4 from by omega] at h ⊢
    rw [un_take_le _ _ (by decide), hQ] at h
    exact h)
  have q1 : ∀ d' os, Calls Tryz.prog 145 #[.string ((ByteArray.mk s.toArray).extract 0 (L + 3))] (Sort.grow (redrawn W d') os) fun e w'' => e = .returned (.int .i64 (X : Nat)) ∧ ∃ p : Regrown, w'' = Sort.grow (redrawn W p.d) p.os := fun d' os => Calls.regrown_of (by
    have h := rsum_any (s.take (L + 3)) (Sort.grow (redrawn W d') os) (by rw [List.length_take]; omega)
    rw [hX] at h
    rw [ex_front]
    exact h)
  have EQ := hide hQ
  have EX := hide hX
  clear hQ hX
  go_wp2_with fail
  refine wp_region_quiet_below (by kernel_rfl) (by kernel_rfl) ?_
  repeat (first | go_big_quiet_step (first | with_reducible exact q0 _ _ | with_reducible exact q1 _ _) | quiet_step (first | with_reducible exact q0 _ _ | with_reducible exact q1 _ _))
  refine wpQuiet_nil ?_
  intro _ hw'
  obtain ⟨⟨dq, osq⟩, hw''⟩ := hw'
  subst hw''
  replace H := hide ((unhide H).kept (below_regrown W dq osq))
  clear q0 q1
  generalize Sort.grow (redrawn W dq) osq = W at H ⊢
  have hne : ((Q : Int) != (X : Int)) = true := by
    rw [bne_iff_ne]
    intro h
    have h2 : sumB s = true := sumB_iff.2 (by rw [unhide EL, unhide EQ, unhide EX]; omega)
    rw [unhide HS] at h2
    exact absurd h2 (by decide)
  have r0 : W.cell? ⟨w.heap.size, 0, none⟩ = some (.int .i64 0) := (unhide H).res.c0
  have r1 : W.cell? ⟨w.heap.size, 1, none⟩ = some (.int .i64 0) := (unhide H).res.c1
  have r2 : W.cell? ⟨w.heap.size, 2, none⟩ = some (.int .i64 0) := (unhide H).res.c2
  have r3 : W.cell? ⟨w.heap.size, 3, none⟩ = some (.string ⟨#[]⟩) := (unhide H).res.c3
  have r4 : W.cell? ⟨w.heap.size, 4, none⟩ = some (.string ⟨#[]⟩) := (unhide H).res.c4
  have r5 : W.cell? ⟨w.heap.size, 5, none⟩ = some (.int .i64 0) := (unhide H).res.c5
  have r6 : W.cell? ⟨w.heap.size, 6, none⟩ = some (.int .i64 0) := (unhide H).res.c6
  have rf := (unhide H).res.f
  have m0 : W.cell? ⟨w.heap.size + 1, 0, none⟩ = some (.int .i64 0) := (unhide H).non.c0
  have m1 : W.cell? ⟨w.heap.size + 1, 1, none⟩ = some (.int .i64 0) := (unhide H).non.c1
  have m2 : W.cell? ⟨w.heap.size + 1, 2, none⟩ = some (.int .i64 0) := (unhide H).non.c2
  have m3 : W.cell? ⟨w.heap.size + 1, 3, none⟩ = some (.string ⟨#[]⟩) := (unhide H).non.c3
  have m4 : W.cell? ⟨w.heap.size + 1, 4, none⟩ = some (.string ⟨#[]⟩) := (unhide H).non.c4
  have m5 : W.cell? ⟨w.heap.size + 1, 5, none⟩ = some (.int .i64 0) := (unhide H).non.c5
  have m6 : W.cell? ⟨w.heap.size + 1, 6, none⟩ = some (.int .i64 0) := (unhide H).non.c6
  go_wp2_with fail
  change bodyPost _ _ _ _ _ (putTxn W w.heap.size t0)
  have HP := hide ((unhide H).res.store t0)
  have hB : Below w.heap.size w (putTxn W w.heap.size t0) := (only_put _ _ _).below (unhide H).below (Nat.le_refl _)
  generalize putTxn W w.heap.size t0 = V2 at HP hB ⊢
  have s0 := (unhide HP).c0
  have s1 := (unhide HP).c1
  have s2 := (unhide HP).c2
  have s3 := (unhide HP).c3
  have s4 := (unhide HP).c4
  have s5 := (unhide HP).c5
  have s6 := (unhide HP).c6
  exact bodyPost_ret (v := .tuple #[txnV t0, .int .i64 0, .int .i64 5]) (by simp [results, Tryz.results128, go_sem, s0, s1, s2, s3, s4, s5, s6, txnV]) rfl ⟨by rw [(unhide HU).1, (unhide HU).2.1, (unhide HU).2.2], hB⟩

end Go.Proofs.YtaoflcmeiaffjaaGreatDoor
