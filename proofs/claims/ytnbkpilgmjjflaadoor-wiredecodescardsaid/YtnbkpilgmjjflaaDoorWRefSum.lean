/-
  What aviaryref.Sum answers, for every text: the sum by single bits, and the walk.
-/
import Derived.Test.YtnbkpilgmjjflaaDoorRows
import Derived.Test.YtnbkpilgmjjflaaDoorPlain
import Derived.Test.YtnbkpilgmjjflaaDoorWCrc
import Derived.Lib.ConvBytes
import Derived.Lib.Strings
import Derived.RegionTactic
import Derived.Laws.CopyOwn
import Derived.WalkKit
import Derived.WalkSpells
import Derived.WalkLawsBesides
namespace Go.Proofs.YtnbkpilgmjjflaaDoor
open Go.RowKit

/- plain: one bit of a byte at a time -/
def bitR (r x : Nat) : Nat := (r / 2) ^^^ (3988292384 * (r % 2 ^^^ x))
def bitsR (b : Nat) : Nat → Nat → Nat
  | 0, c => c
  | k + 1, c => bitR (bitsR b k c) (bitN b k)
theorem half_xor (a b : Nat) : (a ^^^ b) / 2 = a / 2 ^^^ b / 2 := by
  have e : ∀ x : Nat, x / 2 = x >>> 1 := fun x => by rw [Nat.shiftRight_eq_div_pow]
  rw [e, e, e, Nat.shiftRight_xor_distrib]
theorem mod2_xor (a b : Nat) : (a ^^^ b) % 2 = a % 2 ^^^ b % 2 := by
  have := Nat.xor_mod_two_pow (a := a) (b := b) (n := 1)
  simpa using this
theorem bitsR_crcN (b c : Nat) : ∀ k, bitsR b k c ^^^ b / 2 ^ k = crcN k (c ^^^ b)
  | 0 => by simp [bitsR, crcN]
  | k + 1 => by
    have ih := bitsR_crcN b c k
    show bitR (bitsR b k c) (bitN b k) ^^^ _ = crc1 (crcN k (c ^^^ b))
    rw [← ih]
    generalize bitsR b k c = r
    have e : b / 2 ^ (k + 1) = b / 2 ^ k / 2 := by rw [Nat.pow_succ, Nat.div_div_eq_div_mul]
    rw [e, crc1, half_xor, mod2_xor, bitR, bitN]
    rw [Nat.xor_assoc, Nat.xor_assoc, Nat.xor_comm (3988292384 * _)]
theorem bit_xor_le {a b : Nat} (ha : a ≤ 1) (hb : b ≤ 1) : a ^^^ b ≤ 1 := by
  have : a ^^^ b < 2 ^ 1 := Nat.xor_lt_two_pow (by omega) (by omega)
  omega
theorem bitR_lt {r x : Nat} (h : r < 4294967296) (hx : x ≤ 1) : bitR r x < 4294967296 := by
  unfold bitR
  have := bit_xor_le (show r % 2 ≤ 1 by omega) hx
  exact xor_lt32 (by omega) (by omega)
theorem bitsR_lt {b c : Nat} (h : c < 4294967296) : ∀ k, bitsR b k c < 4294967296
  | 0 => h
  | k + 1 => bitR_lt (bitsR_lt h k) (bitN_le _ _)
theorem bitsR_all {c : Nat} (b : UInt8) : bitsR b.toNat 8 c = crcB c b := by
  have h := bitsR_crcN b.toNat c 8
  have hb := b.toNat_lt
  rw [show b.toNat / 2 ^ 8 = 0 from by omega, Nat.xor_zero] at h
  exact h
theorem bitN_top {r : Nat} (h : r < 4294967296) : bitN r 32 = 0 := by unfold bitN; omega
/-- one bit of the next state -/
theorem bitN_bitR {r x : Nat} (hx : x ≤ 1) (i : Nat) : bitN (bitR r x) i = bitN r (i + 1) ^^^ ((r % 2 ^^^ x) * bitN 3988292384 i) := by
  have := bit_xor_le (show r % 2 ≤ 1 by omega) hx
  rw [bitR, bitN_xor, bitN_half, bitN_mul _ _ _ this]
theorem bitN_ones : ∀ i, i < 32 → bitN 4294967295 i = 1 := by decide +kernel
theorem flip_step {r k : Nat} (hk : k < 32) : (4294967295 ^^^ r) / 2 ^ k + bitN r k = 2 * ((4294967295 ^^^ r) / 2 ^ (k + 1)) + 1 := by
  have h := bitN_xor 4294967295 r k
  rw [bitN_ones k hk] at h
  have hb := bitN_le r k
  have e : (4294967295 ^^^ r) / 2 ^ (k + 1) = (4294967295 ^^^ r) / 2 ^ k / 2 := by rw [Nat.pow_succ, Nat.div_div_eq_div_mul]
  rw [e]
  have hq : (4294967295 ^^^ r) / 2 ^ k % 2 = 1 ^^^ bitN r k := h
  have : bitN r k = 0 ∨ bitN r k = 1 := by omega
  rcases this with h0 | h0 <;> rw [h0] at hq ⊢ <;> simp at hq <;> omega

/- the 32 cells -/
def regV (f : Nat → Nat) : List Value := (List.range 32).map fun i => .int .i64 (f i : Nat)
def regAt (W : World) (g : Nat) (f : Nat → Nat) : Prop := W.heap[g]? = some (.cells (regV f).toArray 52 (0, 0))
theorem regV_length (f : Nat → Nat) : (regV f).length = 32 := by simp [regV]
theorem regV_get (f : Nat → Nat) {j : Nat} (h : j < 32) : (regV f)[j]? = some (.int .i64 (f j : Nat)) := by
  simp [regV, List.getElem?_map, List.getElem?_range h]
theorem regV_congr {f f' : Nat → Nat} (h : ∀ j, j < 32 → f j = f' j) : regV f = regV f' := by
  unfold regV
  exact List.map_congr_left fun j hj => by rw [h j (List.mem_range.1 hj)]
theorem regAt.congr {W : World} {g : Nat} {f f' : Nat → Nat} (h : regAt W g f) (he : ∀ j, j < 32 → f j = f' j) : regAt W g f' := by
  unfold regAt at h ⊢; rw [← regV_congr he]; exact h
theorem regAt.cell {W : World} {g : Nat} {f : Nat → Nat} (h : regAt W g f) {j : Nat} (hj : j < 32) : W.cell? ⟨g, j, none⟩ = some (.int .i64 (f j : Nat)) := by
  unfold regAt at h; simp [World.cell?, h, regV_get f hj]
theorem regAt.soft {W : World} {g : Nat} {f : Nat → Nat} (h : regAt W g f) (j : Nat) : W.frozen? ⟨g, j, none⟩ = false := by
  unfold regAt at h; simp [World.frozen?, h]
theorem reg_set_same {w : World} {g j : Nat} {cur : Array Value} {t : TypeId} {fz : Nat × Nat} (v : Value) (h : w.heap[g]? = some (.cells cur t fz)) :
    (w.setCell ⟨g, j, none⟩ v).heap[g]? = some (.cells (cur.setIfInBounds j v) t fz) := by
  obtain ⟨hlt, hk⟩ := Array.getElem?_eq_some_iff.1 h
  show (w.heap.modify g _)[g]? = _
  rw [Array.getElem?_eq_getElem (by rw [Array.size_modify]; exact hlt), Array.getElem_modify_self, hk]
  rfl
theorem regAt.set {W : World} {g : Nat} {f : Nat → Nat} (h : regAt W g f) {j v : Nat} (hj : j < 32) : regAt (W.setCell ⟨g, j, none⟩ (.int .i64 (v : Nat))) g (fun i => if i = j then v else f i) := by
  unfold regAt at h ⊢
  rw [reg_set_same _ h]
  congr 2
  apply Array.ext'
  rw [Array.toList_setIfInBounds]
  apply List.ext_getElem?
  intro i
  rw [List.getElem?_set]
  by_cases hi : i < 32
  · by_cases e : j = i
    · subst e
      rw [regV_get (fun i => if i = j then v else f i) hi, if_pos rfl, if_pos (by simp [regV_length]; omega), if_pos rfl]
    · rw [if_neg e, regV_get _ hi, regV_get (fun i => if i = j then v else f i) hi, if_neg (fun h => e h.symm)]
  · have e1 : ∀ f' : Nat → Nat, (regV f')[i]? = none := fun f' => by rw [List.getElem?_eq_none_iff, regV_length]; omega
    rw [if_neg (by omega), e1, e1]
/-- behind copy(reg[:], reg[1:]) -/
theorem reg_copy {f : Nat → Nat} : regV (fun i => if i < 31 then f (i + 1) else f i) = (regV f).take 0 ++ ((regV f).drop 1) ++ (regV f).drop (0 + ((regV f).drop 1).length) := by
  apply List.ext_getElem?
  intro i
  simp only [List.take_zero, List.nil_append, Nat.zero_add, List.length_drop, regV_length]
  by_cases hi : i < 31
  · rw [regV_get _ (by omega), List.getElem?_append_left (by simp [regV_length]; omega), List.getElem?_drop, if_pos hi, regV_get _ (by omega), Nat.add_comm]
  · rw [List.getElem?_append_right (by simp [regV_length]; omega), List.getElem?_drop, List.length_drop, regV_length]
    by_cases h32 : i < 32
    · obtain rfl : i = 31 := by omega
      rw [regV_get _ (by omega), regV_get _ (by omega)]; rfl
    · have e1 : ∀ f' : Nat → Nat, ∀ i', 32 ≤ i' → (regV f')[i']? = none := fun f' i' h' => by rw [List.getElem?_eq_none_iff, regV_length]; omega
      rw [e1 _ _ (by omega), e1 _ _ (by omega)]
theorem regAt.copied {W : World} {g : Nat} {f : Nat → Nat} (h : regAt W g f) (ty : TypeId) :
    (Builtin.copy_ #[53, 53] ty #[.slice (some ⟨g, 0, none⟩) 32 32, .slice (some ⟨g, 1, none⟩) 31 31]).run Tryd.prog W = .ok (goInt 31) (W.setRow g (regV (fun i => if i < 31 then f (i + 1) else f i)).toArray) := by
  rw [reg_copy]
  have hl : ((regV f).drop 1).length = 31 := by simp [regV_length]
  have := run_copy_row (P := Tryd.prog) W 53 53 ty 3 g 0 32 32 ⟨g, 1, none⟩ 31 31 (regV f).toArray 52 ((regV f).drop 1) Tryd.underlying53 (by kernel_rfl) h (by rw [hl]; rfl)
    (fun j v hv => by
      rw [List.getElem?_drop] at hv
      rw [show (⟨g, 1, none⟩ : Addr).add j = ⟨g, 1 + j, none⟩ from by unfold Addr.add; split <;> simp_all]
      unfold regAt at h
      simp only [World.cell?, h]
      simpa using hv) (by rw [hl]; simp [regV_length]) (fun v hv => by
      obtain ⟨i, _, rfl⟩ := List.mem_map.1 (List.mem_of_mem_drop hv)
      rfl)
  rw [hl] at this ⊢
  exact this
theorem regAt.row {W : World} {g : Nat} {f : Nat → Nat} (h : regAt W g f) (f' : Nat → Nat) : regAt (W.setRow g (regV f').toArray) g f' := setRow_heap W g _ _ _ _ h

theorem rbytes_below (w : World) (e : TypeId) (s : ByteArray) : Below w.heap.size w (Lib.bytesWorld w e s) :=
  ⟨rfl, rfl, rfl, by rw [Lib.bytesWorld_size]; omega, fun k hk => Lib.bytesWorld_at_old w e s k hk⟩
theorem rbytes_cell (w : World) (e : TypeId) (s : ByteArray) (l : List UInt8) (h : s.data.toList = l) (j : Nat) (hj : j < l.length) : (Lib.bytesWorld w e s).cell? ⟨w.heap.size, j, none⟩ = some (.int .u8 (l[j].toNat : Int)) := by
  subst h
  rw [Lib.bytesWorld_cell _ _ _ _ (by rw [Lib.size_eq]; exact hj), List.getD_eq_getElem?_getD, List.getElem?_eq_getElem hj]; rfl

theorem i64_val {a b : Int} (h : a = b) : Value.int .i64 a = .int .i64 b := by rw [h]
theorem and1_u8 {a : Nat} (ha : a < 256) : bits .and .u8 a 1 = ((a % 2 : Nat) : Int) := by
  have h := bits_mask .u8 8 (by decide) wraps_u8 1 (by decide) (a : Int) (by omega) (by omega)
  exact_mod_cast h
theorem and1_i64 {a : Nat} (ha : a < 9223372036854775808) : bits .and .i64 a 1 = ((a % 2 : Nat) : Int) := by
  have h := bits_mask .i64 63 (by decide) wraps63 1 (by decide) (a : Int) (by omega) (by omega)
  exact_mod_cast h
theorem wrap64_nat {a : Nat} (ha : a < 9223372036854775808) : wrap64 a = a := by unfold wrap64; omega
theorem out_bits {x c n : Nat} (hc : c < 256) : bits .xor .i64 ((bitN x 0 : Nat) : Int) (wrap64 (bits .and .u8 ((c : Int) / 2 ^ n) 1)) = ((x % 2 ^^^ bitN c n : Nat) : Int) := by
  have h1 : ((c : Int) / 2 ^ n) = ((c / 2 ^ n : Nat) : Int) := by rw [Int.natCast_ediv, Int.natCast_pow]; rfl
  have h2 : c / 2 ^ n < 256 := Nat.lt_of_le_of_lt (Nat.div_le_self _ _) hc
  have h3 := bitN_le x 0
  have h4 : bitN x 0 = x % 2 := by simp [bitN]
  rw [h1, and1_u8 h2, wrap64_nat (by omega), xor_i64 (by omega) (by omega), h4]
  rfl
theorem cell_bits {f o i : Nat} (hf : f ≤ 1) (ho : o ≤ 1) : bits .xor .i64 (f : Int) (wrap64 (o * bits .and .i64 ((3988292384 : Int) / 2 ^ i) 1)) = ((f ^^^ (o * bitN 3988292384 i) : Nat) : Int) := by
  have h1 : ((3988292384 : Int) / 2 ^ i) = ((3988292384 / 2 ^ i : Nat) : Int) := by rw [Int.natCast_ediv, Int.natCast_pow]; rfl
  have h2 : 3988292384 / 2 ^ i ≤ 3988292384 := Nat.div_le_self _ _
  have h5 := bitN_le 3988292384 i
  have h6 : o * bitN 3988292384 i ≤ 1 * 1 := Nat.mul_le_mul ho h5
  rw [h1, and1_i64 (by omega)]
  rw [show ((o : Int) * ((3988292384 / 2 ^ i % 2 : Nat) : Int)) = ((o * bitN 3988292384 i : Nat) : Int) from by rw [Int.natCast_mul]; rfl, wrap64_nat (by omega)]
  exact xor_i64 (by omega) (by omega)

set_option maxHeartbeats 1000000 in
theorem rsum_any (l : List UInt8) (w : World) (hl : l.length ≤ 140737488355328) :
    Calls Tryd.prog 20 #[.string ⟨l.toArray⟩] w fun e w' => e = .returned (.int .i64 (sumN l : Nat)) ∧ Below w.heap.size w w' := by
  have hz : (ByteArray.mk l.toArray).size = l.length := Lib.size_eq ⟨l.toArray⟩
  have hconv : ∀ W s, (convert 9 49 (.string s)).run Tryd.prog W = .ok (.slice (some ⟨W.heap.size, 0, none⟩) s.size (grownCap W s.size 0 5)) (Lib.bytesWorld W 5 s) := fun W s =>
    Lib.run_convert_string_bytes W 9 49 5 s Tryd.underlying9 Tryd.underlying49 Tryd.underlying5
  go_enter Tryd.func20, Tryd.ntmps20
  go_wp2
  generalize hW1 : w.alloc (Obj.cells _ 52) = W1
  have hs1 : W1.heap.size = w.heap.size + 1 := by rw [← hW1]; simp
  have HR1 : Hid (regAt W1 w.heap.size (fun _ => 0)) := hide (by
    rw [← hW1]
    show (w.heap.push _)[w.heap.size]? = _
    simp [regV]
    rfl)
  have hB1 : Below w.heap.size w W1 := by rw [← hW1]; exact (Below.refl _ _).alloc (Nat.le_refl _) _
  clear hW1
  go_loopw [12] (fun i wr => ∃ k : Nat, k ≤ 32 ∧ i = .int .i64 k ∧ regAt wr w.heap.size (fun j => if j < k then 1 else 0) ∧ wr.heap.size = w.heap.size + 1 ∧ Below w.heap.size w wr) (fun i _ => 32 - (intOf i).toNat)
  case atStart => exact ⟨0, Nat.zero_le _, rfl, (unhide HR1).congr (fun j _ => by simp), hs1, hB1⟩
  case round =>
    obtain ⟨k, hk, rfl, hr, hsz, hB⟩ := hrel
    have HR := hide hr
    clear hr HR1 hs1 hB1
    by_cases hlt : k < 32
    · have h1 := (unhide HR).cell hlt
      have h2 := (unhide HR).soft k
      go_wp2
      refine ⟨⟨k + 1, by omega, by go_num, ?_, ?_, ?_⟩, by simp [intOf]; omega⟩
      · exact ((unhide HR).set (v := 1) hlt).congr (fun j hj => by by_cases e : j = k <;> by_cases e' : j < k <;> simp [e, e'] <;> omega)
      · simpa [World.setCell] using hsz
      · exact hB.setCell (by show w.heap.size ≤ w.heap.size; exact Nat.le_refl _) _
    · obtain rfl : k = 32 := by omega
      have HR2 : Hid (regAt wr w.heap.size (bitN 4294967295)) := hide ((unhide HR).congr (fun j hj => by rw [if_pos hj, bitN_ones j hj]))
      clear HR
      go_wp2
      generalize hW2 : Lib.bytesWorld wr 5 ⟨l.toArray⟩ = W2
      have hs2 : W2.heap.size = w.heap.size + 2 := by rw [← hW2, Lib.bytesWorld_size]; omega
      have hb2 : Below wr.heap.size wr W2 := by rw [← hW2]; exact rbytes_below _ _ _
      have Hcell : Hid (∀ j (hj : j < l.length), W2.cell? ⟨w.heap.size + 1, j, none⟩ = some (.int .u8 (l[j].toNat : Int))) := hide (fun j hj => by
        rw [← hW2, ← hsz]; exact rbytes_cell wr 5 ⟨l.toArray⟩ l rfl j hj)
      have HR3 : Hid (regAt W2 w.heap.size (bitN 4294967295)) := hide ((hb2.block _ (by omega)).trans (unhide HR2))
      have hB2 : Below w.heap.size w W2 := hB.trans (hb2.mono (by omega))
      clear hW2 hb2 HR2 hB hsz
      go_loopw [21] (fun i wr => ∃ k : Nat, k ≤ l.length ∧ i = .int .i64 k ∧ regAt wr w.heap.size (bitN (crcL (l.take k))) ∧ wr.heap[w.heap.size + 1]? = W2.heap[w.heap.size + 1]? ∧ wr.heap.size = w.heap.size + 2 ∧ Below w.heap.size w wr) (fun i _ => l.length - (intOf i).toNat)
      case atStart => exact ⟨0, Nat.zero_le _, rfl, unhide HR3, rfl, hs2, hB2⟩
      case round =>
        obtain ⟨k, hk, rfl, hr, hblk, hsz, hB⟩ := hrel
        have HR := hide hr
        have HK := hide hblk
        clear hr hblk HR3 hB2
        obtain ⟨r, hr⟩ : ∃ r, crcL (l.take k) = r := ⟨_, rfl⟩
        have hrl : r < 4294967296 := hr ▸ crcL_lt _
        rw [hr] at HR
        have Hr := hide hr
        clear hr
        by_cases hlt : k < l.length
        · have hc : wr.cell? ⟨w.heap.size + 1, k, none⟩ = some (.int .u8 (l[k].toNat : Int)) := (World.cell?_of_block (a := ⟨w.heap.size + 1, k, none⟩) (unhide HK)).trans (unhide Hcell k hlt)
          have Hnext : Hid (crcL (l.take (k + 1)) = bitsR l[k].toNat 8 r) := hide (by rw [List.take_succ_eq_append_getElem hlt, crcL_snoc, bitsR_all, unhide Hr])
          generalize l[k] = c at hc Hnext
          have hcb := c.toNat_lt
          go_wp2
          clear hc
          generalize wr = V at *
          go_loopw [7] (fun i wr => ∃ n : Nat, n ≤ 8 ∧ i = .int .u64 n ∧ regAt wr w.heap.size (bitN (bitsR c.toNat n r)) ∧ wr.heap[w.heap.size + 1]? = W2.heap[w.heap.size + 1]? ∧ wr.heap.size = w.heap.size + 2 ∧ Below w.heap.size w wr) (fun i _ => 8 - (intOf i).toNat)
          case atStart => exact ⟨0, Nat.zero_le _, rfl, unhide HR, unhide HK, hsz, hB⟩
          case round =>
            clear HR HK hsz hB
            obtain ⟨n, hn, rfl, hr, hblk, hsz, hB⟩ := hrel
            have HR := hide hr
            have HK := hide hblk
            clear hr hblk
            have hxl := bitsR_lt (b := c.toNat) hrl n
            have Hs : Hid (bitsR c.toNat (n + 1) r = bitR (bitsR c.toNat n r) (bitN c.toNat n)) := hide rfl
            by_cases h8 : n < 8
            · obtain ⟨x, hx⟩ : ∃ x, bitsR c.toNat n r = x := ⟨_, rfl⟩
              rw [hx] at HR hxl Hs
              clear hx
              have h1 := (unhide HR).cell (show 0 < 32 by decide)
              have hn2 : (n : Int) ≤ 8 := by omega
              go_wp2
              rw [out_bits (by omega)]
              obtain ⟨o, ho⟩ : ∃ o, x % 2 ^^^ bitN c.toNat n = o := ⟨_, rfl⟩
              have hol : o ≤ 1 := ho ▸ bit_xor_le (by omega) (bitN_le _ _)
              have Ho := hide ho
              rw [ho]
              clear ho h1
              have hcopy := regAt.copied (W := wr.drew) (g := w.heap.size) (f := bitN x) (unhide HR)
              go_region
              clear hcopy
              generalize hW3 : wr.drew.setRow w.heap.size (regV fun i => if i < 31 then bitN x (i + 1) else bitN x i).toArray = W3
              have HR3 : Hid (regAt W3 w.heap.size (fun i => if i < 31 then bitN x (i + 1) else bitN x i)) := hide (by
                rw [← hW3]; exact regAt.row (W := wr.drew) (f := bitN x) (unhide HR) _)
              have HK3 : Hid (W3.heap[w.heap.size + 1]? = W2.heap[w.heap.size + 1]?) := hide (by
                rw [← hW3, setRow_other _ _ _ _ (by omega)]; exact unhide HK)
              have hs3 : W3.heap.size = w.heap.size + 2 := by rw [← hW3]; simpa [World.setRow] using hsz
              have hB3 : Below w.heap.size w W3 := by rw [← hW3]; exact below_setRow hB.drew (Nat.le_refl _) _
              clear hW3 HR HK hsz hB
              have h1 := (unhide HR3).cell (show 31 < 32 by decide)
              have h2 := (unhide HR3).soft 31
              go_wp2
              clear h1 h2
              generalize hW4 : W3.setCell ⟨w.heap.size, 31, none⟩ (.int .i64 0) = W4
              have HR4 : Hid (regAt W4 w.heap.size (fun i => bitN x (i + 1))) := hide (by
                rw [← hW4]
                refine ((unhide HR3).set (v := 0) (show 31 < 32 by decide)).congr (fun j hj => ?_)
                by_cases e : j = 31
                · subst e; simp [bitN_top hxl]
                · rw [if_neg e, if_pos (by omega)])
              have HK4 : Hid (W4.heap[w.heap.size + 1]? = W2.heap[w.heap.size + 1]?) := hide (by
                rw [← hW4, Below.heap_setCell _ _ _ _ (by show w.heap.size + 1 ≠ w.heap.size; omega)]; exact unhide HK3)
              have hs4 : W4.heap.size = w.heap.size + 2 := by rw [← hW4]; simpa [World.setCell] using hs3
              have hB4 : Below w.heap.size w W4 := by rw [← hW4]; exact hB3.setCell (by show w.heap.size ≤ w.heap.size; exact Nat.le_refl _) _
              clear hW4 HR3 HK3 hs3 hB3
              generalize wr = V2 at *
              go_loopw [41] (fun i wr => ∃ j : Nat, j ≤ 32 ∧ i = .int .i64 j ∧ regAt wr w.heap.size (fun i => if i < j then bitN x (i + 1) ^^^ (o * bitN 3988292384 i) else bitN x (i + 1)) ∧ wr.heap[w.heap.size + 1]? = W2.heap[w.heap.size + 1]? ∧ wr.heap.size = w.heap.size + 2 ∧ Below w.heap.size w wr) (fun i _ => 32 - (intOf i).toNat)
              case atStart => exact ⟨0, Nat.zero_le _, rfl, (unhide HR4).congr (fun j _ => by simp), unhide HK4, hs4, hB4⟩
              case round =>
                clear HR4 HK4 hs4 hB4
                obtain ⟨j, hj, rfl, hr, hblk, hsz, hB⟩ := hrel
                have HR := hide hr
                have HK := hide hblk
                clear hr hblk
                by_cases hj2 : j < 32
                · have h1 := (unhide HR).cell hj2
                  have h2 := (unhide HR).soft j
                  simp only [Nat.lt_irrefl, if_false] at h1
                  have hle := bitN_le x (j + 1)
                  obtain ⟨y, hy⟩ : ∃ y, bitN x (j + 1) = y := ⟨_, rfl⟩
                  rw [hy] at h1 hle
                  have Hy := hide hy
                  clear hy
                  have hj3 : (j : Int) ≤ 64 := by omega
                  go_wp2
                  rw [cell_bits hle hol]
                  refine ⟨⟨j + 1, by omega, by go_num, ?_, ?_, ?_, ?_⟩, by simp [intOf]; omega⟩
                  · refine ((unhide HR).set hj2).congr (fun i hi => ?_)
                    by_cases e : i = j
                    · subst e; rw [if_pos rfl, if_pos (by omega), unhide Hy]
                    · rw [if_neg e]
                      by_cases e' : i < j
                      · rw [if_pos e', if_pos (by omega)]
                      · rw [if_neg e', if_neg (by omega)]
                  · rw [Below.heap_setCell _ _ _ _ (by show w.heap.size + 1 ≠ w.heap.size; omega)]; exact unhide HK
                  · simpa [World.setCell] using hsz
                  · exact hB.setCell (by show w.heap.size ≤ w.heap.size; exact Nat.le_refl _) _
                · obtain rfl : j = 32 := by omega
                  have hfin : regAt wr w.heap.size (bitN (bitsR c.toNat (n + 1) r)) := (unhide HR).congr (fun i hi => by
                    rw [if_pos hi, unhide Hs, bitN_bitR (bitN_le _ _), unhide Ho])
                  have HF := hide hfin
                  clear hfin HR
                  go_wp2
                  exact ⟨⟨n + 1, by omega, by go_num, unhide HF, unhide HK, hsz, hB⟩, by simp [intOf]; omega⟩
            · obtain rfl : n = 8 := by omega
              have Hn' := hide (unhide Hnext)
              go_wp2
              exact ⟨⟨k + 1, by omega, by go_num, by rw [unhide Hn']; exact unhide HR, unhide HK, hsz, hB⟩, by simp [intOf]; omega⟩
        · obtain rfl : k = l.length := by omega
          rw [List.take_length] at Hr
          clear HK Hcell hs2 hlt hk
          go_wp2
          go_loop [10, 11] (fun n i => ∃ j : Nat, j ≤ 32 ∧ i = .int .i64 ((j : Int) - 1) ∧ n = .int .i64 ((4294967295 ^^^ r) / 2 ^ j : Nat)) (fun _ i => (intOf i + 1).toNat)
          case atStart => exact ⟨32, by omega, rfl, by rw [Nat.div_eq_of_lt (by have := xor_lt32 (show 4294967295 < 4294967296 by decide) hrl; omega)]; rfl⟩
          case round =>
            obtain ⟨j, hj, rfl, rfl⟩ := hrel
            by_cases hj0 : j = 0
            · subst hj0
              have hfin : (4294967295 ^^^ r) / 2 ^ 0 = sumN l := by rw [sumN, unhide Hr]; simp
              rw [hfin]
              clear hfin
              go_wp2
              go_ret
              exact ⟨rfl, hB⟩
            · obtain ⟨i, rfl⟩ : ∃ i, j = i + 1 := ⟨j - 1, by omega⟩
              have hst := flip_step (r := r) (k := i) (by omega)
              have hcl := (unhide HR).cell (show i < 32 by omega)
              have hle := bitN_le r i
              have hlt : (4294967295 ^^^ r) / 2 ^ (i + 1) < 4294967296 := Nat.lt_of_le_of_lt (Nat.div_le_self _ _) (xor_lt32 (by decide) hrl)
              obtain ⟨a, ha⟩ : ∃ a, (4294967295 ^^^ r) / 2 ^ (i + 1) = a := ⟨_, rfl⟩
              obtain ⟨y, hy⟩ : ∃ y, bitN r i = y := ⟨_, rfl⟩
              rw [ha] at hst hlt ⊢
              rw [hy] at hst hcl hle
              have Hst := hide hst
              clear ha hy hst
              rw [show ((i + 1 : Nat) : Int) - 1 = (i : Int) from by omega]
              go_wp2
              have hst := unhide Hst
              exact ⟨⟨i, by omega, rfl, i64_val (by omega)⟩, by simp only [intOf]; omega⟩

end Go.Proofs.YtnbkpilgmjjflaaDoor
