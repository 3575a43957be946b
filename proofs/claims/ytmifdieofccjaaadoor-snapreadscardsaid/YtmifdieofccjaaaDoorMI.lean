/-
  What wire.Sum answers, for every text: the walk.
  What wire.Number answers, for numbers from 0 on and up to eight bytes: the walk.
  What wire's cursor answers: the walks of text and number; a world in which one block alone has turned.
  A tree as bytes: what is written, what is read; that what was written is read as it was, that what is read has just these bytes, that no beginning of it is read. No program is named here.
  A tree's bytes as a whole: with the mark and the sum. No program is named here.
  Readers that go on when there is too little, and note it: how they stand to those of SnP. No program is named here.
-/
import Derived.Test.YtmifdieofccjaaaDoorRows
import Derived.Test.YtmifdieofccjaaaDoorMA
import Derived.WalkKit
import Derived.WalkSpells
import Derived.WalkLawsBesides
import Derived.Laws.MakeOwn
import Derived.Laws.IdiomStrings
import Derived.OwnWalk
import Derived.Test.YtmifdieofccjaaaDoorMC
namespace Go.Proofs.YtmifdieofccjaaaDoor
open Go.RowKit

theorem u32_val {a b : Int} (h : a = b) : Value.int .u32 a = .int .u32 b := by rw [h]
theorem crc1_bits {c : Nat} (h : c < 4294967296) : bits .xor .u32 ((c : Int) / 2) (3988292384 * bits .and .u32 (c : Int) 1 % 4294967296) = (crc1 c : Nat) := by
  have h2 : c % 2 < 2 := Nat.mod_lt _ (by decide)
  rw [and1_u32 h, show (3988292384 * ((c % 2 : Nat) : Int) % 4294967296) = ((3988292384 * (c % 2) : Nat) : Int) from by omega]
  rw [show ((c : Int) / 2) = ((c / 2 : Nat) : Int) from by omega]
  exact xor_u32 (by omega) (by omega)
theorem crc_snoc (s : ByteArray) (k : Nat) (h : k < s.size) : crcL (s.data.toList.take (k + 1)) = crcN 8 (crcL (s.data.toList.take k) ^^^ s[k].toNat) := by
  rw [take_snoc s k h, crcL_snoc]; rfl
theorem ret_i64 {a b : Int} (h : a = b) : Ending.returned (.int .i64 a) = .returned (.int .i64 b) := by rw [h]

set_option maxHeartbeats 400000 in
theorem wsum_any (s : ByteArray) (w : World) (hs : s.size ≤ 140737488355328) :
    Calls Tryd.prog 24 #[.string s] w fun e w' => e = .returned (.int .i64 (sumN s.data.toList : Nat)) ∧ w' = w := by
  go_enter Tryd.func24, Tryd.ntmps24
  go_wp2
  go_loop [3, 8] (fun c i => ∃ k : Nat, k ≤ s.size ∧ i = .int .i64 k ∧ c = .int .u32 (crcL (s.data.toList.take k) : Nat)) (fun _ i => s.size - (intOf i).toNat)
  case atStart => exact ⟨0, Nat.zero_le _, rfl, rfl⟩
  case round =>
    obtain ⟨k, hk, rfl, rfl⟩ := hrel
    obtain ⟨c, hc⟩ : ∃ c, crcL (s.data.toList.take k) = c := ⟨_, rfl⟩
    have hcl : c < 4294967296 := hc ▸ crcL_lt _
    have Hc := hide hc
    rw [hc]
    clear hc
    by_cases hlt : k < s.size
    · have hb := s[k].toNat_lt
      have Hsn := hide (crc_snoc s k hlt)
      go_wp2
      rw [xor_u32 hcl (by omega)]
      obtain ⟨x, hx⟩ : ∃ x, c ^^^ s[k].toNat = x := ⟨_, rfl⟩
      have hxl : x < 4294967296 := hx ▸ xor_lt32 hcl (by omega)
      have Hx := hide hx
      rw [hx]
      clear hx hb
      go_loop [3, 17] (fun d j => ∃ n : Nat, n ≤ 8 ∧ j = .int .i64 n ∧ d = .int .u32 (crcN n x : Nat)) (fun _ j => 8 - (intOf j).toNat)
      case atStart => exact ⟨0, Nat.zero_le _, rfl, rfl⟩
      case round =>
        obtain ⟨n, hn, rfl, rfl⟩ := hrel
        have hy := crcN_lt hxl n
        have Hs : Hid (crcN (n + 1) x = crc1 (crcN n x)) := hide rfl
        by_cases h8 : n < 8
        · obtain ⟨y, hyy⟩ : ∃ y, crcN n x = y := ⟨_, rfl⟩
          rw [hyy] at hy Hs ⊢
          clear hyy
          go_wp2
          exact ⟨⟨n + 1, by omega, by go_num, u32_val (by rw [crc1_bits hy, unhide Hs])⟩, by simp [intOf]; omega⟩
        · obtain rfl : n = 8 := by omega
          go_wp2
          exact ⟨⟨k + 1, by omega, by go_num, u32_val (by rw [unhide Hsn, unhide Hc, unhide Hx])⟩, by simp [intOf]; omega⟩
    · obtain rfl : k = s.size := by omega
      go_wp2
      go_ret
      refine ⟨ret_i64 ?_, rfl⟩
      rw [← size_list s, List.take_length] at Hc
      rw [show IntKind.u32.max = ((4294967295 : Nat) : Int) from rfl, xor_u32 (by decide) hcl, sumN, unhide Hc]
      have h32 := xor_lt32 (show 4294967295 < 4294967296 by decide) hcl
      unfold wrap64
      omega

end Go.Proofs.YtmifdieofccjaaaDoor

namespace Go.Proofs.YtmifdieofccjaaaDoor
open Go.RowKit

theorem be_front : ∀ j n, be (j + 1) n = UInt8.ofNat (n / 256 ^ j) :: be j n
  | 0, n => by simp [be]
  | j + 1, n => by
    rw [be, be_front j (n / 256), be, Nat.div_div_eq_div_mul, Nat.pow_succ, Nat.mul_comm 256]; rfl
/- cells that hold bytes -/
def byteV (l : List UInt8) : List Value := l.map fun b => .int .u8 (b.toNat : Int)
def bytesAt (W : World) (g : Nat) (l : List UInt8) : Prop := W.heap[g]? = some (.cells (byteV l).toArray 5 (0, 0))
theorem bytesAt.cell {W : World} {g : Nat} {l : List UInt8} (h : bytesAt W g l) {j : Nat} (hj : j < l.length) : W.cell? ⟨g, j, none⟩ = some (.int .u8 (l[j].toNat : Int)) := by
  unfold bytesAt at h; simp [World.cell?, h, byteV, List.getElem?_eq_getElem hj]
theorem bytesAt.soft {W : World} {g : Nat} {l : List UInt8} (h : bytesAt W g l) (j : Nat) : W.frozen? ⟨g, j, none⟩ = false := by
  unfold bytesAt at h; simp [World.frozen?, h]
theorem bytesAt.set {W : World} {g : Nat} {l : List UInt8} (h : bytesAt W g l) (j : Nat) (b : UInt8) : bytesAt (W.setCell ⟨g, j, none⟩ (.int .u8 (b.toNat : Int))) g (l.set j b) := by
  unfold bytesAt at h ⊢
  obtain ⟨hlt, hk⟩ := Array.getElem?_eq_some_iff.1 h
  show (W.heap.modify g _)[g]? = _
  rw [Array.getElem?_eq_getElem (by rw [Array.size_modify]; exact hlt), Array.getElem_modify_self, hk]
  simp [byteV, List.map_set]
theorem set_mid (m : Nat) (b : UInt8) (r : List UInt8) : (List.replicate (m + 1) 0 ++ r).set m b = List.replicate m 0 ++ b :: r := by
  rw [List.replicate_succ', List.append_assoc, List.set_append_right _ _ (by simp)]
  simp
theorem bytesAt.text {W : World} {g : Nat} {l : List UInt8} (h : bytesAt W g l) (cap : Nat) :
    (convert 66 9 (.slice (some ⟨g, 0, none⟩) l.length cap)).run Tryd.prog W = .ok (.string ⟨l.toArray⟩) W :=
  run_convert_bytes_back W 66 9 5 ⟨g, 0, none⟩ cap l Tryd.underlying66 Tryd.underlying5 Tryd.underlying9 (fun j hj => by
    rw [show (⟨g, 0, none⟩ : Addr).add j = ⟨g, j, none⟩ from by unfold Addr.add; split <;> simp_all]
    exact h.cell hj)
theorem ofNat_mod (x : Nat) : ((x : Int) % 256) = ((UInt8.ofNat x).toNat : Int) := by simp
theorem div_256 (n j : Nat) : n / 256 ^ j / 256 = n / 256 ^ (j + 1) := by rw [Nat.div_div_eq_div_mul, Nat.pow_succ]
theorem i64_v {a b : Int} (h : a = b) : Value.int .i64 a = .int .i64 b := by rw [h]
theorem ret_str0 {a b : ByteArray} (h : a = b) : Ending.returned (.string a) = .returned (.string b) := by rw [h]

theorem made_zero (k : Nat) : madeCells (Value.int .u8 0).cells k = (byteV (List.replicate k 0)).toArray := by
  apply Array.ext'
  apply List.ext_getElem
  · simp [madeCells, byteV]
  · intro j h1 h2
    simp [madeCells, byteV, Value.cells, Nat.mod_one]
theorem infoU8 : (Tryd.prog.info? 5).map (fun i => (i.zero, i.size, i.bytes)) = some (some (.int .u8 0), 1, 1) := by kernel_rfl
theorem make_bytes (k : Nat) (hk : k ≤ 8) (w : World) : (Instr.makeSlice 66 (.int .i64 k) (.int .i64 k)).run Tryd.prog w = .ok (.slice (some ⟨w.heap.size, 0, none⟩) k k) (w.alloc (.cells (byteV (List.replicate k 0)).toArray 5)) := by
  obtain ⟨i0, hi, hz0, hz1, hz2⟩ := info_parts infoU8
  have h := run_make (P := Tryd.prog) w 66 5 i0 (.int .u8 0) Tryd.underlying66 hi hz0 .i64 .i64 k k (by omega) (by omega) (by rw [hz2]; omega) (by omega)
  rw [h, hz1, Nat.mul_one, Int.toNat_natCast, made_zero]

set_option maxHeartbeats 1000000 in
theorem number_any (n k : Nat) (w : World) (hn : n < 9223372036854775808) (hk : k ≤ 8) :
    Calls Tryd.prog 23 #[.int .i64 n, .int .i64 k] w fun e w' => e = .returned (.string ⟨(be k n).toArray⟩) ∧ Below w.heap.size w w' := by
  have hmk := make_bytes k hk w
  go_enter Tryd.func23, Tryd.ntmps23
  go_wp2
  generalize hW1 : w.alloc (Obj.cells (byteV (List.replicate k 0)).toArray 5) = W1
  have HR1 : Hid (bytesAt W1 w.heap.size (List.replicate k 0 ++ be 0 n)) := hide (by
    rw [← hW1]
    show (w.heap.push _)[w.heap.size]? = _
    simp [be])
  have hB1 : Below w.heap.size w W1 := by rw [← hW1]; exact (Below.refl _ _).alloc (Nat.le_refl _) _
  clear hW1 hmk
  go_loopw [0, 6] (fun x i wr => ∃ j : Nat, j ≤ k ∧ x = .int .i64 (n / 256 ^ j : Nat) ∧ i = .int .i64 ((k : Int) - 1 - j) ∧ bytesAt wr w.heap.size (List.replicate (k - j) 0 ++ be j n) ∧ Below w.heap.size w wr) (fun _ i _ => (intOf i + 1).toNat)
  case atStart => exact ⟨0, Nat.zero_le _, by simp, by simp, unhide HR1, hB1⟩
  case round =>
    obtain ⟨j, hj, rfl, rfl, hr, hB⟩ := hrel
    have HR := hide hr
    clear hr HR1 hB1
    by_cases hlt : j < k
    · obtain ⟨m, hm⟩ : ∃ m, k - j = m + 1 := ⟨k - j - 1, by omega⟩
      have hlen : m < (List.replicate (k - j) (0 : UInt8) ++ be j n).length := by simp; omega
      have h1 := (unhide HR).cell hlen
      have h2 := (unhide HR).soft m
      have hmk : (k : Int) - 1 - j = (m : Int) := by omega
      rw [hmk]
      have hmlt : m < k := by omega
      have hq : n / 256 ^ j < 9223372036854775808 := Nat.lt_of_le_of_lt (Nat.div_le_self _ _) hn
      have Hdiv := hide (div_256 n j)
      have Hby := hide (ofNat_mod (n / 256 ^ j))
      have Hfr := hide (be_front j n)
      generalize (List.replicate (k - j) (0 : UInt8) ++ be j n)[m] = c0 at h1
      obtain ⟨x, hx⟩ : ∃ x, n / 256 ^ j = x := ⟨_, rfl⟩
      rw [hx] at hq Hdiv Hby Hfr ⊢
      have Hm := hide hm
      have Hmk := hide hmk
      clear hx hm hmk hlen
      go_wp2
      rw [unhide Hby]
      refine ⟨⟨j + 1, by omega, i64_v (by rw [← unhide Hdiv]; omega), i64_v (by have := unhide Hmk; omega), ?_, hB.setCell (by show w.heap.size ≤ w.heap.size; exact Nat.le_refl _) _⟩, by simp only [intOf]; omega⟩
      have hset := (unhide HR).set m (UInt8.ofNat x)
      rw [unhide Hm, set_mid, ← unhide Hfr] at hset
      rw [show k - (j + 1) = m from by have := unhide Hm; omega]
      exact hset
    · obtain rfl : j = k := by omega
      have hlen : (List.replicate (j - j) (0 : UInt8) ++ be j n).length = j := by simp [be_length]
      have htx := (unhide HR).text j
      rw [hlen] at htx
      rw [show (j : Int) - 1 - (j : Int) = -1 from by omega]
      have Hrep : Hid (List.replicate (j - j) (0 : UInt8) ++ be j n = be j n) := hide (by simp)
      rw [unhide Hrep] at htx
      clear hlen
      go_wp2
      go_ret
      exact ⟨rfl, hB⟩

end Go.Proofs.YtmifdieofccjaaaDoor

namespace Go.Proofs.YtmifdieofccjaaaDoor
open Go.RowKit

/-- of what there was, block g alone may have turned; nothing is new -/
structure Only (g : Nat) (w w' : World) : Prop where
  os : w'.os = w.os
  tape : w'.tape = w.tape
  output : w'.output = w.output
  size : w'.heap.size = w.heap.size
  block : ∀ k, k ≠ g → w'.heap[k]? = w.heap[k]?
theorem Only.refl (g : Nat) (w : World) : Only g w w := ⟨rfl, rfl, rfl, rfl, fun _ _ => rfl⟩
theorem Only.trans {g : Nat} {a b c : World} (h : Only g a b) (k : Only g b c) : Only g a c :=
  ⟨k.os.trans h.os, k.tape.trans h.tape, k.output.trans h.output, k.size.trans h.size, fun i hi => (k.block i hi).trans (h.block i hi)⟩
theorem Only.below {B g : Nat} {a w w' : World} (h : Only g w w') (hb : Below B a w) (hg : B ≤ g) : Below B a w' :=
  hb.trans ⟨h.os, h.tape, h.output, Nat.le_of_eq h.size.symm, fun k hk => h.block k (by omega)⟩
theorem Only.setCell {g : Nat} {a w : World} (h : Only g a w) (j : Nat) (v : Value) : Only g a (w.setCell ⟨g, j, none⟩ v) :=
  h.trans ⟨rfl, rfl, rfl, by simp [World.setCell], fun k hk => Below.heap_setCell _ _ _ _ hk⟩

/-- a cursor's two cells -/
def Cur (W : World) (g : Nat) (rest : List UInt8) (short : Bool) : Prop := W.heap[g]? = some (.cells #[.string ⟨rest.toArray⟩, .bool short] 83 (0, 0))
theorem Cur.c0 {W : World} {g : Nat} {r : List UInt8} {b : Bool} (h : Cur W g r b) : W.cell? ⟨g, 0, none⟩ = some (.string ⟨r.toArray⟩) := by unfold Cur at h; simp [World.cell?, h]
theorem Cur.c1 {W : World} {g : Nat} {r : List UInt8} {b : Bool} (h : Cur W g r b) : W.cell? ⟨g, 1, none⟩ = some (.bool b) := by unfold Cur at h; simp [World.cell?, h]
theorem Cur.f {W : World} {g : Nat} {r : List UInt8} {b : Bool} (h : Cur W g r b) (j : Nat) : W.frozen? ⟨g, j, none⟩ = false := by unfold Cur at h; simp [World.frozen?, h]
theorem cur_set {w : World} {g j : Nat} {cur : Array Value} {t : TypeId} {fz : Nat × Nat} (v : Value) (h : w.heap[g]? = some (.cells cur t fz)) :
    (w.setCell ⟨g, j, none⟩ v).heap[g]? = some (.cells (cur.setIfInBounds j v) t fz) := by
  obtain ⟨hlt, hk⟩ := Array.getElem?_eq_some_iff.1 h
  show (w.heap.modify g _)[g]? = _
  rw [Array.getElem?_eq_getElem (by rw [Array.size_modify]; exact hlt), Array.getElem_modify_self, hk]
  rfl
theorem Cur.s0 {W : World} {g : Nat} {r : List UInt8} {b : Bool} (h : Cur W g r b) (r' : List UInt8) : Cur (W.setCell ⟨g, 0, none⟩ (.string ⟨r'.toArray⟩)) g r' b := cur_set _ h
theorem Cur.s1 {W : World} {g : Nat} {r : List UInt8} {b : Bool} (h : Cur W g r b) (b' : Bool) : Cur (W.setCell ⟨g, 1, none⟩ (.bool b')) g r b' := cur_set _ h
theorem Cur.kept {W V : World} {g B : Nat} {r : List UInt8} {b : Bool} (h : Cur W g r b) (hb : Below B W V) (hg : g < B) : Cur V g r b := (hb.block _ hg).trans h
theorem Cur.other {W V : World} {g k : Nat} {r : List UInt8} {b : Bool} (h : Cur W g r b) (ho : Only k W V) (hg : g ≠ k) : Cur V g r b := (ho.block _ hg).trans h

theorem ex_front (l : List UInt8) (d : Nat) : (ByteArray.mk l.toArray).extract 0 d = ⟨(l.take d).toArray⟩ := by
  apply ByteArray.ext
  apply Array.toList_inj.1
  have h := Lib.extract_toList (ByteArray.mk l.toArray) 0 d
  rw [Lib.toList_data] at h
  refine h.trans ?_
  show (l.drop 0).take (d - 0) = _
  simp
theorem ex_back (l : List UInt8) (d : Nat) : (ByteArray.mk l.toArray).extract d l.length = ⟨(l.drop d).toArray⟩ := by
  apply ByteArray.ext
  apply Array.toList_inj.1
  have h := Lib.extract_toList (ByteArray.mk l.toArray) d l.length
  rw [Lib.toList_data] at h
  refine h.trans ?_
  show (l.drop d).take (l.length - d) = l.drop d
  exact List.take_of_length_le (by simp)
theorem ret_txt {a b : ByteArray} (h : a = b) : Ending.returned (.string a) = .returned (.string b) := by rw [h]

set_option maxHeartbeats 1000000 in
theorem text_any (g n : Nat) (r : List UInt8) (b : Bool) (w : World) (hn : n ≤ 140737488355328) (hc : Cur w g r b) :
    Calls Tryd.prog 52 #[.pointer (some ⟨g, 0, none⟩), .int .i64 n] w fun e w' => e = .returned (.string ⟨(r.take n).toArray⟩) ∧ Cur w' g (r.drop n) (b || decide (r.length < n)) ∧ Only g w w' := by
  have hz : (ByteArray.mk r.toArray).size = r.length := Lib.size_eq ⟨r.toArray⟩
  have h0 := hc.c0
  have h1 := hc.c1
  have hf0 := hc.f 0
  have hf1 := hc.f 1
  have HC := hide hc
  clear hc
  by_cases hlt : r.length < n
  · go_enter Tryd.func52, Tryd.ntmps52
    go_wp2
    go_ret
    refine ⟨ret_txt ?_, ?_, ((Only.refl g w).setCell 1 _).setCell 0 _⟩
    · rw [ex_front, List.take_length, List.take_of_length_le (by omega)]
    · rw [List.drop_of_length_le (by omega), decide_eq_true hlt, Bool.or_true]
      exact ((unhide HC).s1 true).s0 []
  · go_enter Tryd.func52, Tryd.ntmps52
    go_wp2
    go_ret
    refine ⟨ret_txt (ex_front r n), ?_, (Only.refl g w).setCell 0 _⟩
    rw [ex_back, decide_eq_false hlt, Bool.or_false]
    exact (unhide HC).s0 _

/- numbers out of bytes, eight at most -/
theorem or_def (x y : Int) : bits .or .i64 x y = IntKind.i64.wrap ((BitVec.ofInt 64 x ||| BitVec.ofInt 64 y).toNat : Int) := rfl
theorem or_byte (t b : Nat) (ht : t < 72057594037927936) (hb : b < 256) : bits .or .i64 (wrap64 ((t : Int) * 256)) (b : Int) = wrap64 ((t * 256 + b : Nat) : Int) := by
  have e1 : BitVec.ofInt 64 (wrap64 ((t : Int) * 256)) = BitVec.ofNat 64 (t * 256) := by
    apply BitVec.eq_of_toNat_eq
    rw [BitVec.toNat_ofInt, BitVec.toNat_ofNat]
    unfold wrap64
    omega
  have e2 : (BitVec.ofNat 64 (t * 256) ||| BitVec.ofInt 64 (b : Int)).toNat = t * 256 + b := by
    rw [BitVec.ofInt_natCast, BitVec.toNat_or, BitVec.toNat_ofNat, BitVec.toNat_ofNat, Nat.mod_eq_of_lt (by omega), Nat.mod_eq_of_lt (by omega)]
    have := Nat.two_pow_add_eq_or_of_lt (i := 8) (b := b) (by omega) t
    rw [Nat.mul_comm t 256]
    exact this.symm
  rw [or_def, e1, e2, IntKind.wrap_i64, wrap64]
theorem un_small {l : List UInt8} (h : l.length ≤ 7) : un l < 72057594037927936 := by
  have h1 := un_lt l
  have h2 : 256 ^ l.length ≤ 256 ^ 7 := Nat.pow_le_pow_right (by decide) h
  have h3 : (256 : Nat) ^ 7 = 72057594037927936 := by decide
  omega
theorem un_take (l : List UInt8) (k : Nat) (h : k < l.length) : un (l.take (k + 1)) = un (l.take k) * 256 + l[k].toNat := by
  rw [List.take_succ_eq_append_getElem h, un_snoc]

theorem ret_ci {a b : Int} (h : a = b) : Ending.returned (.int .i64 a) = .returned (.int .i64 b) := by rw [h]
theorem i64_c {a b : Int} (h : a = b) : Value.int .i64 a = .int .i64 b := by rw [h]
theorem ba_get (l : List UInt8) (k : Nat) (h : k < (ByteArray.mk l.toArray).size) : (ByteArray.mk l.toArray)[k] = l[k]'(by rwa [Lib.size_eq] at h) := rfl

set_option maxHeartbeats 1000000 in
theorem cnumber_any (g n : Nat) (r : List UInt8) (b : Bool) (w : World) (hn : n ≤ 8) (hc : Cur w g r b) :
    Calls Tryd.prog 30 #[.pointer (some ⟨g, 0, none⟩), .int .i64 n] w fun e w' => e = .returned (.int .i64 (wrap64 (un (r.take n) : Nat))) ∧ Cur w' g (r.drop n) (b || decide (r.length < n)) ∧ Only g w w' := by
  have HC := hide hc
  clear hc
  go_enter Tryd.func30, Tryd.ntmps30
  go_wp2_with fail
  refine (text_any g n r b _ (by omega) (unhide HC)).mono ?_
  rintro e w1 ⟨rfl, hc1, ho1⟩
  have H1 := hide hc1
  clear hc1 HC
  obtain ⟨p, hp⟩ : ∃ p, r.take n = p := ⟨_, rfl⟩
  have hpl : p.length ≤ 8 := by rw [← hp, List.length_take]; omega
  rw [hp]
  have Hp := hide hp
  clear hp
  have hz : (ByteArray.mk p.toArray).size = p.length := Lib.size_eq ⟨p.toArray⟩
  go_wp2_with fail
  go_loop [6, 13] (fun t i => ∃ k : Nat, k ≤ p.length ∧ i = .int .i64 k ∧ t = .int .i64 (wrap64 (un (p.take k) : Nat))) (fun _ i => p.length - (intOf i).toNat)
  case atStart => exact ⟨0, Nat.zero_le _, rfl, i64_c (by simp [un, wrap64])⟩
  case round =>
    obtain ⟨k, hk, rfl, rfl⟩ := hrel
    by_cases hlt : k < p.length
    · have Hs := hide (un_take p k hlt)
      have hsm := un_small (l := p.take k) (by rw [List.length_take]; omega)
      obtain ⟨x, hx⟩ : ∃ x, un (p.take k) = x := ⟨_, rfl⟩
      rw [hx] at hsm Hs ⊢
      clear hx
      rw [show wrap64 (x : Int) = x from by unfold wrap64; omega]
      have hb := p[k].toNat_lt
      go_wp2_with fail
      refine ⟨⟨k + 1, by omega, by go_num, i64_c ?_⟩, by simp [intOf]; omega⟩
      rw [unhide Hs, ba_get, show wrap64 ((p[k].toNat : Nat) : Int) = (p[k].toNat : Int) from by unfold wrap64; omega]
      exact or_byte x _ hsm (by omega)
    · obtain rfl : k = p.length := by omega
      rw [List.take_length]
      go_wp2_with fail
      go_ret
      exact ⟨ret_ci (by rw [unhide Hp]), unhide H1, ho1⟩

end Go.Proofs.YtmifdieofccjaaaDoor

namespace Go.Proofs.YtmifdieofccjaaaDoor
open Go.RowKit

def statI (n : Nd) : List Int := [n.c, n.m, n.q, n.v, n.k, n.o, n.n]
def numsL (w : Nat) (l : List Int) : List UInt8 := l.flatMap fun x => be w x.toNat
def nodL (n : Nd) : List UInt8 := be 1 n.p.length ++ (n.p ++ (be 2 n.d.length ++ (n.d ++ numsL 8 (statI n))))
def nodsL (l : List Nd) : List UInt8 := l.flatMap nodL
def bodT (t : Tr) : List UInt8 := be 8 t.z.toNat ++ (be 4 t.ss.length ++ (numsL 4 t.ss ++ (be 4 t.ns.length ++ nodsL t.ns)))
def aheadT (t : Tr) : List UInt8 := 83 :: bodT t
def snapL (t : Tr) : List UInt8 := aheadT t ++ be 4 (sumN (aheadT t))
noncomputable def wrE (t : Tr) : Int := if goodT t = true then 0 else 3
noncomputable def wrS (t : Tr) : List UInt8 := if goodT t = true then snapL t else []

/- readers: what they take, what is left -/
abbrev Rd (α : Type) := List UInt8 → Option (α × List UInt8)
def retP {α : Type} (a : α) : Rd α := fun r => some (a, r)
def seqP {α β : Type} (f : Rd α) (g : α → Rd β) : Rd β := fun r => match f r with
  | some (a, r') => g a r'
  | none => none
def tk (k : Nat) : Rd (List UInt8) := fun r => if k ≤ r.length then some (r.take k, r.drop k) else none
def parI (w : Nat) : Nat → Rd (List Int)
  | 0 => retP []
  | k + 1 => seqP (tk w) fun a => seqP (parI w k) fun l => retP (wrap64 (un a : Nat) :: l)
def ndOf (p d : List UInt8) (l : List Int) : Nd := ⟨p, d, l.getD 0 0, l.getD 1 0, l.getD 2 0, l.getD 3 0, l.getD 4 0, l.getD 5 0, l.getD 6 0⟩
def parN : Rd Nd := seqP (tk 1) fun a => seqP (tk (un a)) fun p => seqP (tk 2) fun b => seqP (tk (un b)) fun d => seqP (parI 8 7) fun l => retP (ndOf p d l)
def parNs : Nat → Rd (List Nd)
  | 0 => retP []
  | k + 1 => seqP parN fun a => seqP (parNs k) fun l => retP (a :: l)
def parT : Rd Tr := seqP (tk 8) fun a => seqP (tk 4) fun b => seqP (parI 4 (un b)) fun ss => seqP (tk 4) fun c => seqP (parNs (un c)) fun ns => retP ⟨wrap64 (un a : Nat), ns, ss⟩
/-- what is read of the bytes between the mark and the sum -/
noncomputable def bodE (r : List UInt8) : Int := match parT r with
  | some (T, []) => if goodT T = true then 0 else 3
  | _ => 2
noncomputable def bodR (r : List UInt8) : Tr := match parT r with
  | some (T, []) => if goodT T = true then T else tr0
  | _ => tr0
def inT (s : List UInt8) : List UInt8 := (s.take (s.length - 4)).drop 1
def begB (s : List UInt8) : Bool := decide (5 ≤ s.length) && (s.take 1 == [83])
def sealB (s : List UInt8) : Bool := sumN (s.take (s.length - 4)) == un (s.drop (s.length - 4))
noncomputable def rdE (s : List UInt8) : Int := if begB s = true then (if sealB s = true then bodE (inT s) else 5) else 2
noncomputable def rdT (s : List UInt8) : Tr := if begB s = true then (if sealB s = true then bodR (inT s) else tr0) else tr0

theorem seqP_some {α β : Type} {f : Rd α} {g : α → Rd β} {r : List UInt8} {y : β × List UInt8} : seqP f g r = some y ↔ ∃ a r', f r = some (a, r') ∧ g a r' = some y := by
  unfold seqP
  cases h : f r with
  | none => simp
  | some z =>
    obtain ⟨a, r'⟩ := z
    constructor
    · intro h
      exact ⟨a, r', rfl, h⟩
    · rintro ⟨b, s, e, h⟩
      simp only [Option.some.injEq, Prod.mk.injEq] at e
      obtain ⟨rfl, rfl⟩ := e
      exact h
theorem seqP_at {α β : Type} {f : Rd α} {g : α → Rd β} {r r' : List UInt8} {a : α} (h : f r = some (a, r')) : seqP f g r = g a r' := by
  unfold seqP
  rw [h]
theorem seqP_none {α β : Type} {f : Rd α} {g : α → Rd β} {r : List UInt8} (h : f r = none) : seqP f g r = none := by
  unfold seqP
  rw [h]
theorem tk_some {k : Nat} {r a r' : List UInt8} : tk k r = some (a, r') ↔ a.length = k ∧ r = a ++ r' := by
  unfold tk
  constructor
  · intro h
    split at h
    · rename_i hk
      simp only [Option.some.injEq, Prod.mk.injEq] at h
      obtain ⟨rfl, rfl⟩ := h
      exact ⟨by simp; omega, by simp⟩
    · cases h
  · rintro ⟨rfl, rfl⟩
    rw [if_pos (by simp)]
    simp
theorem tk_at (a x : List UInt8) : tk a.length (a ++ x) = some (a, x) := tk_some.2 ⟨rfl, rfl⟩
theorem tk_be (k n : Nat) (x : List UInt8) : tk k (be k n ++ x) = some (be k n, x) := tk_some.2 ⟨be_length k n, rfl⟩
theorem tk_front {k : Nat} {r : List UInt8} (h : k ≤ r.length) : tk k r = some (r.take k, r.drop k) := by rw [tk, if_pos h]
theorem tk_none {k : Nat} {r : List UInt8} (h : r.length < k) : tk k r = none := by rw [tk, if_neg (by omega)]

/- what is read is read again when more stands behind -/
def Ext {α : Type} (f : Rd α) : Prop := ∀ r a r' x, f r = some (a, r') → f (r ++ x) = some (a, r' ++ x)
theorem ext_ret {α : Type} (a : α) : Ext (retP a) := by
  intro r b r' x h
  simp only [retP, Option.some.injEq, Prod.mk.injEq] at h ⊢
  obtain ⟨rfl, rfl⟩ := h
  exact ⟨rfl, rfl⟩
theorem ext_tk (k : Nat) : Ext (tk k) := by
  intro r a r' x h
  obtain ⟨h1, rfl⟩ := tk_some.1 h
  exact tk_some.2 ⟨h1, by rw [List.append_assoc]⟩
theorem ext_seq {α β : Type} {f : Rd α} {g : α → Rd β} (hf : Ext f) (hg : ∀ a, Ext (g a)) : Ext (seqP f g) := by
  intro r b r' x h
  obtain ⟨a, r1, h1, h2⟩ := seqP_some.1 h
  exact seqP_some.2 ⟨a, r1 ++ x, hf _ _ _ _ h1, hg a _ _ _ _ h2⟩
theorem ext_parI (w : Nat) : ∀ k, Ext (parI w k)
  | 0 => ext_ret _
  | k + 1 => ext_seq (ext_tk w) fun _ => ext_seq (ext_parI w k) fun _ => ext_ret _
theorem ext_parN : Ext parN := ext_seq (ext_tk _) fun _ => ext_seq (ext_tk _) fun _ => ext_seq (ext_tk _) fun _ => ext_seq (ext_tk _) fun _ => ext_seq (ext_parI _ _) fun _ => ext_ret _
theorem ext_parNs : ∀ k, Ext (parNs k)
  | 0 => ext_ret _
  | k + 1 => ext_seq ext_parN fun _ => ext_seq (ext_parNs k) fun _ => ext_ret _
theorem ext_parT : Ext parT := ext_seq (ext_tk _) fun _ => ext_seq (ext_tk _) fun _ => ext_seq (ext_parI _ _) fun _ => ext_seq (ext_tk _) fun _ => ext_seq (ext_parNs _) fun _ => ext_ret _

/- what was written is read as it was -/
theorem w64_be {x : Int} {w : Nat} (h0 : 0 ≤ x) (h1 : x < 9223372036854775808) (h2 : x.toNat < 256 ^ w) : wrap64 (un (be w x.toNat) : Nat) = x := by
  rw [un_be _ _ h2]
  unfold wrap64
  omega
theorem parI_back {w : Nat} : ∀ (l : List Int) (x : List UInt8), (∀ y ∈ l, 0 ≤ y ∧ y < 9223372036854775808 ∧ y.toNat < 256 ^ w) → parI w l.length (numsL w l ++ x) = some (l, x)
  | [], x, _ => rfl
  | y :: l, x, h => by
    obtain ⟨h0, h1, h2⟩ := h y (List.mem_cons_self ..)
    have ih := parI_back l x fun z hz => h z (List.mem_cons_of_mem _ hz)
    show parI w (l.length + 1) (be w y.toNat ++ numsL w l ++ x) = _
    rw [List.append_assoc, parI, seqP_at (tk_be _ _ _), seqP_at ih, w64_be h0 h1 h2]
    rfl
theorem p256_8 : (256 : Nat) ^ 8 = 18446744073709551616 := by decide
theorem p256_4 : (256 : Nat) ^ 4 = 4294967296 := by decide
theorem p256_2 : (256 : Nat) ^ 2 = 65536 := by decide
theorem p256_1 : (256 : Nat) ^ 1 = 256 := by decide
/-- a node whose lengths and numbers have room -/
structure Fit (n : Nd) : Prop where
  p : n.p.length < 256
  d : n.d.length < 65536
  i : ∀ y ∈ statI n, 0 ≤ y ∧ y < 9223372036854775808
theorem parN_back {n : Nd} (f : Fit n) (x : List UInt8) : parN (nodL n ++ x) = some (n, x) := by
  have h7 : parI 8 7 (numsL 8 (statI n) ++ x) = some (statI n, x) := parI_back (statI n) x fun y hy => by
    obtain ⟨h0, h1⟩ := f.i y hy
    exact ⟨h0, h1, by rw [p256_8]; omega⟩
  have e1 : un (be 1 n.p.length) = n.p.length := un_be _ _ (by rw [p256_1]; exact f.p)
  have e2 : un (be 2 n.d.length) = n.d.length := un_be _ _ (by rw [p256_2]; exact f.d)
  unfold parN nodL
  simp only [List.append_assoc]
  rw [seqP_at (tk_be _ _ _), e1, seqP_at (tk_at _ _), seqP_at (tk_be _ _ _), e2, seqP_at (tk_at _ _), seqP_at h7]
  rfl
theorem parNs_back : ∀ (l : List Nd) (x : List UInt8), (∀ n ∈ l, Fit n) → parNs l.length (nodsL l ++ x) = some (l, x)
  | [], x, _ => rfl
  | n :: l, x, h => by
    have ih := parNs_back l x fun z hz => h z (List.mem_cons_of_mem _ hz)
    show parNs (l.length + 1) (nodL n ++ nodsL l ++ x) = _
    rw [List.append_assoc, parNs, seqP_at (parN_back (h n (List.mem_cons_self ..)) _), seqP_at ih]
    rfl
theorem fit_good {t : Tr} (g : GoodT t) : ∀ n ∈ t.ns, Fit n := by
  intro n hn
  have ok := g.nod.ok n hn
  have hp := goodB_le ok.path
  have hd := ok.data
  have hz := zGood_iff.1 g.zx
  have few := g.nod.few
  have hk : kidsN t.ns n.p ≤ t.ns.length := List.countP_le_length
  have hc := g.cap n hn
  have h1 := ok.c0
  have h2 := ok.cm
  have h3 := ok.cq
  have h4 := ok.mz
  have h5 := ok.qz
  have h6 := ok.v0
  have h7 := ok.v1
  have h8 := ok.k0
  have h9 := ok.kids
  refine ⟨by omega, by omega, fun y hy => ?_⟩
  have ho : 0 ≤ n.o ∧ n.o ≤ 2147483647 := by
    rcases ok.own with h | h
    · omega
    · have := g.ses.2 n.o h.1
      omega
  simp only [statI, List.mem_cons, List.not_mem_nil, or_false] at hy
  rcases hy with rfl | rfl | rfl | rfl | rfl | rfl | rfl <;> omega
theorem parT_back {t : Tr} (g : GoodT t) (x : List UInt8) : parT (bodT t ++ x) = some (t, x) := by
  have hz := zGood_iff.1 g.zx
  have few := g.nod.few
  have hss := sasc_len g.ses
  have e1 : un (be 4 t.ss.length) = t.ss.length := un_be _ _ (by rw [p256_4]; omega)
  have e2 : un (be 4 t.ns.length) = t.ns.length := un_be _ _ (by rw [p256_4]; omega)
  have e0 : wrap64 (un (be 8 t.z.toNat) : Nat) = t.z := w64_be (by omega) (by omega) (by rw [p256_8]; omega)
  unfold parT bodT
  simp only [List.append_assoc]
  rw [seqP_at (tk_be _ _ _), seqP_at (tk_be _ _ _), e1, seqP_at (parI_back _ _ fun y hy => by have := g.ses.2 y hy; rw [p256_4]; omega), seqP_at (tk_be _ _ _), e2, seqP_at (parNs_back _ _ (fit_good g)), e0]
  rfl

/- what is read has just these bytes -/
theorem be_w64 {a : List UInt8} {w : Nat} (h : a.length = w) (hw : w ≤ 8) (h0 : 0 ≤ wrap64 (un a : Nat)) : be w (wrap64 (un a : Nat)).toNat = a := by
  have h1 := un_lt a
  have h2 : 256 ^ a.length ≤ 256 ^ 8 := Nat.pow_le_pow_right (by decide) (by omega)
  rw [p256_8] at h2
  have h3 : (wrap64 (un a : Nat)).toNat = un a := by
    unfold wrap64 at h0 ⊢
    omega
  rw [h3]
  exact be_back h
theorem parI_only {w : Nat} (hw : w ≤ 8) : ∀ (k : Nat) (r : List UInt8) (l : List Int) (x : List UInt8), parI w k r = some (l, x) → (∀ y ∈ l, 0 ≤ y) → l.length = k ∧ r = numsL w l ++ x
  | 0, r, l, x, h, _ => by
    simp only [parI, retP, Option.some.injEq, Prod.mk.injEq] at h
    obtain ⟨rfl, rfl⟩ := h
    exact ⟨rfl, rfl⟩
  | k + 1, r, l, x, h, hp => by
    obtain ⟨a, r1, h1, h2⟩ := seqP_some.1 h
    obtain ⟨l1, r2, h3, h4⟩ := seqP_some.1 h2
    simp only [retP, Option.some.injEq, Prod.mk.injEq] at h4
    obtain ⟨rfl, rfl⟩ := h4
    obtain ⟨ha, rfl⟩ := tk_some.1 h1
    obtain ⟨hl, rfl⟩ := parI_only hw k r1 l1 r2 h3 fun y hy => hp y (List.mem_cons_of_mem _ hy)
    refine ⟨by simp [hl], ?_⟩
    show _ = be w (wrap64 (un a : Nat)).toNat ++ numsL w l1 ++ r2
    rw [be_w64 ha hw (hp _ (List.mem_cons_self ..)), List.append_assoc]
theorem parI_len {w : Nat} : ∀ (k : Nat) (r : List UInt8) (l : List Int) (x : List UInt8), parI w k r = some (l, x) → l.length = k
  | 0, r, l, x, h => by
    simp only [parI, retP, Option.some.injEq, Prod.mk.injEq] at h
    obtain ⟨rfl, rfl⟩ := h
    rfl
  | k + 1, r, l, x, h => by
    obtain ⟨a, r1, h1, h2⟩ := seqP_some.1 h
    obtain ⟨l1, r2, h3, h4⟩ := seqP_some.1 h2
    simp only [retP, Option.some.injEq, Prod.mk.injEq] at h4
    obtain ⟨rfl, rfl⟩ := h4
    simp [parI_len k r1 l1 r2 h3]
theorem nd_stat {l : List Int} (h : l.length = 7) (p d : List UInt8) : statI (ndOf p d l) = l := by
  match l, h with
  | [_, _, _, _, _, _, _], _ => rfl
theorem parN_only {r : List UInt8} {n : Nd} {x : List UInt8} (h : parN r = some (n, x)) (hp : ∀ y ∈ statI n, 0 ≤ y) : r = nodL n ++ x := by
  obtain ⟨a, r1, h1, h2⟩ := seqP_some.1 h
  obtain ⟨p, r2, h3, h4⟩ := seqP_some.1 h2
  obtain ⟨b, r3, h5, h6⟩ := seqP_some.1 h4
  obtain ⟨d, r4, h7, h8⟩ := seqP_some.1 h6
  obtain ⟨l, r5, h9, h10⟩ := seqP_some.1 h8
  simp only [retP, Option.some.injEq, Prod.mk.injEq] at h10
  obtain ⟨rfl, rfl⟩ := h10
  obtain ⟨ha, rfl⟩ := tk_some.1 h1
  obtain ⟨hpl, rfl⟩ := tk_some.1 h3
  obtain ⟨hb, rfl⟩ := tk_some.1 h5
  obtain ⟨hdl, rfl⟩ := tk_some.1 h7
  have hl := parI_len 7 _ _ _ h9
  rw [nd_stat hl] at hp
  obtain ⟨_, rfl⟩ := parI_only (by decide) 7 _ _ _ h9 hp
  have e1 : be 1 p.length = a := by rw [hpl]; exact be_back ha
  have e2 : be 2 d.length = b := by rw [hdl]; exact be_back hb
  unfold nodL
  rw [nd_stat hl]
  show _ = be 1 p.length ++ (p ++ (be 2 d.length ++ (d ++ numsL 8 l))) ++ r5
  rw [e1, e2]
  simp only [List.append_assoc]
theorem parNs_only : ∀ (k : Nat) (r : List UInt8) (l : List Nd) (x : List UInt8), parNs k r = some (l, x) → (∀ n ∈ l, ∀ y ∈ statI n, 0 ≤ y) → l.length = k ∧ r = nodsL l ++ x
  | 0, r, l, x, h, _ => by
    simp only [parNs, retP, Option.some.injEq, Prod.mk.injEq] at h
    obtain ⟨rfl, rfl⟩ := h
    exact ⟨rfl, rfl⟩
  | k + 1, r, l, x, h, hp => by
    obtain ⟨a, r1, h1, h2⟩ := seqP_some.1 h
    obtain ⟨l1, r2, h3, h4⟩ := seqP_some.1 h2
    simp only [retP, Option.some.injEq, Prod.mk.injEq] at h4
    obtain ⟨rfl, rfl⟩ := h4
    obtain ⟨hl, rfl⟩ := parNs_only k r1 l1 r2 h3 fun y hy => hp y (List.mem_cons_of_mem _ hy)
    refine ⟨by simp [hl], ?_⟩
    show r = nodL a ++ nodsL l1 ++ r2
    rw [parN_only h1 (hp _ (List.mem_cons_self ..)), List.append_assoc]
theorem parT_only {r : List UInt8} {T : Tr} {x : List UInt8} (h : parT r = some (T, x)) (g : GoodT T) : r = bodT T ++ x := by
  obtain ⟨a, r1, h1, h2⟩ := seqP_some.1 h
  obtain ⟨b, r2, h3, h4⟩ := seqP_some.1 h2
  obtain ⟨ss, r3, h5, h6⟩ := seqP_some.1 h4
  obtain ⟨c, r4, h7, h8⟩ := seqP_some.1 h6
  obtain ⟨ns, r5, h9, h10⟩ := seqP_some.1 h8
  simp only [retP, Option.some.injEq, Prod.mk.injEq] at h10
  obtain ⟨rfl, rfl⟩ := h10
  obtain ⟨ha, rfl⟩ := tk_some.1 h1
  obtain ⟨hb, rfl⟩ := tk_some.1 h3
  obtain ⟨hc, rfl⟩ := tk_some.1 h7
  have hz := zGood_iff.1 g.zx
  obtain ⟨hs, rfl⟩ := parI_only (by decide) _ _ _ _ h5 fun y hy => by have := g.ses.2 y hy; omega
  obtain ⟨hn, rfl⟩ := parNs_only _ _ _ _ h9 fun n hn y hy => ((fit_good g n hn).i y hy).1
  have e0 : be 8 (wrap64 (un a : Nat)).toNat = a := be_w64 ha (by decide) hz.1
  have e1 : be 4 ss.length = b := by rw [hs]; exact be_back hb
  have e2 : be 4 ns.length = c := by rw [hn]; exact be_back hc
  unfold bodT
  simp only
  rw [e0, e1, e2]
  simp only [List.append_assoc]

end Go.Proofs.YtmifdieofccjaaaDoor

namespace Go.Proofs.YtmifdieofccjaaaDoor
open Go.RowKit

theorem bod_none {r : List UInt8} (h : bodE r ≠ 0) : bodR r = tr0 := by
  revert h
  unfold bodE bodR
  cases parT r with
  | none => intro _; rfl
  | some y =>
    obtain ⟨T, x⟩ := y
    cases x with
    | cons a l => intro _; rfl
    | nil =>
      simp only
      by_cases hg : goodT T = true
      · rw [if_pos hg]
        intro h
        exact absurd rfl h
      · rw [if_neg hg, if_neg hg]
        intro _
        rfl
theorem rd_none {s : List UInt8} (h : rdE s ≠ 0) : rdT s = tr0 := by
  unfold rdE at h
  unfold rdT
  split
  · rename_i hb
    rw [if_pos hb] at h
    split
    · rename_i hs
      rw [if_pos hs] at h
      exact bod_none h
    · rfl
  · rfl
/-- the parts of bytes with a mark and four bytes at the end -/
theorem rd_parts (b m : List UInt8) (hm : m.length = 4) : begB (83 :: b ++ m) = true ∧ sealB (83 :: b ++ m) = (sumN (83 :: b) == un m) ∧ inT (83 :: b ++ m) = b := by
  have e : (83 :: b ++ m).length - 4 = (83 :: b).length := by rw [List.length_append, hm]; omega
  have e1 : (83 :: b ++ m).take ((83 :: b ++ m).length - 4) = 83 :: b := by rw [e]; exact List.take_left
  have e2 : (83 :: b ++ m).drop ((83 :: b ++ m).length - 4) = m := by rw [e]; exact List.drop_left
  refine ⟨?_, ?_, ?_⟩
  · simp [begB, hm]
  · rw [sealB, e1, e2]
  · rw [inT, e1]; rfl
theorem bod_good {t : Tr} (g : GoodT t) : bodE (bodT t) = 0 ∧ bodR (bodT t) = t := by
  have h : parT (bodT t) = some (t, []) := by
    have := parT_back g []
    rwa [List.append_nil] at this
  refine ⟨?_, ?_⟩
  · unfold bodE
    rw [h]
    simp only
    rw [if_pos (goodT_true.2 g)]
  · unfold bodR
    rw [h]
    simp only
    rw [if_pos (goodT_true.2 g)]
theorem un_sum (a : List UInt8) : un (be 4 (sumN a)) = sumN a := un_be 4 _ (by have := sumN_lt a; rw [p256_4]; omega)
/-- what was written is read as it was -/
theorem rd_back {t : Tr} (g : GoodT t) : rdE (snapL t) = 0 ∧ rdT (snapL t) = t := by
  obtain ⟨h1, h2, h3⟩ := rd_parts (bodT t) (be 4 (sumN (aheadT t))) (be_length 4 _)
  have hs : sealB (83 :: bodT t ++ be 4 (sumN (aheadT t))) = true := by rw [h2, un_sum]; exact beq_self_eq_true _
  obtain ⟨b1, b2⟩ := bod_good g
  show rdE (83 :: bodT t ++ be 4 (sumN (aheadT t))) = 0 ∧ rdT (83 :: bodT t ++ be 4 (sumN (aheadT t))) = t
  exact ⟨by rw [rdE, if_pos h1, if_pos hs, h3, b1], by rw [rdT, if_pos h1, if_pos hs, h3, b2]⟩
theorem bod_only {r : List UInt8} (h : bodE r = 0) : GoodT (bodR r) ∧ bodT (bodR r) = r := by
  revert h
  unfold bodE bodR
  cases hp : parT r with
  | none => intro h; exact absurd h (by decide)
  | some y =>
    obtain ⟨T, x⟩ := y
    cases x with
    | cons a l => intro h; exact absurd (show (2 : Int) = 0 from h) (by decide)
    | nil =>
      simp only
      by_cases hg : goodT T = true
      · rw [if_pos hg, if_pos hg]
        intro _
        have := parT_only hp (goodT_true.1 hg)
        rw [List.append_nil] at this
        exact ⟨goodT_true.1 hg, this.symm⟩
      · rw [if_neg hg]
        intro h
        exact absurd h (by decide)
/-- what is read has just these bytes -/
theorem rd_only {s : List UInt8} (h : rdE s = 0) : GoodT (rdT s) ∧ snapL (rdT s) = s := by
  unfold rdE at h
  split at h
  · rename_i hb
    split at h
    · rename_i hs
      obtain ⟨g, e⟩ := bod_only h
      have hT : rdT s = bodR (inT s) := by rw [rdT, if_pos hb, if_pos hs]
      rw [hT]
      refine ⟨g, ?_⟩
      have h5 : 5 ≤ s.length ∧ s.take 1 = [83] := by simpa [begB] using hb
      have hsum : sumN (s.take (s.length - 4)) = un (s.drop (s.length - 4)) := by simpa [sealB] using hs
      have ha : aheadT (bodR (inT s)) = s.take (s.length - 4) := by
        rw [aheadT, e, inT]
        obtain ⟨c, r, rfl⟩ : ∃ c r, s = c :: r := by
          cases s with
          | nil => simp at h5
          | cons c r => exact ⟨c, r, rfl⟩
        have hc : c = 83 := by simpa using h5.2
        subst hc
        obtain ⟨j, hj⟩ : ∃ j, (83 :: r).length - 4 = j + 1 := ⟨(83 :: r).length - 5, by omega⟩
        rw [hj, List.take_succ_cons]
        rfl
      rw [snapL, ha, hsum, be_back (k := 4) (by rw [List.length_drop]; omega)]
      exact List.take_append_drop _ _
    · exact absurd h (by decide)
  · exact absurd h (by decide)
theorem turned_sum (b m : List UInt8) (hm4 : m.length = 4) (hs : un m = sumN (83 :: b)) {i : Nat} (h1 : 1 ≤ i) (hi : i < (83 :: b ++ m).length) {c : UInt8} (hc : c ≠ (83 :: b ++ m)[i]) : rdE ((83 :: b ++ m).take i ++ (c :: (83 :: b ++ m).drop (i + 1))) = 5 := by
  have hback : be 4 (un m) = m := be_back hm4
  have no : ∀ b' m' : List UInt8, m'.length = 4 → sumN (83 :: b') ≠ un m' → rdE (83 :: b' ++ m') = 5 := by
    intro b' m' h4 hne
    obtain ⟨p1, p2, _⟩ := rd_parts b' m' h4
    rw [rdE, if_pos p1, if_neg]
    rw [p2]
    simpa using hne
  by_cases hin : i < (83 :: b).length
  · obtain ⟨j, rfl⟩ : ∃ j, i = j + 1 := ⟨i - 1, by omega⟩
    have hj : j < b.length := by simpa using hin
    have hget : (83 :: b ++ m)[j + 1] = b[j] := by
      simp only [List.cons_append, List.getElem_cons_succ]
      exact List.getElem_append_left hj
    rw [hget] at hc
    have e : (83 :: b ++ m).take (j + 1) ++ c :: (83 :: b ++ m).drop (j + 1 + 1) = 83 :: (b.take j ++ c :: b.drop (j + 1)) ++ m := by
      simp only [List.cons_append, List.take_succ_cons, List.drop_succ_cons]
      rw [List.take_append_of_le_length (by omega), List.drop_append_of_le_length (by omega)]
      simp
    rw [e]
    refine no _ m hm4 ?_
    rw [hs]
    intro hh
    have hb : b = b.take j ++ b[j] :: b.drop (j + 1) := by rw [List.getElem_cons_drop, List.take_append_drop]
    have hh2 : sumN ((83 :: b.take j) ++ c :: b.drop (j + 1)) = sumN ((83 :: b.take j) ++ b[j] :: b.drop (j + 1)) := by
      rw [List.cons_append, List.cons_append, ← hb]
      exact hh
    exact hc (sum_turned _ _ _ _ hh2)
  · obtain ⟨j, rfl⟩ : ∃ j, i = (83 :: b).length + j := ⟨i - (83 :: b).length, by omega⟩
    have hj : j < m.length := by rw [List.length_append] at hi; omega
    have hget : (83 :: b ++ m)[(83 :: b).length + j] = m[j] := by
      rw [List.getElem_append_right (by omega)]
      congr 1
      omega
    rw [hget] at hc
    have e : (83 :: b ++ m).take ((83 :: b).length + j) ++ c :: (83 :: b ++ m).drop ((83 :: b).length + j + 1) = 83 :: b ++ (m.take j ++ c :: m.drop (j + 1)) := by
      rw [List.take_length_add_append, show (83 :: b).length + j + 1 = (83 :: b).length + (j + 1) by omega, List.drop_length_add_append, List.append_assoc]
    rw [e]
    have hl : (m.take j ++ c :: m.drop (j + 1)).length = 4 := by rw [List.length_append, List.length_cons, List.length_take, List.length_drop]; omega
    refine no b _ hl ?_
    rw [← hs]
    intro hh
    have h4 : be 4 (un (m.take j ++ c :: m.drop (j + 1))) = m.take j ++ c :: m.drop (j + 1) := be_back hl
    rw [← hh, hback] at h4
    have h5 : m[j]? = some c := by
      rw [h4, List.getElem?_append_right (by rw [List.length_take]; omega), List.length_take, show j - min j m.length = 0 by omega]
      rfl
    rw [List.getElem?_eq_getElem hj] at h5
    exact hc (Option.some.inj h5).symm
/-- one byte behind the first changed -/
theorem rd_turned {t : Tr} {i : Nat} (h1 : 1 ≤ i) (hi : i < (snapL t).length) {c : UInt8} (hc : c ≠ (snapL t)[i]) : rdE ((snapL t).take i ++ (c :: (snapL t).drop (i + 1))) = 5 :=
  turned_sum (bodT t) (be 4 (sumN (aheadT t))) (be_length 4 _) (un_sum _) h1 hi hc
/-- a beginning that is not all is not read -/
theorem rd_cut {t : Tr} (g : GoodT t) {k : Nat} (hk : k < (snapL t).length) : rdE ((snapL t).take k) ≠ 0 := by
  intro h
  unfold rdE at h
  split at h
  · rename_i hb
    have h5 : 5 ≤ k := by
      have : 5 ≤ ((snapL t).take k).length ∧ ((snapL t).take k).take 1 = [83] := by simpa [begB] using hb
      rw [List.length_take] at this
      omega
    split at h
    · obtain ⟨g2, e⟩ := bod_only h
      have hp : parT (inT ((snapL t).take k)) = some (bodR (inT ((snapL t).take k)), []) := by
        have := parT_back g2 []
        rw [List.append_nil] at this
        rw [e] at this
        exact this
      obtain ⟨y, hy, hy0⟩ : ∃ y, bodT t = inT ((snapL t).take k) ++ y ∧ y ≠ [] := by
        have hkl : ((snapL t).take k).length = k := by rw [List.length_take]; omega
        have hlen : (snapL t).length = (bodT t).length + 5 := by rw [snapL, List.length_append, be_length, aheadT, List.length_cons]
        refine ⟨(bodT t).drop (k - 5), ?_, ?_⟩
        · have : inT ((snapL t).take k) = (bodT t).take (k - 5) := by
            rw [inT, hkl, List.take_take, Nat.min_eq_left (by omega), snapL, aheadT]
            by_cases h4 : k ≤ 4
            · rw [show k - 4 = 0 by omega, show k - 5 = 0 by omega]
              rfl
            · rw [show k - 4 = (k - 5) + 1 by omega, List.cons_append, List.take_succ_cons, List.drop_succ_cons, List.drop_zero, List.take_append_of_le_length (by omega)]
          rw [this]
          exact (List.take_append_drop _ _).symm
        · intro h0
          have := congrArg List.length h0
          rw [List.length_drop, List.length_nil] at this
          omega
      have hx := ext_parT _ _ _ y hp
      rw [← hy, List.nil_append] at hx
      have := parT_back g []
      rw [List.append_nil, hx] at this
      simp only [Option.some.injEq, Prod.mk.injEq] at this
      exact hy0 this.2
    · exact absurd h (by decide)
  · exact absurd h (by decide)

end Go.Proofs.YtmifdieofccjaaaDoor

namespace Go.Proofs.YtmifdieofccjaaaDoor
open Go.RowKit

/-- what a reader that notes shortness gives (a, the rest r', short or not b'), from the rest r and the note b -/
def RdOk {α : Type} (f : Rd α) (r : List UInt8) (b : Bool) (a : α) (r' : List UInt8) (b' : Bool) : Prop :=
  (b = true → b' = true) ∧ (b = false → (∀ a0 x, f r = some (a0, x) → a = a0 ∧ r' = x ∧ b' = false) ∧ (f r = none → b' = true))
theorem rdok_ret {α : Type} (a : α) (r : List UInt8) (b : Bool) : RdOk (retP a) r b a r b := by
  refine ⟨id, fun hb => ⟨fun a0 x h => ?_, fun h => by cases h⟩⟩
  simp only [retP, Option.some.injEq, Prod.mk.injEq] at h
  exact ⟨h.1, h.2, hb⟩
theorem rdok_tk (k : Nat) (r : List UInt8) (b : Bool) : RdOk (tk k) r b (r.take k) (r.drop k) (b || decide (r.length < k)) := by
  refine ⟨fun hb => by rw [hb]; rfl, fun hb => ⟨fun a0 x h => ?_, fun h => ?_⟩⟩
  · by_cases hk : k ≤ r.length
    · rw [tk_front hk] at h
      simp only [Option.some.injEq, Prod.mk.injEq] at h
      exact ⟨h.1, h.2, by rw [hb, decide_eq_false (by omega)]; rfl⟩
    · rw [tk_none (by omega)] at h
      cases h
  · by_cases hk : k ≤ r.length
    · rw [tk_front hk] at h
      cases h
    · rw [decide_eq_true (by omega), Bool.or_true]
theorem rdok_seq {α β : Type} {f : Rd α} {g : α → Rd β} {r r1 r2 : List UInt8} {b b1 b2 : Bool} {a : α} {c : β} (h1 : RdOk f r b a r1 b1) (h2 : RdOk (g a) r1 b1 c r2 b2) : RdOk (seqP f g) r b c r2 b2 := by
  refine ⟨fun hb => h2.1 (h1.1 hb), fun hb => ?_⟩
  obtain ⟨p1, p2⟩ := h1.2 hb
  cases hf : f r with
  | none =>
    have hb1 := p2 hf
    refine ⟨fun a0 x h => ?_, fun _ => h2.1 hb1⟩
    rw [seqP_none hf] at h
    cases h
  | some y =>
    obtain ⟨a0, x⟩ := y
    obtain ⟨rfl, rfl, hb1⟩ := p1 _ _ hf
    rw [seqP_at hf]
    exact h2.2 hb1
theorem parI_snoc (w : Nat) : ∀ (k : Nat) (r : List UInt8), parI w (k + 1) r = seqP (parI w k) (fun l => seqP (tk w) fun a => retP (l ++ [wrap64 (un a : Nat)])) r
  | 0, r => by
    show seqP (tk w) (fun a => seqP (retP []) fun l => retP (wrap64 (un a : Nat) :: l)) r = seqP (tk w) (fun a => retP ([] ++ [wrap64 (un a : Nat)])) r
    cases h : tk w r with
    | none => rw [seqP_none h, seqP_none h]
    | some y =>
      obtain ⟨a, x⟩ := y
      rw [seqP_at h, seqP_at h]
      rfl
  | k + 1, r => by
    rw [parI]
    show _ = seqP (seqP (tk w) fun a => seqP (parI w k) fun l => retP (wrap64 (un a : Nat) :: l)) _ r
    cases h : tk w r with
    | none => rw [seqP_none h, seqP_none (seqP_none h)]
    | some y =>
      obtain ⟨a, x⟩ := y
      rw [seqP_at h]
      have ih := parI_snoc w k x
      cases h2 : parI w k x with
      | none =>
        rw [seqP_none h2] at ih
        rw [seqP_none ih, seqP_none]
        rw [seqP_at h, seqP_none h2]
      | some z =>
        obtain ⟨l, x2⟩ := z
        have h3 : seqP (tk w) (fun a => seqP (parI w k) fun l => retP (wrap64 (un a : Nat) :: l)) r = some (wrap64 (un a : Nat) :: l, x2) := by rw [seqP_at h, seqP_at h2]; rfl
        rw [seqP_at h3]
        rw [seqP_at h2] at ih
        cases h4 : tk w x2 with
        | none =>
          rw [seqP_none h4] at ih ⊢
          rw [seqP_none ih]
        | some u =>
          obtain ⟨a2, x3⟩ := u
          rw [seqP_at h4] at ih ⊢
          rw [seqP_at ih]
          rfl
theorem rdok_eq {α : Type} {f g : Rd α} {r r' : List UInt8} {b b' : Bool} {a : α} (e : f r = g r) (h : RdOk g r b a r' b') : RdOk f r b a r' b' := by
  unfold RdOk
  rw [e]
  exact h
theorem rdok_parI {w k : Nat} {r r1 : List UInt8} {b b1 : Bool} {l : List Int} (h : RdOk (parI w k) r b l r1 b1) : RdOk (parI w (k + 1)) r b (l ++ [wrap64 (un (r1.take w) : Nat)]) (r1.drop w) (b1 || decide (r1.length < w)) :=
  rdok_eq (parI_snoc w k r) (rdok_seq h (rdok_seq (rdok_tk w r1 b1) (rdok_ret _ _ _)))
theorem parNs_snoc : ∀ (k : Nat) (r : List UInt8), parNs (k + 1) r = seqP (parNs k) (fun l => seqP parN fun a => retP (l ++ [a])) r
  | 0, r => by
    show seqP parN (fun a => seqP (retP []) fun l => retP (a :: l)) r = seqP parN (fun a => retP ([] ++ [a])) r
    cases h : parN r with
    | none => rw [seqP_none h, seqP_none h]
    | some y =>
      obtain ⟨a, x⟩ := y
      rw [seqP_at h, seqP_at h]
      rfl
  | k + 1, r => by
    rw [parNs]
    show _ = seqP (seqP parN fun a => seqP (parNs k) fun l => retP (a :: l)) _ r
    cases h : parN r with
    | none => rw [seqP_none h, seqP_none (seqP_none h)]
    | some y =>
      obtain ⟨a, x⟩ := y
      rw [seqP_at h]
      have ih := parNs_snoc k x
      cases h2 : parNs k x with
      | none =>
        rw [seqP_none h2] at ih
        rw [seqP_none ih, seqP_none]
        rw [seqP_at h, seqP_none h2]
      | some z =>
        obtain ⟨l, x2⟩ := z
        have h3 : seqP parN (fun a => seqP (parNs k) fun l => retP (a :: l)) r = some (a :: l, x2) := by rw [seqP_at h, seqP_at h2]; rfl
        rw [seqP_at h3]
        rw [seqP_at h2] at ih
        cases h4 : parN x2 with
        | none =>
          rw [seqP_none h4] at ih ⊢
          rw [seqP_none ih]
        | some u =>
          obtain ⟨a2, x3⟩ := u
          rw [seqP_at h4] at ih ⊢
          rw [seqP_at ih]
          rfl
theorem rdok_parNs {k : Nat} {r r1 r2 : List UInt8} {b b1 b2 : Bool} {l : List Nd} {n : Nd} (h : RdOk (parNs k) r b l r1 b1) (hn : RdOk parN r1 b1 n r2 b2) : RdOk (parNs (k + 1)) r b (l ++ [n]) r2 b2 :=
  rdok_eq (parNs_snoc k r) (rdok_seq h (rdok_seq hn (rdok_ret _ _ _)))
/- what was short stays short -/
theorem parI_short {w : Nat} {r : List UInt8} {k : Nat} (h : parI w k r = none) : ∀ j, parI w (k + j) r = none
  | 0 => h
  | j + 1 => by
    rw [← Nat.add_assoc, parI_snoc]
    exact seqP_none (parI_short h j)
theorem parNs_short {r : List UInt8} {k : Nat} (h : parNs k r = none) : ∀ j, parNs (k + j) r = none
  | 0 => h
  | j + 1 => by
    rw [← Nat.add_assoc, parNs_snoc]
    exact seqP_none (parNs_short h j)
theorem rdok_none {α : Type} {f g : Rd α} {r r' : List UInt8} {b : Bool} {a : α} (h : RdOk f r b a r' true) (hn : f r = none → g r = none) : RdOk g r b a r' true := by
  refine ⟨fun _ => rfl, fun hb => ⟨fun a0 x hg => ?_, fun _ => rfl⟩⟩
  cases hf : f r with
  | none => rw [hn hf] at hg; cases hg
  | some y =>
    obtain ⟨a1, x1⟩ := y
    have := (h.2 hb).1 _ _ hf
    exact absurd this.2.2 (by simp)
theorem rdok_parI_end {w k m : Nat} {r r' : List UInt8} {b : Bool} {l : List Int} (h : RdOk (parI w k) r b l r' true) (hk : k ≤ m) : RdOk (parI w m) r b l r' true :=
  rdok_none h fun hn => by
    obtain ⟨j, rfl⟩ := Nat.exists_eq_add_of_le hk
    exact parI_short hn j
theorem rdok_parNs_end {k m : Nat} {r r' : List UInt8} {b : Bool} {l : List Nd} (h : RdOk (parNs k) r b l r' true) (hk : k ≤ m) : RdOk (parNs m) r b l r' true :=
  rdok_none h fun hn => by
    obtain ⟨j, rfl⟩ := Nat.exists_eq_add_of_le hk
    exact parNs_short hn j
/-- the whole: nothing short, nothing left -/
theorem rdok_whole {r r' : List UInt8} {b' : Bool} {T : Tr} (h : RdOk parT r false T r' b') : (b' = true ∨ r' ≠ [] → bodE r = 2 ∧ bodR r = tr0) ∧ (b' = false → r' = [] → (goodT T = true → bodE r = 0 ∧ bodR r = T) ∧ (goodT T = false → bodE r = 3 ∧ bodR r = tr0)) := by
  obtain ⟨h1, h2⟩ := h.2 rfl
  unfold bodE bodR
  cases hp : parT r with
  | none =>
    have hb := h2 hp
    exact ⟨fun _ => ⟨rfl, rfl⟩, fun hb' => by rw [hb] at hb'; cases hb'⟩
  | some y =>
    obtain ⟨T0, x⟩ := y
    obtain ⟨rfl, rfl, hb⟩ := h1 _ _ hp
    subst hb
    refine ⟨fun hor => ?_, fun _ hx => ?_⟩
    · rcases hor with h0 | h0
      · cases h0
      · cases r' with
        | nil => exact absurd rfl h0
        | cons c l => exact ⟨rfl, rfl⟩
    · subst hx
      simp only
      refine ⟨fun hg => ?_, fun hg => ?_⟩
      · rw [if_pos hg, if_pos hg]
        exact ⟨rfl, rfl⟩
      · rw [if_neg (by rw [hg]; decide), if_neg (by rw [hg]; decide)]
        exact ⟨rfl, rfl⟩

end Go.Proofs.YtmifdieofccjaaaDoor
