/-
  What wire.Sum answers, for every text: the walk.
-/
import Derived.Test.YtnbkpilgmjjflaaDoorRows
import Derived.Test.YtnbkpilgmjjflaaDoorPlain
import Derived.Test.YtnbkpilgmjjflaaDoorWCrc
import Derived.WalkKit
import Derived.WalkSpells
import Derived.WalkLawsBesides
namespace Go.Proofs.YtnbkpilgmjjflaaDoor
open Go.RowKit

theorem u32_val {a b : Int} (h : a = b) : Value.int .u32 a = .int .u32 b := by rw [h]
theorem crc1_bits {c : Nat} (h : c < 4294967296) : bits .xor .u32 ((c : Int) / 2) (3988292384 * bits .and .u32 (c : Int) 1 % 4294967296) = (crc1 c : Nat) := by
  have h2 : c % 2 < 2 := Nat.mod_lt _ (by decide)
  rw [and1_u32 h, show (3988292384 * ((c % 2 : Nat) : Int) % 4294967296) = ((3988292384 * (c % 2) : Nat) : Int) from by omega]
  rw [show ((c : Int) / 2) = ((c / 2 : Nat) : Int) from by omega]
  exact xor_u32 (by omega) (by omega)
theorem crc_snoc (s : ByteArray) (k : Nat) (h : k < s.size) : crcL (s.data.toList.take (k + 1)) = crcN 8 (crcL (s.data.toList.take k) ^^^ s[k].toNat) := by
  rw [take_snoc s k h, crcL_snoc]; rfl
theorem ret_i64 {a b : Int} (h : a = b) : Ending.returned (.int .i64 a) = .returned (.int .i64 b) := by rw [h]

set_option maxHeartbeats 400000 in
theorem wsum_any (s : ByteArray) (w : World) (hs : s.size ≤ 140737488355328) :
    Calls Tryd.prog 18 #[.string s] w fun e w' => e = .returned (.int .i64 (sumN s.data.toList : Nat)) ∧ w' = w := by
  go_enter Tryd.func18, Tryd.ntmps18
  go_wp2
  go_loop [3, 8] (fun c i => ∃ k : Nat, k ≤ s.size ∧ i = .int .i64 k ∧ c = .int .u32 (crcL (s.data.toList.take k) : Nat)) (fun _ i => s.size - (intOf i).toNat)
  case atStart => exact ⟨0, Nat.zero_le _, rfl, rfl⟩
  case round =>
    obtain ⟨k, hk, rfl, rfl⟩ := hrel
    obtain ⟨c, hc⟩ : ∃ c, crcL (s.data.toList.take k) = c := ⟨_, rfl⟩
    have hcl : c < 4294967296 := hc ▸ crcL_lt _
    have Hc := hide hc
    rw [hc]
    clear hc
    by_cases hlt : k < s.size
    · have hb := s[k].toNat_lt
      have Hsn := hide (crc_snoc s k hlt)
      go_wp2
      rw [xor_u32 hcl (by omega)]
      obtain ⟨x, hx⟩ : ∃ x, c ^^^ s[k].toNat = x := ⟨_, rfl⟩
      have hxl : x < 4294967296 := hx ▸ xor_lt32 hcl (by omega)
      have Hx := hide hx
      rw [hx]
      clear hx hb
      go_loop [3, 17] (fun d j => ∃ n : Nat, n ≤ 8 ∧ j = .int .i64 n ∧ d = .int .u32 (crcN n x : Nat)) (fun _ j => 8 - (intOf j).toNat)
      case atStart => exact ⟨0, Nat.zero_le _, rfl, rfl⟩
      case round =>
        obtain ⟨n, hn, rfl, rfl⟩ := hrel
        have hy := crcN_lt hxl n
        have Hs : Hid (crcN (n + 1) x = crc1 (crcN n x)) := hide rfl
        by_cases h8 : n < 8
        · obtain ⟨y, hyy⟩ : ∃ y, crcN n x = y := ⟨_, rfl⟩
          rw [hyy] at hy Hs ⊢
          clear hyy
          go_wp2
          exact ⟨⟨n + 1, by omega, by go_num, u32_val (by rw [crc1_bits hy, unhide Hs])⟩, by simp [intOf]; omega⟩
        · obtain rfl : n = 8 := by omega
          go_wp2
          exact ⟨⟨k + 1, by omega, by go_num, u32_val (by rw [unhide Hsn, unhide Hc, unhide Hx])⟩, by simp [intOf]; omega⟩
    · obtain rfl : k = s.size := by omega
      go_wp2
      go_ret
      refine ⟨ret_i64 ?_, rfl⟩
      rw [← size_list s, List.take_length] at Hc
      rw [show IntKind.u32.max = ((4294967295 : Nat) : Int) from rfl, xor_u32 (by decide) hcl, sumN, unhide Hc]
      have h32 := xor_lt32 (show 4294967295 < 4294967296 by decide) hcl
      unfold wrap64
      omega

end Go.Proofs.YtnbkpilgmjjflaaDoor
