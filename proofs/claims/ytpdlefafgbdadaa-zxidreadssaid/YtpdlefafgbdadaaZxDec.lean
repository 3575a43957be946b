/-
  What aviaryref.decimal answers: the walk.
-/
import Derived.Test.YtpdlefafgbdadaaZxNum
import Derived.Test.YtpdlefafgbdadaaZxDig
import Derived.WalkSmall
namespace Go.Proofs.Ytpdlefafgbdadaa
open Go.RowKit

theorem zret_str {a b : ByteArray} (h : a = b) : Ending.returned (.string a) = .returned (.string b) := by rw [h]
theorem zcat_one (a b : List UInt8) : (ByteArray.mk a.toArray) ++ (ByteArray.mk b.toArray) = ⟨(a ++ b).toArray⟩ := by
  apply ByteArray.ext
  simp [ByteArray.data_append]
theorem zdigit_string (w : World) (u : Nat) : (convert 38 9 (.slice (some ⟨w.heap.size, 0, none⟩) 1 1)).run Try.prog (w.alloc (.cells #[.int .u8 (48 + (u : Int) % 10)] 5)) = .ok (.string ⟨#[UInt8.ofNat (48 + u % 10)]⟩) (w.alloc (.cells #[.int .u8 (48 + (u : Int) % 10)] 5)) :=
  run_convert_bytes_back _ 38 9 5 ⟨w.heap.size, 0, none⟩ 1 [UInt8.ofNat (48 + u % 10)] Try.underlying38 Try.underlying5 Try.underlying9 (fun j hj => by
    obtain rfl : j = 0 := by simpa using hj
    have h : ((UInt8.ofNat (48 + u % 10)).toNat : Int) = 48 + (u : Int) % 10 := by
      rw [UInt8.toNat_ofNat']; omega
    show _ = some (Value.int .u8 ((UInt8.ofNat (48 + u % 10)).toNat : Int))
    rw [h]
    simp [Addr.add])

set_option maxHeartbeats 1000000 in
theorem zdecimal_any (u : Nat) : u < 1000000000000 → ∀ w : World,
    Calls Try.prog 23 #[.int .i64 u] w fun e w' => e = .returned (.string ⟨(Lib.decDigits u).toArray⟩) ∧ Below w.heap.size w w' := by
  induction u using Nat.strongRecOn with
  | _ u ih =>
    intro hu w
    have hds := zdigit_string w u
    by_cases h10 : u < 10
    · have Hd : Hid (Lib.decDigits u = [UInt8.ofNat (48 + u % 10)]) := hide (by rw [decs h10, Nat.mod_eq_of_lt h10])
      clear ih
      generalize UInt8.ofNat (48 + u % 10) = c at hds Hd
      go_enter Try.func23, Try.ntmps23
      go_wp2_with fail
      go_ret
      exact ⟨zret_str (by rw [unhide Hd]), (Below.refl _ _).alloc (Nat.le_refl _) _⟩
    · have Hd := hide (decb h10)
      have hrec := ih (u / 10) (by omega) (by omega)
      have hlen := dec_len 11 (u / 10) (by omega)
      have Hrec := hide hrec
      clear hrec ih
      generalize UInt8.ofNat (48 + u % 10) = c at hds Hd
      go_enter Try.func23, Try.ntmps23
      go_wp2_with fail
      rw [show ((u : Int) / 10) = ((u / 10 : Nat) : Int) from by omega]
      refine (unhide Hrec _).mono ?_
      rintro e w1 ⟨rfl, hb1⟩
      clear Hrec
      generalize Lib.decDigits (u / 10) = D at *
      have hz : (ByteArray.mk D.toArray).size = D.length := Lib.size_eq ⟨D.toArray⟩
      go_wp2_with fail
      go_ret
      exact ⟨zret_str (by rw [unhide Hd]; exact zcat_one D [c]), ((Below.refl _ w).alloc (Nat.le_refl _) _).trans (hb1.mono (by simp))⟩

end Go.Proofs.Ytpdlefafgbdadaa
