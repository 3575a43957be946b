/-
  The numbers of transactions as plain arithmetic, and the answers of package zxid's number functions; no program is named here.
-/
import Derived.Test.YtnbkpilgmjjflaaDoorPlain
import Derived.Laws.BitsLemmas
namespace Go.Proofs.YtnbkpilgmjjflaaDoor
open Go.RowKit

def zGood (z : Int) : Bool := decide (0 ≤ z) && decide (z < 4611686018427387904)
def zIn (n : Int) : Bool := decide (0 ≤ n) && decide (n < 2147483648)
def zEpoch (z : Int) : Int := if zGood z then z / 2147483648 else 0
def zCount (z : Int) : Int := if zGood z then z % 2147483648 else 0
def zMake (e c : Int) : Int := if zIn e && zIn c then e * 2147483648 + c else 0
def zMakeE (e c : Int) : Int := if zIn e && zIn c then 0 else 3
def zNext (z : Int) : Int := if zGood z && zIn (z % 2147483648 + 1) then z + 1 else 0
def zNextE (z : Int) : Int := if zGood z then (if zIn (z % 2147483648 + 1) then 0 else 6) else 3
def zBegin (z : Int) : Int := if zGood z && zIn (z / 2147483648 + 1) then (z / 2147483648 + 1) * 2147483648 else 0
def zBeginE (z : Int) : Int := if zGood z then (if zIn (z / 2147483648 + 1) then 0 else 6) else 3

theorem zGood_iff {z : Int} : zGood z = true ↔ 0 ≤ z ∧ z < 4611686018427387904 := by simp [zGood]
theorem zIn_iff {z : Int} : zIn z = true ↔ 0 ≤ z ∧ z < 2147483648 := by simp [zIn]
theorem zGood_no {z : Int} (h : ¬ (0 ≤ z ∧ z < 4611686018427387904)) : zGood z = false := by
  cases hg : zGood z with
  | false => rfl
  | true => exact absurd (zGood_iff.1 hg) h
theorem zIn_no {z : Int} (h : ¬ (0 ≤ z ∧ z < 2147483648)) : zIn z = false := by
  cases hg : zIn z with
  | false => rfl
  | true => exact absurd (zIn_iff.1 hg) h
theorem zEpoch_yes {z : Int} (h : zGood z = true) : zEpoch z = z / 2147483648 := by rw [zEpoch, if_pos h]
theorem zEpoch_no {z : Int} (h : zGood z = false) : zEpoch z = 0 := by rw [zEpoch, h]; rfl
theorem zCount_yes {z : Int} (h : zGood z = true) : zCount z = z % 2147483648 := by rw [zCount, if_pos h]
theorem zCount_no {z : Int} (h : zGood z = false) : zCount z = 0 := by rw [zCount, h]; rfl
theorem zMake_yes {e c : Int} (he : zIn e = true) (hc : zIn c = true) : zMake e c = e * 2147483648 + c ∧ zMakeE e c = 0 := by
  constructor <;> simp [zMake, zMakeE, he, hc]
theorem zMake_no {e c : Int} (h : zIn e = false ∨ zIn c = false) : zMake e c = 0 ∧ zMakeE e c = 3 := by
  rcases h with h | h <;> constructor <;> simp [zMake, zMakeE, h]
theorem zNext_bad {z : Int} (h : zGood z = false) : zNext z = 0 ∧ zNextE z = 3 := by constructor <;> simp [zNext, zNextE, h]
theorem zNext_full {z : Int} (h : zGood z = true) (h1 : zIn (z % 2147483648 + 1) = false) : zNext z = 0 ∧ zNextE z = 6 := by constructor <;> simp [zNext, zNextE, h, h1]
theorem zNext_ok {z : Int} (h : zGood z = true) (h1 : zIn (z % 2147483648 + 1) = true) : zNext z = z + 1 ∧ zNextE z = 0 := by constructor <;> simp [zNext, zNextE, h, h1]
theorem zBegin_bad {z : Int} (h : zGood z = false) : zBegin z = 0 ∧ zBeginE z = 3 := by constructor <;> simp [zBegin, zBeginE, h]
theorem zBegin_full {z : Int} (h : zGood z = true) (h1 : zIn (z / 2147483648 + 1) = false) : zBegin z = 0 ∧ zBeginE z = 6 := by constructor <;> simp [zBegin, zBeginE, h, h1]
theorem zBegin_ok {z : Int} (h : zGood z = true) (h1 : zIn (z / 2147483648 + 1) = true) : zBegin z = (z / 2147483648 + 1) * 2147483648 ∧ zBeginE z = 0 := by constructor <;> simp [zBegin, zBeginE, h, h1]

theorem wraps_i64 (n : Int) (h₀ : 0 ≤ n) (h₁ : n < 2 ^ 63) : IntKind.i64.wrap n = n := by rw [IntKind.wrap_i64]; omega
theorem or_join {e c : Int} (he : 0 ≤ e) (he1 : e < 2147483648) (hc : 0 ≤ c) (hc1 : c < 2147483648) : bits .or .i64 (e * 2147483648) c = e * 2147483648 + c :=
  bits_join .i64 63 (by decide) wraps_i64 31 (e * 2147483648) c (by omega) (by omega) (by omega) hc (by omega) (by omega)
theorem and_mask {z : Int} (h : 0 ≤ z) (h1 : z < 4611686018427387904) : bits .and .i64 z 2147483647 = z % 2147483648 :=
  bits_mask .i64 63 (by decide) wraps_i64 31 (by decide) z h (by omega)

theorem ret_int {a b : Int} (h : a = b) : Ending.returned (.int .i64 a) = .returned (.int .i64 b) := by rw [h]
theorem ret_int2 {a b i j : Int} (h : a = b) (h' : i = j) : Ending.returned (.tuple #[.int .i64 a, .int .i64 i]) = .returned (.tuple #[.int .i64 b, .int .i64 j]) := by rw [h, h']

end Go.Proofs.YtnbkpilgmjjflaaDoor
