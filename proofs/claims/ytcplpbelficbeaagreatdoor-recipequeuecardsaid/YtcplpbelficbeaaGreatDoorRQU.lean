/-
  recipe.numbered, with strings.ContainsFunc's own text: the walks.
  Rows of the call's own, whatever their elements are: their heads, their values.
  What slices.IndexFunc answers at texts, with the closure of Line: the walks.
  What slices.DeleteFunc answers at texts, with the closure of Line: the walk.
-/
import Derived.Test.YtcplpbelficbeaaGreatDoorRQT
import Derived.Test.YtcplpbelficbeaaGreatDoorRows
import Derived.Test.YtcplpbelficbeaaGreatDoorShelf
import Derived.WalkKit
import Derived.WalkSpells
import Derived.WalkLawsBesides
import Derived.Lib.OthersKept
import Derived.Deep.LoopGhost
import Derived.Test.YtcplpbelficbeaaGreatDoorRQE
import Derived.Lib.SliceRun
import Derived.Lib.AppendZerosOnto
namespace Go.Proofs.YtcplpbelficbeaaGreatDoor
open Go.RowKit Go.Lib

def digB (c : UInt8) : Bool := decide (48 ≤ c.toNat) && decide (c.toNat ≤ 57)
/-- a name, and ten digits behind it -/
def nmbB (m x : List UInt8) : Bool := Lib.hasPrefix x m && decide (x.length = m.length + 10) && (x.drop m.length).all digB
theorem rune_high (s : ByteArray) (pos : Nat) (h : ¬ (s.get! (pos + 0)).toNat < 128) : 128 ≤ (Utf8.decode s pos).1 := by
  unfold Utf8.decode
  simp only [h, if_false, Utf8.runeError]
  repeat' split
  all_goals (simp only [ge_iff_le, Bool.and_eq_true, decide_eq_true_eq] at *; omega)
theorem rune_dig (x : List UInt8) (pos : Nat) (h : pos < x.length) (hd : digB x[pos] = true) : Utf8.decode ⟨x.toArray⟩ pos = ((x[pos]).toNat, 1) := by
  have hs : pos < (ByteArray.mk x.toArray).size := h
  simp only [digB, Bool.and_eq_true, decide_eq_true_eq] at hd
  exact decode_ascii ⟨x.toArray⟩ pos hs (show (x[pos]).toNat < 128 by omega)
theorem rune_not (x : List UInt8) (pos : Nat) (h : pos < x.length) (hd : digB x[pos] = false) : (Utf8.decode ⟨x.toArray⟩ pos).1 < 48 ∨ 57 < (Utf8.decode ⟨x.toArray⟩ pos).1 := by
  have hs : pos < (ByteArray.mk x.toArray).size := h
  by_cases ha : (x[pos]).toNat < 128
  · have e : Utf8.decode ⟨x.toArray⟩ pos = ((x[pos]).toNat, 1) := decode_ascii ⟨x.toArray⟩ pos hs ha
    rw [e]
    simp only [digB, Bool.and_eq_false_iff, decide_eq_false_iff_not] at hd
    show (x[pos]).toNat < 48 ∨ 57 < (x[pos]).toNat
    omega
  · right
    have hg : (ByteArray.mk x.toArray).get! (pos + 0) = x[pos] := by
      show x.toArray[pos + 0]! = x[pos]
      simp [h]
    have := rune_high ⟨x.toArray⟩ pos (by rw [hg]; exact ha)
    omega

theorem rret_bool {a b : Bool} (h : a = b) : Ending.returned (.bool a) = .returned (.bool b) := by rw [h]
set_option maxRecDepth 10000 in
set_option maxHeartbeats 400000 in
theorem noDigit_any (r : Nat) (w : World) :
    Calls Tryz.prog 49 #[.int .i32 r] w fun e w' => e = .returned (.bool (decide (r < 48 ∨ 57 < r))) ∧ w' = w := by
  go_enter Tryz.func49, Tryz.ntmps49
  go_wp2
  all_goals go_ret
  all_goals exact ⟨rret_bool (by rw [Bool.eq_iff_iff]; simp; try omega), rfl⟩

theorem dall_take {x : List UInt8} {k : Nat} (h : k < x.length) (h1 : (x.take k).all digB = true) (h2 : digB x[k] = true) : (x.take (k + 1)).all digB = true := by
  rw [List.take_succ_eq_append_getElem h, List.all_append, h1]; simpa using h2
theorem dnot_all {x : List UInt8} {k : Nat} (h : k < x.length) (h2 : digB x[k] = false) : x.all digB = false := by
  rw [List.all_eq_false]
  exact ⟨x[k], List.getElem_mem h, by simp [h2]⟩

set_option maxRecDepth 10000 in
set_option maxHeartbeats 2000000 in
theorem sidxf_any (x : List UInt8) (w : World) :
    Calls Tryz.prog 83 #[.string ⟨x.toArray⟩, .func (.func 49) #[] #[], .bool true] w fun e w' => ∃ n : Int, e = .returned (.int .i64 n) ∧ decide (0 ≤ n) = !(x.all digB) ∧ Below w.heap.size w w' := by
  have hz : (ByteArray.mk x.toArray).size = x.length := Lib.size_eq ⟨x.toArray⟩
  go_enter Tryz.func83, Tryz.ntmps83
  go_wp2_with fail
  go_loopg [] x.length (fun gf wx => ∃ pos : Nat, wx.heap[w.heap.size]? = some (.stringIter ⟨x.toArray⟩ pos) ∧ Hid (Below w.heap.size w wx) ∧ Hid ((x.take pos).all digB = true) ∧ x.length - pos ≤ gf)
  case atStart => exact ⟨0, World.iter_heap w ⟨x.toArray⟩ 0, hide ((Below.refl _ w).alloc (Nat.le_refl _) _), hide rfl, by omega⟩
  case round =>
    obtain ⟨pos, hit, hbw, hall, hfu⟩ := hrel
    by_cases hps : pos < x.length
    · have hps' : pos < (ByteArray.mk x.toArray).size := hps
      have hnx : ∀ ty, (Instr.next (.pointer (some ⟨w.heap.size, 0, none⟩)) true ty).run Tryz.prog wr = _ := fun ty => run_next_any_at wr w.heap.size ⟨x.toArray⟩ pos ty hit hps'
      cases hd : digB x[pos] with
      | true =>
        have hA := hide (dall_take hps (unhide hall) hd)
        rw [rune_dig x pos hps hd] at hnx
        have hit2 := iterAt_heap wr w.heap.size ⟨x.toArray⟩ pos (pos + 1) hit
        have hbw2 := hide (below_iterAt (unhide hbw) (k := w.heap.size) (Nat.le_refl _) ⟨x.toArray⟩ (pos + 1))
        simp only at hnx
        have cS := fun W => noDigit_any (x[pos]).toNat W
        rw [decide_eq_false (show ¬ ((x[pos]).toNat < 48 ∨ 57 < (x[pos]).toNat) by simp only [digB, Bool.and_eq_true, decide_eq_true_eq] at hd; omega)] at cS
        obtain ⟨R, hR⟩ : ∃ R, (x[pos]).toNat = R := ⟨_, rfl⟩
        rw [hR] at hnx cS
        obtain ⟨W, hWd⟩ : ∃ W, wr.iterAt w.heap.size ⟨x.toArray⟩ (pos + 1) = W := ⟨_, rfl⟩
        rw [hWd] at hnx hit2 hbw2
        clear hR hd hWd hall hit hbw hz
        go_wp2_with fail
        refine (cS _).mono ?_
        rintro e W' ⟨rfl, rfl⟩
        go_wp2_with fail
        go_roundg (x.length - (pos + 1))
        case measure => omega
        case rel => exact ⟨pos + 1, hit2, hbw2, hA, Nat.le_refl _⟩
      | false =>
        have hn := rune_not x pos hps hd
        obtain ⟨R, hR⟩ : ∃ R, (Utf8.decode ⟨x.toArray⟩ pos).1 = R := ⟨_, rfl⟩
        obtain ⟨K, hK⟩ : ∃ K, (Utf8.decode ⟨x.toArray⟩ pos).2 = K := ⟨_, rfl⟩
        have hbw2 := hide (below_iterAt (unhide hbw) (k := w.heap.size) (Nat.le_refl _) ⟨x.toArray⟩ (pos + K))
        rw [hR] at hn
        rw [hR, hK] at hnx
        have cS := fun W => noDigit_any R W
        rw [decide_eq_true hn] at cS
        have hA := hide (dnot_all hps hd)
        obtain ⟨W, hWd⟩ : ∃ W, wr.iterAt w.heap.size ⟨x.toArray⟩ (pos + K) = W := ⟨_, rfl⟩
        rw [hWd] at hnx hbw2
        clear hR hd hWd hall hit hbw hz hn hK
        go_wp2_with fail
        refine (cS _).mono ?_
        rintro e W' ⟨rfl, rfl⟩
        go_wp2_with fail
        go_ret
        exact ⟨pos, rfl, by rw [unhide hA]; simp, unhide hbw2⟩
    · have hnx : ∀ ty, (Instr.next (.pointer (some ⟨w.heap.size, 0, none⟩)) true ty).run Tryz.prog wr = _ := fun ty => run_next_end_at wr w.heap.size ⟨x.toArray⟩ pos ty hit (by rw [hz]; exact hps)
      have hA : Hid (x.all digB = true) := hide (by have := unhide hall; rwa [List.take_of_length_le (by omega)] at this)
      go_wp2_with fail
      go_ret
      exact ⟨-1, rfl, by rw [unhide hA]; rfl, unhide hbw⟩

set_option maxRecDepth 10000 in
set_option maxHeartbeats 400000 in
theorem scont_any (x : List UInt8) (w : World) :
    Calls Tryz.prog 48 #[.string ⟨x.toArray⟩, .func (.func 49) #[] #[]] w fun e w' => e = .returned (.bool (!(x.all digB))) ∧ Below w.heap.size w w' := by
  have CI := hide (fun W => sidxf_any x W)
  have CX : ∀ W, Calls Tryz.prog 68 #[.string ⟨x.toArray⟩, .func (.func 49) #[] #[]] W fun e w' => ∃ n : Int, e = .returned (.int .i64 n) ∧ decide (0 ≤ n) = !(x.all digB) ∧ Below W.heap.size W w' := by
    intro W
    go_enter Tryz.func68, Tryz.ntmps68
    go_wp2_with fail
    refine (unhide CI _).mono ?_
    rintro e w1 ⟨n, rfl, hn, hb⟩
    have HN := hide hn
    clear hn
    go_wp2_with fail
    go_ret
    exact ⟨n, rfl, unhide HN, hb⟩
  clear CI
  have HC := hide CX
  clear CX
  cases hd : x.all digB
  · rw [hd] at HC
    go_enter Tryz.func48, Tryz.ntmps48
    go_wp2_with fail
    refine (unhide HC _).mono ?_
    rintro e w1 ⟨n, rfl, hn, hb⟩
    have h0 : 0 ≤ n := of_decide_eq_true hn
    clear hn
    go_wp2_with fail
    go_ret
    exact ⟨rfl, hb⟩
  · rw [hd] at HC
    go_enter Tryz.func48, Tryz.ntmps48
    go_wp2_with fail
    refine (unhide HC _).mono ?_
    rintro e w1 ⟨n, rfl, hn, hb⟩
    have h0 : n < 0 := by have := of_decide_eq_false hn; omega
    have h1 : decide (0 ≤ n) = false := hn
    clear hn
    go_wp2_with fail
    go_ret
    exact ⟨rfl, hb⟩

theorem hasPrefix_drop {x m : List UInt8} (h : Lib.hasPrefix x m = true) : x = m ++ x.drop m.length := by
  unfold Lib.hasPrefix at h
  obtain ⟨r, rfl⟩ := List.isPrefixOf_iff_prefix.1 h
  simp
set_option maxRecDepth 10000 in
set_option maxHeartbeats 1000000 in
theorem nmb_any (x m : List UInt8) (w : World) :
    Calls Tryz.prog 25 #[.string ⟨x.toArray⟩, .string ⟨m.toArray⟩] w fun e w' => e = .returned (.bool (nmbB m x)) ∧ Below w.heap.size w w' := by
  have CP := hide (fun W => Tryz.strings_CutPrefix ⟨x.toArray⟩ ⟨m.toArray⟩ W)
  rw [show (ByteArray.mk x.toArray).data.toList = x from rfl, show (ByteArray.mk m.toArray).data.toList = m from rfl] at CP
  cases hp : Lib.hasPrefix x m with
  | false =>
    have HN : Hid (nmbB m x = false) := hide (by rw [nmbB, hp]; rfl)
    rw [hp] at CP
    generalize Lib.trimPrefix x m = T at CP
    clear hp
    go_enter Tryz.func25, Tryz.ntmps25
    go_wp2_with fail
    refine (unhide CP _).mono ?_
    rintro e w1 ⟨rfl, rfl⟩
    go_wp2_with fail
    go_ret
    exact ⟨by rw [unhide HN]; rfl, Below.refl _ _⟩
  | true =>
    have e1 := hasPrefix_drop hp
    have hT : Lib.trimPrefix x m = x.drop m.length := by unfold Lib.trimPrefix; rw [if_pos hp]
    obtain ⟨T, hTd⟩ : ∃ T, x.drop m.length = T := ⟨_, rfl⟩
    rw [hp, hT, hTd] at CP
    have hxl : x.length = m.length + T.length := by rw [hTd] at e1; rw [e1]; simp
    have hNB : nmbB m x = (decide (T.length = 10) && T.all digB) := by
      rw [nmbB, hp, hTd, Bool.true_and, hxl]
      congr 1
      simp only [decide_eq_decide]
      omega
    have hzT : (ByteArray.mk T.toArray).size = T.length := Lib.size_eq ⟨T.toArray⟩
    have HN := hide hNB
    have CC := hide (fun W => scont_any T W)
    clear hNB hp e1 hT hTd hxl
    by_cases h10 : T.length = 10
    · rw [decide_eq_true h10, Bool.true_and] at HN
      cases hd : T.all digB
      · rw [hd] at CC HN
        go_enter Tryz.func25, Tryz.ntmps25
        go_wp2_with fail
        refine (unhide CP _).mono ?_
        rintro e w1 ⟨rfl, rfl⟩
        go_wp2_with fail
        refine (unhide CC _).mono ?_
        rintro e w2 ⟨rfl, hb2⟩
        go_wp2_with fail
        go_ret
        exact ⟨by rw [unhide HN]; rfl, hb2⟩
      · rw [hd] at CC HN
        go_enter Tryz.func25, Tryz.ntmps25
        go_wp2_with fail
        refine (unhide CP _).mono ?_
        rintro e w1 ⟨rfl, rfl⟩
        go_wp2_with fail
        refine (unhide CC _).mono ?_
        rintro e w2 ⟨rfl, hb2⟩
        go_wp2_with fail
        go_ret
        exact ⟨by rw [unhide HN]; rfl, hb2⟩
    · rw [decide_eq_false h10, Bool.false_and] at HN
      have h10i : ((T.length : Int) == 10) = false := by simp; omega
      go_enter Tryz.func25, Tryz.ntmps25
      go_wp2_with fail
      refine (unhide CP _).mono ?_
      rintro e w1 ⟨rfl, rfl⟩
      go_wp2_with fail
      go_ret
      exact ⟨by rw [unhide HN]; rfl, Below.refl _ _⟩
end Go.Proofs.YtcplpbelficbeaaGreatDoor

namespace Go.Proofs.YtcplpbelficbeaaGreatDoor
open Go.RowKit
theorem snoc_take {α : Type} {xs : List α} {k : Nat} {x : α} (h : xs[k]? = some x) : xs.take (k + 1) = xs.take k ++ [x] := by rw [List.take_add_one, h]; rfl
theorem grownO {w w' : World} {r : Option Nat} (h : w.grownBy w' r) (B : Nat) (hB : B ≤ w.heap.size) (hr : ∀ k, r = some k → B ≤ k) : Below B w w' := (Below.refl _ _).grown h hB hr
theorem hgrown_of {w w' : World} {r : Option Nat} (h : Below w.heap.size w w') : w.grownBy w' r := ⟨h.os, h.tape, h.output, h.size, fun k hk _ => h.block k hk⟩
theorem OwnR.head {α : Type} [Lay α] {W : World} {g cap : Nat} {A B : List α} (h : OwnR W g cap (A ++ B)) : OwnR W g cap A := by
  obtain ⟨rest, h1, h2, h4, h3⟩ := h
  refine ⟨cellsL B ++ rest, by rw [h1, cellsL_append, List.append_assoc], ?_, ?_, h3⟩
  · rw [List.length_append, cellsL_length B]
    rw [List.length_append, Nat.add_mul] at h2
    omega
  · rw [List.length_append] at h4; omega
end Go.Proofs.YtcplpbelficbeaaGreatDoor

namespace Go.Proofs.YtcplpbelficbeaaGreatDoor
open Go.RowKit

def zerosS (m : Nat) : List Value := (Builtin.zeroCells (Value.string ⟨#[]⟩).cells m).toList
theorem zerosS_length (m : Nat) : (zerosS m).length = m := by
  rw [zerosS, Array.length_toList, size_zeroCells]; show m * 1 = m; omega
theorem zerosS_one (m : Nat) : ∀ u ∈ zerosS m, u.oneCell' = true := by
  intro u hu
  simp only [zerosS, Builtin.zeroCells, Value.cells, Array.toList_map, List.mem_map] at hu
  obtain ⟨i, _, rfl⟩ := hu
  have : i % 1 = 0 := Nat.mod_one i
  show (#[Value.string ⟨#[]⟩][i % 1]!).oneCell' = true
  rw [this]; rfl
theorem run_clearS (w : World) (ty : TypeId) (b o m c : Nat) (hm : 0 < m) (hc : ∀ j, j < m → (w.cell? ⟨b, o + j, none⟩).isSome = true) (hf : ∀ j, j < m → w.frozen? ⟨b, o + j, none⟩ = false) :
    (Builtin.clear_ #[41] ty #[.slice (some ⟨b, o, none⟩) m c]).run Tryz.prog w = .ok (.tuple #[]) (w.setCells b o (zerosS m)) := by
  have hst := run_storeCells_cells (P := Tryz.prog) b o (zerosS m) 0 w (by rw [zerosS_length]; simpa using hc) (by rw [zerosS_length]; simpa using hf) (zerosS_one m)
  simp only [Nat.add_zero] at hst
  obtain ⟨k, rfl⟩ : ∃ k, m = k + 1 := ⟨m - 1, by omega⟩
  simp [Builtin.clear_, run_underlying Tryz.underlying41]
  exact (by
    have := hst
    unfold zerosS at this ⊢
    rw [this]
    rfl)

/-- a closure over block B that answers pr in every world of I -/
structure ClosS (g : FuncId) (B : Nat) (q : Nat) (pr : List UInt8 → Bool) (I : World → Prop) : Prop where
  two : g = 24
  keep : ∀ W V, I W → W.grownBy V (some q) → I V
  gives : ∀ W x, I W → Calls Tryz.prog g #[.string ⟨x.toArray⟩, .pointer (some ⟨B, 0, none⟩)] W fun r w' => r = .returned (.bool (pr x)) ∧ Below W.heap.size W w'

set_option maxRecDepth 10000 in
set_option maxHeartbeats 2000000 in
theorem sidx_at {g : FuncId} {B q : Nat} {pr : List UInt8 → Bool} {I : World → Prop} (C : ClosS g B q pr I) (b off cap : Nat) (A : List (List UInt8)) (x : List UInt8) (R : List (List UInt8)) (w : World) (hi : I w) (hb : b < w.heap.size) (hr : RowAt w b off (cellsL (A ++ x :: R))) (hl : (A ++ x :: R).length ≤ 140737488355328)
    (hA : ∀ a ∈ A, pr a = false) (hx : pr x = true) :
    Calls Tryz.prog 46 #[.slice (some ⟨b, off, none⟩) (A ++ x :: R).length cap, .func (.func g) #[] #[.pointer (some ⟨B, 0, none⟩)]] w fun e w' => e = .returned (.int .i64 A.length) ∧ Below w.heap.size w w' := by
  have HR := hide (fun W (hW : Below w.heap.size w W) => hr.kept hW hb)
  have HC := hide C
  have HI := hide (fun W (hW : Below w.heap.size w W) => C.keep w W hi (hgrown_of hW))
  have HX := hide hx
  have HA := hide hA
  have hAn : A.length < (A ++ x :: R).length := by simp
  obtain ⟨n, hn⟩ : ∃ n, (A ++ x :: R).length = n := ⟨_, rfl⟩
  rw [hn] at hl hAn ⊢
  have HN := hide hn
  have two := C.two
  clear hr C hi hx hA hn
  subst two
  all_goals
    go_enter Tryz.func46, Tryz.ntmps46
    go_wp2_with fail
    go_loopg [8] n (fun kx s8 wr => ∃ k : Nat, s8 = .int .i64 k ∧ k ≤ A.length ∧ n - k ≤ kx ∧ Hid (Below w.heap.size w wr))
    case atStart => exact ⟨0, rfl, Nat.zero_le _, Nat.le_refl _, hide (Below.refl _ _)⟩
    case round =>
      obtain ⟨k, rfl, hk, hg, hB⟩ := hrel
      have hlt : k < n := by omega
      obtain ⟨y, hy⟩ : ∃ y, (A ++ x :: R)[k]? = some y := ⟨_, List.getElem?_eq_getElem (by rw [unhide HN]; exact hlt)⟩
      have qr := unhide HR wr (unhide hB)
      have d0 := qr.s0 hy
      have hbw : b < wr.heap.size := Nat.lt_of_lt_of_le hb (unhide hB).size
      have CX := (unhide HC).gives wr y (unhide HI wr (unhide hB))
      by_cases hka : k < A.length
      · have hp : pr y = false := unhide HA y (by
          rw [List.getElem?_append_left hka] at hy
          exact List.mem_of_getElem? hy)
        rw [hp] at CX
        clear qr hy hp
        go_wp2_with fail
        refine CX.mono ?_
        rintro e w1 ⟨rfl, hb1⟩
        have hB1 := nnext (unhide hB) hb1
        clear CX hb1
        go_wp2_with fail
        go_roundg (n - (k + 1))
        case measure => omega
        case rel => exact ⟨k + 1, rfl, by omega, Nat.le_refl _, hide hB1⟩
      · obtain rfl : k = A.length := by omega
        have hp : pr y = true := by
          have : (A ++ x :: R)[A.length]? = some x := by simp
          rw [this] at hy
          cases hy
          exact unhide HX
        rw [hp] at CX
        clear qr hy hp
        go_wp2_with fail
        refine CX.mono ?_
        rintro e w1 ⟨rfl, hb1⟩
        have hB1 := nnext (unhide hB) hb1
        clear CX hb1
        go_wp2_with fail
        go_ret
        exact ⟨rfl, hB1⟩

set_option maxRecDepth 10000 in
set_option maxHeartbeats 2000000 in
theorem sidx_none {g : FuncId} {B q : Nat} {pr : List UInt8 → Bool} {I : World → Prop} (C : ClosS g B q pr I) (v : Value) (A : List (List UInt8)) (w : World) (hi : I w) (hv : SeqV w v A) (hl : A.length ≤ 140737488355328) (hA : ∀ a ∈ A, pr a = false) :
    Calls Tryz.prog 46 #[v, .func (.func g) #[] #[.pointer (some ⟨B, 0, none⟩)]] w fun e w' => e = .returned (.int .i64 (-1)) ∧ Below w.heap.size w w' := by
  have KR : ∀ W, Below w.heap.size w W → ∀ k x, A[k]? = some x → ∃ b off cap, v = .slice (some ⟨b, off, none⟩) A.length cap ∧ b < w.heap.size ∧ RowAt W b off (cellsL A) := fun W hW k x hx => by
    obtain ⟨b, off, cap, e, hb, hr, _, _⟩ := seq_row hv (fun h0 => by obtain ⟨h1, _⟩ := List.getElem?_eq_some_iff.1 hx; rw [h0] at h1; simp at h1)
    exact ⟨b, off, cap, e, hb, hr.kept hW hb⟩
  have HKR := hide KR
  have HC := hide C
  have HI := hide (fun W (hW : Below w.heap.size w W) => C.keep w W hi (hgrown_of hW))
  have HA := hide hA
  have two := C.two
  obtain ⟨va, vc, rfl⟩ := seq_slice hv
  clear C hi hA KR hv
  subst two
  all_goals
    go_enter Tryz.func46, Tryz.ntmps46
    go_wp2_with fail
    go_loopg [8] A.length (fun kx s8 wr => ∃ k : Nat, s8 = .int .i64 k ∧ k ≤ A.length ∧ A.length - k ≤ kx ∧ Hid (Below w.heap.size w wr))
    case atStart => exact ⟨0, rfl, Nat.zero_le _, Nat.le_refl _, hide (Below.refl _ _)⟩
    case round =>
      obtain ⟨k, rfl, hk, hg, hB⟩ := hrel
      by_cases hlt : k < A.length
      · obtain ⟨y, hy⟩ : ∃ y, A[k]? = some y := ⟨_, List.getElem?_eq_getElem hlt⟩
        obtain ⟨b, off, cap, he, hb, qr⟩ := unhide HKR wr (unhide hB) k y hy
        simp only [Value.slice.injEq] at he
        obtain ⟨rfl, _, rfl⟩ := he
        have d0 := qr.s0 hy
        have hbw : b < wr.heap.size := Nat.lt_of_lt_of_le hb (unhide hB).size
        have CX := (unhide HC).gives wr y (unhide HI wr (unhide hB))
        have hp : pr y = false := unhide HA y (List.mem_of_getElem? hy)
        rw [hp] at CX
        clear qr hy hp
        go_wp2_with fail
        refine CX.mono ?_
        rintro e w1 ⟨rfl, hb1⟩
        have hB1 := nnext (unhide hB) hb1
        clear CX hb1
        go_wp2_with fail
        go_roundg (A.length - (k + 1))
        case measure => omega
        case rel => exact ⟨k + 1, rfl, by omega, Nat.le_refl _, hide hB1⟩
      · obtain rfl : k = A.length := by omega
        go_wp2_with fail
        go_ret
        exact ⟨rfl, unhide hB⟩

end Go.Proofs.YtcplpbelficbeaaGreatDoor

namespace Go.Proofs.YtcplpbelficbeaaGreatDoor
open Go.RowKit

theorem sfirst_at (pr : List UInt8 → Bool) : ∀ ws : List (List UInt8), (∀ a ∈ ws, pr a = false) ∨ ∃ A x R, ws = A ++ x :: R ∧ (∀ a ∈ A, pr a = false) ∧ pr x = true
  | [] => .inl (by simp)
  | y :: r => by
    cases h : pr y
    · rcases sfirst_at pr r with h1 | ⟨A, x, R, rfl, h1, h2⟩
      · exact .inl (by intro a ha; rcases List.mem_cons.1 ha with rfl | ha; exact h; exact h1 a ha)
      · exact .inr ⟨y :: A, x, R, rfl, (by intro a ha; rcases List.mem_cons.1 ha with rfl | ha; exact h; exact h1 a ha), h2⟩
    · exact .inr ⟨[], y, r, rfl, by simp, h⟩
theorem sfilt_none {pr : List UInt8 → Bool} {ws : List (List UInt8)} (h : ∀ a ∈ ws, pr a = false) : ws.filter (fun x => !pr x) = ws := by
  rw [List.filter_eq_self]
  intro a ha
  simp [h a ha]

set_option maxRecDepth 10000 in
set_option maxHeartbeats 4000000 in
theorem sdel_any {g : FuncId} {B q : Nat} {pr : List UInt8 → Bool} {I : World → Prop} (C : ClosS g B q pr I) (cap : Nat) (ws : List (List UInt8)) (w : World) (hi : I w) (ho : OwnR w q cap ws) (hl : ws.length ≤ 140737488355328) :
    Calls Tryz.prog 23 #[.slice (some ⟨q, 0, none⟩) ws.length cap, .func (.func g) #[] #[.pointer (some ⟨B, 0, none⟩)]] w fun e w' =>
      e = .returned (.slice (some ⟨q, 0, none⟩) (ws.filter (fun x => !pr x)).length cap) ∧ OwnR w' q cap (ws.filter (fun x => !pr x)) ∧ w.grownBy w' (some q) := by
  rcases sfirst_at pr ws with hA | ⟨A, x, R, hws, hA, hx⟩
  · rw [sfilt_none hA]
    have CN := sidx_none C _ ws w hi (OwnS.seq (.inr ⟨q, cap, rfl, Nat.zero_le _, ho⟩)) hl hA
    have HO := hide ho
    have two := C.two
    clear C hA hi ho
    subst two
    all_goals
      go_enter Tryz.func23, Tryz.ntmps23
      go_wp2_with fail
      refine CN.mono ?_
      rintro e w1 ⟨rfl, hb1⟩
      have HB := hide hb1
      clear CN hb1
      go_wp2_with fail
      go_ret
      exact ⟨rfl, (unhide HO).next (unhide HB), hgrown_of (unhide HB)⟩
  · obtain ⟨n, hn⟩ : ∃ n, ws.length = n := ⟨_, rfl⟩
    have hAn : A.length < n := by rw [← hn, hws]; simp
    have hnc : n ≤ cap := by rw [← hn]; exact ho.le
    have hcl := ho.capLe
    simp only [maxLen] at hcl
    have CA := sidx_at C q 0 cap A x R w hi ho.lt (by rw [← hws]; exact ho.row) (by rw [← hws]; exact hl) hA hx
    rw [← hws, hn] at CA
    obtain ⟨T, hT⟩ : ∃ T, ws.filter (fun x => !pr x) = T := ⟨_, rfl⟩
    rw [hn] at hl ⊢
    rw [hT]
    have HTk : Hid (∀ j, n ≤ j → (ws.take j).filter (fun x => !pr x) = T) := hide (fun j hj => by rw [List.take_of_length_le (by omega)]; exact hT)
    have HF0 : Hid ((ws.take (A.length + 1)).filter (fun x => !pr x) = A) := hide (by
      rw [hws, List.take_append, List.take_of_length_le (by omega), List.filter_append, sfilt_none hA]
      simp [hx])
    have HG0 : Hid (ws = A ++ [x] ++ ws.drop (A.length + 1)) := hide (by
      rw [hws]; simp)
    have HN := hide hn
    have HO := hide ho
    have HC := hide C
    have HI := hide (fun W (hW : w.grownBy W (some q)) => C.keep w W hi hW)
    have two := C.two
    clear hn hws hA hx ho C hT hi
    subst two
    all_goals
      go_enter Tryz.func23, Tryz.ntmps23
      go_wp2_with fail
      refine CA.mono ?_
      rintro e w1 ⟨rfl, hb1⟩
      have HB := hide hb1
      clear CA hb1
      go_wp2_with fail
      go_loopg [5, 6] n (fun kx s5 s6 wr => ∃ (j : Nat) (F G : List (List UInt8)), s5 = .int .i64 F.length ∧ s6 = .int .i64 j ∧ j ≤ n ∧ n - j ≤ kx ∧ F.length + G.length = j ∧ 0 < G.length ∧ Hid ((ws.take j).filter (fun x => !pr x) = F) ∧ Hid (OwnR wr q cap (F ++ G ++ ws.drop j)) ∧ Hid (w.grownBy wr (some q)))
      case atStart => exact ⟨A.length + 1, A, [x], rfl, rfl, by omega, by omega, rfl, by simp, HF0, hide (by rw [← unhide HG0]; exact (unhide HO).next (unhide HB)), hide (hgrown_of (unhide HB))⟩
      case round =>
        obtain ⟨j, F, G, rfl, rfl, hj, hg, hFG, hG0, hF, hO, hW⟩ := hrel
        have hFj : F.length < j := by omega
        by_cases hlt : j < n
        · obtain ⟨y, hy⟩ : ∃ y, ws[j]? = some y := ⟨_, List.getElem?_eq_getElem (by rw [unhide HN]; exact hlt)⟩
          have hd : ws.drop j = y :: ws.drop (j + 1) := by
            obtain ⟨h1, h2⟩ := List.getElem?_eq_some_iff.1 hy
            rw [List.drop_eq_getElem_cons h1, h2]
          have hf : (ws.take (j + 1)).filter (fun x => !pr x) = F ++ (if pr y = true then [] else [y]) := by
            rw [snoc_take hy, List.filter_append, unhide hF]
            cases hpy : pr y <;> simp [hpy]
          rw [hd] at hO
          have hyr : (F ++ G ++ y :: ws.drop (j + 1))[j]? = some y := by
            rw [List.getElem?_append_right (by simp; omega)]
            simp [hFG]
          obtain ⟨z, G', rfl⟩ : ∃ z G', G = z :: G' := by
            cases G with
            | nil => simp at hG0
            | cons z G' => exact ⟨z, G', rfl⟩
          have hzr : (F ++ z :: G' ++ y :: ws.drop (j + 1))[F.length]? = some z := by simp
          have d0 := (unhide hO).row.s0 hyr
          have hq := (unhide hO).lt
          have hqn : q ≠ wr.heap.size := by omega
          simp only [Nat.zero_add] at d0
          have CX := (unhide HC).gives _ y (unhide HI _ (unhide hW))
          have hjn : (j : Int) < (n : Int) := by omega
          by_cases hp : pr y = true
          · rw [hp] at CX hf
            rw [if_pos rfl, List.append_nil] at hf
            have HF := hide hf
            clear hy hd hf hyr hp hzr
            go_wp2_with fail
            refine CX.mono ?_
            rintro e w2 ⟨rfl, hb2⟩
            have HO2 : Hid (OwnR w2 q cap (F ++ (z :: G' ++ [y]) ++ ws.drop (j + 1))) := hide (by
              have := (unhide hO).next hb2
              simpa using this)
            have HW2 := hide (ngrown_trans (unhide hW) (hgrown_of hb2))
            clear CX hb2
            go_wp2_with fail
            go_roundg (n - (j + 1))
            case measure => omega
            case rel => exact ⟨j + 1, F, z :: G' ++ [y], rfl, rfl, by omega, Nat.le_refl _, by simp at hFG ⊢; omega, by simp, HF, HO2, HW2⟩
          · have hp' : pr y = false := by simpa using hp
            rw [hp'] at CX
            rw [if_neg hp] at hf
            have HF := hide hf
            clear hy hd hf hyr hp hp'
            have hFn : (F.length : Int) < (n : Int) := by omega
            go_wp2_with fail
            refine CX.mono ?_
            rintro e w2 ⟨rfl, hb2⟩
            have O2 := (unhide hO).next hb2
            have e0 := O2.row.s0 hzr
            simp only [Nat.zero_add] at e0
            have f0 := O2.frozen (F.length)
            have HO3 : Hid (OwnR (w2.setCell ⟨q, F.length, none⟩ (.string ⟨y.toArray⟩)) q cap ((F ++ [y]) ++ (G' ++ [y]) ++ ws.drop (j + 1))) := hide (by
              have O2' : OwnR w2 q cap (F ++ z :: (G' ++ y :: ws.drop (j + 1))) := by simpa using O2
              have := O2'.swap1 y
              rw [show F.length * Lay.k (List UInt8) = F.length from Nat.mul_one _] at this
              have e : F ++ [y] ++ (G' ++ [y]) ++ ws.drop (j + 1) = F ++ y :: (G' ++ y :: ws.drop (j + 1)) := by simp
              rw [e]
              exact this)
            have HW3 : Hid (w.grownBy (w2.setCell ⟨q, F.length, none⟩ (.string ⟨y.toArray⟩)) (some q)) :=
              hide (ngrown_trans (ngrown_trans (unhide hW) (hgrown_of hb2)) (ngrown_set _))
            clear CX hb2 O2 hzr
            go_wp2_with fail
            go_roundg (n - (j + 1))
            case measure => omega
            case rel => exact ⟨j + 1, F ++ [y], G' ++ [y], by rw [List.length_append]; rfl, rfl, by omega, Nat.le_refl _, by simp at hFG ⊢; omega, by simp, HF, HO3, HW3⟩
        · obtain rfl : j = n := by omega
          have hTF : T = F := ((unhide HTk j (Nat.le_refl _)).symm.trans (unhide hF))
          have OF : OwnR wr q cap F := OwnR.head (B := G ++ ws.drop j) (by have := unhide hO; rwa [List.append_assoc] at this)
          have hclr : ∀ ty c, (Builtin.clear_ #[41] ty #[.slice (some ⟨q, F.length, none⟩) (j - F.length) c]).run Tryz.prog wr = .ok (.tuple #[]) (wr.setCells q (F.length) (zerosS (j - F.length))) := fun ty c =>
            run_clearS wr ty q _ _ c (by omega) (fun i hi => OF.some (show F.length + i < cap * 1 by omega)) (fun i hi => OF.frozen _)
          have FIN : Hid (OwnR (wr.setCells q (F.length) (zerosS (j - F.length))) q cap F ∧ w.grownBy (wr.setCells q (F.length) (zerosS (j - F.length))) (some q)) :=
            hide ⟨OF.spare _ _ (show F.length * 1 ≤ F.length by omega) (by rw [zerosS_length]; show _ ≤ cap * 1; omega), ngrown_trans (unhide hW) (ngrown_setCells _ _ _)⟩
          have hcn : ¬ (cap = F.length) := by omega
          have hFc : F.length ≤ cap := by omega
          have hFn : F.length ≤ j := by omega
          have hjj : ¬ ((j : Int) < (j : Int)) := by omega
          clear OF hO hW hF HTk HF0 HG0
          subst hTF
          go_wp2_with fail
          go_ret
          exact ⟨rfl, (unhide FIN).1, (unhide FIN).2⟩

end Go.Proofs.YtcplpbelficbeaaGreatDoor
