/-
  What client.changed answers: the paths of a session's notes, sorted; where a text stands among sorted ones (slices.BinarySearch): the walks.
  What slices.IndexFunc answers at entries, with the closure of Tell: the walks.
  What slices.DeleteFunc answers at entries, with the closure of Tell: the walk.
  What client.changed and client.Tell answer: the walks.
  What client.Tell answers: the walk.
  The law ClientTold: the walk.
-/
import Derived.Test.YtdefdbejaabpdaaQEA
import Derived.Test.YtdefdbejaabpdaaShelf
import Derived.Test.YtdefdbejaabpdaaQEB
import Derived.Sort.OwnSorted
import Derived.Sort.Walk0
import Derived.Maps.AppendAt
import Derived.Lib.SliceRun
import Derived.Lib.AppendZerosOnto
import Derived.Test.YtdefdbejaabpdaaQEC
import Derived.Deep.RegionHeld3
import Derived.Deep.CutRange
namespace Go.Proofs.Ytdefdbejaabpdaa
open Go.RowKit

def chP (s : Int) (l : List Nt) : List (List UInt8) := (l.filter fun n => decide (n.s = s) && !decide (n.k = 4)).map fun n => n.p
def sortP (l : List (List UInt8)) : List (List UInt8) := l.mergeSort fun x y => decide (x ≤ y)
theorem told_mem (s : Int) (l : List Nt) (p : List UInt8) : toldE s l p = decide (p ∈ sortP (chP s l)) := by
  rw [Bool.eq_iff_iff]
  constructor
  · intro h
    obtain ⟨n, h1, h2⟩ := List.any_eq_true.1 h
    rw [Bool.and_eq_true] at h2
    exact decide_eq_true (List.mem_mergeSort.2 (List.mem_map.2 ⟨n, List.mem_filter.2 ⟨h1, h2.1⟩, of_decide_eq_true h2.2⟩))
  · intro h
    obtain ⟨n, h1, h2⟩ := List.mem_map.1 (List.mem_mergeSort.1 (of_decide_eq_true h))
    obtain ⟨h3, h4⟩ := List.mem_filter.1 h1
    exact List.any_eq_true.2 ⟨n, h3, by rw [Bool.and_eq_true]; exact ⟨h4, decide_eq_true h2⟩⟩
theorem le_bl (x y : List UInt8) : decide (x ≤ y) = !bl y x := by
  rw [show bl y x = decide (y < x) from Go.Proofs.bytesLess_eq y x]
  by_cases h : y < x
  · simp [h, List.not_le.2 h]
  · simp [h, List.not_lt.1 h]
theorem nbl_trans {a b c : List UInt8} (h1 : bl b a = false) (h2 : bl c b = false) : bl c a = false := by
  cases h : bl c a with
  | false => rfl
  | true =>
    cases h3 : bl a b with
    | true => rw [bl_trans _ _ _ h h3] at h2; cases h2
    | false => rw [bl_total _ _ h3 h1] at h; rw [h] at h2; cases h2
theorem sortP_asc (l : List (List UInt8)) : (sortP l).Pairwise fun a b => bl b a = false := by
  have := List.pairwise_mergeSort (le := fun x y : List UInt8 => decide (x ≤ y)) (fun a b c h1 h2 => by
    rw [le_bl] at h1 h2 ⊢
    simp only [Bool.not_eq_true'] at h1 h2 ⊢
    exact nbl_trans h1 h2) (fun a b => by
    rw [le_bl, le_bl]
    cases h : bl b a with
    | false => rfl
    | true => rw [bl_asymm h]; rfl) l
  refine this.imp fun {a b} h => ?_
  rw [le_bl] at h
  simpa using h
/-- sorted texts, parted at a text -/
theorem sort_part (p : List UInt8) : ∀ l : List (List UInt8), (l.Pairwise fun a b => bl b a = false) → ∃ A R, l = A ++ R ∧ (∀ a ∈ A, bl a p = true) ∧ (∀ a ∈ R, bl a p = false) ∧ (decide (p ∈ l) = match R with | [] => false | f :: _ => decide (f = p))
  | [], _ => ⟨[], [], rfl, by simp, by simp, by simp⟩
  | x :: r, h => by
    obtain ⟨hx, hr⟩ := List.pairwise_cons.1 h
    cases h1 : bl x p with
    | true =>
      obtain ⟨A, R, e, lo, hi, hm⟩ := sort_part p r hr
      refine ⟨x :: A, R, by rw [e]; rfl, by simp [h1]; exact lo, hi, ?_⟩
      rw [← hm]
      have : p ≠ x := fun e => by rw [e, bl_irrefl] at h1; cases h1
      simp [this]
    | false =>
      refine ⟨[], x :: r, rfl, by simp, ?_, ?_⟩
      · intro a ha
        rcases List.mem_cons.1 ha with rfl | ha
        · exact h1
        · cases hb : bl a p with
          | false => rfl
          | true =>
            have h2 := hx a ha
            cases h3 : bl x a with
            | true => rw [bl_trans _ _ _ h3 hb] at h1; cases h1
            | false => rw [bl_total _ _ h3 h2, hb] at h1; cases h1
      · by_cases hp : x = p
        · simp [hp]
        · have : p ∉ x :: r := by
            intro hm
            rcases List.mem_cons.1 hm with rfl | hm
            · exact hp rfl
            · have h2 := hx p hm
              exact hp (bl_total _ _ h1 h2)
          simp [this, hp]

set_option maxRecDepth 10000 in
set_option maxHeartbeats 400000 in
theorem scnan_any (x : List UInt8) (w : World) : Calls Try.prog 48 #[.string ⟨x.toArray⟩] w fun e w' => e = .returned (.bool false) ∧ w' = w := by
  go_enter Try.func48, Try.ntmps48
  go_wp2
  go_ret
  exact ⟨by simp, rfl⟩
set_option maxRecDepth 10000 in
set_option maxHeartbeats 400000 in
theorem ssnan_any (x : List UInt8) (w : World) : Calls Try.prog 42 #[.string ⟨x.toArray⟩] w fun e w' => e = .returned (.bool false) ∧ w' = w := by
  go_enter Try.func42, Try.ntmps42
  go_wp2
  go_ret
  exact ⟨by simp, rfl⟩
set_option maxRecDepth 10000 in
set_option maxHeartbeats 400000 in
theorem scless_any (x y : List UInt8) (w : World) : Calls Try.prog 41 #[.string ⟨x.toArray⟩, .string ⟨y.toArray⟩] w fun e w' => e = .returned (.bool (bl x y)) ∧ w' = w := by
  go_enter Try.func41, Try.ntmps41
  go_wp2_with fail
  refine (scnan_any _ _).mono ?_
  rintro e w1 ⟨rfl, rfl⟩
  go_wp2_with fail
  go_ret
  exact ⟨rfl, rfl⟩

def headS (R : List (List UInt8)) (p : List UInt8) : Bool := match R with
  | [] => false
  | f :: _ => decide (f = p)
theorem ssplit_get (A R : List (List UInt8)) (p : List UInt8) (lo : ∀ a ∈ A, bl a p = true) (hi : ∀ a ∈ R, bl a p = false) (i : Nat) (h : i < A.length + R.length) : ∃ y, (A ++ R)[i]? = some y ∧ bl y p = decide (i < A.length) := by
  by_cases h1 : i < A.length
  · refine ⟨A[i], by rw [List.getElem?_append_left h1, List.getElem?_eq_getElem h1], ?_⟩
    rw [lo _ (List.getElem_mem h1)]; simp [h1]
  · have h2 : i - A.length < R.length := by omega
    refine ⟨R[i - A.length], by rw [List.getElem?_append_right (by omega), List.getElem?_eq_getElem h2], ?_⟩
    rw [hi _ (List.getElem_mem h2)]; simp [h1]

set_option maxRecDepth 10000 in
set_option maxHeartbeats 1000000 in
theorem sbs_any (b off cap : Nat) (A R : List (List UInt8)) (p : List UInt8) (w : World) (hcap : A.length + R.length ≤ 281474976710656) (h : RowAt w b off (cellsL (A ++ R)))
    (lo : ∀ a ∈ A, bl a p = true) (hi : ∀ a ∈ R, bl a p = false) :
    Calls Try.prog 31 #[.slice (some ⟨b, off, none⟩) (A.length + R.length) cap, .string ⟨p.toArray⟩] w fun e w' =>
      e = .returned (.tuple #[.int .i64 A.length, .bool (headS R p)]) ∧ w' = w := by
  have H := hide h
  have SG := hide (ssplit_get A R p lo hi)
  obtain ⟨fin, hfin⟩ : ∃ x, headS R p = x := ⟨_, rfl⟩
  have HF := hide hfin
  rw [hfin]
  clear h hfin lo hi
  go_enter Try.func31, Try.ntmps31
  go_wp2_with fail
  go_loopg [7, 8] (A.length + R.length) (fun kx s9 s10 wr => ∃ lo hi : Nat, s9 = .int .i64 lo ∧ s10 = .int .i64 hi ∧ lo ≤ A.length ∧ A.length ≤ hi ∧ hi ≤ A.length + R.length ∧ hi - lo ≤ kx ∧ wr = w)
  case atStart => exact ⟨0, A.length + R.length, rfl, rfl, Nat.zero_le _, by omega, Nat.le_refl _, by omega, rfl⟩
  case round =>
    obtain ⟨lo, hi, rfl, rfl, h1, h2, h3, hg, rfl⟩ := hrel
    by_cases hlt : lo < hi
    · obtain ⟨y, hy, hyn⟩ := unhide SG ((lo + hi) / 2) (by omega)
      have e0 := (unhide H).s0 hy
      clear hy
      have CM := fun W => scless_any y p W
      rw [hyn] at CM
      clear hyn
      by_cases hm : (lo + hi) / 2 < A.length
      · simp only [hm, decide_true] at CM
        go_wp2_with fail
        refine (CM _).mono ?_
        rintro e w1 ⟨rfl, rfl⟩
        clear CM
        go_wp2_with fail
        go_roundg (hi - ((lo + hi) / 2 + 1))
        case measure => omega
        case rel => exact ⟨(lo + hi) / 2 + 1, hi, by rw [show ((lo : Int) + (hi : Int)) / 2 + 1 = (((lo + hi) / 2 + 1 : Nat) : Int) by omega], rfl, by omega, h2, h3, Nat.le_refl _, rfl⟩
      · simp only [hm, decide_false] at CM
        go_wp2_with fail
        refine (CM _).mono ?_
        rintro e w1 ⟨rfl, rfl⟩
        clear CM
        go_wp2_with fail
        go_roundg ((lo + hi) / 2 - lo)
        case measure => omega
        case rel => exact ⟨lo, (lo + hi) / 2, rfl, by rw [show ((lo : Int) + (hi : Int)) / 2 = (((lo + hi) / 2 : Nat) : Int) by omega], h1, by omega, by omega, Nat.le_refl _, rfl⟩
    · obtain rfl : lo = A.length := by omega
      obtain rfl : hi = A.length := by omega
      cases R with
      | nil =>
        go_wp2_with fail
        go_ret2
        exact ⟨by rw [← unhide HF]; rfl, rfl⟩
      | cons f R =>
        have e0 := (unhide H).s0 (show (A ++ f :: R)[A.length]? = some f by simp)
        have hf : decide (f = p) = fin := unhide HF
        clear HF
        simp only [List.length_cons]
        by_cases hfs : f = p
        · subst hfs
          simp only [decide_true] at hf
          subst hf
          go_wp2_with fail
          go_ret2
          exact ⟨rfl, rfl⟩
        · simp only [hfs, decide_false] at hf
          subst hf
          have hq : (f == p) = false := by simpa using hfs
          clear hfs
          go_wp2_with fail
          refine (ssnan_any _ _).mono ?_
          rintro e w1 ⟨rfl, rfl⟩
          go_wp2_with fail
          go_ret2
          exact ⟨rfl, rfl⟩

set_option maxRecDepth 10000 in
set_option maxHeartbeats 400000 in
theorem sbs_none (a : Option Addr) (cap : Nat) (p : List UInt8) (w : World) :
    Calls Try.prog 31 #[.slice a 0 cap, .string ⟨p.toArray⟩] w fun e w' => e = .returned (.tuple #[.int .i64 0, .bool false]) ∧ w' = w := by
  go_enter Try.func31, Try.ntmps31
  go_wp2_with fail
  go_loopg [7, 8] 1 (fun _ s9 s10 wr => s9 = .int .i64 0 ∧ s10 = .int .i64 0 ∧ wr = w)
  case atStart => exact ⟨rfl, rfl, rfl⟩
  case round =>
    obtain ⟨rfl, rfl, rfl⟩ := hrel
    go_wp2_with fail
    go_ret2
    exact ⟨rfl, rfl⟩
/-- among sorted texts: is it there? -/
theorem sbs_sorted (v : Value) (ss : List (List UInt8)) (p : List UInt8) (w : World) (hv : SeqV w v ss) (hl : ss.length ≤ 281474976710656) (hs : ss.Pairwise fun a b => bl b a = false) :
    ∃ i : Nat, Calls Try.prog 31 #[v, .string ⟨p.toArray⟩] w fun e w' => e = .returned (.tuple #[.int .i64 i, .bool (decide (p ∈ ss))]) ∧ w' = w := by
  rcases hv with ⟨a, cap, rfl, rfl, _⟩ | ⟨b, off, cap, rfl, _, _, hb, _, hr⟩
  · refine ⟨0, ?_⟩
    have := sbs_none a cap p w
    simpa using this
  · obtain ⟨A, R, rfl, lo, hi, hm⟩ := sort_part p ss hs
    refine ⟨A.length, ?_⟩
    have := sbs_any b off cap A R p w (by simpa using hl) hr lo hi
    rw [List.length_append]
    rw [hm]
    cases R <;> exact this
end Go.Proofs.Ytdefdbejaabpdaa

namespace Go.Proofs.Ytdefdbejaabpdaa
open Go.RowKit

def zerosC (m : Nat) : List Value := (Builtin.zeroCells (Value.agg #[.string ⟨#[]⟩, .string ⟨#[]⟩, .bool false]).cells m).toList
theorem zerosC_length (m : Nat) : (zerosC m).length = m * 3 := by
  rw [zerosC, Array.length_toList, size_zeroCells]; rfl
theorem zerosC_one (m : Nat) : ∀ u ∈ zerosC m, u.oneCell' = true := by
  intro u hu
  simp only [zerosC, Builtin.zeroCells, Value.cells, Array.toList_map, List.mem_map] at hu
  obtain ⟨i, _, rfl⟩ := hu
  have : i % 3 < 3 := Nat.mod_lt _ (by decide)
  show (#[Value.string ⟨#[]⟩, .string ⟨#[]⟩, .bool false][i % 3]!).oneCell' = true
  rcases (show i % 3 = 0 ∨ i % 3 = 1 ∨ i % 3 = 2 by omega) with e | e | e <;> rw [e] <;> rfl
theorem run_clearC (w : World) (ty : TypeId) (b o m c : Nat) (hm : 0 < m) (hc : ∀ j, j < m * 3 → (w.cell? ⟨b, o + j, none⟩).isSome = true) (hf : ∀ j, j < m * 3 → w.frozen? ⟨b, o + j, none⟩ = false) :
    (Builtin.clear_ #[22] ty #[.slice (some ⟨b, o, none⟩) m c]).run Try.prog w = .ok (.tuple #[]) (w.setCells b o (zerosC m)) := by
  have hst := run_storeCells_cells (P := Try.prog) b o (zerosC m) 0 w (by rw [zerosC_length]; simpa using hc) (by rw [zerosC_length]; simpa using hf) (zerosC_one m)
  simp only [Nat.add_zero] at hst
  obtain ⟨k, rfl⟩ : ∃ k, m = k + 1 := ⟨m - 1, by omega⟩
  simp [Builtin.clear_, run_underlying Try.underlying22]
  exact (by
    have := hst
    unfold zerosC at this ⊢
    rw [this]
    rfl)

/-- a closure over block B that answers pr in every world of I -/
structure ClosC (g : FuncId) (B : Nat) (q : Nat) (pr : En → Bool) (I : World → Prop) : Prop where
  two : g = 30
  keep : ∀ W V, I W → W.grownBy V (some q) → I V
  gives : ∀ W x, I W → Calls Try.prog g #[.agg #[.string ⟨x.p.toArray⟩, .string ⟨x.d.toArray⟩, .bool x.t], .pointer (some ⟨B, 0, none⟩)] W fun r w' => r = .returned (.bool (pr x)) ∧ Below W.heap.size W w'

set_option maxRecDepth 10000 in
set_option maxHeartbeats 2000000 in
theorem cidx_at {g : FuncId} {B q : Nat} {pr : En → Bool} {I : World → Prop} (C : ClosC g B q pr I) (b off cap : Nat) (A : List En) (x : En) (R : List En) (w : World) (hi : I w) (hb : b < w.heap.size) (hr : RowAt w b off (cellsL (A ++ x :: R))) (hl : (A ++ x :: R).length ≤ 140737488355328)
    (hA : ∀ a ∈ A, pr a = false) (hx : pr x = true) :
    Calls Try.prog 40 #[.slice (some ⟨b, off, none⟩) (A ++ x :: R).length cap, .func (.func g) #[] #[.pointer (some ⟨B, 0, none⟩)]] w fun e w' => e = .returned (.int .i64 A.length) ∧ Below w.heap.size w w' := by
  have HR := hide (fun W (hW : Below w.heap.size w W) => hr.kept hW hb)
  have HC := hide C
  have HI := hide (fun W (hW : Below w.heap.size w W) => C.keep w W hi (hgrown_of hW))
  have HX := hide hx
  have HA := hide hA
  have hAn : A.length < (A ++ x :: R).length := by simp
  obtain ⟨n, hn⟩ : ∃ n, (A ++ x :: R).length = n := ⟨_, rfl⟩
  rw [hn] at hl hAn ⊢
  have HN := hide hn
  have two := C.two
  clear hr C hi hx hA hn
  subst two
  all_goals
    go_enter Try.func40, Try.ntmps40
    go_wp2_with fail
    go_loopg [8] n (fun kx s8 wr => ∃ k : Nat, s8 = .int .i64 k ∧ k ≤ A.length ∧ n - k ≤ kx ∧ Hid (Below w.heap.size w wr))
    case atStart => exact ⟨0, rfl, Nat.zero_le _, Nat.le_refl _, hide (Below.refl _ _)⟩
    case round =>
      obtain ⟨k, rfl, hk, hg, hB⟩ := hrel
      have hlt : k < n := by omega
      obtain ⟨y, hy⟩ : ∃ y, (A ++ x :: R)[k]? = some y := ⟨_, List.getElem?_eq_getElem (by rw [unhide HN]; exact hlt)⟩
      have qr := unhide HR wr (unhide hB)
      have d0 := qr.en0 hy
      have d1 := qr.en1 hy
      have d2 := qr.en2 hy
      have hbw : b < wr.heap.size := Nat.lt_of_lt_of_le hb (unhide hB).size
      have CX := (unhide HC).gives wr y (unhide HI wr (unhide hB))
      by_cases hka : k < A.length
      · have hp : pr y = false := unhide HA y (by
          rw [List.getElem?_append_left hka] at hy
          exact List.mem_of_getElem? hy)
        rw [hp] at CX
        clear qr hy hp
        go_wp2_with fail
        refine CX.mono ?_
        rintro e w1 ⟨rfl, hb1⟩
        have hB1 := nnext (unhide hB) hb1
        clear CX hb1
        go_wp2_with fail
        go_roundg (n - (k + 1))
        case measure => omega
        case rel => exact ⟨k + 1, rfl, by omega, Nat.le_refl _, hide hB1⟩
      · obtain rfl : k = A.length := by omega
        have hp : pr y = true := by
          have : (A ++ x :: R)[A.length]? = some x := by simp
          rw [this] at hy
          cases hy
          exact unhide HX
        rw [hp] at CX
        clear qr hy hp
        go_wp2_with fail
        refine CX.mono ?_
        rintro e w1 ⟨rfl, hb1⟩
        have hB1 := nnext (unhide hB) hb1
        clear CX hb1
        go_wp2_with fail
        go_ret
        exact ⟨rfl, hB1⟩

set_option maxRecDepth 10000 in
set_option maxHeartbeats 2000000 in
theorem cidx_none {g : FuncId} {B q : Nat} {pr : En → Bool} {I : World → Prop} (C : ClosC g B q pr I) (v : Value) (A : List En) (w : World) (hi : I w) (hv : SeqV w v A) (hl : A.length ≤ 140737488355328) (hA : ∀ a ∈ A, pr a = false) :
    Calls Try.prog 40 #[v, .func (.func g) #[] #[.pointer (some ⟨B, 0, none⟩)]] w fun e w' => e = .returned (.int .i64 (-1)) ∧ Below w.heap.size w w' := by
  have KR : ∀ W, Below w.heap.size w W → ∀ k x, A[k]? = some x → ∃ b off cap, v = .slice (some ⟨b, off, none⟩) A.length cap ∧ b < w.heap.size ∧ RowAt W b off (cellsL A) := fun W hW k x hx => by
    obtain ⟨b, off, cap, e, hb, hr, _, _⟩ := seq_row hv (fun h0 => by obtain ⟨h1, _⟩ := List.getElem?_eq_some_iff.1 hx; rw [h0] at h1; simp at h1)
    exact ⟨b, off, cap, e, hb, hr.kept hW hb⟩
  have HKR := hide KR
  have HC := hide C
  have HI := hide (fun W (hW : Below w.heap.size w W) => C.keep w W hi (hgrown_of hW))
  have HA := hide hA
  have two := C.two
  obtain ⟨va, vc, rfl⟩ := seq_slice hv
  clear C hi hA KR hv
  subst two
  all_goals
    go_enter Try.func40, Try.ntmps40
    go_wp2_with fail
    go_loopg [8] A.length (fun kx s8 wr => ∃ k : Nat, s8 = .int .i64 k ∧ k ≤ A.length ∧ A.length - k ≤ kx ∧ Hid (Below w.heap.size w wr))
    case atStart => exact ⟨0, rfl, Nat.zero_le _, Nat.le_refl _, hide (Below.refl _ _)⟩
    case round =>
      obtain ⟨k, rfl, hk, hg, hB⟩ := hrel
      by_cases hlt : k < A.length
      · obtain ⟨y, hy⟩ : ∃ y, A[k]? = some y := ⟨_, List.getElem?_eq_getElem hlt⟩
        obtain ⟨b, off, cap, he, hb, qr⟩ := unhide HKR wr (unhide hB) k y hy
        simp only [Value.slice.injEq] at he
        obtain ⟨rfl, _, rfl⟩ := he
        have d0 := qr.en0 hy
        have d1 := qr.en1 hy
        have d2 := qr.en2 hy
        have hbw : b < wr.heap.size := Nat.lt_of_lt_of_le hb (unhide hB).size
        have CX := (unhide HC).gives wr y (unhide HI wr (unhide hB))
        have hp : pr y = false := unhide HA y (List.mem_of_getElem? hy)
        rw [hp] at CX
        clear qr hy hp
        go_wp2_with fail
        refine CX.mono ?_
        rintro e w1 ⟨rfl, hb1⟩
        have hB1 := nnext (unhide hB) hb1
        clear CX hb1
        go_wp2_with fail
        go_roundg (A.length - (k + 1))
        case measure => omega
        case rel => exact ⟨k + 1, rfl, by omega, Nat.le_refl _, hide hB1⟩
      · obtain rfl : k = A.length := by omega
        go_wp2_with fail
        go_ret
        exact ⟨rfl, unhide hB⟩

end Go.Proofs.Ytdefdbejaabpdaa

namespace Go.Proofs.Ytdefdbejaabpdaa
open Go.RowKit

theorem cfirst_at (pr : En → Bool) : ∀ ws : List En, (∀ a ∈ ws, pr a = false) ∨ ∃ A x R, ws = A ++ x :: R ∧ (∀ a ∈ A, pr a = false) ∧ pr x = true
  | [] => .inl (by simp)
  | y :: r => by
    cases h : pr y
    · rcases cfirst_at pr r with h1 | ⟨A, x, R, rfl, h1, h2⟩
      · exact .inl (by intro a ha; rcases List.mem_cons.1 ha with rfl | ha; exact h; exact h1 a ha)
      · exact .inr ⟨y :: A, x, R, rfl, (by intro a ha; rcases List.mem_cons.1 ha with rfl | ha; exact h; exact h1 a ha), h2⟩
    · exact .inr ⟨[], y, r, rfl, by simp, h⟩
theorem cfilt_none {pr : En → Bool} {ws : List En} (h : ∀ a ∈ ws, pr a = false) : ws.filter (fun x => !pr x) = ws := by
  rw [List.filter_eq_self]
  intro a ha
  simp [h a ha]

set_option maxRecDepth 10000 in
set_option maxHeartbeats 4000000 in
theorem cdel_any {g : FuncId} {B q : Nat} {pr : En → Bool} {I : World → Prop} (C : ClosC g B q pr I) (cap : Nat) (ws : List En) (w : World) (hi : I w) (ho : OwnR w q cap ws) (hl : ws.length ≤ 140737488355328) :
    Calls Try.prog 29 #[.slice (some ⟨q, 0, none⟩) ws.length cap, .func (.func g) #[] #[.pointer (some ⟨B, 0, none⟩)]] w fun e w' =>
      e = .returned (.slice (some ⟨q, 0, none⟩) (ws.filter (fun x => !pr x)).length cap) ∧ OwnR w' q cap (ws.filter (fun x => !pr x)) ∧ w.grownBy w' (some q) := by
  rcases cfirst_at pr ws with hA | ⟨A, x, R, hws, hA, hx⟩
  · rw [cfilt_none hA]
    have CN := cidx_none C _ ws w hi (OwnS.seq (.inr ⟨q, cap, rfl, Nat.zero_le _, ho⟩)) hl hA
    have HO := hide ho
    have two := C.two
    clear C hA hi ho
    subst two
    all_goals
      go_enter Try.func29, Try.ntmps29
      go_wp2_with fail
      refine CN.mono ?_
      rintro e w1 ⟨rfl, hb1⟩
      have HB := hide hb1
      clear CN hb1
      go_wp2_with fail
      go_ret
      exact ⟨rfl, (unhide HO).next (unhide HB), hgrown_of (unhide HB)⟩
  · obtain ⟨n, hn⟩ : ∃ n, ws.length = n := ⟨_, rfl⟩
    have hAn : A.length < n := by rw [← hn, hws]; simp
    have hnc : n ≤ cap := by rw [← hn]; exact ho.le
    have hcl := ho.capLe
    simp only [maxLen] at hcl
    have CA := cidx_at C q 0 cap A x R w hi ho.lt (by rw [← hws]; exact ho.row) (by rw [← hws]; exact hl) hA hx
    rw [← hws, hn] at CA
    obtain ⟨T, hT⟩ : ∃ T, ws.filter (fun x => !pr x) = T := ⟨_, rfl⟩
    rw [hn] at hl ⊢
    rw [hT]
    have HTk : Hid (∀ j, n ≤ j → (ws.take j).filter (fun x => !pr x) = T) := hide (fun j hj => by rw [List.take_of_length_le (by omega)]; exact hT)
    have HF0 : Hid ((ws.take (A.length + 1)).filter (fun x => !pr x) = A) := hide (by
      rw [hws, List.take_append, List.take_of_length_le (by omega), List.filter_append, cfilt_none hA]
      simp [hx])
    have HG0 : Hid (ws = A ++ [x] ++ ws.drop (A.length + 1)) := hide (by
      rw [hws]; simp)
    have HN := hide hn
    have HO := hide ho
    have HC := hide C
    have HI := hide (fun W (hW : w.grownBy W (some q)) => C.keep w W hi hW)
    have two := C.two
    clear hn hws hA hx ho C hT hi
    subst two
    all_goals
      go_enter Try.func29, Try.ntmps29
      go_wp2_with fail
      refine CA.mono ?_
      rintro e w1 ⟨rfl, hb1⟩
      have HB := hide hb1
      clear CA hb1
      go_wp2_with fail
      go_loopg [5, 6] n (fun kx s5 s6 wr => ∃ (j : Nat) (F G : List En), s5 = .int .i64 F.length ∧ s6 = .int .i64 j ∧ j ≤ n ∧ n - j ≤ kx ∧ F.length + G.length = j ∧ 0 < G.length ∧ Hid ((ws.take j).filter (fun x => !pr x) = F) ∧ Hid (OwnR wr q cap (F ++ G ++ ws.drop j)) ∧ Hid (w.grownBy wr (some q)))
      case atStart => exact ⟨A.length + 1, A, [x], rfl, rfl, by omega, by omega, rfl, by simp, HF0, hide (by rw [← unhide HG0]; exact (unhide HO).next (unhide HB)), hide (hgrown_of (unhide HB))⟩
      case round =>
        obtain ⟨j, F, G, rfl, rfl, hj, hg, hFG, hG0, hF, hO, hW⟩ := hrel
        have hFj : F.length < j := by omega
        by_cases hlt : j < n
        · obtain ⟨y, hy⟩ : ∃ y, ws[j]? = some y := ⟨_, List.getElem?_eq_getElem (by rw [unhide HN]; exact hlt)⟩
          have hd : ws.drop j = y :: ws.drop (j + 1) := by
            obtain ⟨h1, h2⟩ := List.getElem?_eq_some_iff.1 hy
            rw [List.drop_eq_getElem_cons h1, h2]
          have hf : (ws.take (j + 1)).filter (fun x => !pr x) = F ++ (if pr y = true then [] else [y]) := by
            rw [snoc_take hy, List.filter_append, unhide hF]
            cases hpy : pr y <;> simp [hpy]
          rw [hd] at hO
          have hyr : (F ++ G ++ y :: ws.drop (j + 1))[j]? = some y := by
            rw [List.getElem?_append_right (by simp; omega)]
            simp [hFG]
          obtain ⟨z, G', rfl⟩ : ∃ z G', G = z :: G' := by
            cases G with
            | nil => simp at hG0
            | cons z G' => exact ⟨z, G', rfl⟩
          have hzr : (F ++ z :: G' ++ y :: ws.drop (j + 1))[F.length]? = some z := by simp
          have d0 := (unhide hO).row.en0 hyr
          have d1 := (unhide hO).row.en1 hyr
          have d2 := (unhide hO).row.en2 hyr
          have hq := (unhide hO).lt
          have hqn : q ≠ wr.heap.size := by omega
          simp only [Nat.zero_add] at d0 d1 d2
          have HW1 := hide (ngrown_trans (unhide hW) (hgrown_of (allocB wr (.cells #[.string ⟨y.p.toArray⟩, .string ⟨y.d.toArray⟩, .bool y.t] 36))))
          have CX := (unhide HC).gives _ y (unhide HI _ (unhide HW1))
          have hjn : (j : Int) < (n : Int) := by omega
          by_cases hp : pr y = true
          · rw [hp] at CX hf
            rw [if_pos rfl, List.append_nil] at hf
            have HF := hide hf
            clear hy hd hf hyr hp hzr
            go_wp2_with fail
            refine CX.mono ?_
            rintro e w2 ⟨rfl, hb2⟩
            have HO2 : Hid (OwnR w2 q cap (F ++ (z :: G' ++ [y]) ++ ws.drop (j + 1))) := hide (by
              have := ((unhide hO).next (allocB wr (.cells #[.string ⟨y.p.toArray⟩, .string ⟨y.d.toArray⟩, .bool y.t] 36))).next hb2
              simpa using this)
            have HW2 := hide (ngrown_trans (unhide HW1) (hgrown_of hb2))
            clear CX hb2
            go_wp2_with fail
            go_roundg (n - (j + 1))
            case measure => omega
            case rel => exact ⟨j + 1, F, z :: G' ++ [y], rfl, rfl, by omega, Nat.le_refl _, by simp at hFG ⊢; omega, by simp, HF, HO2, HW2⟩
          · have hp' : pr y = false := by simpa using hp
            rw [hp'] at CX
            rw [if_neg hp] at hf
            have HF := hide hf
            clear hy hd hf hyr hp hp'
            have hFn : (F.length : Int) < (n : Int) := by omega
            go_wp2_with fail
            refine CX.mono ?_
            rintro e w2 ⟨rfl, hb2⟩
            have O2 := ((unhide hO).next (allocB wr (.cells #[.string ⟨y.p.toArray⟩, .string ⟨y.d.toArray⟩, .bool y.t] 36))).next hb2
            have c0 : w2.cell? ⟨wr.heap.size, 0, none⟩ = some (.string ⟨y.p.toArray⟩) := by rw [hb2.cell (p := ⟨wr.heap.size, 0, none⟩) (by simp)]; simp
            have c1 : w2.cell? ⟨wr.heap.size, 1, none⟩ = some (.string ⟨y.d.toArray⟩) := by rw [hb2.cell (p := ⟨wr.heap.size, 1, none⟩) (by simp)]; simp
            have c2 : w2.cell? ⟨wr.heap.size, 2, none⟩ = some (.bool y.t) := by rw [hb2.cell (p := ⟨wr.heap.size, 2, none⟩) (by simp)]; simp
            have e0 := O2.row.en0 hzr
            have e1 := O2.row.en1 hzr
            have e2 := O2.row.en2 hzr
            simp only [Nat.zero_add] at e0 e1 e2
            have f0 := O2.frozen (F.length * 3)
            have f1 := O2.frozen (F.length * 3 + 1)
            have f2 := O2.frozen (F.length * 3 + 2)
            have hz2 : wr.heap.size < w2.heap.size := by have := hb2.size; simp at this; omega
            have HO3 : Hid (OwnR (((w2.setCell ⟨q, F.length * 3, none⟩ (.string ⟨y.p.toArray⟩)).setCell ⟨q, F.length * 3 + 1, none⟩ (.string ⟨y.d.toArray⟩)).setCell ⟨q, F.length * 3 + 2, none⟩ (.bool y.t)) q cap ((F ++ [y]) ++ (G' ++ [y]) ++ ws.drop (j + 1))) := hide (by
              have O2' : OwnR w2 q cap (F ++ z :: (G' ++ y :: ws.drop (j + 1))) := by simpa using O2
              have := O2'.swap1 y
              have e : F ++ [y] ++ (G' ++ [y]) ++ ws.drop (j + 1) = F ++ y :: (G' ++ y :: ws.drop (j + 1)) := by simp
              rw [e]
              exact this)
            have HW3 : Hid (w.grownBy (((w2.setCell ⟨q, F.length * 3, none⟩ (.string ⟨y.p.toArray⟩)).setCell ⟨q, F.length * 3 + 1, none⟩ (.string ⟨y.d.toArray⟩)).setCell ⟨q, F.length * 3 + 2, none⟩ (.bool y.t)) (some q)) :=
              hide (ngrown_trans (ngrown_trans (ngrown_trans (ngrown_trans (unhide HW1) (hgrown_of hb2)) (ngrown_set _)) (ngrown_set _)) (ngrown_set _))
            clear CX hb2 O2 hzr
            go_wp2_with fail
            go_roundg (n - (j + 1))
            case measure => omega
            case rel => exact ⟨j + 1, F ++ [y], G' ++ [y], by rw [List.length_append]; rfl, rfl, by omega, Nat.le_refl _, by simp at hFG ⊢; omega, by simp, HF, HO3, HW3⟩
        · obtain rfl : j = n := by omega
          have hTF : T = F := ((unhide HTk j (Nat.le_refl _)).symm.trans (unhide hF))
          have OF : OwnR wr q cap F := OwnR.head (B := G ++ ws.drop j) (by have := unhide hO; rwa [List.append_assoc] at this)
          have hclr : ∀ ty c, (Builtin.clear_ #[22] ty #[.slice (some ⟨q, F.length * 3, none⟩) (j - F.length) c]).run Try.prog wr = .ok (.tuple #[]) (wr.setCells q (F.length * 3) (zerosC (j - F.length))) := fun ty c =>
            run_clearC wr ty q _ _ c (by omega) (fun i hi => OF.some (show F.length * 3 + i < cap * 3 by omega)) (fun i hi => OF.frozen _)
          have FIN : Hid (OwnR (wr.setCells q (F.length * 3) (zerosC (j - F.length))) q cap F ∧ w.grownBy (wr.setCells q (F.length * 3) (zerosC (j - F.length))) (some q)) :=
            hide ⟨OF.spare _ _ (Nat.le_refl _) (by rw [zerosC_length]; show _ ≤ cap * 3; omega), ngrown_trans (unhide hW) (ngrown_setCells _ _ _)⟩
          have hcn : ¬ (cap = F.length) := by omega
          have hFc : F.length ≤ cap := by omega
          have hFn : F.length ≤ j := by omega
          have hjj : ¬ ((j : Int) < (j : Int)) := by omega
          clear OF hO hW hF HTk HF0 HG0
          subst hTF
          go_wp2_with fail
          go_ret
          exact ⟨rfl, (unhide FIN).1, (unhide FIN).2⟩

end Go.Proofs.Ytdefdbejaabpdaa

namespace Go.Proofs.Ytdefdbejaabpdaa
open Go.RowKit Go.Sort

theorem sinfo0 : (Try.prog.info? 9).map (fun i => (i.zero, i.size, i.bytes)) = some (some (.string ⟨#[]⟩), 1, 16) := by kernel_rfl
theorem sinfo : ∃ i0, Try.prog.info? 9 = some i0 ∧ i0.zero = some (.string ⟨#[]⟩) ∧ i0.size = 1 ∧ i0.bytes = 16 := by
  obtain ⟨i0, h, e⟩ := Option.map_eq_some_iff.1 sinfo0
  simp only [Prod.mk.injEq] at e
  exact ⟨i0, h, e⟩
theorem cellsS (l : List (List UInt8)) : cellsL l = l.map encStr := by
  induction l with
  | nil => rfl
  | cons x r ih => rw [cellsL_cons, ih]; rfl
theorem chP_yes {s : Int} {l : List Nt} {k : Nat} {n : Nt} (h : l[k]? = some n) (h1 : n.s = s) (h2 : n.k ≠ 4) : chP s (l.take (k + 1)) = chP s (l.take k) ++ [n.p] := by
  rw [snoc_take h]; simp [chP, h1, h2]
theorem chP_no {s : Int} {l : List Nt} {k : Nat} {n : Nt} (h : l[k]? = some n) (h1 : n.s ≠ s ∨ n.k = 4) : chP s (l.take (k + 1)) = chP s (l.take k) := by
  rw [snoc_take h]
  rcases h1 with h1 | h1 <;> simp [chP, h1]
theorem chP_len (s : Int) (l : List Nt) : (chP s l).length ≤ l.length := by unfold chP; rw [List.length_map]; exact List.length_filter_le _ _
theorem own_sorted {W : World} {B g cap n : Nat} {ss : List (List UInt8)} {os : Array Obj} (hB : B ≤ g) (h : OwnR W g cap ss) : OwnS (Sort.grow (Sort.putRow encStr (Sort.ahead W n) g 0 (sortP ss).toArray) os) B (.slice (some ⟨g, 0, none⟩) ss.length cap) (sortP ss) ∧ Holds encStr W g 0 ss.toArray := by
  obtain ⟨rest, h1, h2, h3, h4⟩ := h
  have hk : ss.length * 1 + rest.length = cap * 1 := h2
  have hl : (sortP ss).length = ss.length := by unfold sortP; simp
  refine ⟨?_, holds_of_block h1 (by rw [cellsS]; simp)⟩
  have := ownsRow_sorted (n := n) (os := os) (ts := sortP ss) hl hB h1 h3 h4 (by simp [cellsS]; omega)
  rw [← hl] at this ⊢
  refine OwnS.of_row ?_
  rw [cellsS]
  exact this

set_option maxRecDepth 10000 in
set_option maxHeartbeats 4000000 in
theorem cchanged_any (s : Int) (v : Value) (l : List Nt) (w : World) (hv : SeqV w v l) (hl : l.length * 32 ≤ 140737488355328) :
    Calls Try.prog 28 #[.int .i64 s, v] w fun e w' => ∃ v', e = .returned v' ∧ OwnS w' w.heap.size v' (sortP (chP s l)) ∧ Below w.heap.size w w' := by
  have KR := hide (crow hv)
  obtain ⟨i0, hi0, hz0, hz1, hz2⟩ := sinfo
  obtain ⟨va, vc, rfl⟩ := seq_slice hv
  clear hv
  go_enter Try.func28, Try.ntmps28
  go_wp2_with fail
  go_loopg [5, 10] l.length (fun kx s5 s10 wr => ∃ (k n : Nat) (a : Option Addr) (c : Nat), s10 = .int .i64 k ∧ s5 = .slice a n c ∧ Hid ((chP s (l.take k)).length = n) ∧ k ≤ l.length ∧ l.length - k ≤ kx ∧ Hid (OwnS wr w.heap.size (.slice a n c) (chP s (l.take k))) ∧ Hid (Below w.heap.size w wr))
  case atStart => exact ⟨0, 0, none, 0, rfl, rfl, hide rfl, Nat.zero_le _, Nat.le_refl _, hide (.inl ⟨rfl, rfl⟩), hide (Below.refl _ _)⟩
  case round =>
    obtain ⟨k, n, a, c, rfl, rfl, hn, hk, hg, hO, hB⟩ := hrel
    by_cases hlt : k < l.length
    · obtain ⟨x, hx⟩ : ∃ x, l[k]? = some x := ⟨_, List.getElem?_eq_getElem hlt⟩
      obtain ⟨b, off, cap, he, hb, q⟩ := unhide KR wr (unhide hB) k x hx
      simp only [Value.slice.injEq] at he
      obtain ⟨rfl, _, rfl⟩ := he
      have d0 := q.t0 hx
      have d1 := q.t1 hx
      have d2 := q.t2 hx
      have hbw : b < wr.heap.size := Nat.lt_of_lt_of_le hb (unhide hB).size
      have HB1 := hide (nnext (unhide hB) (allocB wr (.cells #[.int .i64 x.s, .int .i64 x.k, .string ⟨x.p.toArray⟩] 48)))
      have HO1 := hide ((unhide hO).next (allocB wr (.cells #[.int .i64 x.s, .int .i64 x.k, .string ⟨x.p.toArray⟩] 48)))
      have hnl : n ≤ k := by rw [← unhide hn]; exact Nat.le_trans (chP_len _ _) (by simp; omega)
      by_cases h1 : x.s = s
      · have hsb : (x.s == s) = true := by simpa using h1
        by_cases h2 : x.k = 4
        · have hkb : (x.k == 4) = true := by simpa using h2
          have HE := hide (chP_no hx (s := s) (.inr h2))
          clear q hx h1 h2
          go_wp2_with fail
          go_roundg (l.length - (k + 1))
          case measure => omega
          case rel => exact ⟨k + 1, n, a, c, rfl, rfl, by rw [unhide HE]; exact hn, by omega, Nat.le_refl _, by rw [unhide HE]; exact HO1, HB1⟩
        · have hkb : (x.k == 4) = false := by simpa using h2
          have HE := hide (chP_yes hx h1 h2)
          clear q hx h1 h2
          have HR := hide (((unhide HO1).next (allocB _ (.cells #[.string ⟨x.p.toArray⟩] 9))).row)
          rw [unhide hn] at HR
          have HB2 := hide (nnext (unhide HB1) (allocB _ (.cells #[.string ⟨x.p.toArray⟩] 9)))
          have HA := hide (unhide HO1).above
          clear hO HO1
          go_wp2_with (at_builtin; refine wpList_append_own _ rfl _ _ 55 rfl w.heap.size 9 i0 _ 1 16 Try.underlying55 hi0 hz0 hz1 hz2 rfl (by decide) _ n (cellsL (chP s (l.take k))) rfl (unhide HR) ⟨wr.heap.size + 1, 0, none⟩ 1 1 [.string ⟨x.p.toArray⟩] rfl (by rfl) ?qc2 (by simp [Value.oneCell']) ?qc4 ?qc5 (unhide HB2).size ?_)
          case qc2 =>
            intro j u hj
            match j with
            | 0 => simp only [List.getElem?_cons_zero, Option.some.injEq] at hj; subst hj; rw [Addr.add_lit]; simp
            | j + 1 => simp at hj
          case qc4 => simp only [maxLen]; omega
          case qc5 => omega
          intro v' w1 hown hgrow _
          have O2 : OwnS w1 w.heap.size v' (chP s (l.take (k + 1))) := OwnS.of_row (by rw [unhide HE, List.length_append, cellsL_snoc, unhide hn]; exact hown)
          obtain ⟨a2, c2, rfl, _⟩ := O2.slice
          have HO2 := hide O2
          have HB3 := hide ((unhide HB2).grown hgrow (unhide HB2).size (unhide HA))
          clear O2 hown hgrow
          go_wp2_with fail
          go_roundg (l.length - (k + 1))
          case measure => omega
          case rel => exact ⟨k + 1, _, a2, c2, rfl, rfl, hide rfl, by omega, Nat.le_refl _, HO2, HB3⟩
      · have hsb : (x.s == s) = false := by simpa using h1
        have HE := hide (chP_no hx (s := s) (.inl h1))
        clear q hx h1
        go_wp2_with fail
        go_roundg (l.length - (k + 1))
        case measure => omega
        case rel => exact ⟨k + 1, n, a, c, rfl, rfl, by rw [unhide HE]; exact hn, by omega, Nat.le_refl _, by rw [unhide HE]; exact HO1, HB1⟩
    · obtain rfl : k = l.length := by omega
      rw [List.take_length] at hO hn
      have hnl : n ≤ l.length := by rw [← unhide hn]; exact chP_len _ _
      rcases unhide hO with ⟨h1, h0⟩ | ⟨g, cap, h1, hgB, ho⟩
      · simp only [Value.slice.injEq] at h1
        obtain ⟨rfl, rfl, rfl⟩ := h1
        have HS0 : Hid (sortP (chP s l) = []) := hide (by rw [h0]; simp [sortP])
        clear h0 hO
        have CS := fun W => Try.slices_Sort_string_none none 0 W
        go_wp2_with fail
        refine (CS _).mono ?_
        rintro e w1 ⟨rfl, rfl⟩
        go_wp2_with fail
        go_ret
        exact ⟨_, rfl, .inl ⟨rfl, unhide HS0⟩, unhide hB⟩
      · simp only [Value.slice.injEq] at h1
        obtain ⟨rfl, h3, rfl⟩ := h1
        have CS : Calls Try.prog 39 #[.slice (some ⟨g, 0, none⟩) (chP s l).length c] wr fun e w' => e = .returned (.tuple #[]) ∧ ∃ n os, w' = Sort.grow (Sort.putRow encStr (Sort.ahead wr n) g 0 (sortP (chP s l)).toArray) os := Try.slices_Sort_string g 0 c (chP s l) wr (own_sorted (n := 0) (os := #[]) hgB ho).2 ho.lt (by rw [← h3]; omega)
        rw [← h3] at CS
        have HO := hide ho
        have H3 := hide h3
        clear hO ho h3
        go_wp2_with fail
        refine CS.mono ?_
        rintro e w1 ⟨rfl, m, os, rfl⟩
        have O4 := (own_sorted (n := m) (os := os) hgB (unhide HO)).1
        have B4 := (unhide hB).grown (grownBy_sorted (n := m) (os := os) (g := g) (sortP (chP s l)).toArray) (unhide hB).size (fun j e => by cases e; exact hgB)
        rw [← unhide H3] at O4
        have HO4 := hide O4
        have HB4 := hide B4
        clear CS O4 B4
        generalize Sort.grow (Sort.putRow encStr (Sort.ahead wr m) g 0 (sortP (chP s l)).toArray) os = w4 at *
        go_wp2_with fail
        go_ret
        exact ⟨_, rfl, unhide HO4, unhide HB4⟩

/-- the closure's world: the box of the sorted paths, and these -/
structure TellI (B q : Nat) (va : Value) (ss : List (List UInt8)) (W : World) : Prop where
  box : W.heap[B]? = some (.cells #[va] 55 (0, 0))
  own : OwnS W 0 va ss
  ne : B ≠ q
  nq : ∀ k, va.ownBlock = some k → k ≠ q
set_option maxRecDepth 10000 in
set_option maxHeartbeats 1000000 in
theorem ctold_any (B q : Nat) (va : Value) (ss : List (List UInt8)) (hs : ss.Pairwise fun a b => bl b a = false) (hl : ss.length ≤ 281474976710656) (W : World) (x : En) (hI : TellI B q va ss W) :
    Calls Try.prog 30 #[.agg #[.string ⟨x.p.toArray⟩, .string ⟨x.d.toArray⟩, .bool x.t], .pointer (some ⟨B, 0, none⟩)] W fun r w' => r = .returned (.bool (decide (x.p ∈ ss))) ∧ Below W.heap.size W w' := by
  have C := fun V (hV : Below W.heap.size W V) => sbs_sorted va ss x.p V (hI.own.next hV).seq hl hs
  have c0 : (W.alloc (.cells #[.string ⟨x.p.toArray⟩, .string ⟨x.d.toArray⟩, .bool x.t] 36)).cell? ⟨B, 0, none⟩ = some va := by
    have hb := hI.box
    have hlt := (Array.getElem?_eq_some_iff.1 hb).1
    rw [(allocB W _).cell (p := ⟨B, 0, none⟩) hlt]
    simp [World.cell?, hb]
  have hBl : B < W.heap.size := (Array.getElem?_eq_some_iff.1 hI.box).1
  obtain ⟨a, c, rfl, _⟩ := hI.own.slice
  clear hI
  generalize decide (x.p ∈ ss) = hd at C ⊢
  generalize ss.length = n at *
  obtain ⟨xp, xd, xt⟩ := x
  simp only at *
  go_enter Try.func30, Try.ntmps30
  go_wp2_with fail
  obtain ⟨i, C2⟩ := C _ (allocB _ _)
  refine C2.mono ?_
  rintro e w1 ⟨rfl, rfl⟩
  go_wp2_with fail
  go_ret
  exact ⟨rfl, allocB _ _⟩
theorem tell_clos (B q : Nat) (va : Value) (ss : List (List UInt8)) (hs : ss.Pairwise fun a b => bl b a = false) (hl : ss.length ≤ 281474976710656) : ClosC 30 B q (fun x => decide (x.p ∈ ss)) (TellI B q va ss) :=
  ⟨rfl, fun _ _ h hg => ⟨(hg.block B (Array.getElem?_eq_some_iff.1 h.box).1 (fun e => h.ne (Option.some.inj e))).trans h.box, h.own.grown hg (fun k hk e => h.nq k hk (Option.some.inj e)), h.ne, h.nq⟩, fun W x h => ctold_any B q va ss hs hl W x h⟩

set_option maxRecDepth 10000 in
set_option maxHeartbeats 1000000 in
theorem cdel_nil {g : FuncId} {B q : Nat} {pr : En → Bool} {I : World → Prop} (C : ClosC g B q pr I) (w : World) (hi : I w) :
    Calls Try.prog 29 #[.slice none 0 0, .func (.func g) #[] #[.pointer (some ⟨B, 0, none⟩)]] w fun e w' => e = .returned (.slice none 0 0) ∧ Below w.heap.size w w' := by
  have CN := cidx_none C (.slice none 0 0) [] w hi (SeqV.nil w) (by simp) (by simp)
  have two := C.two
  clear C hi
  subst two
  go_enter Try.func29, Try.ntmps29
  go_wp2_with fail
  refine CN.mono ?_
  rintro e w1 ⟨rfl, hb1⟩
  go_wp2_with fail
  go_ret
  exact ⟨rfl, hb1⟩
end Go.Proofs.Ytdefdbejaabpdaa

namespace Go.Proofs.Ytdefdbejaabpdaa
open Go.RowKit Go.Sort

theorem sortP_len (s : Int) (l : List Nt) : (sortP (chP s l)).length ≤ l.length := by
  unfold sortP
  rw [List.length_mergeSort]
  exact chP_len s l
theorem tell_filter (s : Int) (l : List Nt) (es : List En) : es.filter (fun x => !decide (x.p ∈ sortP (chP s l))) = tellE s l es := by
  unfold tellE
  congr 1
  funext x
  rw [told_mem]

set_option maxRecDepth 10000 in
set_option maxHeartbeats 4000000 in
theorem ctell_any (s z : Int) (v vl : Value) (es : List En) (l : List Nt) (w : World) (hv : SeqV w v es) (hs : ShortC es) (hl : es.length * 40 ≤ 140737488355328) (hvl : SeqV w vl l) (hll : l.length * 32 ≤ 140737488355328) :
    Calls Try.prog 19 #[clV s z v, vl] w fun e w' => ∃ v', e = .returned (clV s z v') ∧ OwnS w' w.heap.size v' (tellE s l es) ∧ Below w.heap.size w w' := by
  have CH := fun W (hW : Below w.heap.size w W) => cchanged_any s vl l W (hvl.next hW) hll
  have CC := fun W (hW : Below w.heap.size w W) => ccopied_any s z v es W (hv.next hW) hs hl
  have HT := hide (tell_filter s l es)
  have HA := hide (sortP_asc (chP s l))
  have hsl := sortP_len s l
  obtain ⟨a, c, rfl⟩ := seq_slice hv
  obtain ⟨al, cl, rfl⟩ := seq_slice hvl
  unfold clV at CC ⊢
  clear hv hs hvl
  generalize sortP (chP s l) = ss at *
  generalize tellE s l es = R at *
  go_enter Try.func19, Try.ntmps19
  go_wp2_with fail
  have B0 : Below w.heap.size w ((w.alloc (.cells #[.int .i64 s, .int .i64 z, .slice a es.length c] 24)).alloc (.cells #[.int .i64 0, .int .i64 0, .slice none 0 0] 24)) := nnext (allocB _ _) (allocB _ _)
  have K0 := (CBox.new w s z (.slice a es.length c)).next (allocB _ (.cells #[.int .i64 0, .int .i64 0, .slice none 0 0] 24))
  have K1 := CBox.new (w.alloc (.cells #[.int .i64 s, .int .i64 z, .slice a es.length c] 24)) 0 0 (.slice none 0 0)
  have hz0 : ((w.alloc (.cells #[.int .i64 s, .int .i64 z, .slice a es.length c] 24)).alloc (.cells #[.int .i64 0, .int .i64 0, .slice none 0 0] 24)).heap.size = w.heap.size + 2 := by simp
  rw [show (w.alloc (.cells #[.int .i64 s, .int .i64 z, .slice a es.length c] 24)).heap.size = w.heap.size + 1 by simp] at K1
  generalize (w.alloc (.cells #[.int .i64 s, .int .i64 z, .slice a es.length c] 24)).alloc (.cells #[.int .i64 0, .int .i64 0, .slice none 0 0] 24) = W0 at *
  refine (CH _ B0).mono ?_
  rintro e w1 ⟨va, rfl, ho1, hb1⟩
  obtain ⟨a1, c1, rfl, _⟩ := ho1.slice
  have K0 := (K0.next hb1).next (allocB w1 (.cells #[.slice a1 ss.length c1] 55))
  have K1 := (K1.next hb1).next (allocB w1 (.cells #[.slice a1 ss.length c1] 55))
  have N1 := heap_alloc_new w1 (.cells #[.slice a1 ss.length c1] 55)
  have O1 := ho1.next (allocB w1 (.cells #[.slice a1 ss.length c1] 55))
  have B1 := nnext (nnext B0 hb1) (allocB w1 (.cells #[.slice a1 ss.length c1] 55))
  have hz1 := hb1.size
  have hlow1 := ho1.low
  have hs1 : (w1.alloc (.cells #[.slice a1 ss.length c1] 55)).heap.size = w1.heap.size + 1 := by simp
  have k0 := K0.c0
  have k1 := K0.c1
  have k2 := K0.c2
  clear CH ho1 hb1 B0 K0
  have HK1 := hide K1
  have HN1 := hide N1
  have HO1 := hide O1
  have HB1 := hide B1
  clear K1 N1 O1 B1
  go_wp2_with fail
  generalize w1.alloc (.cells #[.slice a1 ss.length c1] 55) = W1 at *
  refine (CC _ (unhide HB1)).mono ?_
  rintro e w2 ⟨v2, rfl, ho2, hb2⟩
  obtain ⟨a2, c2, rfl, _⟩ := ho2.slice
  have hlow2 := ho2.low
  have hz2 := hb2.size
  have hab2 := ho2.above
  have K1 := ((unhide HK1).next hb2).next (allocB w2 (.cells #[.int .i64 s, .int .i64 z, .slice a2 es.length c2] 24))
  have K2 := CBox.new w2 s z (.slice a2 es.length c2)
  have N2 := (Below.block (allocB w2 (.cells #[.int .i64 s, .int .i64 z, .slice a2 es.length c2] 24)) w1.heap.size (by omega)).trans ((hb2.block w1.heap.size (by omega)).trans (unhide HN1))
  have O1 := ((unhide HO1).next hb2).next (allocB w2 (.cells #[.int .i64 s, .int .i64 z, .slice a2 es.length c2] 24))
  have O2 := ho2.next (allocB w2 (.cells #[.int .i64 s, .int .i64 z, .slice a2 es.length c2] 24))
  have B2 := nnext (nnext (unhide HB1) hb2) (allocB w2 (.cells #[.int .i64 s, .int .i64 z, .slice a2 es.length c2] 24))
  have hs2 : (w2.alloc (.cells #[.int .i64 s, .int .i64 z, .slice a2 es.length c2] 24)).heap.size = w2.heap.size + 1 := by simp
  have q2 := K2.c2
  have HK1 := hide K1
  have HK2 := hide K2
  have HB2 := hide B2
  clear CC hb2 ho2 HN1 HO1 HB1 k0 k1 k2 K1 K2 B2
  rcases O2 with ⟨h1, h2⟩ | ⟨g, cap, h1, hg, O2⟩
  · simp only [Value.slice.injEq] at h1
    obtain ⟨rfl, h3, rfl⟩ := h1
    have CD := cdel_nil (tell_clos w1.heap.size (w2.heap.size + 7) (.slice a1 ss.length c1) ss (unhide HA) (by omega)) _ ⟨N2, O1.lower (Nat.zero_le _), by omega, fun k hk => by have := hlow1 k hk; omega⟩
    rw [h3] at CD q2 HK2 HK1 HB2 ⊢
    have HT0 : Hid (R = []) := hide (by rw [← unhide HT, h2]; rfl)
    clear O1 N2 h2 h3
    go_wp2_with fail
    generalize w2.alloc (.cells #[.int .i64 s, .int .i64 z, .slice none 0 0] 24) = W2 at *
    refine CD.mono ?_
    rintro e w3 ⟨rfl, hb3⟩
    have X1 := (unhide HK1).next hb3
    have X2 := (unhide HK2).next hb3
    have B3 := nnext (unhide HB2) hb3
    have p0 := X2.c0
    have p1 := X2.c1
    have p2 := X2.c2
    have p3 := X2.fr 2
    have ps := nset_same p2
    have r0 := X1.c0
    have r1 := X1.c1
    have r2 := X1.c2
    have f0 := X1.fr 0
    have f1 := X1.fr 1
    have f2 := X1.fr 2
    have HB3 := hide B3
    clear CD hb3 X1 X2 B3
    go_wp2_with fail
    refine bodyPost_ret (v := .agg #[.int .i64 s, .int .i64 z, .slice none 0 0]) (by simp [results, Try.results19, go_sem, r0, r1, r2]) rfl ⟨_, rfl, .inl ⟨rfl, unhide HT0⟩, ?_⟩
    exact (((unhide HB3).setCell (by simp) _).setCell (by simp) _).setCell (by simp) _
  · simp only [Value.slice.injEq] at h1
    obtain ⟨rfl, _, rfl⟩ := h1
    have hg2 := hlow2 g rfl
    have CD := cdel_any (tell_clos w1.heap.size g (.slice a1 ss.length c1) ss (unhide HA) (by omega)) c2 es _ ⟨N2, O1.lower (Nat.zero_le _), by omega, fun k hk => by have := hlow1 k hk; omega⟩ O2 (by omega)
    rw [unhide HT] at CD
    clear O1 N2
    go_wp2_with fail
    generalize w2.alloc (.cells #[.int .i64 s, .int .i64 z, .slice (some ⟨g, 0, none⟩) es.length c2] 24) = W2 at *
    refine CD.mono ?_
    rintro e w3 ⟨rfl, O3, hg3⟩
    have X1 := ((unhide HK1).grown hg3 (fun e => by have := Option.some.inj e; omega)).other (a := ⟨w2.heap.size, 2, none⟩) (by simp only; omega) (.slice (some ⟨g, 0, none⟩) R.length c2)
    have X0 := (unhide HK2).grown hg3 (fun e => by have := Option.some.inj e; omega)
    have x2 := X0.c2
    have x3 := X0.fr 2
    have X2 := X0.set2 (v' := .slice (some ⟨g, 0, none⟩) R.length c2)
    have B3 := ((unhide HB2).grown hg3 (unhide HB2).size (fun k e => by cases e; omega)).setCell (p := ⟨w2.heap.size, 2, none⟩) (by simp only; omega) (.slice (some ⟨g, 0, none⟩) R.length c2)
    have O4 := O3.other (a := ⟨w2.heap.size, 2, none⟩) (by simp only; omega) (.slice (some ⟨g, 0, none⟩) R.length c2)
    have p0 := X2.c0
    have p1 := X2.c1
    have p2 := X2.c2
    have r0 := X1.c0
    have r1 := X1.c1
    have r2 := X1.c2
    have f0 := X1.fr 0
    have f1 := X1.fr 1
    have f2 := X1.fr 2
    have HB3 := hide B3
    have HO4 := hide O4
    clear CD hg3 X1 X2 X0 B3 O3 O4
    go_upto_region 4 with fail
    generalize w3.setCell ⟨w2.heap.size, 2, none⟩ (.slice (some ⟨g, 0, none⟩) R.length c2) = w4 at *
    go_wp2_with fail
    refine bodyPost_ret (v := .agg #[.int .i64 s, .int .i64 z, .slice (some ⟨g, 0, none⟩) R.length c2]) (by simp [results, Try.results19, go_sem, r0, r1, r2]) rfl ⟨_, rfl, .inr ⟨g, c2, rfl, by omega, ?_⟩, ?_⟩
    · exact (((unhide HO4).other (by simp only; omega) _).other (by simp only; omega) _).other (by simp only; omega) _
    · exact (((unhide HB3).setCell (by simp only; omega) _).setCell (by simp only; omega) _).setCell (by simp only; omega) _
end Go.Proofs.Ytdefdbejaabpdaa

namespace Go.Proofs.Ytdefdbejaabpdaa
open Go.RowKit

/- append(nil, notes...) -/
theorem run_copyN (W : World) (ty : TypeId) (v : Value) (xs : List Nt) (hv : SeqV W v xs) (hl : xs.length * 32 ≤ 140737488355328) :
    ∃ v' w', (Builtin.append_ #[33, 33] ty #[.slice none 0 0, v]).run Try.prog W = .ok v' w' ∧ OwnS w' W.heap.size v' xs ∧ W.grownBy w' none := by
  obtain ⟨i0, hi0, hz0, hz1, hz2⟩ := tinfo
  have main : ∀ (a : Addr) (cap : Nat), v = .slice (some a) xs.length cap → (∀ j u, (cellsL xs)[j]? = some u → W.cell? (a.add j) = some u) →
      ∃ v' w', (Builtin.append_ #[33, 33] ty #[.slice none 0 0, v]).run Try.prog W = .ok v' w' ∧ OwnS w' W.heap.size v' xs ∧ W.grownBy w' none := by
    intro a cap e hc
    subst e
    obtain ⟨v', w', h1, h2, h3, _⟩ := run_append_own (P := Try.prog) W W.heap.size 33 ty 48 i0 _ 3 32 Try.underlying33 hi0 hz0 hz1 hz2 rfl (by decide) (.slice none 0 0) 0 [] (World.ownsRow_nil _ _ _ _) a xs.length cap (cellsL xs) (cellsL_length xs) hc (cellsL_one xs)
      (by simp only [maxLen]; omega) (by omega) (Nat.le_refl _)
    refine ⟨v', w', h1, OwnS.of_row (by first | exact h2 | (simp only [List.nil_append, Nat.zero_add] at h2; exact h2) | simpa using h2), h3⟩
  rcases hv with ⟨a, cap, rfl, rfl, _⟩ | ⟨b, off, cap, rfl, _, _, _, _, hr⟩
  · cases a with
    | none =>
      refine ⟨.slice none 0 0, W, ?_, .inl ⟨rfl, rfl⟩, ⟨rfl, rfl, rfl, Nat.le_refl _, fun _ _ _ => rfl⟩⟩
      simp [Builtin.append_, run_underlying Try.underlying33, sizeOf, typeInfo, hi0, Builtin.lenOf, Builtin.firstCells]
    | some a => exact main a cap rfl (fun j u h => by simp [cellsL] at h)
  · exact main ⟨b, off, none⟩ cap rfl (fun j u h => by rw [Addr.add_lit]; exact hr j u h)
theorem step_copyN {w : World} {ops : Array Oper} {o : Oper} {a : Act} {K : Act → World → Prop} {Q : Exit → Act → World → Prop} {E : Prop} (hgd : Region.wanted o (yielded ops a.tmps) = true) (s x : Operand)
    (ho : o.op = .call { callee := .builtin .append, args := #[s, x], argTypes := #[33, 33] })
    (hs : a.eval s = .slice none 0 0) (v : Value) (hx : a.eval x = v) (xs : List Nt) (hv : SeqV w v xs) (hl : xs.length * 32 ≤ 140737488355328)
    (h : ∀ a' c' w', OwnS w' w.heap.size (.slice a' xs.length c') xs → Below w.heap.size w w' → K (a.put o.dst (.slice a' xs.length c')) w') :
    if Region.wanted o (yielded ops a.tmps) = true then Oper.wp Try.prog o a w K Q else E := by
  rw [if_pos hgd]
  obtain ⟨v', w', hr, h2, h3⟩ := run_copyN w o.type v xs hv hl
  obtain ⟨a', c', rfl, _⟩ := h2.slice
  unfold Oper.wp execOp
  simp only [ho, resolve, invoke, builtin, Sem.run_bind, Sem.run_pure, Result.andThen_ok, List.map_toArray, List.map_cons, List.map_nil, hs, hx, hr]
  exact h a' c' w' h2 ⟨h3.os, h3.tape, h3.output, h3.size, fun k hk => h3.block k hk (by simp)⟩
end Go.Proofs.Ytdefdbejaabpdaa
