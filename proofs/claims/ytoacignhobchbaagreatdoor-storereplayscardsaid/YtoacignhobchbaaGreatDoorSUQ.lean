/-
  Watches and notes as plain lists: which events set a watch off, who is told, what is left. No program is named here.
  Decimal digits and the text of a zxid, as plain functions on lists of bytes; no program is named here.
  A server as plain data: whether it is up, its disk, its peer, its tree, its watches. The epoch that a disk remembers. No program is named here.
  How lists of watches and notes lie in memory.
  What disk.size and disk.find answer, with slices.BinarySearchFunc's own text: the walks.
  What disk.Good answers, for every disk: the walk.
-/
import Derived.Test.YtoacignhobchbaaGreatDoorSUA
import Derived.Lib.ItoaNum
import Derived.Lib.IndexLaws
import Derived.Test.YtoacignhobchbaaGreatDoorSUD
import Derived.Test.YtoacignhobchbaaGreatDoorSUM
import Derived.Test.YtoacignhobchbaaGreatDoorSUE
import Derived.Test.YtoacignhobchbaaGreatDoorShelf
import Derived.Test.YtoacignhobchbaaGreatDoorSUC
namespace Go.Proofs.YtoacignhobchbaaGreatDoor

structure Wa where
  s : Int
  k : Int
  p : List UInt8
structure Nt where
  s : Int
  k : Int
  p : List UInt8
def offB (w : Wa) (e : Ev) : Bool := decide (w.p = e.p) && (if w.k = 2 then decide (e.k = 4) || decide (e.k = 2) else decide (e.k = 1) || decide (e.k = 2) || decide (e.k = 3))
def noteOf (e : Ev) (w : Wa) : Nt := ⟨w.s, e.k, e.p⟩
def toldL (ws : List Wa) (e : Ev) : List Nt := (ws.filter (fun w => offB w e)).map (noteOf e)
def leftL (ws : List Wa) (e : Ev) : List Wa := ws.filter (fun w => !offB w e)
def fireN : List Wa → List Ev → List Nt
  | _, [] => []
  | ws, e :: r => toldL ws e ++ fireN (leftL ws e) r
def fireW : List Wa → List Ev → List Wa
  | ws, [] => ws
  | ws, e :: r => fireW (leftL ws e) r
def dropW (ws : List Wa) (s : Int) : List Wa := ws.filter (fun w => !decide (w.s = s))

theorem part_len (ws : List Wa) (f : Wa → Bool) : (ws.filter f).length + (ws.filter (fun w => !f w)).length = ws.length := by
  induction ws with
  | nil => rfl
  | cons w r ih =>
    cases h : f w
    · simp [h]; omega
    · simp [h]; omega
theorem told_len (ws : List Wa) (e : Ev) : (toldL ws e).length + (leftL ws e).length = ws.length := by
  simp only [toldL, leftL, List.length_map]
  exact part_len ws (fun w => offB w e)
theorem fire_len (es : List Ev) : ∀ ws : List Wa, (fireN ws es).length + (fireW ws es).length = ws.length := by
  induction es with
  | nil => intro ws; simp [fireN, fireW]
  | cons e r ih =>
    intro ws
    have h1 := told_len ws e
    have h2 := ih (leftL ws e)
    simp only [fireN, fireW, List.length_append]
    omega
theorem fireN_app (a b : List Ev) : ∀ ws : List Wa, fireN ws (a ++ b) = fireN ws a ++ fireN (fireW ws a) b := by
  induction a with
  | nil => intro ws; simp [fireN, fireW]
  | cons e r ih => intro ws; simp [fireN, fireW, ih]
theorem fireW_app (a b : List Ev) : ∀ ws : List Wa, fireW ws (a ++ b) = fireW (fireW ws a) b := by
  induction a with
  | nil => intro ws; simp [fireW]
  | cons e r ih => intro ws; simp [fireW, ih]
theorem mem_fireW (es : List Ev) : ∀ (ws : List Wa) (w : Wa), w ∈ fireW ws es → w ∈ ws ∧ ∀ e ∈ es, offB w e = false := by
  induction es with
  | nil => intro ws w h; exact ⟨h, by simp⟩
  | cons e r ih =>
    intro ws w h
    obtain ⟨h1, h2⟩ := ih (leftL ws e) w h
    simp only [leftL, List.mem_filter] at h1
    refine ⟨h1.1, fun x hx => ?_⟩
    rcases List.mem_cons.1 hx with rfl | hx
    · simpa using h1.2
    · exact h2 x hx
theorem fireW_sub (ws : List Wa) (es : List Ev) (w : Wa) (h : w ∈ fireW ws es) : w ∈ ws := (mem_fireW es ws w h).1
end Go.Proofs.YtoacignhobchbaaGreatDoor

namespace Go.Proofs.YtoacignhobchbaaGreatDoor
open Go.RowKit

def isD (c : UInt8) : Bool := decide (48 ≤ c.toNat) && decide (c.toNat ≤ 57)
theorem isD_iff {c : UInt8} : isD c = true ↔ 48 ≤ c.toNat ∧ c.toNat ≤ 57 := by simp [isD]
/-- the number that digits say -/
def num (l : List UInt8) : Nat := l.foldl (fun n c => 10 * n + (c.toNat - 48)) 0
theorem num_snoc (l : List UInt8) (c : UInt8) : num (l ++ [c]) = 10 * num l + (c.toNat - 48) := by simp [num]
theorem snoc_cases (l : List UInt8) : l = [] ∨ ∃ a c, l = a ++ [c] := by
  cases h : l.reverse with
  | nil => exact .inl (by simpa using h)
  | cons c r => exact .inr ⟨r.reverse, c, by have := congrArg List.reverse h; simpa using this⟩
theorem num_lt (l : List UInt8) (h : l.all isD = true) : num l < 10 ^ l.length := by
  obtain ⟨n, hn⟩ : ∃ n, l.length = n := ⟨_, rfl⟩
  induction n generalizing l with
  | zero => rw [List.length_eq_zero_iff.1 hn]; decide
  | succ n ih =>
    rcases snoc_cases l with rfl | ⟨a, c, rfl⟩
    · simp at hn
    · simp only [List.all_append, Bool.and_eq_true, List.all_cons, List.all_nil, Bool.and_true] at h
      have h1 := ih a h.1 (by simpa using hn)
      have h2 := isD_iff.1 h.2
      rw [num_snoc, List.length_append, List.length_singleton, Nat.pow_succ]
      omega
/-- 1 to 10 digits, no needless nought ahead -/
def partB (l : List UInt8) : Bool := decide (1 ≤ l.length) && decide (l.length ≤ 10) && !(decide (1 < l.length) && l.head? == some 48) && l.all isD
def partN (l : List UInt8) : Int := if partB l then (num l : Int) else 0
theorem partN_yes {l : List UInt8} (h : partB l = true) : partN l = num l := by rw [partN, if_pos h]
theorem partN_no {l : List UInt8} (h : partB l = false) : partN l = 0 := by rw [partN, h]; rfl
theorem partB_iff {l : List UInt8} : partB l = true ↔ 1 ≤ l.length ∧ l.length ≤ 10 ∧ (1 < l.length → l.head? ≠ some 48) ∧ l.all isD = true := by
  simp only [partB, Bool.and_eq_true, decide_eq_true_eq, Bool.not_eq_true', Bool.and_eq_false_imp, beq_eq_false_iff_ne, ne_eq]
  constructor
  · rintro ⟨⟨⟨a, b⟩, c⟩, d⟩; exact ⟨a, b, c, d⟩
  · rintro ⟨a, b, c, d⟩; exact ⟨⟨⟨a, b⟩, c⟩, d⟩
theorem partB_no {l : List UInt8} (h : ¬ (1 ≤ l.length ∧ l.length ≤ 10 ∧ (1 < l.length → l.head? ≠ some 48) ∧ l.all isD = true)) : partB l = false := by
  cases hp : partB l with
  | false => rfl
  | true => exact absurd (partB_iff.1 hp) h

/-- what stands ahead of the first dot, and what behind it -/
def cutA (l : List UInt8) : List UInt8 := l.takeWhile (fun c => c != 46)
def cutZ (l : List UInt8) : List UInt8 := (l.dropWhile (fun c => c != 46)).drop 1
theorem cut_hit {a b : List UInt8} (h : ∀ c ∈ a, c ≠ 46) : cutA (a ++ 46 :: b) = a ∧ cutZ (a ++ 46 :: b) = b := by
  have hp : ∀ c ∈ a, (c != 46) = true := fun c hc => by simpa using h c hc
  constructor
  · rw [cutA, List.takeWhile_append_of_pos hp]; simp
  · rw [cutZ, List.dropWhile_append_of_pos hp]; simp
theorem cut_miss {l : List UInt8} (h : ∀ c ∈ l, c ≠ 46) : cutA l = l ∧ cutZ l = [] := by
  have hp : ∀ c ∈ l, (c != 46) = true := fun c hc => by simpa using h c hc
  constructor
  · have := List.takeWhile_append_of_pos (l₂ := []) hp
    rw [cutA]; simpa using this
  · have := List.dropWhile_append_of_pos (l₂ := []) hp
    rw [cutZ]; simp at this; rw [this]; rfl
theorem dot_cases (l : List UInt8) : (∀ c ∈ l, c ≠ 46) ∨ ∃ a b, l = a ++ 46 :: b ∧ ∀ c ∈ a, c ≠ 46 := by
  induction l with
  | nil => exact .inl (by simp)
  | cons x l ih =>
    by_cases hx : x = 46
    · subst hx; exact .inr ⟨[], l, rfl, by simp⟩
    · rcases ih with h | ⟨a, b, rfl, h⟩
      · exact .inl (by simpa [hx] using h)
      · exact .inr ⟨x :: a, b, rfl, by simpa [hx] using h⟩
/-- what Read answers -/
def zRead (l : List UInt8) : Int := if partB (cutA l) && partB (cutZ l) then zMake (num (cutA l)) (num (cutZ l)) else 0
def zReadE (l : List UInt8) : Int := if partB (cutA l) && partB (cutZ l) then zMakeE (num (cutA l)) (num (cutZ l)) else 2
theorem zRead_no {l : List UInt8} (h : partB (cutA l) = false ∨ partB (cutZ l) = false) : zRead l = 0 ∧ zReadE l = 2 := by
  rcases h with h | h <;> simp [zRead, zReadE, h]
theorem zRead_yes {l : List UInt8} (h : partB (cutA l) = true) (h' : partB (cutZ l) = true) : zRead l = zMake (num (cutA l)) (num (cutZ l)) ∧ zReadE l = zMakeE (num (cutA l)) (num (cutZ l)) := by
  simp [zRead, zReadE, h, h']
end Go.Proofs.YtoacignhobchbaaGreatDoor

namespace Go.Proofs.YtoacignhobchbaaGreatDoor

structure Sv where
  up : Bool
  fs : List DF
  id : Int
  ep : Int
  ts : List WTxn
  dn : Int
  tr : Tr
  ws : List Wa
def sv0 : Sv := ⟨false, [], 0, 0, [], 0, tr0, []⟩
def epochN : List UInt8 := [101, 112, 111, 99, 104]
end Go.Proofs.YtoacignhobchbaaGreatDoor

namespace Go.Proofs.YtoacignhobchbaaGreatDoor
open Go.RowKit

def wcells (w : Wa) : List Value := [.int .i64 w.s, .int .i64 w.k, .string ⟨w.p.toArray⟩]
def ntcells (n : Nt) : List Value := [.int .i64 n.s, .int .i64 n.k, .string ⟨n.p.toArray⟩]
/-- a watch, a note as a value -/
def waV (w : Wa) : Value := .agg #[.int .i64 w.s, .int .i64 w.k, .string ⟨w.p.toArray⟩]
instance layW : Lay Wa := ⟨3, wcells, 72, fun _ => rfl, fun x u hu => by simp [wcells] at hu; rcases hu with rfl | rfl | rfl <;> rfl⟩
instance layT : Lay Nt := ⟨3, ntcells, 130, fun _ => rfl, fun x u hu => by simp [ntcells] at hu; rcases hu with rfl | rfl | rfl <;> rfl⟩
theorem RowAt.w0 {w : World} {b off : Nat} {xs : List Wa} (h : RowAt w b off (cellsL xs)) {i : Nat} {x : Wa} (hi : xs[i]? = some x) : w.cell? ⟨b, off + i * 3, none⟩ = some (.int .i64 x.s) :=
  h (i * 3) _ (cellsL_get xs i x hi 0 (by decide))
theorem RowAt.w1 {w : World} {b off : Nat} {xs : List Wa} (h : RowAt w b off (cellsL xs)) {i : Nat} {x : Wa} (hi : xs[i]? = some x) : w.cell? ⟨b, off + i * 3 + 1, none⟩ = some (.int .i64 x.k) := by
  rw [Nat.add_assoc]; exact h (i * 3 + 1) _ (cellsL_get xs i x hi 1 (by decide))
theorem RowAt.w2 {w : World} {b off : Nat} {xs : List Wa} (h : RowAt w b off (cellsL xs)) {i : Nat} {x : Wa} (hi : xs[i]? = some x) : w.cell? ⟨b, off + i * 3 + 2, none⟩ = some (.string ⟨x.p.toArray⟩) := by
  rw [Nat.add_assoc]; exact h (i * 3 + 2) _ (cellsL_get xs i x hi 2 (by decide))
theorem RowAt.t0 {w : World} {b off : Nat} {xs : List Nt} (h : RowAt w b off (cellsL xs)) {i : Nat} {x : Nt} (hi : xs[i]? = some x) : w.cell? ⟨b, off + i * 3, none⟩ = some (.int .i64 x.s) :=
  h (i * 3) _ (cellsL_get xs i x hi 0 (by decide))
theorem RowAt.t1 {w : World} {b off : Nat} {xs : List Nt} (h : RowAt w b off (cellsL xs)) {i : Nat} {x : Nt} (hi : xs[i]? = some x) : w.cell? ⟨b, off + i * 3 + 1, none⟩ = some (.int .i64 x.k) := by
  rw [Nat.add_assoc]; exact h (i * 3 + 1) _ (cellsL_get xs i x hi 1 (by decide))
theorem RowAt.t2 {w : World} {b off : Nat} {xs : List Nt} (h : RowAt w b off (cellsL xs)) {i : Nat} {x : Nt} (hi : xs[i]? = some x) : w.cell? ⟨b, off + i * 3 + 2, none⟩ = some (.string ⟨x.p.toArray⟩) := by
  rw [Nat.add_assoc]; exact h (i * 3 + 2) _ (cellsL_get xs i x hi 2 (by decide))
theorem winfo0 : (Tryz.prog.info? 72).map (fun i => (i.zero, i.size, i.bytes)) = some (some (.agg #[.int .i64 0, .int .i64 0, .string ⟨#[]⟩]), 3, 32) := by kernel_rfl
theorem winfo : ∃ i0, Tryz.prog.info? 72 = some i0 ∧ i0.zero = some (.agg #[.int .i64 0, .int .i64 0, .string ⟨#[]⟩]) ∧ i0.size = 3 ∧ i0.bytes = 32 := by
  obtain ⟨i0, h, e⟩ := Option.map_eq_some_iff.1 winfo0
  simp only [Prod.mk.injEq] at e
  exact ⟨i0, h, e⟩
theorem tinfo0 : (Tryz.prog.info? 130).map (fun i => (i.zero, i.size, i.bytes)) = some (some (.agg #[.int .i64 0, .int .i64 0, .string ⟨#[]⟩]), 3, 32) := by kernel_rfl
theorem tinfo : ∃ i0, Tryz.prog.info? 130 = some i0 ∧ i0.zero = some (.agg #[.int .i64 0, .int .i64 0, .string ⟨#[]⟩]) ∧ i0.size = 3 ∧ i0.bytes = 32 := by
  obtain ⟨i0, h, e⟩ := Option.map_eq_some_iff.1 tinfo0
  simp only [Prod.mk.injEq] at e
  exact ⟨i0, h, e⟩
/-- each path is of a length that a machine has -/
def Short (ws : List Wa) : Prop := ∀ x ∈ ws, x.p.length ≤ 140737488355328
def ShortE (es : List Ev) : Prop := ∀ x ∈ es, x.p.length ≤ 140737488355328

end Go.Proofs.YtoacignhobchbaaGreatDoor

namespace Go.Proofs.YtoacignhobchbaaGreatDoor
open Go.RowKit

theorem dbox_then {w : World} {o : Obj} {w1 : World} (h : Below (w.alloc o).heap.size (w.alloc o) w1) : Below w.heap.size w w1 :=
  ((Below.refl _ _).alloc (Nat.le_refl _) _).trans (h.mono (by simp))

set_option maxRecDepth 10000 in
set_option maxHeartbeats 400000 in
theorem dsize_any (f : DF) (w : World) (h : f.s.length + f.t.length ≤ 9223372036854775807) :
    Calls Tryz.prog 94 #[fileV f] w fun e w' => e = .returned (.int .i64 ((f.s.length + f.t.length : Nat) : Int)) ∧ Below w.heap.size w w' := by
  unfold fileV
  go_enter Tryz.func94, Tryz.ntmps94
  go_wp2
  go_ret
  exact ⟨rfl, (Below.refl _ _).alloc (Nat.le_refl _) _⟩

set_option maxRecDepth 10000 in
set_option maxHeartbeats 400000 in
theorem cmp1_any (f : DF) (name : List UInt8) (w : World) :
    Calls Tryz.prog 123 #[fileV f, .string ⟨name.toArray⟩] w fun e w' => e = .returned (.int .i64 (Lib.compareBytes f.n name)) ∧ Below w.heap.size w w' := by
  unfold fileV
  go_enter Tryz.func123, Tryz.ntmps123
  go_wp2_with fail
  refine (Tryz.strings_Compare _ _ _).mono ?_
  rintro e w1 ⟨rfl, rfl⟩
  go_wp2_with fail
  go_ret
  exact ⟨rfl, (Below.refl _ _).alloc (Nat.le_refl _) _⟩

def headIs (R : List DF) (name : List UInt8) : Bool := match R with
  | [] => false
  | f :: _ => decide (f.n = name)
theorem split_get (A R : List DF) (name : List UInt8) (lo : ∀ a ∈ A, bl a.n name = true) (hi : ∀ a ∈ R, bl a.n name = false) (i : Nat) (h : i < A.length + R.length) : ∃ y, (A ++ R)[i]? = some y ∧ bl y.n name = decide (i < A.length) := by
  by_cases h1 : i < A.length
  · refine ⟨A[i], by rw [List.getElem?_append_left h1, List.getElem?_eq_getElem h1], ?_⟩
    rw [lo _ (List.getElem_mem h1)]; simp [h1]
  · have h2 : i - A.length < R.length := by omega
    refine ⟨R[i - A.length], by rw [List.getElem?_append_right (by omega), List.getElem?_eq_getElem h2], ?_⟩
    rw [hi _ (List.getElem_mem h2)]; simp [h1]

set_option maxRecDepth 10000 in
set_option maxHeartbeats 1000000 in
theorem bsf_any (b off cap : Nat) (A R : List DF) (name : List UInt8) (w : World) (hcap : A.length + R.length ≤ 16) (hb : b < w.heap.size) (h : RowAt w b off (cellsF (A ++ R)))
    (lo : ∀ a ∈ A, bl a.n name = true) (hi : ∀ a ∈ R, bl a.n name = false) :
    Calls Tryz.prog 122 #[.slice (some ⟨b, off, none⟩) (A.length + R.length) cap, .string ⟨name.toArray⟩, .func (.func 123) #[] #[]] w fun e w' =>
      e = .returned (.tuple #[.int .i64 A.length, .bool (headIs R name)]) ∧ Below w.heap.size w w' := by
  have H := hide h
  have SG := hide (split_get A R name lo hi)
  obtain ⟨fin, hfin⟩ : ∃ x, headIs R name = x := ⟨_, rfl⟩
  have HF := hide hfin
  rw [hfin]
  clear h hfin lo hi
  go_enter Tryz.func122, Tryz.ntmps122
  go_wp2_with fail
  go_loopg [9, 10] (A.length + R.length) (fun kx s9 s10 wr => ∃ lo hi : Nat, s9 = .int .i64 lo ∧ s10 = .int .i64 hi ∧ lo ≤ A.length ∧ A.length ≤ hi ∧ hi ≤ A.length + R.length ∧ hi - lo ≤ kx ∧ Hid (Below w.heap.size w wr))
  case atStart => exact ⟨0, A.length + R.length, rfl, rfl, Nat.zero_le _, by omega, Nat.le_refl _, by omega, hide (Below.refl _ _)⟩
  case round =>
    obtain ⟨lo, hi, rfl, rfl, h1, h2, h3, hg, hB⟩ := hrel
    by_cases hlt : lo < hi
    · obtain ⟨y, hy, hyn⟩ := unhide SG ((lo + hi) / 2) (by omega)
      have HY := hide hyn
      have r := (unhide H).kept (unhide hB) hb
      have e0 := r.c0 hy
      have e1 := r.c1 hy
      have e2 := r.c2 hy
      clear hyn hy r
      have hc := cmp_bl y.n name
      rw [unhide HY] at hc
      have CM := fun W => cmp1_any y name W
      generalize Lib.compareBytes y.n name = cv at hc CM
      by_cases hm : (lo + hi) / 2 < A.length
      · have hn : cv < 0 := by simpa [hm] using hc
        clear hc
        go_wp2_with fail
        refine (CM _).mono ?_
        rintro e w1 ⟨rfl, hb1⟩
        have hB2 : Below w.heap.size w w1 := (unhide hB).trans (hb1.mono (unhide hB).size)
        clear CM
        go_wp2_with fail
        go_roundg (hi - ((lo + hi) / 2 + 1))
        case measure => omega
        case rel => exact ⟨(lo + hi) / 2 + 1, hi, by rw [show ((lo : Int) + (hi : Int)) / 2 + 1 = (((lo + hi) / 2 + 1 : Nat) : Int) by omega], rfl, by omega, h2, h3, Nat.le_refl _, hide hB2⟩
      · have hn : ¬ cv < 0 := by simpa [hm] using hc
        clear hc
        go_wp2_with fail
        refine (CM _).mono ?_
        rintro e w1 ⟨rfl, hb1⟩
        have hB2 : Below w.heap.size w w1 := (unhide hB).trans (hb1.mono (unhide hB).size)
        clear CM
        go_wp2_with fail
        go_roundg ((lo + hi) / 2 - lo)
        case measure => omega
        case rel => exact ⟨lo, (lo + hi) / 2, rfl, by rw [show ((lo : Int) + (hi : Int)) / 2 = (((lo + hi) / 2 : Nat) : Int) by omega], h1, by omega, by omega, Nat.le_refl _, hide hB2⟩
    · obtain rfl : lo = A.length := by omega
      obtain rfl : hi = A.length := by omega
      cases R with
      | nil =>
        go_wp2_with fail
        go_ret2
        exact ⟨by rw [← unhide HF]; rfl, unhide hB⟩
      | cons f R =>
        have r := (unhide H).kept (unhide hB) hb
        have hy : (A ++ f :: R)[A.length]? = some f := by simp
        have e0 := r.c0 hy
        have e1 := r.c1 hy
        have e2 := r.c2 hy
        clear hy r
        have hc := cmp_zero f.n name
        have CM := fun W => cmp1_any f name W
        have hf : fin = decide (f.n = name) := (unhide HF).symm
        rw [← hc] at hf
        clear hc HF
        generalize Lib.compareBytes f.n name = cv at hf CM
        subst hf
        simp only [List.length_cons]
        go_wp2_with fail
        refine (CM _).mono ?_
        rintro e w1 ⟨rfl, hb1⟩
        have hB2 : Below w.heap.size w w1 := (unhide hB).trans (hb1.mono (unhide hB).size)
        clear CM
        go_wp2_with fail
        go_ret2
        exact ⟨by rfl, hB2⟩

set_option maxRecDepth 10000 in
set_option maxHeartbeats 400000 in
theorem bsf_none (a : Option Addr) (cap : Nat) (name : List UInt8) (w : World) :
    Calls Tryz.prog 122 #[.slice a 0 cap, .string ⟨name.toArray⟩, .func (.func 123) #[] #[]] w fun e w' =>
      e = .returned (.tuple #[.int .i64 0, .bool false]) ∧ Below w.heap.size w w' := by
  go_enter Tryz.func122, Tryz.ntmps122
  go_wp2_with fail
  go_loopg [9, 10] 1 (fun _ s9 s10 wr => s9 = .int .i64 0 ∧ s10 = .int .i64 0 ∧ Hid (Below w.heap.size w wr))
  case atStart => exact ⟨rfl, rfl, hide (Below.refl _ _)⟩
  case round =>
    obtain ⟨rfl, rfl, hB⟩ := hrel
    go_wp2_with fail
    go_ret2
    exact ⟨rfl, unhide hB⟩

set_option maxRecDepth 10000 in
set_option maxHeartbeats 400000 in
theorem find_split (v : Value) (fs A R : List DF) (name : List UInt8) (w : World) (hv : DiskV w v fs) (hl : fs.length ≤ 16) (he : fs = A ++ R) (lo : ∀ a ∈ A, bl a.n name = true) (hi : ∀ a ∈ R, bl a.n name = false) :
    Calls Tryz.prog 93 #[.agg #[v], .string ⟨name.toArray⟩] w fun e w' => e = .returned (.tuple #[.int .i64 A.length, .bool (headIs R name)]) ∧ Below w.heap.size w w' := by
  have C : ∀ W : World, Below w.heap.size w W → Calls Tryz.prog 122 #[v, .string ⟨name.toArray⟩, .func (.func 123) #[] #[]] W fun e w' =>
      e = .returned (.tuple #[.int .i64 A.length, .bool (headIs R name)]) ∧ Below W.heap.size W w' := fun W hW => by
    rcases hv with ⟨a, cap, rfl, h0, _⟩ | ⟨b, off, cap, rfl, _, _, hb, _, hr⟩
    · rw [h0] at he
      obtain ⟨rfl, rfl⟩ : A = [] ∧ R = [] := by
        have := congrArg List.length he
        simp at this
        exact ⟨List.eq_nil_of_length_eq_zero (by omega), List.eq_nil_of_length_eq_zero (by omega)⟩
      exact bsf_none a cap name W
    · subst he
      rw [List.length_append]
      exact bsf_any b off cap A R name W (by simpa using hl) (Nat.lt_of_lt_of_le hb hW.size) (hr.kept hW hb) lo hi
  have C' := hide C
  have V : ∃ a n c, v = .slice a n c := by
    rcases hv with ⟨a, cap, rfl, _, _⟩ | ⟨b, off, cap, rfl, _⟩
    · exact ⟨_, _, _, rfl⟩
    · exact ⟨_, _, _, rfl⟩
  obtain ⟨a, n, c, rfl⟩ := V
  clear C hv hl he lo hi
  generalize headIs R name = hd at C' ⊢
  go_enter Tryz.func93, Tryz.ntmps93
  go_wp2_with fail
  refine (unhide C' _ ((Below.refl _ _).alloc (Nat.le_refl _) _)).mono ?_
  rintro e w1 ⟨rfl, hb1⟩
  have hbz := dbox_then hb1
  go_wp2_with fail
  go_ret2
  exact ⟨rfl, hbz⟩
theorem find_there (v : Value) (fs A B : List DF) (f : DF) (name : List UInt8) (w : World) (hv : DiskV w v fs) (hl : fs.length ≤ 16) (T : There fs A f B name) :
    Calls Tryz.prog 93 #[.agg #[v], .string ⟨name.toArray⟩] w fun e w' => e = .returned (.tuple #[.int .i64 A.length, .bool true]) ∧ Below w.heap.size w w' := by
  have := find_split v fs A (f :: B) name w hv hl T.eq T.lo (fun a ha => by
    rcases List.mem_cons.1 ha with rfl | h
    · rw [T.nm]; exact bl_irrefl _
    · exact bl_asymm (T.hi a h))
  rwa [show headIs (f :: B) name = true from by simp [headIs, T.nm]] at this
theorem find_gap (v : Value) (fs A B : List DF) (name : List UInt8) (w : World) (hv : DiskV w v fs) (hl : fs.length ≤ 16) (G : Gap fs A B name) :
    Calls Tryz.prog 93 #[.agg #[v], .string ⟨name.toArray⟩] w fun e w' => e = .returned (.tuple #[.int .i64 A.length, .bool false]) ∧ Below w.heap.size w w' := by
  have := find_split v fs A B name w hv hl G.eq G.lo (fun a ha => bl_asymm (G.hi a ha))
  rwa [show headIs B name = false from by
    cases B with
    | nil => rfl
    | cons f B => have := bl_ne (G.hi f (by simp)); simp [headIs, this.symm]] at this

end Go.Proofs.YtoacignhobchbaaGreatDoor

namespace Go.Proofs.YtoacignhobchbaaGreatDoor
open Go.RowKit

theorem fileOk_short {f : DF} (h1 : namedB f.n = false) : fileOk f = false := by simp [fileOk, h1]
theorem fileOk_long {f : DF} (h : 1048576 < f.s.length + f.t.length) : fileOk f = false := by simp [fileOk]; intro _; omega
theorem fileOk_yes {f : DF} (h1 : namedB f.n = true) (h : f.s.length + f.t.length ≤ 1048576) : fileOk f = true := by simp [fileOk, h1, h]
theorem dbcell {W w1 : World} (hb : Below W.heap.size W w1) : (∀ b o, b < W.heap.size → w1.cell? ⟨b, o, none⟩ = W.cell? ⟨b, o, none⟩) ∧ (∀ b o, b < W.heap.size → w1.frozen? ⟨b, o, none⟩ = W.frozen? ⟨b, o, none⟩) :=
  ⟨fun b o h => hb.cell (p := ⟨b, o, none⟩) h, fun b o h => hb.frozen (p := ⟨b, o, none⟩) h⟩
/-- each text is no longer than memory may hold -/
def Slim (fs : List DF) : Prop := ∀ f ∈ fs, f.n.length ≤ 140737488355328 ∧ f.s.length ≤ 140737488355328 ∧ f.t.length ≤ 140737488355328
theorem dnamed (n : List UInt8) (h : n.length ≤ 140737488355328) (w : World) :
    Calls Tryz.prog 92 #[.string ⟨n.toArray⟩] w fun e w' => e = .returned (.bool (namedB n)) ∧ w' = w :=
  named_any ⟨n.toArray⟩ w (by have : (ByteArray.mk n.toArray).size = n.length := rfl; unfold maxLen; omega)

set_option maxRecDepth 10000 in
set_option maxHeartbeats 1000000 in
theorem dgood_none (a : Option Addr) (cap : Nat) (w : World) :
    Calls Tryz.prog 91 #[.agg #[.slice a 0 cap]] w fun e w' => e = .returned (.bool true) ∧ Below w.heap.size w w' := by
  go_enter Tryz.func91, Tryz.ntmps91
  go_wp2_with fail
  go_loopg [12] 1 (fun _ s12 wr => s12 = .int .i64 0 ∧ Hid (Below w.heap.size w wr))
  case atStart => exact ⟨rfl, hide ((Below.refl _ _).alloc (Nat.le_refl _) _)⟩
  case round =>
    obtain ⟨rfl, hB⟩ := hrel
    go_wp2_with fail
    go_ret
    exact ⟨rfl, unhide hB⟩

set_option maxRecDepth 10000 in
set_option maxHeartbeats 1000000 in
theorem dgood_long (b off cap n : Nat) (hn : 16 < n) (w : World) :
    Calls Tryz.prog 91 #[.agg #[.slice (some ⟨b, off, none⟩) n cap]] w fun e w' => e = .returned (.bool false) ∧ Below w.heap.size w w' := by
  go_enter Tryz.func91, Tryz.ntmps91
  go_wp2_with fail
  go_ret
  exact ⟨rfl, (Below.refl _ _).alloc (Nat.le_refl _) _⟩

set_option maxRecDepth 10000 in
set_option maxHeartbeats 2000000 in
theorem dgood_some (b off cap : Nat) (fs : List DF) (w : World) (hs : Slim fs) (hl : fs.length ≤ 16) (hb : b < w.heap.size) (h : RowAt w b off (cellsF fs)) :
    Calls Tryz.prog 91 #[.agg #[.slice (some ⟨b, off, none⟩) fs.length cap]] w fun e w' => e = .returned (.bool (goodD fs)) ∧ Below w.heap.size w w' := by
  have H := hide h
  have HS := hide hs
  have NO := hide (fun (k : Nat) (f : DF) => @bad_file fs k f)
  have NR := hide (fun (k : Nat) (f g : DF) => @bad_order fs k f g)
  have YES := hide (good_of_okTo hl)
  have Z := hide (okTo_zero fs)
  have SU := hide (fun (k : Nat) (f : DF) (h : OkTo fs k) => okTo_succ (f := f) h)
  have hb0 : b ≠ w.heap.size := by omega
  clear h hs
  generalize goodD fs = G at NO NR YES ⊢
  go_enter Tryz.func91, Tryz.ntmps91
  go_wp2_with fail
  go_loopg [12] fs.length (fun kx s12 wr => ∃ k : Nat, s12 = .int .i64 k ∧ k ≤ fs.length ∧ fs.length - k ≤ kx ∧ Hid (Below w.heap.size w wr ∧ w.heap.size < wr.heap.size ∧ wr.cell? ⟨w.heap.size, 0, none⟩ = some (.slice (some ⟨b, off, none⟩) fs.length cap)) ∧ Hid (OkTo fs k))
  case atStart => exact ⟨0, rfl, Nat.zero_le _, by omega, hide ⟨(Below.refl _ _).alloc (Nat.le_refl _) _, by simp, by simp⟩, Z⟩
  case round =>
    obtain ⟨k, rfl, hk, hg, hB, hO⟩ := hrel
    by_cases hlt : k < fs.length
    · obtain ⟨f, hf⟩ : ∃ f, fs[k]? = some f := ⟨_, List.getElem?_eq_getElem hlt⟩
      have HF := hide hf
      have r := (unhide H).kept (unhide hB).1 hb
      have e0 := r.c0 hf
      have e1 := r.c1 hf
      have e2 := r.c2 hf
      have hsl := unhide HS f (List.mem_of_getElem? hf)
      have hbw : b < wr.heap.size := Nat.lt_of_lt_of_le hb (unhide hB).1.size
      have h00 := (unhide hB).2.2
      clear hf r
      cases hn : namedB f.n with
      | false =>
        have HN := hide hn
        have CN := fun W => dnamed f.n hsl.1 W
        rw [hn] at CN
        clear hn
        go_wp2_with fail
        refine (CN _).mono ?_
        rintro e w1 ⟨rfl, rfl⟩
        clear CN
        go_wp2_with fail
        go_ret
        exact ⟨ret_bool (unhide NO k f (unhide HF) (fileOk_short (unhide HN))).symm, (unhide hB).1.alloc (by have := (unhide hB).1.size; omega) _⟩
      | true =>
        have HN := hide hn
        have CN := fun W => dnamed f.n hsl.1 W
        rw [hn] at CN
        clear hn
        have HL := hide hsl
        have hsum : f.s.length + f.t.length ≤ 9223372036854775807 := by omega
        have CS := fun W => dsize_any f W hsum
        obtain ⟨L, hL⟩ : ∃ L, f.s.length + f.t.length = L := ⟨_, rfl⟩
        rw [hL] at CS
        have HL2 := hide hL
        have hLb : L ≤ 9223372036854775807 := by omega
        clear hsl hsum hL
        go_wp2_with fail
        refine (CN _).mono ?_
        rintro e w1 ⟨rfl, rfl⟩
        clear CN
        by_cases hbig : L ≤ 1048576
        · have hok := fileOk_yes (unhide HN) (by rw [unhide HL2]; exact hbig)
          go_wp2_with fail
          refine (CS _).mono ?_
          rintro e w2 ⟨rfl, hb2⟩
          clear CS
          obtain ⟨hc, hf⟩ := dbcell hb2
          have hB2 : Below w.heap.size w w2 := (unhide hB).1.trans (dbox_then hb2 |>.mono (unhide hB).1.size)
          have h01 : w2.cell? ⟨w.heap.size, 0, none⟩ = some (.slice (some ⟨b, off, none⟩) fs.length cap) := by
            rw [hc _ _ (by have := (unhide hB).2.1; simp; omega), ((Below.refl wr.heap.size wr).alloc (Nat.le_refl _) _).cell (p := ⟨w.heap.size, 0, none⟩) (unhide hB).2.1]; exact h00
          have hz : w2.cell? ⟨wr.heap.size, 0, none⟩ = some (.string ⟨f.n.toArray⟩) := by
            rw [hc _ _ (by simp)]; simp
          have hlt2 : w.heap.size < w2.heap.size := by have := hb2.size; have := (unhide hB).2.1; simp at *; omega
          clear hc hf hb2 h00 e0 e1 e2
          rcases Nat.eq_zero_or_pos k with hk0 | hk0
          · subst hk0
            have OK2 := hide (unhide SU 0 f (unhide hO) (unhide HF) hok (fun g h => absurd h (Nat.lt_irrefl 0)))
            go_wp2_with fail
            go_region
            go_wp2_with fail
            go_roundg (fs.length - 1)
            case measure => omega
            case rel => exact ⟨1, rfl, by omega, Nat.le_refl _, hide ⟨hB2.drew, hlt2, h01⟩, OK2⟩
          · obtain ⟨m, rfl⟩ : ∃ m, k = m + 1 := ⟨k - 1, by omega⟩
            obtain ⟨g, hg⟩ : ∃ g, fs[m]? = some g := ⟨_, List.getElem?_eq_getElem (by omega)⟩
            have r := (unhide H).kept hB2 hb
            have e0 := r.c0 hg
            have HG := hide hg
            clear r hg
            have hm1 : (m : Int) < (fs.length : Int) := by omega
            cases hbl : bl g.n f.n with
            | true =>
              have OK2 := hide (unhide SU (m + 1) f (unhide hO) (unhide HF) hok (fun g' _ h => by
                rw [Nat.add_sub_cancel, unhide HG] at h
                cases h
                exact hbl))
              have hbl' : Op.bytesLess g.n f.n = true := hbl
              clear hbl
              go_wp2_with fail
              go_region
              go_wp2_with fail
              go_roundg (fs.length - (m + 1 + 1))
              case measure => omega
              case rel => exact ⟨m + 1 + 1, rfl, by omega, Nat.le_refl _, hide ⟨hB2.drew, hlt2, h01⟩, OK2⟩
            | false =>
              have hbl' : Op.bytesLess g.n f.n = false := hbl
              have GF := (unhide NR (m + 1) f g (unhide HF) (by simpa using unhide HG) (by omega) hbl).symm
              have HGF := hide GF
              clear hbl GF
              go_wp2_with fail
              go_region
              go_wp2_with fail
              go_ret
              exact ⟨ret_bool (unhide HGF), hB2.drew⟩
        · go_wp2_with fail
          refine (CS _).mono ?_
          rintro e w2 ⟨rfl, hb2⟩
          have hB2 : Below w.heap.size w w2 := (unhide hB).1.trans (dbox_then hb2 |>.mono (unhide hB).1.size)
          clear CS hb2
          go_wp2_with fail
          go_ret
          exact ⟨ret_bool (unhide NO k f (unhide HF) (fileOk_long (by rw [unhide HL2]; omega))).symm, hB2⟩
    · have hkk : k = fs.length := by omega
      subst hkk
      go_wp2_with fail
      go_ret
      exact ⟨ret_bool (unhide YES (unhide hO)).symm, (unhide hB).1⟩

theorem goodD_nil : goodD [] = true := goodD_true.2 ⟨by decide, by simp, List.Pairwise.nil⟩
theorem dgood_any (v : Value) (fs : List DF) (w : World) (hv : DiskV w v fs) (hs : Slim fs) :
    Calls Tryz.prog 91 #[.agg #[v]] w fun e w' => e = .returned (.bool (goodD fs)) ∧ Below w.heap.size w w' := by
  rcases hv with ⟨a, cap, rfl, rfl, _⟩ | ⟨b, off, cap, rfl, _, _, hb, _, hr⟩
  · rw [goodD_nil]; exact dgood_none a cap w
  · by_cases hl : fs.length ≤ 16
    · exact dgood_some b off cap fs w hs hl hb hr
    · rw [bad_len (by omega)]; exact dgood_long b off cap fs.length (by omega) w
end Go.Proofs.YtoacignhobchbaaGreatDoor
