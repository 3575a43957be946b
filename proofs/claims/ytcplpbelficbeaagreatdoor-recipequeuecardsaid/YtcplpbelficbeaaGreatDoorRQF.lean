/-
  What tree.find, tree.Open, tree.copied and tree.Get answer, with slices.BinarySearchFunc's and slices.BinarySearch's own texts: the walks.
  Copies of runs: the builtin's own laws, whatever the elements are.
  Runs of cells stored into a row of the call's own, whatever its elements are; copies of runs.
-/
import Derived.Test.YtcplpbelficbeaaGreatDoorRQE
import Derived.Test.YtcplpbelficbeaaGreatDoorShelf
import Derived.Test.YtcplpbelficbeaaGreatDoorRQD
import Derived.Laws.IdiomCopy
import Derived.Lib.AppendZeros
import Derived.Lib.JoinLaws
import Derived.Lib.SliceRun
import Derived.Lib.QuietBelow
import Derived.Deep.RegionHeld3
import Derived.BigQuiet
import Derived.Deep.RegionLaw
import Derived.Lib.AppendZerosOnto
import Derived.Lib.Overlaps
import Derived.Laws.Externs
import Derived.Maps.AppendAt
namespace Go.Proofs.YtcplpbelficbeaaGreatDoor
open Go.RowKit

/-- path.Split, at every text -/
theorem split_any (p : List UInt8) (w : World) :
    Calls Tryz.prog 44 #[.string ⟨p.toArray⟩] w fun e w' =>
      e = .returned (.tuple #[.string ⟨(dirOf p).toArray⟩, .string ⟨(stepOf p).toArray⟩, .int .i64 (splE p)]) ∧ Below w.heap.size w w' := by
  cases hg : goodB p with
  | false =>
    rw [dirOf_bad hg, stepOf_bad hg, splE_bad hg]
    exact split_bad p w hg
  | true =>
    by_cases hr : p = [47]
    · subst hr
      rw [dirOf_root, stepOf_root, splE_root]
      exact split_root w
    · obtain ⟨a, b, rfl, hb⟩ := good_cut hg
      rw [dirOf_cut hg hr hb, stepOf_cut hg hr hb, splE_ok hg hr]
      exact split_main a b w hb hg hr

set_option maxRecDepth 10000 in
set_option maxHeartbeats 400000 in
theorem ncmp_any (n : Nd) (p : List UInt8) (w : World) :
    Calls Tryz.prog 64 #[nodeV n, .string ⟨p.toArray⟩] w fun e w' => e = .returned (.int .i64 (Lib.compareBytes n.p p)) ∧ Below w.heap.size w w' := by
  unfold nodeV
  go_enter Tryz.func64, Tryz.ntmps64
  go_wp2_with fail
  refine (Tryz.strings_Compare _ _ _).mono ?_
  rintro e w1 ⟨rfl, rfl⟩
  go_wp2_with fail
  go_ret
  exact ⟨rfl, allocB _ _⟩

def headP (R : List Nd) (p : List UInt8) : Bool := match R with
  | [] => false
  | f :: _ => decide (f.p = p)
theorem nsplit_get (A R : List Nd) (p : List UInt8) (lo : ∀ a ∈ A, bl a.p p = true) (hi : ∀ a ∈ R, bl a.p p = false) (i : Nat) (h : i < A.length + R.length) : ∃ y, (A ++ R)[i]? = some y ∧ bl y.p p = decide (i < A.length) := by
  by_cases h1 : i < A.length
  · refine ⟨A[i], by rw [List.getElem?_append_left h1, List.getElem?_eq_getElem h1], ?_⟩
    rw [lo _ (List.getElem_mem h1)]; simp [h1]
  · have h2 : i - A.length < R.length := by omega
    refine ⟨R[i - A.length], by rw [List.getElem?_append_right (by omega), List.getElem?_eq_getElem h2], ?_⟩
    rw [hi _ (List.getElem_mem h2)]; simp [h1]

set_option maxRecDepth 20000 in
set_option maxHeartbeats 1000000 in
theorem nbsf_any (b off cap : Nat) (A R : List Nd) (p : List UInt8) (w : World) (hcap : A.length + R.length ≤ 100000) (hb : b < w.heap.size) (h : RowAt w b off (cellsL (A ++ R)))
    (lo : ∀ a ∈ A, bl a.p p = true) (hi : ∀ a ∈ R, bl a.p p = false) :
    Calls Tryz.prog 63 #[.slice (some ⟨b, off, none⟩) (A.length + R.length) cap, .string ⟨p.toArray⟩, .func (.func 64) #[] #[]] w fun e w' =>
      e = .returned (.tuple #[.int .i64 A.length, .bool (headP R p)]) ∧ Below w.heap.size w w' := by
  have H := hide h
  have SG := hide (nsplit_get A R p lo hi)
  obtain ⟨fin, hfin⟩ : ∃ x, headP R p = x := ⟨_, rfl⟩
  have HF := hide hfin
  rw [hfin]
  clear h hfin lo hi
  go_enter Tryz.func63, Tryz.ntmps63
  go_wp2_with fail
  go_loopg [9, 10] (A.length + R.length) (fun kx s9 s10 wr => ∃ lo hi : Nat, s9 = .int .i64 lo ∧ s10 = .int .i64 hi ∧ lo ≤ A.length ∧ A.length ≤ hi ∧ hi ≤ A.length + R.length ∧ hi - lo ≤ kx ∧ Hid (Below w.heap.size w wr))
  case atStart => exact ⟨0, A.length + R.length, rfl, rfl, Nat.zero_le _, by omega, Nat.le_refl _, by omega, hide (Below.refl _ _)⟩
  case round =>
    obtain ⟨lo, hi, rfl, rfl, h1, h2, h3, hg, hB⟩ := hrel
    by_cases hlt : lo < hi
    · obtain ⟨y, hy, hyn⟩ := unhide SG ((lo + hi) / 2) (by omega)
      have HY := hide hyn
      have r := (unhide H).kept (unhide hB) hb
      have e0 := r.n0 hy
      have e1 := r.n1 hy
      have e2 := r.n2 hy
      have e3 := r.n3 hy
      have e4 := r.n4 hy
      have e5 := r.n5 hy
      have e6 := r.n6 hy
      have e7 := r.n7 hy
      have e8 := r.n8 hy
      clear hyn hy r
      have hc := cmp_bl y.p p
      rw [unhide HY] at hc
      have CM := fun W => ncmp_any y p W
      generalize Lib.compareBytes y.p p = cv at hc CM
      by_cases hm : (lo + hi) / 2 < A.length
      · have hn : cv < 0 := by simpa [hm] using hc
        clear hc
        go_wp2_with fail
        refine (CM _).mono ?_
        rintro e w1 ⟨rfl, hb1⟩
        have hB2 : Below w.heap.size w w1 := (unhide hB).trans (hb1.mono (unhide hB).size)
        clear CM
        go_wp2_with fail
        go_roundg (hi - ((lo + hi) / 2 + 1))
        case measure => omega
        case rel => exact ⟨(lo + hi) / 2 + 1, hi, by rw [show ((lo : Int) + (hi : Int)) / 2 + 1 = (((lo + hi) / 2 + 1 : Nat) : Int) by omega], rfl, by omega, h2, h3, Nat.le_refl _, hide hB2⟩
      · have hn : ¬ cv < 0 := by simpa [hm] using hc
        clear hc
        go_wp2_with fail
        refine (CM _).mono ?_
        rintro e w1 ⟨rfl, hb1⟩
        have hB2 : Below w.heap.size w w1 := (unhide hB).trans (hb1.mono (unhide hB).size)
        clear CM
        go_wp2_with fail
        go_roundg ((lo + hi) / 2 - lo)
        case measure => omega
        case rel => exact ⟨lo, (lo + hi) / 2, rfl, by rw [show ((lo : Int) + (hi : Int)) / 2 = (((lo + hi) / 2 : Nat) : Int) by omega], h1, by omega, by omega, Nat.le_refl _, hide hB2⟩
    · obtain rfl : lo = A.length := by omega
      obtain rfl : hi = A.length := by omega
      cases R with
      | nil =>
        go_wp2_with fail
        go_ret2
        exact ⟨by rw [← unhide HF]; rfl, unhide hB⟩
      | cons f R =>
        have r := (unhide H).kept (unhide hB) hb
        have hy : (A ++ f :: R)[A.length]? = some f := by simp
        have e0 := r.n0 hy
        have e1 := r.n1 hy
        have e2 := r.n2 hy
        have e3 := r.n3 hy
        have e4 := r.n4 hy
        have e5 := r.n5 hy
        have e6 := r.n6 hy
        have e7 := r.n7 hy
        have e8 := r.n8 hy
        clear hy r
        have hc := cmp_zero f.p p
        have CM := fun W => ncmp_any f p W
        have hf : fin = decide (f.p = p) := (unhide HF).symm
        rw [← hc] at hf
        clear hc HF
        generalize Lib.compareBytes f.p p = cv at hf CM
        subst hf
        simp only [List.length_cons]
        go_wp2_with fail
        refine (CM _).mono ?_
        rintro e w1 ⟨rfl, hb1⟩
        have hB2 : Below w.heap.size w w1 := (unhide hB).trans (hb1.mono (unhide hB).size)
        clear CM
        go_wp2_with fail
        go_ret2
        exact ⟨by rfl, hB2⟩

set_option maxRecDepth 10000 in
set_option maxHeartbeats 400000 in
theorem nbsf_none (a : Option Addr) (cap : Nat) (p : List UInt8) (w : World) :
    Calls Tryz.prog 63 #[.slice a 0 cap, .string ⟨p.toArray⟩, .func (.func 64) #[] #[]] w fun e w' =>
      e = .returned (.tuple #[.int .i64 0, .bool false]) ∧ Below w.heap.size w w' := by
  go_enter Tryz.func63, Tryz.ntmps63
  go_wp2_with fail
  go_loopg [9, 10] 1 (fun _ s9 s10 wr => s9 = .int .i64 0 ∧ s10 = .int .i64 0 ∧ Hid (Below w.heap.size w wr))
  case atStart => exact ⟨rfl, rfl, hide (Below.refl _ _)⟩
  case round =>
    obtain ⟨rfl, rfl, hB⟩ := hrel
    go_wp2_with fail
    go_ret2
    exact ⟨rfl, unhide hB⟩

set_option maxRecDepth 10000 in
set_option maxHeartbeats 400000 in
theorem nfind_split (v : Value) (ns A R : List Nd) (p : List UInt8) (w : World) (hv : SeqV w v ns) (hl : ns.length ≤ 100000) (he : ns = A ++ R) (lo : ∀ a ∈ A, bl a.p p = true) (hi : ∀ a ∈ R, bl a.p p = false) :
    Calls Tryz.prog 43 #[v, .string ⟨p.toArray⟩] w fun e w' => e = .returned (.tuple #[.int .i64 A.length, .bool (headP R p)]) ∧ Below w.heap.size w w' := by
  have C : ∀ W : World, Below w.heap.size w W → Calls Tryz.prog 63 #[v, .string ⟨p.toArray⟩, .func (.func 64) #[] #[]] W fun e w' =>
      e = .returned (.tuple #[.int .i64 A.length, .bool (headP R p)]) ∧ Below W.heap.size W w' := fun W hW => by
    rcases hv with ⟨a, cap, rfl, h0, _⟩ | ⟨b, off, cap, rfl, _, _, hb, _, hr⟩
    · rw [h0] at he
      obtain ⟨rfl, rfl⟩ : A = [] ∧ R = [] := by
        have := congrArg List.length he
        simp at this
        exact ⟨List.eq_nil_of_length_eq_zero (by omega), List.eq_nil_of_length_eq_zero (by omega)⟩
      exact nbsf_none a cap p W
    · subst he
      rw [List.length_append]
      exact nbsf_any b off cap A R p W (by simpa using hl) (Nat.lt_of_lt_of_le hb hW.size) (hr.kept hW hb) lo hi
  have C' := hide C
  obtain ⟨a, c, rfl⟩ := seq_slice hv
  clear C hv hl he lo hi
  generalize headP R p = hd at C' ⊢
  go_enter Tryz.func43, Tryz.ntmps43
  go_wp2_with fail
  refine (unhide C' _ (Below.refl _ _)).mono ?_
  rintro e w1 ⟨rfl, hb1⟩
  go_wp2_with fail
  go_ret2
  exact ⟨rfl, hb1⟩
theorem nfind_there (v : Value) (ns A B : List Nd) (f : Nd) (p : List UInt8) (w : World) (hv : SeqV w v ns) (hl : ns.length ≤ 100000) (T : NThere ns A f B p) :
    Calls Tryz.prog 43 #[v, .string ⟨p.toArray⟩] w fun e w' => e = .returned (.tuple #[.int .i64 A.length, .bool true]) ∧ Below w.heap.size w w' := by
  have := nfind_split v ns A (f :: B) p w hv hl T.eq T.lo (fun a ha => by
    rcases List.mem_cons.1 ha with rfl | h
    · rw [T.nm]; exact bl_irrefl _
    · exact bl_asymm (T.hi a h))
  rwa [show headP (f :: B) p = true from by simp [headP, T.nm]] at this
theorem nfind_gap (v : Value) (ns A B : List Nd) (p : List UInt8) (w : World) (hv : SeqV w v ns) (hl : ns.length ≤ 100000) (G : NGap ns A B p) :
    Calls Tryz.prog 43 #[v, .string ⟨p.toArray⟩] w fun e w' => e = .returned (.tuple #[.int .i64 A.length, .bool false]) ∧ Below w.heap.size w w' := by
  have := nfind_split v ns A B p w hv hl G.eq G.lo (fun a ha => bl_asymm (G.hi a ha))
  rwa [show headP B p = false from by
    cases B with
    | nil => rfl
    | cons f B => have := bl_ne (G.hi f (by simp)); simp [headP, this.symm]] at this
/-- whatever it is -/
theorem nfind_any (v : Value) (ns : List Nd) (p : List UInt8) (w : World) (hv : SeqV w v ns) (hl : ns.length ≤ 100000) (ha : NAsc ns) :
    ∃ i : Nat, i ≤ ns.length ∧ Calls Tryz.prog 43 #[v, .string ⟨p.toArray⟩] w fun e w' => e = .returned (.tuple #[.int .i64 i, .bool (lookN ns p).isSome]) ∧ Below w.heap.size w w' := by
  rcases nwhere p ns ha with ⟨A, n, B, T⟩ | ⟨A, B, G⟩
  · rw [T.look]
    exact ⟨A.length, by rw [T.eq]; simp, nfind_there v ns A B n p w hv hl T⟩
  · rw [G.look]
    exact ⟨A.length, by rw [G.eq]; simp, nfind_gap v ns A B p w hv hl G⟩

/- numbers -/
set_option maxRecDepth 10000 in
set_option maxHeartbeats 400000 in
theorem cnan_any (x : Int) (w : World) : Calls Tryz.prog 90 #[.int .i64 x] w fun e w' => e = .returned (.bool false) ∧ w' = w := by
  go_enter Tryz.func90, Tryz.ntmps90
  go_wp2
  go_ret
  exact ⟨rfl, rfl⟩
set_option maxRecDepth 10000 in
set_option maxHeartbeats 400000 in
theorem snan_any (x : Int) (w : World) : Calls Tryz.prog 75 #[.int .i64 x] w fun e w' => e = .returned (.bool false) ∧ w' = w := by
  go_enter Tryz.func75, Tryz.ntmps75
  go_wp2
  go_ret
  exact ⟨rfl, rfl⟩
set_option maxRecDepth 10000 in
set_option maxHeartbeats 400000 in
theorem cless_any (x y : Int) (w : World) : Calls Tryz.prog 74 #[.int .i64 x, .int .i64 y] w fun e w' => e = .returned (.bool (decide (x < y))) ∧ w' = w := by
  go_enter Tryz.func74, Tryz.ntmps74
  go_wp2_with fail
  refine (cnan_any _ _).mono ?_
  rintro e w1 ⟨rfl, rfl⟩
  go_wp2_with fail
  go_ret
  exact ⟨rfl, rfl⟩

def headI (R : List Int) (s : Int) : Bool := match R with
  | [] => false
  | f :: _ => decide (f = s)
theorem isplit_get (A R : List Int) (s : Int) (lo : ∀ a ∈ A, a < s) (hi : ∀ a ∈ R, ¬ a < s) (i : Nat) (h : i < A.length + R.length) : ∃ y, (A ++ R)[i]? = some y ∧ decide (y < s) = decide (i < A.length) := by
  by_cases h1 : i < A.length
  · refine ⟨A[i], by rw [List.getElem?_append_left h1, List.getElem?_eq_getElem h1], ?_⟩
    simp [h1, lo _ (List.getElem_mem h1)]
  · have h2 : i - A.length < R.length := by omega
    refine ⟨R[i - A.length], by rw [List.getElem?_append_right (by omega), List.getElem?_eq_getElem h2], ?_⟩
    simp only [h1, hi _ (List.getElem_mem h2)]

set_option maxRecDepth 10000 in
set_option maxHeartbeats 1000000 in
theorem ibs_any (b off cap : Nat) (A R : List Int) (s : Int) (w : World) (hcap : A.length + R.length ≤ 281474976710656) (hb : b < w.heap.size) (h : RowAt w b off (cellsL (A ++ R)))
    (lo : ∀ a ∈ A, a < s) (hi : ∀ a ∈ R, ¬ a < s) :
    Calls Tryz.prog 55 #[.slice (some ⟨b, off, none⟩) (A.length + R.length) cap, .int .i64 s] w fun e w' =>
      e = .returned (.tuple #[.int .i64 A.length, .bool (headI R s)]) ∧ w' = w := by
  have H := hide h
  have SG := hide (isplit_get A R s lo hi)
  obtain ⟨fin, hfin⟩ : ∃ x, headI R s = x := ⟨_, rfl⟩
  have HF := hide hfin
  rw [hfin]
  clear h hfin lo hi
  go_enter Tryz.func55, Tryz.ntmps55
  go_wp2_with fail
  go_loopg [7, 8] (A.length + R.length) (fun kx s9 s10 wr => ∃ lo hi : Nat, s9 = .int .i64 lo ∧ s10 = .int .i64 hi ∧ lo ≤ A.length ∧ A.length ≤ hi ∧ hi ≤ A.length + R.length ∧ hi - lo ≤ kx ∧ wr = w)
  case atStart => exact ⟨0, A.length + R.length, rfl, rfl, Nat.zero_le _, by omega, Nat.le_refl _, by omega, rfl⟩
  case round =>
    obtain ⟨lo, hi, rfl, rfl, h1, h2, h3, hg, rfl⟩ := hrel
    by_cases hlt : lo < hi
    · obtain ⟨y, hy, hyn⟩ := unhide SG ((lo + hi) / 2) (by omega)
      have e0 := (unhide H).i0 hy
      clear hy
      have CM := fun W => cless_any y s W
      rw [hyn] at CM
      clear hyn
      by_cases hm : (lo + hi) / 2 < A.length
      · simp only [hm, decide_true] at CM
        go_wp2_with fail
        refine (CM _).mono ?_
        rintro e w1 ⟨rfl, rfl⟩
        clear CM
        go_wp2_with fail
        go_roundg (hi - ((lo + hi) / 2 + 1))
        case measure => omega
        case rel => exact ⟨(lo + hi) / 2 + 1, hi, by rw [show ((lo : Int) + (hi : Int)) / 2 + 1 = (((lo + hi) / 2 + 1 : Nat) : Int) by omega], rfl, by omega, h2, h3, Nat.le_refl _, rfl⟩
      · simp only [hm, decide_false] at CM
        go_wp2_with fail
        refine (CM _).mono ?_
        rintro e w1 ⟨rfl, rfl⟩
        clear CM
        go_wp2_with fail
        go_roundg ((lo + hi) / 2 - lo)
        case measure => omega
        case rel => exact ⟨lo, (lo + hi) / 2, rfl, by rw [show ((lo : Int) + (hi : Int)) / 2 = (((lo + hi) / 2 : Nat) : Int) by omega], h1, by omega, by omega, Nat.le_refl _, rfl⟩
    · obtain rfl : lo = A.length := by omega
      obtain rfl : hi = A.length := by omega
      cases R with
      | nil =>
        go_wp2_with fail
        go_ret2
        exact ⟨by rw [← unhide HF]; rfl, rfl⟩
      | cons f R =>
        have e0 := (unhide H).i0 (show (A ++ f :: R)[A.length]? = some f by simp)
        have hf : decide (f = s) = fin := unhide HF
        clear HF
        simp only [List.length_cons]
        by_cases hfs : f = s
        · subst hfs
          simp only [decide_true] at hf
          subst hf
          go_wp2_with fail
          go_ret2
          exact ⟨rfl, rfl⟩
        · simp only [hfs, decide_false] at hf
          subst hf
          have hq : (f == s) = false := by simpa using hfs
          clear hfs
          go_wp2_with fail
          refine (snan_any _ _).mono ?_
          rintro e w1 ⟨rfl, rfl⟩
          go_wp2_with fail
          go_ret2
          exact ⟨rfl, rfl⟩

set_option maxRecDepth 10000 in
set_option maxHeartbeats 400000 in
theorem ibs_none (a : Option Addr) (cap : Nat) (s : Int) (w : World) :
    Calls Tryz.prog 55 #[.slice a 0 cap, .int .i64 s] w fun e w' => e = .returned (.tuple #[.int .i64 0, .bool false]) ∧ w' = w := by
  go_enter Tryz.func55, Tryz.ntmps55
  go_wp2_with fail
  go_loopg [7, 8] 1 (fun _ s9 s10 wr => s9 = .int .i64 0 ∧ s10 = .int .i64 0 ∧ wr = w)
  case atStart => exact ⟨rfl, rfl, rfl⟩
  case round =>
    obtain ⟨rfl, rfl, rfl⟩ := hrel
    go_wp2_with fail
    go_ret2
    exact ⟨rfl, rfl⟩

theorem ibs_split (v : Value) (ss A R : List Int) (s : Int) (w : World) (hv : SeqV w v ss) (hl : ss.length ≤ 2147483647) (he : ss = A ++ R) (lo : ∀ a ∈ A, a < s) (hi : ∀ a ∈ R, ¬ a < s) :
    Calls Tryz.prog 55 #[v, .int .i64 s] w fun e w' => e = .returned (.tuple #[.int .i64 A.length, .bool (headI R s)]) ∧ w' = w := by
  rcases hv with ⟨a, cap, rfl, h0, _⟩ | ⟨b, off, cap, rfl, _, _, hb, _, hr⟩
  · rw [h0] at he
    obtain ⟨rfl, rfl⟩ : A = [] ∧ R = [] := by
      have := congrArg List.length he
      simp at this
      exact ⟨List.eq_nil_of_length_eq_zero (by omega), List.eq_nil_of_length_eq_zero (by omega)⟩
    exact ibs_none a cap s w
  · subst he
    rw [List.length_append]
    exact ibs_any b off cap A R s w (by simp at hl; omega) hb hr lo hi
theorem ibs_there (v : Value) (ss A B : List Int) (s : Int) (w : World) (hv : SeqV w v ss) (hl : ss.length ≤ 2147483647) (T : SThere ss A B s) :
    Calls Tryz.prog 55 #[v, .int .i64 s] w fun e w' => e = .returned (.tuple #[.int .i64 A.length, .bool true]) ∧ w' = w := by
  have := ibs_split v ss A (s :: B) s w hv hl T.eq T.lo (fun a ha => by
    rcases List.mem_cons.1 ha with rfl | h
    · omega
    · have := T.hi a h; omega)
  rwa [show headI (s :: B) s = true from by simp [headI]] at this
theorem ibs_gap (v : Value) (ss A B : List Int) (s : Int) (w : World) (hv : SeqV w v ss) (hl : ss.length ≤ 2147483647) (G : SGap ss A B s) :
    Calls Tryz.prog 55 #[v, .int .i64 s] w fun e w' => e = .returned (.tuple #[.int .i64 A.length, .bool false]) ∧ w' = w := by
  have := ibs_split v ss A B s w hv hl G.eq G.lo (fun a ha => by have := G.hi a ha; omega)
  rwa [show headI B s = false from by
    cases B with
    | nil => rfl
    | cons f B => exact decide_eq_false (by have := G.hi f (by simp); omega)] at this

set_option maxRecDepth 10000 in
set_option maxHeartbeats 400000 in
theorem topen_any (z : Int) (vn vs : Value) (ss : List Int) (s : Int) (w : World) (hv : SeqV w vs ss) (hs : SAsc ss) :
    Calls Tryz.prog 35 #[.agg #[.int .i64 z, vn, vs], .int .i64 s] w fun e w' => e = .returned (.bool (decide (s ∈ ss))) ∧ Below w.heap.size w w' := by
  have C : ∀ W : World, Below w.heap.size w W → ∃ i : Nat, Calls Tryz.prog 55 #[vs, .int .i64 s] W fun e w' => e = .returned (.tuple #[.int .i64 i, .bool (decide (s ∈ ss))]) ∧ w' = W := fun W hW => by
    rcases swhere s ss hs.1 with ⟨A, B, T⟩ | ⟨A, B, G⟩
    · rw [show decide (s ∈ ss) = true from decide_eq_true T.mem]
      exact ⟨A.length, ibs_there vs ss A B s W (hv.next hW) (sasc_len hs) T⟩
    · rw [show decide (s ∈ ss) = false from decide_eq_false G.not]
      exact ⟨A.length, ibs_gap vs ss A B s W (hv.next hW) (sasc_len hs) G⟩
  have C' := hide C
  obtain ⟨a, c, rfl⟩ := seq_slice hv
  clear C hv hs
  generalize decide (s ∈ ss) = hd at C' ⊢
  generalize ss.length = n at C' ⊢
  go_enter Tryz.func35, Tryz.ntmps35
  go_wp2_with fail
  obtain ⟨i, C2⟩ := unhide C' _ (allocB _ _)
  refine C2.mono ?_
  rintro e w1 ⟨rfl, rfl⟩
  go_wp2_with fail
  go_ret
  exact ⟨rfl, allocB _ _⟩

end Go.Proofs.YtcplpbelficbeaaGreatDoor

namespace Go.Proofs.YtcplpbelficbeaaGreatDoor
open Go.RowKit

theorem wp_copy_runN (w : World) {o : Oper} {a : Act} {K : Act → World → Prop} {Q : Exit → Act → World → Prop} (d s : Operand) (t t' : TypeId)
    (ho : o.op = .call { callee := .builtin .copy, args := #[d, s], argTypes := #[t, t'] }) (v u : Value) (hd : a.eval d = v) (hs : a.eval s = u) {v' : Value} {w' : World}
    (hr : (Builtin.copy_ #[t, t'] o.type #[v, u]).run Tryz.prog w = .ok v' w') (h : K (a.put o.dst v') w') : o.wp Tryz.prog a w K Q := by
  unfold Oper.wp execOp
  simp only [ho, resolve, invoke, builtin, Sem.run_bind, Sem.run_pure, Result.andThen_ok, List.map_toArray, List.map_cons, List.map_nil, hd, hs, hr]
  exact h
theorem wpList_copy_runN (w : World) {ops : Array Oper} {rest : List Oper} {o : Oper} {a : Act} {Q : Exit → Act → World → Prop} (hgd : o.guard = none) (d s : Operand) (t t' : TypeId)
    (ho : o.op = .call { callee := .builtin .copy, args := #[d, s], argTypes := #[t, t'] }) (v u : Value) (hd : a.eval d = v) (hs : a.eval s = u) {v' : Value} {w' : World}
    (hr : (Builtin.copy_ #[t, t'] o.type #[v, u]).run Tryz.prog w = .ok v' w') (h : wpList Tryz.prog ops Q rest (a.put o.dst v') w') : wpList Tryz.prog ops Q (o :: rest) a w :=
  wpList_plain hgd fun _ hK => wp_copy_runN w d s t t' ho v u hd hs hr (hK _ _ h)
theorem step_copy_runN {ops : Array Oper} {o : Oper} {a : Act} {w : World} {K : Act → World → Prop} {Q : Exit → Act → World → Prop} {E : Prop}
    (hg : o.guard = none) (d x : Operand) (dT sT : TypeId) (hop : o.op = Op.call { callee := Callee.builtin Builtin.copy, args := #[d, x], argTypes := #[dT, sT] })
    (v u : Value) (hd : a.eval d = v) (hx : a.eval x = u) {v' : Value} {w' : World} (hr : (Builtin.copy_ #[dT, sT] o.type #[v, u]).run Tryz.prog w = .ok v' w') (hK : K (a.put o.dst v') w') :
    if Region.wanted o (yielded ops a.tmps) = true then Oper.wp Tryz.prog o a w K Q else E := by
  have hw : Region.wanted o (yielded ops a.tmps) = true := by simp [Region.wanted, hg]
  rw [if_pos hw]
  unfold Oper.wp
  simp [execOp, hop, resolve, invoke, builtin, hd, hx, hr, Result.andThen]
  exact hK
end Go.Proofs.YtcplpbelficbeaaGreatDoor

namespace Go.Proofs.YtcplpbelficbeaaGreatDoor
open Go.RowKit

theorem cellsN_length (ns : List Nd) : (cellsL ns).length = ns.length * 9 := cellsL_length ns
theorem OwnR.spliceN {W : World} {g cap : Nat} {pre tl : List Nd} (h : OwnR W g cap (pre ++ tl)) (new : List Nd) (hfit : pre.length + new.length ≤ cap) : OwnR (W.setCells g (pre.length * 9) (cellsL new)) g cap (pre ++ new) := h.splice new hfit
theorem OwnR.spareN {W : World} {g cap : Nat} {fs : List Nd} (h : OwnR W g cap fs) (vs : List Value) (o : Nat) (ho : fs.length * 9 ≤ o) (hfit : o + vs.length ≤ cap * 9) : OwnR (W.setCells g o vs) g cap fs := h.spare vs o ho hfit
theorem OwnR.swapN {W : World} {g cap : Nat} {A B : List Nd} {y : Nd} (h : OwnR W g cap (A ++ y :: B)) (x : Nd) : OwnR (W.setCells g (A.length * 9) (ncells x)) g cap (A ++ x :: B) := h.swap1 x
theorem OwnR.someN {W : World} {g cap : Nat} {fs : List Nd} (h : OwnR W g cap fs) {j : Nat} (hj : j < cap * 9) : (W.cell? ⟨g, j, none⟩).isSome = true := h.some hj
theorem OwnR.spliceI {W : World} {g cap : Nat} {pre tl : List Int} (h : OwnR W g cap (pre ++ tl)) (new : List Int) (hfit : pre.length + new.length ≤ cap) : OwnR (W.setCells g pre.length (cellsL new)) g cap (pre ++ new) := by
  have := h.splice new hfit
  rwa [show pre.length * Lay.k Int = pre.length from Nat.mul_one _] at this
theorem OwnR.spareI {W : World} {g cap : Nat} {fs : List Int} (h : OwnR W g cap fs) (vs : List Value) (o : Nat) (ho : fs.length ≤ o) (hfit : o + vs.length ≤ cap) : OwnR (W.setCells g o vs) g cap fs :=
  h.spare vs o (by rw [show fs.length * Lay.k Int = fs.length from Nat.mul_one _]; exact ho) (by rw [show cap * Lay.k Int = cap from Nat.mul_one _]; exact hfit)
theorem OwnR.swapI {W : World} {g cap : Nat} {A B : List Int} {y : Int} (h : OwnR W g cap (A ++ y :: B)) (x : Int) : OwnR (W.setCells g A.length [.int .i64 x]) g cap (A ++ x :: B) := by
  have := h.swap1 x
  rwa [show A.length * Lay.k Int = A.length from Nat.mul_one _] at this
theorem OwnR.someI {W : World} {g cap : Nat} {fs : List Int} (h : OwnR W g cap fs) {j : Nat} (hj : j < cap) : (W.cell? ⟨g, j, none⟩).isSome = true := h.some (by rw [show cap * Lay.k Int = cap from Nat.mul_one _]; exact hj)

end Go.Proofs.YtcplpbelficbeaaGreatDoor
