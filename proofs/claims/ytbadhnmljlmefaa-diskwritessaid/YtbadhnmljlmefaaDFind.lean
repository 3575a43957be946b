/-
  What disk.size and disk.find answer, with slices.BinarySearchFunc's own text: the walks.
-/
import Derived.Test.YtbadhnmljlmefaaDMem
import Derived.Test.YtbadhnmljlmefaaShelf
import Derived.Test.YtbadhnmljlmefaaNamed
namespace Go.Proofs.Ytbadhnmljlmefaa
open Go.RowKit

theorem box_then {w : World} {o : Obj} {w1 : World} (h : Below (w.alloc o).heap.size (w.alloc o) w1) : Below w.heap.size w w1 :=
  ((Below.refl _ _).alloc (Nat.le_refl _) _).trans (h.mono (by simp))

set_option maxHeartbeats 400000 in
theorem dsize_any (f : DF) (w : World) (h : f.s.length + f.t.length ≤ 9223372036854775807) :
    Calls Try.prog 32 #[fileV f] w fun e w' => e = .returned (.int .i64 ((f.s.length + f.t.length : Nat) : Int)) ∧ Below w.heap.size w w' := by
  unfold fileV
  go_enter Try.func32, Try.ntmps32
  go_wp2
  go_ret
  exact ⟨rfl, (Below.refl _ _).alloc (Nat.le_refl _) _⟩

set_option maxHeartbeats 400000 in
theorem cmp1_any (f : DF) (name : List UInt8) (w : World) :
    Calls Try.prog 47 #[fileV f, .string ⟨name.toArray⟩] w fun e w' => e = .returned (.int .i64 (Lib.compareBytes f.n name)) ∧ Below w.heap.size w w' := by
  unfold fileV
  go_enter Try.func47, Try.ntmps47
  go_wp2_with fail
  refine (Try.strings_Compare _ _ _).mono ?_
  rintro e w1 ⟨rfl, rfl⟩
  go_wp2_with fail
  go_ret
  exact ⟨rfl, (Below.refl _ _).alloc (Nat.le_refl _) _⟩

def headIs (R : List DF) (name : List UInt8) : Bool := match R with
  | [] => false
  | f :: _ => decide (f.n = name)
theorem split_get (A R : List DF) (name : List UInt8) (lo : ∀ a ∈ A, bl a.n name = true) (hi : ∀ a ∈ R, bl a.n name = false) (i : Nat) (h : i < A.length + R.length) : ∃ y, (A ++ R)[i]? = some y ∧ bl y.n name = decide (i < A.length) := by
  by_cases h1 : i < A.length
  · refine ⟨A[i], by rw [List.getElem?_append_left h1, List.getElem?_eq_getElem h1], ?_⟩
    rw [lo _ (List.getElem_mem h1)]; simp [h1]
  · have h2 : i - A.length < R.length := by omega
    refine ⟨R[i - A.length], by rw [List.getElem?_append_right (by omega), List.getElem?_eq_getElem h2], ?_⟩
    rw [hi _ (List.getElem_mem h2)]; simp [h1]

set_option maxHeartbeats 1000000 in
theorem bsf_any (b off cap : Nat) (A R : List DF) (name : List UInt8) (w : World) (hcap : A.length + R.length ≤ 16) (hb : b < w.heap.size) (h : RowAt w b off (cellsF (A ++ R)))
    (lo : ∀ a ∈ A, bl a.n name = true) (hi : ∀ a ∈ R, bl a.n name = false) :
    Calls Try.prog 46 #[.slice (some ⟨b, off, none⟩) (A.length + R.length) cap, .string ⟨name.toArray⟩, .func (.func 47) #[] #[]] w fun e w' =>
      e = .returned (.tuple #[.int .i64 A.length, .bool (headIs R name)]) ∧ Below w.heap.size w w' := by
  have H := hide h
  have SG := hide (split_get A R name lo hi)
  obtain ⟨fin, hfin⟩ : ∃ x, headIs R name = x := ⟨_, rfl⟩
  have HF := hide hfin
  rw [hfin]
  clear h hfin lo hi
  go_enter Try.func46, Try.ntmps46
  go_wp2_with fail
  go_loopg [9, 10] (A.length + R.length) (fun kx s9 s10 wr => ∃ lo hi : Nat, s9 = .int .i64 lo ∧ s10 = .int .i64 hi ∧ lo ≤ A.length ∧ A.length ≤ hi ∧ hi ≤ A.length + R.length ∧ hi - lo ≤ kx ∧ Hid (Below w.heap.size w wr))
  case atStart => exact ⟨0, A.length + R.length, rfl, rfl, Nat.zero_le _, by omega, Nat.le_refl _, by omega, hide (Below.refl _ _)⟩
  case round =>
    obtain ⟨lo, hi, rfl, rfl, h1, h2, h3, hg, hB⟩ := hrel
    by_cases hlt : lo < hi
    · obtain ⟨y, hy, hyn⟩ := unhide SG ((lo + hi) / 2) (by omega)
      have HY := hide hyn
      have r := (unhide H).kept (unhide hB) hb
      have e0 := r.c0 hy
      have e1 := r.c1 hy
      have e2 := r.c2 hy
      clear hyn hy r
      have hc := cmp_bl y.n name
      rw [unhide HY] at hc
      have CM := fun W => cmp1_any y name W
      generalize Lib.compareBytes y.n name = cv at hc CM
      by_cases hm : (lo + hi) / 2 < A.length
      · have hn : cv < 0 := by simpa [hm] using hc
        clear hc
        go_wp2_with fail
        refine (CM _).mono ?_
        rintro e w1 ⟨rfl, hb1⟩
        have hB2 : Below w.heap.size w w1 := (unhide hB).trans (hb1.mono (unhide hB).size)
        clear CM
        go_wp2_with fail
        go_roundg (hi - ((lo + hi) / 2 + 1))
        case measure => omega
        case rel => exact ⟨(lo + hi) / 2 + 1, hi, by rw [show ((lo : Int) + (hi : Int)) / 2 + 1 = (((lo + hi) / 2 + 1 : Nat) : Int) by omega], rfl, by omega, h2, h3, Nat.le_refl _, hide hB2⟩
      · have hn : ¬ cv < 0 := by simpa [hm] using hc
        clear hc
        go_wp2_with fail
        refine (CM _).mono ?_
        rintro e w1 ⟨rfl, hb1⟩
        have hB2 : Below w.heap.size w w1 := (unhide hB).trans (hb1.mono (unhide hB).size)
        clear CM
        go_wp2_with fail
        go_roundg ((lo + hi) / 2 - lo)
        case measure => omega
        case rel => exact ⟨lo, (lo + hi) / 2, rfl, by rw [show ((lo : Int) + (hi : Int)) / 2 = (((lo + hi) / 2 : Nat) : Int) by omega], h1, by omega, by omega, Nat.le_refl _, hide hB2⟩
    · obtain rfl : lo = A.length := by omega
      obtain rfl : hi = A.length := by omega
      cases R with
      | nil =>
        go_wp2_with fail
        go_ret2
        exact ⟨by rw [← unhide HF]; rfl, unhide hB⟩
      | cons f R =>
        have r := (unhide H).kept (unhide hB) hb
        have hy : (A ++ f :: R)[A.length]? = some f := by simp
        have e0 := r.c0 hy
        have e1 := r.c1 hy
        have e2 := r.c2 hy
        clear hy r
        have hc := cmp_zero f.n name
        have CM := fun W => cmp1_any f name W
        have hf : fin = decide (f.n = name) := (unhide HF).symm
        rw [← hc] at hf
        clear hc HF
        generalize Lib.compareBytes f.n name = cv at hf CM
        subst hf
        simp only [List.length_cons]
        go_wp2_with fail
        refine (CM _).mono ?_
        rintro e w1 ⟨rfl, hb1⟩
        have hB2 : Below w.heap.size w w1 := (unhide hB).trans (hb1.mono (unhide hB).size)
        clear CM
        go_wp2_with fail
        go_ret2
        exact ⟨by rfl, hB2⟩

set_option maxHeartbeats 400000 in
theorem bsf_none (a : Option Addr) (cap : Nat) (name : List UInt8) (w : World) :
    Calls Try.prog 46 #[.slice a 0 cap, .string ⟨name.toArray⟩, .func (.func 47) #[] #[]] w fun e w' =>
      e = .returned (.tuple #[.int .i64 0, .bool false]) ∧ Below w.heap.size w w' := by
  go_enter Try.func46, Try.ntmps46
  go_wp2_with fail
  go_loopg [9, 10] 1 (fun _ s9 s10 wr => s9 = .int .i64 0 ∧ s10 = .int .i64 0 ∧ Hid (Below w.heap.size w wr))
  case atStart => exact ⟨rfl, rfl, hide (Below.refl _ _)⟩
  case round =>
    obtain ⟨rfl, rfl, hB⟩ := hrel
    go_wp2_with fail
    go_ret2
    exact ⟨rfl, unhide hB⟩

set_option maxHeartbeats 400000 in
theorem find_split (v : Value) (fs A R : List DF) (name : List UInt8) (w : World) (hv : DiskV w v fs) (hl : fs.length ≤ 16) (he : fs = A ++ R) (lo : ∀ a ∈ A, bl a.n name = true) (hi : ∀ a ∈ R, bl a.n name = false) :
    Calls Try.prog 31 #[.agg #[v], .string ⟨name.toArray⟩] w fun e w' => e = .returned (.tuple #[.int .i64 A.length, .bool (headIs R name)]) ∧ Below w.heap.size w w' := by
  have C : ∀ W : World, Below w.heap.size w W → Calls Try.prog 46 #[v, .string ⟨name.toArray⟩, .func (.func 47) #[] #[]] W fun e w' =>
      e = .returned (.tuple #[.int .i64 A.length, .bool (headIs R name)]) ∧ Below W.heap.size W w' := fun W hW => by
    rcases hv with ⟨a, cap, rfl, h0, _⟩ | ⟨b, off, cap, rfl, _, _, hb, _, hr⟩
    · rw [h0] at he
      obtain ⟨rfl, rfl⟩ : A = [] ∧ R = [] := by
        have := congrArg List.length he
        simp at this
        exact ⟨List.eq_nil_of_length_eq_zero (by omega), List.eq_nil_of_length_eq_zero (by omega)⟩
      exact bsf_none a cap name W
    · subst he
      rw [List.length_append]
      exact bsf_any b off cap A R name W (by simpa using hl) (Nat.lt_of_lt_of_le hb hW.size) (hr.kept hW hb) lo hi
  have C' := hide C
  have V : ∃ a n c, v = .slice a n c := by
    rcases hv with ⟨a, cap, rfl, _, _⟩ | ⟨b, off, cap, rfl, _⟩
    · exact ⟨_, _, _, rfl⟩
    · exact ⟨_, _, _, rfl⟩
  obtain ⟨a, n, c, rfl⟩ := V
  clear C hv hl he lo hi
  generalize headIs R name = hd at C' ⊢
  go_enter Try.func31, Try.ntmps31
  go_wp2_with fail
  refine (unhide C' _ ((Below.refl _ _).alloc (Nat.le_refl _) _)).mono ?_
  rintro e w1 ⟨rfl, hb1⟩
  have hbz := box_then hb1
  go_wp2_with fail
  go_ret2
  exact ⟨rfl, hbz⟩
theorem find_there (v : Value) (fs A B : List DF) (f : DF) (name : List UInt8) (w : World) (hv : DiskV w v fs) (hl : fs.length ≤ 16) (T : There fs A f B name) :
    Calls Try.prog 31 #[.agg #[v], .string ⟨name.toArray⟩] w fun e w' => e = .returned (.tuple #[.int .i64 A.length, .bool true]) ∧ Below w.heap.size w w' := by
  have := find_split v fs A (f :: B) name w hv hl T.eq T.lo (fun a ha => by
    rcases List.mem_cons.1 ha with rfl | h
    · rw [T.nm]; exact bl_irrefl _
    · exact bl_asymm (T.hi a h))
  rwa [show headIs (f :: B) name = true from by simp [headIs, T.nm]] at this
theorem find_gap (v : Value) (fs A B : List DF) (name : List UInt8) (w : World) (hv : DiskV w v fs) (hl : fs.length ≤ 16) (G : Gap fs A B name) :
    Calls Try.prog 31 #[.agg #[v], .string ⟨name.toArray⟩] w fun e w' => e = .returned (.tuple #[.int .i64 A.length, .bool false]) ∧ Below w.heap.size w w' := by
  have := find_split v fs A B name w hv hl G.eq G.lo (fun a ha => bl_asymm (G.hi a ha))
  rwa [show headIs B name = false from by
    cases B with
    | nil => rfl
    | cons f B => have := bl_ne (G.hi f (by simp)); simp [headIs, this.symm]] at this

end Go.Proofs.Ytbadhnmljlmefaa
