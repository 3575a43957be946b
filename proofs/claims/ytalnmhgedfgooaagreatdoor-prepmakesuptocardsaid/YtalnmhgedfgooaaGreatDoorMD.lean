/-
  What tree.find, tree.Open, tree.copied and tree.Get answer, with slices.BinarySearchFunc's and slices.BinarySearch's own texts: the walks.
  What tree.ordered, tree.numbered, tree.held and tree.sound answer: the walks; and that a tree is good just where all of them say so.
  What tree.counted and tree.Good answer: the walks, with the map of counts.
  What tree.Good answers, at every tree: the walks.
-/
import Derived.Test.YtalnmhgedfgooaaGreatDoorMC
import Derived.Test.YtalnmhgedfgooaaGreatDoorShelf
import Derived.Test.YtalnmhgedfgooaaGreatDoorMB
import Derived.Maps.OwnOps
import Derived.Maps.Views
namespace Go.Proofs.YtalnmhgedfgooaaGreatDoor
open Go.RowKit

/-- path.Split, at every text -/
theorem split_any (p : List UInt8) (w : World) :
    Calls Tryz.prog 69 #[.string ⟨p.toArray⟩] w fun e w' =>
      e = .returned (.tuple #[.string ⟨(dirOf p).toArray⟩, .string ⟨(stepOf p).toArray⟩, .int .i64 (splE p)]) ∧ Below w.heap.size w w' := by
  cases hg : goodB p with
  | false =>
    rw [dirOf_bad hg, stepOf_bad hg, splE_bad hg]
    exact split_bad p w hg
  | true =>
    by_cases hr : p = [47]
    · subst hr
      rw [dirOf_root, stepOf_root, splE_root]
      exact split_root w
    · obtain ⟨a, b, rfl, hb⟩ := good_cut hg
      rw [dirOf_cut hg hr hb, stepOf_cut hg hr hb, splE_ok hg hr]
      exact split_main a b w hb hg hr

set_option maxHeartbeats 400000 in
theorem ncmp_any (n : Nd) (p : List UInt8) (w : World) :
    Calls Tryz.prog 66 #[nodeV n, .string ⟨p.toArray⟩] w fun e w' => e = .returned (.int .i64 (Lib.compareBytes n.p p)) ∧ Below w.heap.size w w' := by
  unfold nodeV
  go_enter Tryz.func66, Tryz.ntmps66
  go_wp2_with fail
  refine (Tryz.strings_Compare _ _ _).mono ?_
  rintro e w1 ⟨rfl, rfl⟩
  go_wp2_with fail
  go_ret
  exact ⟨rfl, allocB _ _⟩

def headP (R : List Nd) (p : List UInt8) : Bool := match R with
  | [] => false
  | f :: _ => decide (f.p = p)
theorem nsplit_get (A R : List Nd) (p : List UInt8) (lo : ∀ a ∈ A, bl a.p p = true) (hi : ∀ a ∈ R, bl a.p p = false) (i : Nat) (h : i < A.length + R.length) : ∃ y, (A ++ R)[i]? = some y ∧ bl y.p p = decide (i < A.length) := by
  by_cases h1 : i < A.length
  · refine ⟨A[i], by rw [List.getElem?_append_left h1, List.getElem?_eq_getElem h1], ?_⟩
    rw [lo _ (List.getElem_mem h1)]; simp [h1]
  · have h2 : i - A.length < R.length := by omega
    refine ⟨R[i - A.length], by rw [List.getElem?_append_right (by omega), List.getElem?_eq_getElem h2], ?_⟩
    rw [hi _ (List.getElem_mem h2)]; simp [h1]

set_option maxRecDepth 20000 in
set_option maxHeartbeats 1000000 in
theorem nbsf_any (b off cap : Nat) (A R : List Nd) (p : List UInt8) (w : World) (hcap : A.length + R.length ≤ 100000) (hb : b < w.heap.size) (h : RowAt w b off (cellsL (A ++ R)))
    (lo : ∀ a ∈ A, bl a.p p = true) (hi : ∀ a ∈ R, bl a.p p = false) :
    Calls Tryz.prog 65 #[.slice (some ⟨b, off, none⟩) (A.length + R.length) cap, .string ⟨p.toArray⟩, .func (.func 66) #[] #[]] w fun e w' =>
      e = .returned (.tuple #[.int .i64 A.length, .bool (headP R p)]) ∧ Below w.heap.size w w' := by
  have H := hide h
  have SG := hide (nsplit_get A R p lo hi)
  obtain ⟨fin, hfin⟩ : ∃ x, headP R p = x := ⟨_, rfl⟩
  have HF := hide hfin
  rw [hfin]
  clear h hfin lo hi
  go_enter Tryz.func65, Tryz.ntmps65
  go_wp2_with fail
  go_loopg [9, 10] (A.length + R.length) (fun kx s9 s10 wr => ∃ lo hi : Nat, s9 = .int .i64 lo ∧ s10 = .int .i64 hi ∧ lo ≤ A.length ∧ A.length ≤ hi ∧ hi ≤ A.length + R.length ∧ hi - lo ≤ kx ∧ Hid (Below w.heap.size w wr))
  case atStart => exact ⟨0, A.length + R.length, rfl, rfl, Nat.zero_le _, by omega, Nat.le_refl _, by omega, hide (Below.refl _ _)⟩
  case round =>
    obtain ⟨lo, hi, rfl, rfl, h1, h2, h3, hg, hB⟩ := hrel
    by_cases hlt : lo < hi
    · obtain ⟨y, hy, hyn⟩ := unhide SG ((lo + hi) / 2) (by omega)
      have HY := hide hyn
      have r := (unhide H).kept (unhide hB) hb
      have e0 := r.n0 hy
      have e1 := r.n1 hy
      have e2 := r.n2 hy
      have e3 := r.n3 hy
      have e4 := r.n4 hy
      have e5 := r.n5 hy
      have e6 := r.n6 hy
      have e7 := r.n7 hy
      have e8 := r.n8 hy
      clear hyn hy r
      have hc := cmp_bl y.p p
      rw [unhide HY] at hc
      have CM := fun W => ncmp_any y p W
      generalize Lib.compareBytes y.p p = cv at hc CM
      by_cases hm : (lo + hi) / 2 < A.length
      · have hn : cv < 0 := by simpa [hm] using hc
        clear hc
        go_wp2_with fail
        refine (CM _).mono ?_
        rintro e w1 ⟨rfl, hb1⟩
        have hB2 : Below w.heap.size w w1 := (unhide hB).trans (hb1.mono (unhide hB).size)
        clear CM
        go_wp2_with fail
        go_roundg (hi - ((lo + hi) / 2 + 1))
        case measure => omega
        case rel => exact ⟨(lo + hi) / 2 + 1, hi, by rw [show ((lo : Int) + (hi : Int)) / 2 + 1 = (((lo + hi) / 2 + 1 : Nat) : Int) by omega], rfl, by omega, h2, h3, Nat.le_refl _, hide hB2⟩
      · have hn : ¬ cv < 0 := by simpa [hm] using hc
        clear hc
        go_wp2_with fail
        refine (CM _).mono ?_
        rintro e w1 ⟨rfl, hb1⟩
        have hB2 : Below w.heap.size w w1 := (unhide hB).trans (hb1.mono (unhide hB).size)
        clear CM
        go_wp2_with fail
        go_roundg ((lo + hi) / 2 - lo)
        case measure => omega
        case rel => exact ⟨lo, (lo + hi) / 2, rfl, by rw [show ((lo : Int) + (hi : Int)) / 2 = (((lo + hi) / 2 : Nat) : Int) by omega], h1, by omega, by omega, Nat.le_refl _, hide hB2⟩
    · obtain rfl : lo = A.length := by omega
      obtain rfl : hi = A.length := by omega
      cases R with
      | nil =>
        go_wp2_with fail
        go_ret2
        exact ⟨by rw [← unhide HF]; rfl, unhide hB⟩
      | cons f R =>
        have r := (unhide H).kept (unhide hB) hb
        have hy : (A ++ f :: R)[A.length]? = some f := by simp
        have e0 := r.n0 hy
        have e1 := r.n1 hy
        have e2 := r.n2 hy
        have e3 := r.n3 hy
        have e4 := r.n4 hy
        have e5 := r.n5 hy
        have e6 := r.n6 hy
        have e7 := r.n7 hy
        have e8 := r.n8 hy
        clear hy r
        have hc := cmp_zero f.p p
        have CM := fun W => ncmp_any f p W
        have hf : fin = decide (f.p = p) := (unhide HF).symm
        rw [← hc] at hf
        clear hc HF
        generalize Lib.compareBytes f.p p = cv at hf CM
        subst hf
        simp only [List.length_cons]
        go_wp2_with fail
        refine (CM _).mono ?_
        rintro e w1 ⟨rfl, hb1⟩
        have hB2 : Below w.heap.size w w1 := (unhide hB).trans (hb1.mono (unhide hB).size)
        clear CM
        go_wp2_with fail
        go_ret2
        exact ⟨by rfl, hB2⟩

set_option maxHeartbeats 400000 in
theorem nbsf_none (a : Option Addr) (cap : Nat) (p : List UInt8) (w : World) :
    Calls Tryz.prog 65 #[.slice a 0 cap, .string ⟨p.toArray⟩, .func (.func 66) #[] #[]] w fun e w' =>
      e = .returned (.tuple #[.int .i64 0, .bool false]) ∧ Below w.heap.size w w' := by
  go_enter Tryz.func65, Tryz.ntmps65
  go_wp2_with fail
  go_loopg [9, 10] 1 (fun _ s9 s10 wr => s9 = .int .i64 0 ∧ s10 = .int .i64 0 ∧ Hid (Below w.heap.size w wr))
  case atStart => exact ⟨rfl, rfl, hide (Below.refl _ _)⟩
  case round =>
    obtain ⟨rfl, rfl, hB⟩ := hrel
    go_wp2_with fail
    go_ret2
    exact ⟨rfl, unhide hB⟩

set_option maxHeartbeats 400000 in
theorem nfind_split (v : Value) (ns A R : List Nd) (p : List UInt8) (w : World) (hv : SeqV w v ns) (hl : ns.length ≤ 100000) (he : ns = A ++ R) (lo : ∀ a ∈ A, bl a.p p = true) (hi : ∀ a ∈ R, bl a.p p = false) :
    Calls Tryz.prog 38 #[v, .string ⟨p.toArray⟩] w fun e w' => e = .returned (.tuple #[.int .i64 A.length, .bool (headP R p)]) ∧ Below w.heap.size w w' := by
  have C : ∀ W : World, Below w.heap.size w W → Calls Tryz.prog 65 #[v, .string ⟨p.toArray⟩, .func (.func 66) #[] #[]] W fun e w' =>
      e = .returned (.tuple #[.int .i64 A.length, .bool (headP R p)]) ∧ Below W.heap.size W w' := fun W hW => by
    rcases hv with ⟨a, cap, rfl, h0, _⟩ | ⟨b, off, cap, rfl, _, _, hb, _, hr⟩
    · rw [h0] at he
      obtain ⟨rfl, rfl⟩ : A = [] ∧ R = [] := by
        have := congrArg List.length he
        simp at this
        exact ⟨List.eq_nil_of_length_eq_zero (by omega), List.eq_nil_of_length_eq_zero (by omega)⟩
      exact nbsf_none a cap p W
    · subst he
      rw [List.length_append]
      exact nbsf_any b off cap A R p W (by simpa using hl) (Nat.lt_of_lt_of_le hb hW.size) (hr.kept hW hb) lo hi
  have C' := hide C
  obtain ⟨a, c, rfl⟩ := seq_slice hv
  clear C hv hl he lo hi
  generalize headP R p = hd at C' ⊢
  go_enter Tryz.func38, Tryz.ntmps38
  go_wp2_with fail
  refine (unhide C' _ (Below.refl _ _)).mono ?_
  rintro e w1 ⟨rfl, hb1⟩
  go_wp2_with fail
  go_ret2
  exact ⟨rfl, hb1⟩
theorem nfind_there (v : Value) (ns A B : List Nd) (f : Nd) (p : List UInt8) (w : World) (hv : SeqV w v ns) (hl : ns.length ≤ 100000) (T : NThere ns A f B p) :
    Calls Tryz.prog 38 #[v, .string ⟨p.toArray⟩] w fun e w' => e = .returned (.tuple #[.int .i64 A.length, .bool true]) ∧ Below w.heap.size w w' := by
  have := nfind_split v ns A (f :: B) p w hv hl T.eq T.lo (fun a ha => by
    rcases List.mem_cons.1 ha with rfl | h
    · rw [T.nm]; exact bl_irrefl _
    · exact bl_asymm (T.hi a h))
  rwa [show headP (f :: B) p = true from by simp [headP, T.nm]] at this
theorem nfind_gap (v : Value) (ns A B : List Nd) (p : List UInt8) (w : World) (hv : SeqV w v ns) (hl : ns.length ≤ 100000) (G : NGap ns A B p) :
    Calls Tryz.prog 38 #[v, .string ⟨p.toArray⟩] w fun e w' => e = .returned (.tuple #[.int .i64 A.length, .bool false]) ∧ Below w.heap.size w w' := by
  have := nfind_split v ns A B p w hv hl G.eq G.lo (fun a ha => bl_asymm (G.hi a ha))
  rwa [show headP B p = false from by
    cases B with
    | nil => rfl
    | cons f B => have := bl_ne (G.hi f (by simp)); simp [headP, this.symm]] at this
/-- whatever it is -/
theorem nfind_any (v : Value) (ns : List Nd) (p : List UInt8) (w : World) (hv : SeqV w v ns) (hl : ns.length ≤ 100000) (ha : NAsc ns) :
    ∃ i : Nat, i ≤ ns.length ∧ Calls Tryz.prog 38 #[v, .string ⟨p.toArray⟩] w fun e w' => e = .returned (.tuple #[.int .i64 i, .bool (lookN ns p).isSome]) ∧ Below w.heap.size w w' := by
  rcases nwhere p ns ha with ⟨A, n, B, T⟩ | ⟨A, B, G⟩
  · rw [T.look]
    exact ⟨A.length, by rw [T.eq]; simp, nfind_there v ns A B n p w hv hl T⟩
  · rw [G.look]
    exact ⟨A.length, by rw [G.eq]; simp, nfind_gap v ns A B p w hv hl G⟩

/- numbers -/
set_option maxHeartbeats 400000 in
theorem cnan_any (x : Int) (w : World) : Calls Tryz.prog 104 #[.int .i64 x] w fun e w' => e = .returned (.bool false) ∧ w' = w := by
  go_enter Tryz.func104, Tryz.ntmps104
  go_wp2
  go_ret
  exact ⟨rfl, rfl⟩
set_option maxHeartbeats 400000 in
theorem snan_any (x : Int) (w : World) : Calls Tryz.prog 89 #[.int .i64 x] w fun e w' => e = .returned (.bool false) ∧ w' = w := by
  go_enter Tryz.func89, Tryz.ntmps89
  go_wp2
  go_ret
  exact ⟨rfl, rfl⟩
set_option maxHeartbeats 400000 in
theorem cless_any (x y : Int) (w : World) : Calls Tryz.prog 88 #[.int .i64 x, .int .i64 y] w fun e w' => e = .returned (.bool (decide (x < y))) ∧ w' = w := by
  go_enter Tryz.func88, Tryz.ntmps88
  go_wp2_with fail
  refine (cnan_any _ _).mono ?_
  rintro e w1 ⟨rfl, rfl⟩
  go_wp2_with fail
  go_ret
  exact ⟨rfl, rfl⟩

def headI (R : List Int) (s : Int) : Bool := match R with
  | [] => false
  | f :: _ => decide (f = s)
theorem isplit_get (A R : List Int) (s : Int) (lo : ∀ a ∈ A, a < s) (hi : ∀ a ∈ R, ¬ a < s) (i : Nat) (h : i < A.length + R.length) : ∃ y, (A ++ R)[i]? = some y ∧ decide (y < s) = decide (i < A.length) := by
  by_cases h1 : i < A.length
  · refine ⟨A[i], by rw [List.getElem?_append_left h1, List.getElem?_eq_getElem h1], ?_⟩
    simp [h1, lo _ (List.getElem_mem h1)]
  · have h2 : i - A.length < R.length := by omega
    refine ⟨R[i - A.length], by rw [List.getElem?_append_right (by omega), List.getElem?_eq_getElem h2], ?_⟩
    simp only [h1, hi _ (List.getElem_mem h2)]

set_option maxHeartbeats 1000000 in
theorem ibs_any (b off cap : Nat) (A R : List Int) (s : Int) (w : World) (hcap : A.length + R.length ≤ 281474976710656) (hb : b < w.heap.size) (h : RowAt w b off (cellsL (A ++ R)))
    (lo : ∀ a ∈ A, a < s) (hi : ∀ a ∈ R, ¬ a < s) :
    Calls Tryz.prog 72 #[.slice (some ⟨b, off, none⟩) (A.length + R.length) cap, .int .i64 s] w fun e w' =>
      e = .returned (.tuple #[.int .i64 A.length, .bool (headI R s)]) ∧ w' = w := by
  have H := hide h
  have SG := hide (isplit_get A R s lo hi)
  obtain ⟨fin, hfin⟩ : ∃ x, headI R s = x := ⟨_, rfl⟩
  have HF := hide hfin
  rw [hfin]
  clear h hfin lo hi
  go_enter Tryz.func72, Tryz.ntmps72
  go_wp2_with fail
  go_loopg [7, 8] (A.length + R.length) (fun kx s9 s10 wr => ∃ lo hi : Nat, s9 = .int .i64 lo ∧ s10 = .int .i64 hi ∧ lo ≤ A.length ∧ A.length ≤ hi ∧ hi ≤ A.length + R.length ∧ hi - lo ≤ kx ∧ wr = w)
  case atStart => exact ⟨0, A.length + R.length, rfl, rfl, Nat.zero_le _, by omega, Nat.le_refl _, by omega, rfl⟩
  case round =>
    obtain ⟨lo, hi, rfl, rfl, h1, h2, h3, hg, rfl⟩ := hrel
    by_cases hlt : lo < hi
    · obtain ⟨y, hy, hyn⟩ := unhide SG ((lo + hi) / 2) (by omega)
      have e0 := (unhide H).i0 hy
      clear hy
      have CM := fun W => cless_any y s W
      rw [hyn] at CM
      clear hyn
      by_cases hm : (lo + hi) / 2 < A.length
      · simp only [hm, decide_true] at CM
        go_wp2_with fail
        refine (CM _).mono ?_
        rintro e w1 ⟨rfl, rfl⟩
        clear CM
        go_wp2_with fail
        go_roundg (hi - ((lo + hi) / 2 + 1))
        case measure => omega
        case rel => exact ⟨(lo + hi) / 2 + 1, hi, by rw [show ((lo : Int) + (hi : Int)) / 2 + 1 = (((lo + hi) / 2 + 1 : Nat) : Int) by omega], rfl, by omega, h2, h3, Nat.le_refl _, rfl⟩
      · simp only [hm, decide_false] at CM
        go_wp2_with fail
        refine (CM _).mono ?_
        rintro e w1 ⟨rfl, rfl⟩
        clear CM
        go_wp2_with fail
        go_roundg ((lo + hi) / 2 - lo)
        case measure => omega
        case rel => exact ⟨lo, (lo + hi) / 2, rfl, by rw [show ((lo : Int) + (hi : Int)) / 2 = (((lo + hi) / 2 : Nat) : Int) by omega], h1, by omega, by omega, Nat.le_refl _, rfl⟩
    · obtain rfl : lo = A.length := by omega
      obtain rfl : hi = A.length := by omega
      cases R with
      | nil =>
        go_wp2_with fail
        go_ret2
        exact ⟨by rw [← unhide HF]; rfl, rfl⟩
      | cons f R =>
        have e0 := (unhide H).i0 (show (A ++ f :: R)[A.length]? = some f by simp)
        have hf : decide (f = s) = fin := unhide HF
        clear HF
        simp only [List.length_cons]
        by_cases hfs : f = s
        · subst hfs
          simp only [decide_true] at hf
          subst hf
          go_wp2_with fail
          go_ret2
          exact ⟨rfl, rfl⟩
        · simp only [hfs, decide_false] at hf
          subst hf
          have hq : (f == s) = false := by simpa using hfs
          clear hfs
          go_wp2_with fail
          refine (snan_any _ _).mono ?_
          rintro e w1 ⟨rfl, rfl⟩
          go_wp2_with fail
          go_ret2
          exact ⟨rfl, rfl⟩

set_option maxHeartbeats 400000 in
theorem ibs_none (a : Option Addr) (cap : Nat) (s : Int) (w : World) :
    Calls Tryz.prog 72 #[.slice a 0 cap, .int .i64 s] w fun e w' => e = .returned (.tuple #[.int .i64 0, .bool false]) ∧ w' = w := by
  go_enter Tryz.func72, Tryz.ntmps72
  go_wp2_with fail
  go_loopg [7, 8] 1 (fun _ s9 s10 wr => s9 = .int .i64 0 ∧ s10 = .int .i64 0 ∧ wr = w)
  case atStart => exact ⟨rfl, rfl, rfl⟩
  case round =>
    obtain ⟨rfl, rfl, rfl⟩ := hrel
    go_wp2_with fail
    go_ret2
    exact ⟨rfl, rfl⟩

theorem ibs_split (v : Value) (ss A R : List Int) (s : Int) (w : World) (hv : SeqV w v ss) (hl : ss.length ≤ 2147483647) (he : ss = A ++ R) (lo : ∀ a ∈ A, a < s) (hi : ∀ a ∈ R, ¬ a < s) :
    Calls Tryz.prog 72 #[v, .int .i64 s] w fun e w' => e = .returned (.tuple #[.int .i64 A.length, .bool (headI R s)]) ∧ w' = w := by
  rcases hv with ⟨a, cap, rfl, h0, _⟩ | ⟨b, off, cap, rfl, _, _, hb, _, hr⟩
  · rw [h0] at he
    obtain ⟨rfl, rfl⟩ : A = [] ∧ R = [] := by
      have := congrArg List.length he
      simp at this
      exact ⟨List.eq_nil_of_length_eq_zero (by omega), List.eq_nil_of_length_eq_zero (by omega)⟩
    exact ibs_none a cap s w
  · subst he
    rw [List.length_append]
    exact ibs_any b off cap A R s w (by simp at hl; omega) hb hr lo hi
theorem ibs_there (v : Value) (ss A B : List Int) (s : Int) (w : World) (hv : SeqV w v ss) (hl : ss.length ≤ 2147483647) (T : SThere ss A B s) :
    Calls Tryz.prog 72 #[v, .int .i64 s] w fun e w' => e = .returned (.tuple #[.int .i64 A.length, .bool true]) ∧ w' = w := by
  have := ibs_split v ss A (s :: B) s w hv hl T.eq T.lo (fun a ha => by
    rcases List.mem_cons.1 ha with rfl | h
    · omega
    · have := T.hi a h; omega)
  rwa [show headI (s :: B) s = true from by simp [headI]] at this
theorem ibs_gap (v : Value) (ss A B : List Int) (s : Int) (w : World) (hv : SeqV w v ss) (hl : ss.length ≤ 2147483647) (G : SGap ss A B s) :
    Calls Tryz.prog 72 #[v, .int .i64 s] w fun e w' => e = .returned (.tuple #[.int .i64 A.length, .bool false]) ∧ w' = w := by
  have := ibs_split v ss A B s w hv hl G.eq G.lo (fun a ha => by have := G.hi a ha; omega)
  rwa [show headI B s = false from by
    cases B with
    | nil => rfl
    | cons f B => exact decide_eq_false (by have := G.hi f (by simp); omega)] at this

set_option maxHeartbeats 400000 in
theorem topen_any (z : Int) (vn vs : Value) (ss : List Int) (s : Int) (w : World) (hv : SeqV w vs ss) (hs : SAsc ss) :
    Calls Tryz.prog 57 #[.agg #[.int .i64 z, vn, vs], .int .i64 s] w fun e w' => e = .returned (.bool (decide (s ∈ ss))) ∧ Below w.heap.size w w' := by
  have C : ∀ W : World, Below w.heap.size w W → ∃ i : Nat, Calls Tryz.prog 72 #[vs, .int .i64 s] W fun e w' => e = .returned (.tuple #[.int .i64 i, .bool (decide (s ∈ ss))]) ∧ w' = W := fun W hW => by
    rcases swhere s ss hs.1 with ⟨A, B, T⟩ | ⟨A, B, G⟩
    · rw [show decide (s ∈ ss) = true from decide_eq_true T.mem]
      exact ⟨A.length, ibs_there vs ss A B s W (hv.next hW) (sasc_len hs) T⟩
    · rw [show decide (s ∈ ss) = false from decide_eq_false G.not]
      exact ⟨A.length, ibs_gap vs ss A B s W (hv.next hW) (sasc_len hs) G⟩
  have C' := hide C
  obtain ⟨a, c, rfl⟩ := seq_slice hv
  clear C hv hs
  generalize decide (s ∈ ss) = hd at C' ⊢
  generalize ss.length = n at C' ⊢
  go_enter Tryz.func57, Tryz.ntmps57
  go_wp2_with fail
  obtain ⟨i, C2⟩ := unhide C' _ (allocB _ _)
  refine C2.mono ?_
  rintro e w1 ⟨rfl, rfl⟩
  go_wp2_with fail
  go_ret
  exact ⟨rfl, allocB _ _⟩

end Go.Proofs.YtalnmhgedfgooaaGreatDoor

namespace Go.Proofs.YtalnmhgedfgooaaGreatDoor
open Go.RowKit

noncomputable def pd (P : Prop) : Bool := @decide P (Classical.propDecidable _)
theorem pd_true {P : Prop} (h : P) : pd P = true := by unfold pd; exact @decide_eq_true _ (Classical.propDecidable _) h
theorem pd_false {P : Prop} (h : ¬ P) : pd P = false := by unfold pd; exact @decide_eq_false _ (Classical.propDecidable _) h
theorem pd_iff {P : Prop} : pd P = true ↔ P := by unfold pd; exact @decide_eq_true_iff _ (Classical.propDecidable _)
theorem nret_bool {a b : Bool} (h : a = b) : Ending.returned (.bool a) = .returned (.bool b) := by rw [h]

/- the parts of Good -/
structure OrdN (ns : List Nd) : Prop where
  few : ns.length ≤ 400
  root : ∃ r rest, ns = r :: rest ∧ r.p = [47]
  asc : NAsc ns
def HeldP (ns : List Nd) (p : List UInt8) : Prop := (lookN ns (dirOf p)).isSome = true ∨ splE p = 7
structure SoundP (z : Int) (n : Nd) (ks : Int) (ss : List Int) : Prop where
  c0 : 0 ≤ n.c
  cm : n.c ≤ n.m
  cq : n.c ≤ n.q
  mz : n.m ≤ z
  qz : n.q ≤ z
  v0 : 0 ≤ n.v
  v1 : n.v ≤ 2147483647
  k0 : 0 ≤ n.k
  k1 : n.k ≤ 2147483647
  kids : n.n = ks
  own : n.o = 0 ∨ ks = 0 ∧ n.o ∈ ss
structure PartP (z : Int) (ns : List Nd) (ss : List Int) (n : Nd) : Prop where
  data : n.d.length ≤ 256
  held : HeldP ns n.p
  sound : SoundP z n (kidsN ns n.p) ss
theorem bl_low {q : List UInt8} (h : bl [47] q = true) : q ≠ [] := by rintro rfl; simp [bl, Op.bytesLess] at h
theorem ord_nonempty {ns : List Nd} (h : OrdN ns) {n : Nd} (hn : n ∈ ns) : n.p ≠ [] := by
  obtain ⟨r, rest, rfl, hr⟩ := h.root
  rcases List.mem_cons.1 hn with rfl | hn
  · rw [hr]; simp
  · have := (List.pairwise_cons.1 h.asc).1 n hn
    rw [hr] at this
    exact bl_low this
theorem good_parts {t : Tr} : GoodT t ↔ zGood t.z = true ∧ OrdN t.ns ∧ SAsc t.ss ∧ (∀ n ∈ t.ns, PartP t.z t.ns t.ss n) ∧ ∀ r, t.ns[0]? = some r → r.o = 0 := by
  constructor
  · intro g
    obtain ⟨r, rest, hr, hp, ho⟩ := g.nod.root
    refine ⟨g.zx, ⟨g.nod.few, ⟨r, rest, hr, hp⟩, g.nod.asc⟩, g.ses, fun n hn => ?_, fun r' h => by rw [hr] at h; simp at h; rw [← h]; exact ho⟩
    have k := g.nod.ok n hn
    refine ⟨k.data, ?_, ⟨k.c0, k.cm, k.cq, k.mz, k.qz, k.v0, k.v1, k.k0, g.cap n hn, k.kids, ?_⟩⟩
    · by_cases h : n.p = [47]
      · exact .inr (by rw [h]; exact splE_root)
      · obtain ⟨u, hu, he⟩ := k.up h
        exact .inl (by rw [← he, look_mem g.nod.asc hu]; rfl)
    · rcases k.own with h | ⟨h1, h2⟩
      · exact .inl h
      · exact .inr ⟨by rw [← k.kids]; exact h2, h1⟩
  · rintro ⟨hz, ho, hs, hp, hr⟩
    refine ⟨hz, hs, ⟨ho.few, ?_, ho.asc, fun n hn => ?_⟩, fun n hn => (hp n hn).sound.k1⟩
    · obtain ⟨r, rest, h1, h2⟩ := ho.root
      exact ⟨r, rest, h1, h2, hr r (by rw [h1]; rfl)⟩
    · have k := hp n hn
      have s := k.sound
      have hg : goodB n.p = true ∧ (n.p ≠ [47] → ∃ u ∈ t.ns, u.p = dirOf n.p) := by
        rcases k.held with h | h
        · obtain ⟨u, hu⟩ := Option.isSome_iff_exists.1 h
          obtain ⟨hu1, hu2⟩ := lookN_some hu
          have hne : dirOf n.p ≠ [] := by rw [← hu2]; exact ord_nonempty ho hu1
          cases hb : goodB n.p with
          | false => exact absurd (dirOf_bad hb) hne
          | true => exact ⟨rfl, fun _ => ⟨u, hu1, hu2⟩⟩
        · cases hb : goodB n.p with
          | false => rw [splE_bad hb] at h; omega
          | true =>
            by_cases h1 : n.p = [47]
            · exact ⟨rfl, fun h2 => absurd h1 h2⟩
            · rw [splE_ok hb h1] at h; omega
      refine ⟨k.data, hg.1, hg.2, s.c0, s.cm, s.cq, s.mz, s.qz, s.v0, s.v1, s.k0, s.kids, ?_⟩
      rcases s.own with h | ⟨h1, h2⟩
      · exact .inl h
      · exact .inr ⟨h2, by rw [s.kids]; exact h1⟩

/- ordered -/
def RiseTo (ns : List Nd) (k : Nat) : Prop := ∀ i, i < k → ∀ a b, ns[i]? = some a → ns[i + 1]? = some b → bl a.p b.p = true
theorem rise_succ {ns : List Nd} {k : Nat} (h : RiseTo ns k) {a b : Nd} (ha : ns[k]? = some a) (hb : ns[k + 1]? = some b) (hl : bl a.p b.p = true) : RiseTo ns (k + 1) := by
  intro i hi x y hx hy
  by_cases e : i = k
  · subst e; rw [ha] at hx; rw [hb] at hy; cases hx; cases hy; exact hl
  · exact h i (by omega) x y hx hy
theorem asc_of_rise {ns : List Nd} {k : Nat} (h : RiseTo ns k) (hk : ns.length ≤ k + 1) : NAsc ns := by
  have step : ∀ j i, (hij : i < j) → ∀ (hj : j < ns.length), bl (ns[i]'(Nat.lt_trans hij hj)).p ns[j].p = true := by
    intro j
    induction j with
    | zero => intro i hi; omega
    | succ j ih =>
      intro i hi hj
      have h1 := h j (by omega) ns[j] ns[j + 1] (by simp) (by simp)
      by_cases e : i = j
      · subst e; exact h1
      · exact bl_trans _ _ _ (ih i (by omega) (by omega)) h1
  exact List.pairwise_iff_getElem.2 fun i j hi hj hij => step j i hij hj
theorem asc_rise {ns : List Nd} (h : NAsc ns) {i : Nat} {a b : Nd} (ha : ns[i]? = some a) (hb : ns[i + 1]? = some b) : bl a.p b.p = true := by
  obtain ⟨h1, rfl⟩ := List.getElem?_eq_some_iff.1 ha
  obtain ⟨h2, rfl⟩ := List.getElem?_eq_some_iff.1 hb
  exact List.pairwise_iff_getElem.1 h i (i + 1) h1 h2 (by omega)

set_option maxRecDepth 20000 in
set_option maxHeartbeats 2000000 in
theorem ordered_any (v : Value) (ns : List Nd) (w : World) (hv : SeqV w v ns) :
    Calls Tryz.prog 41 #[v] w fun e w' => e = .returned (.bool (pd (OrdN ns))) ∧ Below w.heap.size w w' := by
  rcases hv with ⟨a, cap, rfl, rfl, _⟩ | ⟨b, off, cap, rfl, hle, hm, hb, hne, hr⟩
  · have F := hide (pd_false (P := OrdN []) (fun h => by obtain ⟨r, rest, h, _⟩ := h.root; cases h)).symm
    go_enter Tryz.func41, Tryz.ntmps41
    go_wp2_with fail
    go_ret
    exact ⟨nret_bool (unhide F), Below.refl _ _⟩
  · obtain ⟨r, rest, rfl⟩ : ∃ r rest, ns = r :: rest := by
      cases ns with
      | nil => exact absurd rfl hne
      | cons r rest => exact ⟨r, rest, rfl⟩
    have e0 := hr.n0 (i := 0) (x := r) rfl
    have H := hide hr
    simp only [List.length_cons] at hle ⊢
    simp only [maxLen] at hm
    clear hr hne
    by_cases hl : rest.length + 1 ≤ 400
    · by_cases hp : r.p = [47]
      · have hp2 : (r.p == [47]) = true := by rw [hp]; rfl
        have HL := hide hl
        have HP := hide hp
        clear hp
        simp only [Nat.zero_mul, Nat.add_zero] at e0
        by_cases hc1 : cap = 1
        · obtain rfl : rest = [] := List.eq_nil_of_length_eq_zero (by omega)
          subst hc1
          have T := hide (pd_true (P := OrdN [r]) ⟨by simp, ⟨r, [], rfl, unhide HP⟩, List.pairwise_singleton _ _⟩).symm
          clear hle hl
          simp only [List.length_nil]
          go_enter Tryz.func41, Tryz.ntmps41
          go_wp2_with fail
          go_loopg [23] 1 (fun _ s23 wr => s23 = .int .i64 0 ∧ wr = w)
          case atStart => exact ⟨rfl, rfl⟩
          case round =>
            obtain ⟨rfl, rfl⟩ := hrel
            go_wp2_with fail
            go_ret
            exact ⟨nret_bool (unhide T), Below.refl _ _⟩
        · go_enter Tryz.func41, Tryz.ntmps41
          go_wp2_with fail
          go_loopg [23] rest.length (fun kx s23 wr => ∃ k : Nat, s23 = .int .i64 k ∧ k ≤ rest.length ∧ rest.length - k ≤ kx ∧ Hid (Below w.heap.size w wr) ∧ Hid (RiseTo (r :: rest) k))
          case atStart => exact ⟨0, rfl, Nat.zero_le _, Nat.le_refl _, hide (Below.refl _ _), hide (fun i hi => absurd hi (Nat.not_lt_zero _))⟩
          case round =>
            obtain ⟨k, rfl, hk, hg, hB, hR⟩ := hrel
            by_cases hlt : k < rest.length
            · obtain ⟨x, hx⟩ : ∃ x, (r :: rest)[k + 1]? = some x := ⟨_, List.getElem?_eq_getElem (by simp; omega)⟩
              obtain ⟨y, hy⟩ : ∃ y, (r :: rest)[k]? = some y := ⟨_, List.getElem?_eq_getElem (by simp; omega)⟩
              have q := (unhide H).kept (unhide hB) hb
              have d0 := q.n0 hx
              have d1 := q.n1 hx
              have d2 := q.n2 hx
              have d3 := q.n3 hx
              have d4 := q.n4 hx
              have d5 := q.n5 hx
              have d6 := q.n6 hx
              have d7 := q.n7 hx
              have d8 := q.n8 hx
              have c0 := q.n0 hy
              have hbw : b < wr.heap.size := Nat.lt_of_lt_of_le hb (unhide hB).size
              have hofs : off + 9 + k * 9 = off + (k + 1) * 9 := by omega
              rw [← hofs] at d0 d1 d2 d3 d4 d5 d6 d7 d8
              clear hofs
              have hk1 : (k : Int) < (rest.length : Int) + 1 := by omega
              cases hbl : bl y.p x.p with
              | true =>
                have R2 := hide (rise_succ (unhide hR) hy hx hbl)
                have hbl1 : Op.bytesLess x.p y.p = false := bl_asymm hbl
                have hbl2 : (x.p == y.p) = false := by simpa using (bl_ne hbl).symm
                clear hx hy q hbl
                go_wp2_with fail
                go_region
                go_wp2_with fail
                go_roundg (rest.length - (k + 1))
                case measure => omega
                case rel => exact ⟨k + 1, rfl, by omega, Nat.le_refl _, hide (nnext (unhide hB) ((allocB _ _).drew)), R2⟩
              | false =>
                have F := hide (pd_false (P := OrdN (r :: rest)) (fun h => by have := asc_rise h.asc hy hx; rw [hbl] at this; cases this)).symm
                clear hx hy q
                cases hb1 : bl x.p y.p with
                | true =>
                  have hbl1 : Op.bytesLess x.p y.p = true := hb1
                  clear hbl hb1
                  go_wp2_with fail
                  go_region
                  go_wp2_with fail
                  go_ret
                  exact ⟨nret_bool (unhide F), nnext (unhide hB) ((allocB _ _).drew)⟩
                | false =>
                  have hbl1 : Op.bytesLess x.p y.p = false := hb1
                  have hbl2 : (x.p == y.p) = true := by simpa using bl_total _ _ hb1 hbl
                  clear hbl hb1
                  go_wp2_with fail
                  go_region
                  go_wp2_with fail
                  go_ret
                  exact ⟨nret_bool (unhide F), nnext (unhide hB) ((allocB _ _).drew)⟩
            · obtain rfl : k = rest.length := by omega
              go_wp2_with fail
              go_ret
              exact ⟨nret_bool (pd_true (P := OrdN (r :: rest)) ⟨unhide HL, ⟨r, rest, rfl, unhide HP⟩, asc_of_rise (unhide hR) (by simp)⟩).symm, unhide hB⟩
      · have hp2 : (r.p == [47]) = false := by simpa using hp
        have F := hide (pd_false (P := OrdN (r :: rest)) (fun h => by obtain ⟨r', s', h1, h2⟩ := h.root; cases h1; exact hp h2)).symm
        clear hp
        simp only [Nat.zero_mul, Nat.add_zero] at e0
        go_enter Tryz.func41, Tryz.ntmps41
        go_wp2_with fail
        go_ret
        exact ⟨nret_bool (unhide F), Below.refl _ _⟩
    · have F := hide (pd_false (P := OrdN (r :: rest)) (fun h => hl (by simpa using h.few))).symm
      go_enter Tryz.func41, Tryz.ntmps41
      go_wp2_with fail
      go_ret
      exact ⟨nret_bool (unhide F), Below.refl _ _⟩

/- numbered -/
def leastOf (ss : List Int) : Nat → Int
  | 0 => 1
  | k + 1 => ss.getD k 0 + 1
def OkS (ss : List Int) (k : Nat) : Prop := ∀ i, i < k → ∀ x, ss[i]? = some x → leastOf ss i ≤ x ∧ x ≤ 2147483647
theorem oks_succ {ss : List Int} {k : Nat} (h : OkS ss k) {x : Int} (hx : ss[k]? = some x) (h1 : leastOf ss k ≤ x) (h2 : x ≤ 2147483647) : OkS ss (k + 1) := by
  intro i hi y hy
  by_cases e : i = k
  · subst e; rw [hx] at hy; cases hy; exact ⟨h1, h2⟩
  · exact h i (by omega) y hy
theorem leastOf_succ {ss : List Int} {k : Nat} {x : Int} (hx : ss[k]? = some x) : leastOf ss (k + 1) = x + 1 := by simp [leastOf, List.getD, hx]
theorem sasc_oks {ss : List Int} (h : SAsc ss) {k : Nat} {x : Int} (hx : ss[k]? = some x) : leastOf ss k ≤ x ∧ x ≤ 2147483647 := by
  have hb := h.2 x (List.mem_of_getElem? hx)
  refine ⟨?_, hb.2⟩
  cases k with
  | zero => simp only [leastOf]; omega
  | succ k =>
    obtain ⟨h1, rfl⟩ := List.getElem?_eq_some_iff.1 hx
    rw [leastOf_succ (List.getElem?_eq_getElem (show k < ss.length by omega))]
    have := List.pairwise_iff_getElem.1 h.1 k (k + 1) (by omega) h1 (by omega)
    omega
theorem oks_sasc {ss : List Int} (h : OkS ss ss.length) : SAsc ss := by
  have step : ∀ j i, (hij : i < j) → ∀ (hj : j < ss.length), ss[i]'(Nat.lt_trans hij hj) < ss[j] := by
    intro j
    induction j with
    | zero => intro i hi; omega
    | succ j ih =>
      intro i hi hj
      have h1 := (h (j + 1) hj _ (List.getElem?_eq_getElem hj)).1
      rw [leastOf_succ (List.getElem?_eq_getElem (show j < ss.length by omega))] at h1
      by_cases e : i = j
      · subst e; omega
      · have := ih i (by omega) (by omega); omega
  have pos : ∀ i, (hi : i < ss.length) → 1 ≤ ss[i] := by
    intro i
    induction i with
    | zero => intro hi; exact (h 0 hi _ (List.getElem?_eq_getElem hi)).1
    | succ i ih => intro hi; have := step (i + 1) i (by omega) hi; have := ih (by omega); omega
  refine ⟨List.pairwise_iff_getElem.2 fun i j hi hj hij => step j i hij hj, fun s hs => ?_⟩
  obtain ⟨i, hi, rfl⟩ := List.getElem_of_mem hs
  exact ⟨pos i hi, (h i hi _ (List.getElem?_eq_getElem hi)).2⟩

set_option maxHeartbeats 2000000 in
theorem numbered_any (v : Value) (ss : List Int) (w : World) (hv : SeqV w v ss) (hi : ∀ s ∈ ss, -9223372036854775808 ≤ s ∧ s ≤ 9223372036854775807) :
    Calls Tryz.prog 42 #[v] w fun e w' => e = .returned (.bool (pd (SAsc ss))) ∧ w' = w := by
  have T := hide (fun h : OkS ss ss.length => (pd_true (oks_sasc h)).symm)
  have F := hide (fun (k : Nat) (x : Int) (hx : ss[k]? = some x) (h : ¬ (leastOf ss k ≤ x ∧ x ≤ 2147483647)) => (pd_false (fun g : SAsc ss => h (sasc_oks g hx))).symm)
  have HI := hide hi
  clear hi
  generalize pd (SAsc ss) = fin at T F ⊢
  have R : ∀ k x, ss[k]? = some x → ∃ b off cap, v = .slice (some ⟨b, off, none⟩) ss.length cap ∧ w.cell? ⟨b, off + k, none⟩ = some (.int .i64 x) := fun k x hx => by
    obtain ⟨b, off, cap, rfl, _, hr, _, _⟩ := seq_row hv (by rintro rfl; simp at hx)
    exact ⟨b, off, cap, rfl, hr.i0 hx⟩
  have HR := hide R
  have hml : ss.length ≤ 9223372036854775807 := by
    rcases hv with ⟨a, cap, rfl, rfl, _⟩ | ⟨b, off, cap, rfl, h1, h2, _⟩
    · simp
    · simp only [maxLen] at h2; omega
  obtain ⟨a, c, rfl⟩ := seq_slice hv
  clear R hv
  go_enter Tryz.func42, Tryz.ntmps42
  go_wp2_with fail
  go_loopg [3, 8] ss.length (fun kx s3 s8 wr => ∃ k : Nat, s3 = .int .i64 (leastOf ss k) ∧ s8 = .int .i64 k ∧ k ≤ ss.length ∧ ss.length - k ≤ kx ∧ wr = w ∧ Hid (OkS ss k))
  case atStart => exact ⟨0, rfl, rfl, Nat.zero_le _, Nat.le_refl _, rfl, hide (fun i hi => absurd hi (Nat.not_lt_zero _))⟩
  case round =>
    obtain ⟨k, rfl, rfl, hk, hg, rfl, hO⟩ := hrel
    by_cases hlt : k < ss.length
    · obtain ⟨x, hx⟩ : ∃ x, ss[k]? = some x := ⟨_, List.getElem?_eq_getElem hlt⟩
      obtain ⟨b, off, cap, hv, e0⟩ := unhide HR k x hx
      have hbx := unhide HI x (List.mem_of_getElem? hx)
      simp only [Value.slice.injEq] at hv
      obtain ⟨rfl, _, rfl⟩ := hv
      have HX := hide hx
      clear hx
      have LS := hide (leastOf_succ (unhide HX))
      by_cases h1 : leastOf ss k ≤ x
      · by_cases h2 : x ≤ 2147483647
        · have O2 := hide (oks_succ (unhide hO) (unhide HX) h1 h2)
          generalize leastOf ss k = ls at h1
          go_wp2_with fail
          go_roundg (ss.length - (k + 1))
          case measure => omega
          case rel => exact ⟨k + 1, by rw [unhide LS], rfl, by omega, Nat.le_refl _, rfl, O2⟩
        · have G := hide (unhide F k x (unhide HX) (by omega))
          generalize leastOf ss k = ls at h1
          go_wp2_with fail
          go_ret
          exact ⟨nret_bool (unhide G), rfl⟩
      · have G := hide (unhide F k x (unhide HX) (by omega))
        generalize leastOf ss k = ls at h1
        go_wp2_with fail
        go_ret
        exact ⟨nret_bool (unhide G), rfl⟩
    · obtain rfl : k = ss.length := by omega
      have G := hide (unhide T (unhide hO))
      go_wp2_with fail
      go_ret
      exact ⟨nret_bool (unhide G), rfl⟩

/- held -/
set_option maxHeartbeats 400000 in
theorem held_any (v : Value) (ns : List Nd) (p : List UInt8) (w : World) (hv : SeqV w v ns) (ha : OrdN ns) :
    Calls Tryz.prog 44 #[v, .string ⟨p.toArray⟩] w fun e w' => e = .returned (.bool (pd (HeldP ns p))) ∧ Below w.heap.size w w' := by
  have C : ∀ W : World, Below w.heap.size w W → ∃ i : Nat, Calls Tryz.prog 38 #[v, .string ⟨(dirOf p).toArray⟩] W fun e w' => e = .returned (.tuple #[.int .i64 i, .bool (lookN ns (dirOf p)).isSome]) ∧ Below W.heap.size W w' := fun W hW => by
    obtain ⟨i, _, h⟩ := nfind_any v ns (dirOf p) W (hv.next hW) (by have := ha.few; omega) ha.asc
    exact ⟨i, h⟩
  have C' := hide C
  have F : pd (HeldP ns p) = ((lookN ns (dirOf p)).isSome || splE p == 7) := by
    cases h : (lookN ns (dirOf p)).isSome with
    | true => exact pd_true (.inl h)
    | false =>
      by_cases h2 : splE p = 7
      · rw [pd_true (.inr h2), h2]; rfl
      · rw [pd_false (fun hh => hh.elim (fun h1 => by rw [h] at h1; cases h1) h2)]; simp [h2]
  rw [F]
  obtain ⟨a, c, rfl⟩ := seq_slice hv
  have CS := fun W => split_any p W
  clear C hv ha F
  generalize (lookN ns (dirOf p)).isSome = hd at C' ⊢
  generalize dirOf p = dp at C' CS
  generalize stepOf p = sp at CS
  generalize splE p = ep at CS ⊢
  generalize ns.length = nl at C' ⊢
  go_enter Tryz.func44, Tryz.ntmps44
  go_wp2_with fail
  refine (CS _).mono ?_
  rintro e w1 ⟨rfl, hb1⟩
  go_wp2_with fail
  obtain ⟨i, C2⟩ := unhide C' _ hb1
  refine C2.mono ?_
  rintro e w2 ⟨rfl, hb2⟩
  have hB := nnext hb1 hb2
  clear CS C2 C' hb1 hb2
  cases hd with
  | true =>
    go_wp2_with fail
    go_ret
    exact ⟨rfl, hB⟩
  | false =>
    go_wp2_with fail
    go_ret
    exact ⟨rfl, hB⟩

/- sound -/
set_option maxRecDepth 20000 in
set_option maxHeartbeats 4000000 in
theorem sound_any (z : Int) (vn vs : Value) (n : Nd) (kids : Int) (ss : List Int) (w : World) (hv : SeqV w vs ss) (hs : SAsc ss) :
    Calls Tryz.prog 45 #[.agg #[.int .i64 z, vn, vs], statV n, .int .i64 kids] w fun e w' => e = .returned (.bool (pd (SoundP z n kids ss))) ∧ Below w.heap.size w w' := by
  have CO : ∀ W : World, Below w.heap.size w W → Calls Tryz.prog 57 #[.agg #[.int .i64 z, vn, vs], .int .i64 n.o] W fun e w' => e = .returned (.bool (decide (n.o ∈ ss))) ∧ Below W.heap.size W w' := fun W hW => topen_any z vn vs ss n.o W (hv.next hW) hs
  have C' := hide CO
  have F := hide (fun h : ¬ SoundP z n kids ss => (pd_false h).symm)
  have T := hide (fun h : SoundP z n kids ss => (pd_true h).symm)
  have SP := hide (Iff.intro (fun h : SoundP z n kids ss => And.intro h.c0 (And.intro h.cm (And.intro h.cq (And.intro h.mz (And.intro h.qz (And.intro h.v0 (And.intro h.v1 (And.intro h.k0 (And.intro h.k1 (And.intro h.kids h.own)))))))))) (fun ⟨a, b, c, d, e, f, g, h, i, j, k⟩ => (⟨a, b, c, d, e, f, g, h, i, j, k⟩ : SoundP z n kids ss)))
  generalize pd (SoundP z n kids ss) = fin at F T ⊢
  obtain ⟨a, c, rfl⟩ := seq_slice hv
  clear CO hv hs
  unfold statV
  obtain ⟨np, nd, nc, nm, nq, nv, nk, no, nn⟩ := n
  simp only at C' SP ⊢
  go_enter Tryz.func45, Tryz.ntmps45
  go_wp2_with fail
  go_region
  go_wp2_with fail
  all_goals try simp only [bne_iff_ne, ne_eq, bne_eq_false_iff_eq] at *
  all_goals (first
    | (go_ret; exact ⟨nret_bool (unhide F (fun h => by have := (unhide SP).1 h; omega)), (((Below.refl _ _).alloc (Nat.le_refl _) _).alloc (by simp) _).drew⟩)
    | (go_ret; exact ⟨nret_bool (unhide T ((unhide SP).2 (by omega))), (((Below.refl _ _).alloc (Nat.le_refl _) _).alloc (by simp) _).drew⟩)
    | (go_ret; exact ⟨nret_bool ((beq_eq_false_iff_ne.2 (by assumption)).trans (unhide F (fun h => by rcases ((unhide SP).1 h).2.2.2.2.2.2.2.2.2.2 with h | h <;> omega))), (((Below.refl _ _).alloc (Nat.le_refl _) _).alloc (by simp) _).drew⟩)
    | skip)
  refine (unhide C' _ ((((Below.refl _ _).alloc (Nat.le_refl _) _).alloc (by simp) _).drew)).mono ?_
  rintro e w1 ⟨rfl, hb1⟩
  have hB := nnext ((((Below.refl w.heap.size w).alloc (Nat.le_refl _) _).alloc (by simp) _).drew) hb1
  by_cases hmem : no ∈ ss
  · have G := hide (unhide T ((unhide SP).2 ⟨by omega, by omega, by omega, by omega, by omega, by omega, by omega, by omega, by omega, by omega, .inr ⟨by omega, hmem⟩⟩))
    go_wp2_with fail
    go_ret
    exact ⟨nret_bool (unhide G), hB⟩
  · have G := hide (unhide F (fun h => by have := ((unhide SP).1 h).2.2.2.2.2.2.2.2.2.2; rcases this with h | h; · omega
                                          · exact hmem h.2))
    go_wp2_with fail
    go_ret
    exact ⟨nret_bool ((beq_eq_false_iff_ne.2 (by assumption)).trans (unhide G)), hB⟩

end Go.Proofs.YtalnmhgedfgooaaGreatDoor

namespace Go.Proofs.YtalnmhgedfgooaaGreatDoor
open Go.RowKit Go.WideMaps Go.Maps

theorem mlaw : Keyed Tryz.prog 9 := string_keyed Tryz.underlying9
theorem mzero (w : World) : (zeroValue 3).run Tryz.prog w = .ok (.int .i64 0) w := by kernel_rfl

/-- block B is the map of how many of these nodes have each text as their parent -/
def Counts (w : World) (B k : Nat) (ns : List Nd) : Prop :=
  ∃ D : DataW Unit, w.ownsMap Tryz.prog 9 (plainElem Tryz.prog 3) B k D ∧ IsMap D ∧ ∀ s : List UInt8, D.atKey (.string s) (.lit (.int .i64 0)) = .lit (.int .i64 (kidsN ns s))
theorem kidsN_snoc (ns : List Nd) (n : Nd) (s : List UInt8) : kidsN (ns ++ [n]) s = kidsN ns s + (if dirOf n.p = s then 1 else 0) := by
  simp only [kidsN, List.countP_append, List.countP_cons, List.countP_nil, decide_eq_true_eq]; omega
theorem kidsN_le (ns : List Nd) (s : List UInt8) : kidsN ns s ≤ ns.length := List.countP_le_length
theorem counts_step {D : DataW Unit} {ns : List Nd} {n : Nd} (hm : IsMap D) (hD : ∀ s : List UInt8, D.atKey (.string s) (.lit (.int .i64 0)) = .lit (.int .i64 (kidsN ns s))) (s : List UInt8) :
    (D.put (.string (dirOf n.p)) (.lit (.int .i64 (kidsN ns (dirOf n.p) + 1)))).atKey (.string s) (.lit (.int .i64 0)) = .lit (.int .i64 (kidsN (ns ++ [n]) s)) := by
  rw [kidsN_snoc]
  by_cases e : dirOf n.p = s
  · subst e
    rw [atKey_put_same hm (show WideAt.IsKeyLit (.string _) from trivial)]
    simp
  · rw [atKey_put_other (by simpa using fun h => e h.symm), hD, if_neg e]
    simp

set_option maxRecDepth 100000 in
set_option maxHeartbeats 2000000 in
theorem counted_map (b off cap : Nat) (ns : List Nd) (w : World) (hl : ns.length ≤ 400) (hb : b < w.heap.size) (hr : RowAt w b off (cellsL ns)) :
    Calls Tryz.prog 43 #[.slice (some ⟨b, off, none⟩) ns.length cap] w fun e w' => e = .returned (.map (some w.heap.size)) ∧ Counts w' w.heap.size 400 ns ∧ Below w.heap.size w w' := by
  have H := hide hr
  clear hr
  have hmm := @run_makeMap Tryz.prog
  go_enter Tryz.func43, Tryz.ntmps43
  go_wp2_with fail
  go_loopg [12] ns.length (fun kx i wr => ∃ k : Nat, i = .int .i64 k ∧ k ≤ ns.length ∧ ns.length - k ≤ kx ∧ Hid (Counts wr w.heap.size k (ns.take k)) ∧ Hid (Below w.heap.size w wr))
  case atStart => exact ⟨0, rfl, Nat.zero_le _, Nat.le_refl _, hide ⟨_, World.ownsMap_made _ _ _ _, isMap_empty, fun s => by rfl⟩, hide (allocB _ _)⟩
  case round =>
    obtain ⟨k, rfl, hk, hg, hC, hB⟩ := hrel
    by_cases hlt : k < ns.length
    · obtain ⟨x, hx⟩ : ∃ x, ns[k]? = some x := ⟨_, List.getElem?_eq_getElem hlt⟩
      have q := (unhide H).kept (unhide hB) hb
      have d0 := q.n0 hx
      have d1 := q.n1 hx
      have d2 := q.n2 hx
      have d3 := q.n3 hx
      have d4 := q.n4 hx
      have d5 := q.n5 hx
      have d6 := q.n6 hx
      have d7 := q.n7 hx
      have d8 := q.n8 hx
      have hbw : b < wr.heap.size := Nat.lt_of_lt_of_le hb (unhide hB).size
      have hts : ns.take (k + 1) = ns.take k ++ [x] := by rw [List.take_add_one, hx]; rfl
      have HT := hide hts
      clear q hx hts
      have CS := fun W => split_any x.p W
      have hdl : (dirOf x.p).length ≤ 1000 := by
        cases hgb : goodB x.p with
        | false => rw [dirOf_bad hgb]; simp
        | true =>
          by_cases hr : x.p = [47]
          · rw [hr, dirOf_root]; simp
          · obtain ⟨a, c, he, hc⟩ := good_cut hgb
            have := goodB_le hgb
            rw [he] at hgb hr this ⊢
            rw [dirOf_cut hgb hr hc, nupL]
            split
            · simp
            · simp at this; omega
      have HDL := hide hdl
      clear hdl
      obtain ⟨D, ho, hm, hD⟩ := unhide hC
      have HD := hide hD
      have HM := hide hm
      have hc1 := kidsN_le (ns.take k) (dirOf x.p)
      simp only [List.length_take] at hc1
      have STEP := hide (fun s => counts_step (n := x) hm hD s)
      obtain ⟨cn, hcn⟩ : ∃ cn, kidsN (ns.take k) (dirOf x.p) = cn := ⟨_, rfl⟩
      rw [hcn] at hc1
      have HCN := hide hcn
      clear hD hm hcn
      generalize hdp : dirOf x.p = dp at CS HDL
      have HDP := hide hdp
      clear hdp
      generalize stepOf x.p = sp at CS
      generalize splE x.p = ep at CS
      go_wp2_with fail
      refine (CS _).mono ?_
      rintro e w1 ⟨rfl, hb1⟩
      have hB1 : Below w.heap.size w w1 := nnext (unhide hB) (nbox_then hb1)
      have ho1 : w1.ownsMap Tryz.prog 9 (plainElem Tryz.prog 3) w.heap.size k D := by
        have : Below wr.heap.size wr w1 := nbox_then hb1
        obtain ⟨es, cl, h1, h2⟩ := ho
        exact ⟨es, cl, (this.block _ (Array.getElem?_eq_some_iff.1 h1).1).trans h1, h2⟩
      have hkey : keyOf Tryz.prog 9 (.string ⟨dp.toArray⟩) = some (.string dp) := by
        have := keyOf_string_mk (P := Tryz.prog) Tryz.underlying9 (s := ⟨dp.toArray⟩) (by have := unhide HDL; simp only [maxLen, ByteArray.size, List.size_toArray]; omega)
        simpa using this
      obtain ⟨c, hrun, hat, _⟩ := ho1.lookup_int mlaw Tryz.underlying78 Tryz.underlying3 (mzero _) hkey
      have hcc : c = (cn : Int) := by
        rw [unhide HD, ← unhide HDP, unhide HCN] at hat
        simpa using hat.symm
      subst hcc
      clear CS hat hb1 ho d0 d1 d2 d3 d4 d5 d6 d7 d8
      go_wp2_with (first
        | (at_mapUpdate; refine wpList_mapUpdate_own _ rfl _ _ _ 78 rfl 9 3 mlaw Tryz.underlying78 _ w.heap.size k _ rfl ho1 (by unfold maxLen; omega) _ _ _ rfl rfl hkey _ [] (plainElem_int Tryz.underlying3 (WalkArith.wf_i64 (by omega))) ?_)
        | fail)
      intro w2 hown1 hgrow1
      have B2 := hB1.grown hgrow1 hB1.size (fun j hj => by cases hj; exact Nat.le_refl _)
      have C2 : Counts w2 w.heap.size (k + 1) (ns.take (k + 1)) := by
        refine ⟨_, hown1, (unhide HM).put _ _, fun s => ?_⟩
        rw [unhide HT, ← unhide STEP s, unhide HCN, unhide HDP]
      have HC2 := hide C2
      have HB2 := hide B2
      clear C2 B2 hown1 hgrow1 ho1 hrun hB1
      go_wp2_with fail
      go_roundg (ns.length - (k + 1))
      case measure => omega
      case rel => exact ⟨k + 1, rfl, by omega, Nat.le_refl _, HC2, HB2⟩
    · obtain rfl : k = ns.length := by omega
      go_wp2_with fail
      go_ret
      obtain ⟨D, ho, hm, hD⟩ := unhide hC
      exact ⟨rfl, ⟨D, ho.mono (by omega), hm, fun s => by rw [hD, List.take_length]⟩, unhide hB⟩

/-- numbers and texts as great as a machine has them -/
structure WfT (t : Tr) : Prop where
  ses : ∀ s ∈ t.ss, -9223372036854775808 ≤ s ∧ s ≤ 9223372036854775807
  slim : ∀ n ∈ t.ns, n.p.length ≤ 140737488355328 ∧ n.d.length ≤ 140737488355328
def OkG (t : Tr) (k : Nat) : Prop := ∀ i, i < k → ∀ n, t.ns[i]? = some n → PartP t.z t.ns t.ss n
theorem okg_succ {t : Tr} {k : Nat} (h : OkG t k) {n : Nd} (hn : t.ns[k]? = some n) (hp : PartP t.z t.ns t.ss n) : OkG t (k + 1) := by
  intro i hi m hm
  by_cases e : i = k
  · subst e; rw [hn] at hm; cases hm; exact hp
  · exact h i (by omega) m hm
theorem good_yes {t : Tr} (hz : zGood t.z = true) (ho : OrdN t.ns) (hs : SAsc t.ss) (h : OkG t t.ns.length) {r : Nd} (hr : t.ns[0]? = some r) : goodT t = decide (r.o = 0) := by
  by_cases h0 : r.o = 0
  · rw [decide_eq_true h0, goodT_true, good_parts]
    refine ⟨hz, ho, hs, fun n hn => ?_, fun r' h => by rw [hr] at h; cases h; exact h0⟩
    obtain ⟨i, hi, rfl⟩ := List.getElem_of_mem hn
    exact h i hi _ (List.getElem?_eq_getElem hi)
  · rw [decide_eq_false h0, goodT_false, good_parts]
    exact fun g => h0 (g.2.2.2.2 r hr)
theorem good_no {t : Tr} (h : ¬ (zGood t.z = true ∧ OrdN t.ns ∧ SAsc t.ss)) : goodT t = false := by
  rw [goodT_false, good_parts]; exact fun g => h ⟨g.1, g.2.1, g.2.2.1⟩
theorem good_node {t : Tr} {n : Nd} {k : Nat} (hn : t.ns[k]? = some n) (h : ¬ PartP t.z t.ns t.ss n) : goodT t = false := by
  rw [goodT_false, good_parts]; exact fun g => h (g.2.2.2.1 n (List.mem_of_getElem? hn))
theorem counts_kept {w w' : World} {B k : Nat} {ns : List Nd} (h : Counts w B k ns) (hb : Below w.heap.size w w') : Counts w' B k ns := by
  obtain ⟨D, ⟨es, cl, h1, h2⟩, h3⟩ := h
  exact ⟨D, ⟨es, cl, (hb.block _ (Array.getElem?_eq_some_iff.1 h1).1).trans h1, h2⟩, h3⟩

set_option maxRecDepth 100000 in
set_option maxHeartbeats 4000000 in
theorem tgood_main (t : Tr) (vn vs : Value) (w : World) (hn : SeqV w vn t.ns) (hs : SeqV w vs t.ss) (hw : WfT t) (hz : zGood t.z = true) (ho : OrdN t.ns) (ha : SAsc t.ss) :
    Calls Tryz.prog 19 #[.agg #[.int .i64 t.z, vn, vs]] w fun e w' => e = .returned (.bool (goodT t)) ∧ Below w.heap.size w w' := by
  have hne : t.ns ≠ [] := by obtain ⟨r, rest, h, _⟩ := ho.root; rw [h]; simp
  obtain ⟨r0, hr0⟩ : ∃ r0, t.ns[0]? = some r0 := by obtain ⟨r, rest, h, _⟩ := ho.root; exact ⟨r, by rw [h]; rfl⟩
  have YES := hide (fun h => good_yes hz ho ha h hr0)
  have NO := hide (fun n k h1 h2 => good_node (t := t) (n := n) (k := k) h1 h2)
  have CZ := fun W => zgood_any t.z W
  rw [hz] at CZ
  have CO := hide (fun W (h : Below w.heap.size w W) => ordered_any vn t.ns W (hn.next h))
  have CN := hide (fun W (h : Below w.heap.size w W) => numbered_any vs t.ss W (hs.next h) hw.ses)
  simp only [pd_true ho] at CO
  simp only [pd_true ha] at CN
  have CH := hide (fun p W (h : Below w.heap.size w W) => held_any vn t.ns p W (hn.next h) ho)
  have CSD := hide (fun n k W (h : Below w.heap.size w W) => sound_any t.z vn vs n k t.ss W (hs.next h) ha)
  have hl := ho.few
  have SL := hide hw.slim
  obtain ⟨sa, sc, rfl⟩ := seq_slice hs
  obtain ⟨b, off, cap, rfl, hb, hr, hle, hcm⟩ := seq_row hn hne
  have H := hide hr
  have CC := hide (fun W (h : Below w.heap.size w W) => counted_map b off cap t.ns W hl (Nat.lt_of_lt_of_le hb h.size) (hr.kept h hb))
  have HR0 := hide hr0
  have hpos : 0 < t.ns.length := List.length_pos_iff.2 hne
  clear hn hs hw hz ho ha hne hr hr0
  generalize goodT t = fin at YES NO ⊢
  go_enter Tryz.func19, Tryz.ntmps19
  go_wp2_with fail
  refine (CZ _).mono ?_
  rintro e w0 ⟨rfl, rfl⟩
  have B0 := allocB w (.cells #[.int .i64 t.z, .slice (some ⟨b, off, none⟩) t.ns.length cap, .slice sa t.ss.length sc] 25)
  generalize hW0 : w.alloc (.cells #[.int .i64 t.z, .slice (some ⟨b, off, none⟩) t.ns.length cap, .slice sa t.ss.length sc] 25) = W0 at *
  have b0 : W0.cell? ⟨w.heap.size, 0, none⟩ = some (.int .i64 t.z) := by rw [← hW0]; simp
  have b1 : W0.cell? ⟨w.heap.size, 1, none⟩ = some (.slice (some ⟨b, off, none⟩) t.ns.length cap) := by rw [← hW0]; simp
  have b2 : W0.cell? ⟨w.heap.size, 2, none⟩ = some (.slice sa t.ss.length sc) := by rw [← hW0]; simp
  have hsz : w.heap.size < W0.heap.size := by rw [← hW0]; simp
  have BX := hide (fun W (h : Below W0.heap.size W0 W) => (⟨(h.cell (p := ⟨w.heap.size, 0, none⟩) hsz).trans b0, (h.cell (p := ⟨w.heap.size, 1, none⟩) hsz).trans b1, (h.cell (p := ⟨w.heap.size, 2, none⟩) hsz).trans b2⟩ : W.cell? ⟨w.heap.size, 0, none⟩ = some (.int .i64 t.z) ∧ W.cell? ⟨w.heap.size, 1, none⟩ = some (.slice (some ⟨b, off, none⟩) t.ns.length cap) ∧ W.cell? ⟨w.heap.size, 2, none⟩ = some (.slice sa t.ss.length sc)))
  clear hW0
  go_wp2_with fail
  refine (unhide CO _ B0).mono ?_
  rintro e w1 ⟨rfl, hb1⟩
  obtain ⟨c0, c1, c2⟩ := unhide BX w1 hb1
  clear b0 b1 b2
  go_wp2_with fail
  refine (unhide CN _ (nnext B0 hb1)).mono ?_
  rintro e w2 ⟨rfl, rfl⟩
  go_wp2_with fail
  refine (unhide CC _ (nnext B0 hb1)).mono ?_
  rintro e w3 ⟨rfl, hC3, hb3⟩
  have hb3' := nnext hb1 hb3
  obtain ⟨d0, d1, d2⟩ := unhide BX w3 hb3'
  have HC := hide hC3
  clear c0 c1 c2 CO CN CC CZ hC3
  go_wp2_with fail
  go_loopg [28] t.ns.length (fun kx i wr => ∃ k : Nat, i = .int .i64 k ∧ k ≤ t.ns.length ∧ t.ns.length - k ≤ kx ∧ Hid (Below W0.heap.size W0 wr) ∧ Hid (Counts wr w2.heap.size 400 t.ns) ∧ Hid (OkG t k))
  case atStart => exact ⟨0, rfl, Nat.zero_le _, Nat.le_refl _, hide hb3', HC, hide (fun i hi => absurd hi (Nat.not_lt_zero _))⟩
  case round =>
    obtain ⟨k, rfl, hk, hg, hB, hC, hO⟩ := hrel
    obtain ⟨x0, x1, x2⟩ := unhide BX wr (unhide hB)
    clear d0 d1 d2
    by_cases hlt : k < t.ns.length
    · obtain ⟨x, hx⟩ : ∃ x, t.ns[k]? = some x := ⟨_, List.getElem?_eq_getElem hlt⟩
      have hBw : Below w.heap.size w wr := nnext B0 (unhide hB)
      have q := (unhide H).kept hBw hb
      have d0 := q.n0 hx
      have d1 := q.n1 hx
      have d2 := q.n2 hx
      have d3 := q.n3 hx
      have d4 := q.n4 hx
      have d5 := q.n5 hx
      have d6 := q.n6 hx
      have d7 := q.n7 hx
      have d8 := q.n8 hx
      have hbw : b < wr.heap.size := Nat.lt_of_lt_of_le hb hBw.size
      have hww : w.heap.size < wr.heap.size := Nat.lt_of_lt_of_le hsz (unhide hB).size
      have sl := unhide SL x (List.mem_of_getElem? hx)
      have sld := sl.2
      have HX := hide hx
      have SLP := hide sl.1
      clear q hx sl
      by_cases hd : x.d.length ≤ 256
      · have HD := hide hd
        cases hh : pd (HeldP t.ns x.p) with
        | false =>
          have G := hide (unhide NO x k (unhide HX) (fun p => by have := pd_true p.held; rw [hh] at this; cases this))
          go_wp2_with fail
          refine (unhide CH x.p _ (nnext hBw (allocB _ _))).mono ?_
          rintro e w4 ⟨rfl, hb4⟩
          have hB4 := nnext hBw (nbox_then hb4)
          rw [hh]
          clear hb4 d0 d1 d2 d3 d4 d5 d6 d7 d8 x0 x1 x2
          go_wp2_with fail
          go_ret
          exact ⟨nret_bool (unhide G).symm, hB4⟩
        | true =>
          have HH := hide hh
          go_wp2_with fail
          refine (unhide CH x.p _ (nnext hBw (allocB _ _))).mono ?_
          rintro e w4 ⟨rfl, hb4⟩
          have hB4 := nnext hBw (nbox_then hb4)
          have hB40 := nnext (unhide hB) (nbox_then hb4)
          rw [hh]
          clear hh
          have r := fun (j : Nat) (hj : j < 9) => hb4.cell (p := ⟨wr.heap.size, j, none⟩) (by simp)
          have y0 : w4.cell? ⟨wr.heap.size, 0, none⟩ = some (.string ⟨x.p.toArray⟩) := by rw [r 0 (by omega)]; simp
          have y2 : w4.cell? ⟨wr.heap.size, 2, none⟩ = some (.int .i64 x.c) := by rw [r 2 (by omega)]; simp
          have y3 : w4.cell? ⟨wr.heap.size, 3, none⟩ = some (.int .i64 x.m) := by rw [r 3 (by omega)]; simp
          have y4 : w4.cell? ⟨wr.heap.size, 4, none⟩ = some (.int .i64 x.q) := by rw [r 4 (by omega)]; simp
          have y5 : w4.cell? ⟨wr.heap.size, 5, none⟩ = some (.int .i64 x.v) := by rw [r 5 (by omega)]; simp
          have y6 : w4.cell? ⟨wr.heap.size, 6, none⟩ = some (.int .i64 x.k) := by rw [r 6 (by omega)]; simp
          have y7 : w4.cell? ⟨wr.heap.size, 7, none⟩ = some (.int .i64 x.o) := by rw [r 7 (by omega)]; simp
          have y8 : w4.cell? ⟨wr.heap.size, 8, none⟩ = some (.int .i64 x.n) := by rw [r 8 (by omega)]; simp
          obtain ⟨z0, z1, z2⟩ := unhide BX w4 hB40
          have hC4 := counts_kept (unhide hC) (nbox_then hb4)
          have HC4 := hide hC4
          obtain ⟨D, ho4, _, hD⟩ := hC4
          have hkey : keyOf Tryz.prog 9 (.string ⟨x.p.toArray⟩) = some (.string x.p) := by
            have := keyOf_string_mk (P := Tryz.prog) Tryz.underlying9 (s := ⟨x.p.toArray⟩) (by have := unhide SLP; simp only [maxLen, ByteArray.size, List.size_toArray]; omega)
            simpa using this
          obtain ⟨c, hrun, hat, _⟩ := ho4.lookup_int mlaw Tryz.underlying78 Tryz.underlying3 (mzero _) hkey
          have hcc : c = (kidsN t.ns x.p : Int) := by
            rw [hD] at hat
            simpa using hat.symm
          subst hcc
          clear r hat hD ho4 hkey hb4 d0 d1 d2 d3 d4 d5 d6 d7 d8 x0 x1 x2
          have CSX := unhide CSD x (kidsN t.ns x.p) w4 hB4
          unfold statV at CSX
          cases hs : pd (SoundP t.z x (kidsN t.ns x.p) t.ss) with
          | false =>
            have G := hide (unhide NO x k (unhide HX) (fun p => by have := pd_true p.sound; rw [hs] at this; cases this))
            rw [hs] at CSX
            clear hs
            go_wp2_with fail
            refine CSX.mono ?_
            rintro e w5 ⟨rfl, hb5⟩
            have hB5 := nnext hB4 hb5
            clear CSX hrun z0 z1 z2 y0 y2 y3 y4 y5 y6 y7 y8
            go_wp2_with fail
            go_ret
            exact ⟨nret_bool (unhide G).symm, hB5⟩
          | true =>
            have O2 := hide (okg_succ (unhide hO) (unhide HX) ⟨unhide HD, pd_iff.1 (unhide HH), pd_iff.1 hs⟩)
            rw [hs] at CSX
            clear hs
            go_wp2_with fail
            refine CSX.mono ?_
            rintro e w5 ⟨rfl, hb5⟩
            have HB5 := hide (nnext hB40 hb5)
            have HC5 := hide (counts_kept (unhide HC4) hb5)
            clear CSX hrun z0 z1 z2 y0 y2 y3 y4 y5 y6 y7 y8 hb5
            go_wp2_with fail
            go_roundg (t.ns.length - (k + 1))
            case measure => omega
            case rel => exact ⟨k + 1, rfl, by omega, Nat.le_refl _, HB5, HC5, O2⟩
      · have G := hide (unhide NO x k (unhide HX) (fun p => hd p.data))
        go_wp2_with fail
        go_ret
        exact ⟨nret_bool (unhide G).symm, nnext hBw (allocB _ _)⟩
    · obtain rfl : k = t.ns.length := by omega
      have hBw : Below w.heap.size w wr := nnext B0 (unhide hB)
      have d7 := ((unhide H).kept hBw hb).n7 (unhide HR0)
      have G := hide (unhide YES (unhide hO))
      simp only [Nat.zero_mul, Nat.add_zero] at d7
      go_wp2_with fail
      go_ret
      exact ⟨nret_bool ((unhide G).trans (by rfl)).symm, hBw⟩

end Go.Proofs.YtalnmhgedfgooaaGreatDoor

namespace Go.Proofs.YtalnmhgedfgooaaGreatDoor
open Go.RowKit

set_option maxRecDepth 20000 in
set_option maxHeartbeats 2000000 in
theorem tgood_any (t : Tr) (vn vs : Value) (w : World) (hn : SeqV w vn t.ns) (hs : SeqV w vs t.ss) (hw : WfT t) :
    Calls Tryz.prog 19 #[.agg #[.int .i64 t.z, vn, vs]] w fun e w' => e = .returned (.bool (goodT t)) ∧ Below w.heap.size w w' := by
  by_cases hz : zGood t.z = true
  · by_cases ho : OrdN t.ns
    · by_cases ha : SAsc t.ss
      · exact tgood_main t vn vs w hn hs hw hz ho ha
      · have F := hide (good_no (t := t) (fun h => ha h.2.2)).symm
        have CZ := fun W => zgood_any t.z W
        rw [hz] at CZ
        have CO := hide (fun W (h : Below w.heap.size w W) => ordered_any vn t.ns W (hn.next h))
        have CN := hide (fun W (h : Below w.heap.size w W) => numbered_any vs t.ss W (hs.next h) hw.ses)
        simp only [pd_true ho] at CO
        simp only [pd_false ha] at CN
        obtain ⟨na, nc, rfl⟩ := seq_slice hn
        obtain ⟨sa, sc, rfl⟩ := seq_slice hs
        clear hn hs hw hz ho ha
        go_enter Tryz.func19, Tryz.ntmps19
        go_wp2_with fail
        refine (CZ _).mono ?_
        rintro e w0 ⟨rfl, rfl⟩
        go_wp2_with fail
        refine (unhide CO _ (allocB _ _)).mono ?_
        rintro e w1 ⟨rfl, hb1⟩
        have c2 : w1.cell? ⟨w.heap.size, 2, none⟩ = some (.slice sa t.ss.length sc) := by rw [hb1.cell (p := ⟨w.heap.size, 2, none⟩) (by simp)]; simp
        have HB := hide (nbox_then hb1)
        clear hb1
        go_wp2_with fail
        refine (unhide CN _ (unhide HB)).mono ?_
        rintro e w2 ⟨rfl, rfl⟩
        go_wp2_with fail
        go_ret
        exact ⟨nret_bool (unhide F), unhide HB⟩
    · have F := hide (good_no (t := t) (fun h => ho h.2.1)).symm
      have CZ := fun W => zgood_any t.z W
      rw [hz] at CZ
      have CO := hide (fun W (h : Below w.heap.size w W) => ordered_any vn t.ns W (hn.next h))
      simp only [pd_false ho] at CO
      obtain ⟨na, nc, rfl⟩ := seq_slice hn
      obtain ⟨sa, sc, rfl⟩ := seq_slice hs
      clear hn hs hw hz ho
      go_enter Tryz.func19, Tryz.ntmps19
      go_wp2_with fail
      refine (CZ _).mono ?_
      rintro e w0 ⟨rfl, rfl⟩
      go_wp2_with fail
      refine (unhide CO _ (allocB _ _)).mono ?_
      rintro e w1 ⟨rfl, hb1⟩
      have HB := hide (nbox_then hb1)
      clear hb1
      go_wp2_with fail
      go_ret
      exact ⟨nret_bool (unhide F), unhide HB⟩
  · have F := hide (good_no (t := t) (fun h => hz h.1)).symm
    have hz' : zGood t.z = false := by simpa using hz
    have CZ := fun W => zgood_any t.z W
    rw [hz'] at CZ
    obtain ⟨na, nc, rfl⟩ := seq_slice hn
    obtain ⟨sa, sc, rfl⟩ := seq_slice hs
    clear hn hs hw hz hz'
    go_enter Tryz.func19, Tryz.ntmps19
    go_wp2_with fail
    refine (CZ _).mono ?_
    rintro e w0 ⟨rfl, rfl⟩
    go_wp2_with fail
    go_ret
    exact ⟨nret_bool (unhide F), allocB _ _⟩

end Go.Proofs.YtalnmhgedfgooaaGreatDoor
