/-
  How lists of nodes, numbers, events and texts lie in memory: rows of cells, so many each; a row of the call's own; what stays when other memory turns.
  What lies below what: nothing below itself, no two below each other, below what is below a third is below that; and what the laws' own question 'joins' answers.
  What path.Split answers, for every text: the last slash, and the walk.
  What tree.find, tree.Open, tree.copied and tree.Get answer, with slices.BinarySearchFunc's and slices.BinarySearch's own texts: the walks.
  What slices.Delete and slices.Insert of one answer, into a row of the call's own of nodes: the walks.
  What slices.Delete and slices.Insert of one answer, into a row of the call's own of numbers: the walks.
  What a transaction makes of a tree, as plain lists; that good trees stay good. No program is named here.
  What zxid.Good answers, for every number: the walk.
  A tree under change: what tree.copied and growth's tell and parentChanges do: the walks.
  What growth's parentChanges does: the walks.
  What growth's open, owned and close do: the walks.
  What slices.Clone of numbers and tree.begun do: the walks.
  Copies of a tree (aviarykeep.own, aviaryref.CopyTree), tree.New and tree.Get: the walks.
  tree.Get and tree.Kids: the walks.
  Locks, lines, barriers, as plain data: what a fence answers, where a node below another lies. No program is named here.
  recipe.Fence, and the document's own: the walks.
  recipe.Ready, and the document's own: the walks.
-/
import Derived.Test.YtkgaoedlnejigaaDoorRRB
import Derived.Lib.LastIndexByte
import Derived.Lib.QuietBelow
import Derived.Test.YtkgaoedlnejigaaDoorShelf
import Derived.Laws.IdiomCopy
import Derived.Lib.AppendZeros
import Derived.Lib.JoinLaws
import Derived.Lib.SliceRun
import Derived.Deep.RegionHeld3
import Derived.BigQuiet
import Derived.Deep.RegionLaw
import Derived.Lib.AppendZerosOnto
import Derived.Lib.Overlaps
import Derived.Laws.Externs
import Derived.Maps.AppendAt
import Derived.Test.YtkgaoedlnejigaaDoorRows
import Derived.Test.YtkgaoedlnejigaaDoorRRA
import Derived.WalkKit
import Derived.WalkSpells
import Derived.WalkLawsBesides
import Derived.Test.YtkgaoedlnejigaaDoorProg
import Derived.Deep.CutRange
namespace Go.Proofs.YtkgaoedlnejigaaDoor
open Go.RowKit

def ncells (n : Nd) : List Value := [.string ⟨n.p.toArray⟩, .string ⟨n.d.toArray⟩, .int .i64 n.c, .int .i64 n.m, .int .i64 n.q, .int .i64 n.v, .int .i64 n.k, .int .i64 n.o, .int .i64 n.n]
def nodeV (n : Nd) : Value := .agg #[.string ⟨n.p.toArray⟩, .string ⟨n.d.toArray⟩, .int .i64 n.c, .int .i64 n.m, .int .i64 n.q, .int .i64 n.v, .int .i64 n.k, .int .i64 n.o, .int .i64 n.n]
instance layN : Lay Nd := ⟨9, ncells, 44, fun _ => rfl, fun x u hu => by simp [ncells] at hu; rcases hu with rfl | rfl | rfl | rfl | rfl | rfl | rfl | rfl | rfl <;> rfl⟩
/- the cells of a node -/
theorem RowAt.nd {w : World} {b off : Nat} {xs : List Nd} (h : RowAt w b off (cellsL xs)) {i : Nat} {x : Nd} (hi : xs[i]? = some x) (c : Nat) (hc : c < 9) : ∀ v, (ncells x)[c]? = some v → w.cell? ⟨b, off + i * 9 + c, none⟩ = some v := fun v hv => by
  rw [Nat.add_assoc]
  exact h (i * 9 + c) v ((cellsL_get xs i x hi c hc).trans hv)
theorem RowAt.n0 {w : World} {b off : Nat} {xs : List Nd} (h : RowAt w b off (cellsL xs)) {i : Nat} {x : Nd} (hi : xs[i]? = some x) : w.cell? ⟨b, off + i * 9, none⟩ = some (.string ⟨x.p.toArray⟩) := h.nd hi 0 (by omega) _ rfl
theorem RowAt.n1 {w : World} {b off : Nat} {xs : List Nd} (h : RowAt w b off (cellsL xs)) {i : Nat} {x : Nd} (hi : xs[i]? = some x) : w.cell? ⟨b, off + i * 9 + 1, none⟩ = some (.string ⟨x.d.toArray⟩) := h.nd hi 1 (by omega) _ rfl
theorem RowAt.n2 {w : World} {b off : Nat} {xs : List Nd} (h : RowAt w b off (cellsL xs)) {i : Nat} {x : Nd} (hi : xs[i]? = some x) : w.cell? ⟨b, off + i * 9 + 2, none⟩ = some (.int .i64 x.c) := h.nd hi 2 (by omega) _ rfl
theorem RowAt.n3 {w : World} {b off : Nat} {xs : List Nd} (h : RowAt w b off (cellsL xs)) {i : Nat} {x : Nd} (hi : xs[i]? = some x) : w.cell? ⟨b, off + i * 9 + 3, none⟩ = some (.int .i64 x.m) := h.nd hi 3 (by omega) _ rfl
theorem RowAt.n4 {w : World} {b off : Nat} {xs : List Nd} (h : RowAt w b off (cellsL xs)) {i : Nat} {x : Nd} (hi : xs[i]? = some x) : w.cell? ⟨b, off + i * 9 + 4, none⟩ = some (.int .i64 x.q) := h.nd hi 4 (by omega) _ rfl
theorem RowAt.n5 {w : World} {b off : Nat} {xs : List Nd} (h : RowAt w b off (cellsL xs)) {i : Nat} {x : Nd} (hi : xs[i]? = some x) : w.cell? ⟨b, off + i * 9 + 5, none⟩ = some (.int .i64 x.v) := h.nd hi 5 (by omega) _ rfl
theorem RowAt.n6 {w : World} {b off : Nat} {xs : List Nd} (h : RowAt w b off (cellsL xs)) {i : Nat} {x : Nd} (hi : xs[i]? = some x) : w.cell? ⟨b, off + i * 9 + 6, none⟩ = some (.int .i64 x.k) := h.nd hi 6 (by omega) _ rfl
theorem RowAt.n7 {w : World} {b off : Nat} {xs : List Nd} (h : RowAt w b off (cellsL xs)) {i : Nat} {x : Nd} (hi : xs[i]? = some x) : w.cell? ⟨b, off + i * 9 + 7, none⟩ = some (.int .i64 x.o) := h.nd hi 7 (by omega) _ rfl
theorem RowAt.n8 {w : World} {b off : Nat} {xs : List Nd} (h : RowAt w b off (cellsL xs)) {i : Nat} {x : Nd} (hi : xs[i]? = some x) : w.cell? ⟨b, off + i * 9 + 8, none⟩ = some (.int .i64 x.n) := h.nd hi 8 (by omega) _ rfl
/-- a tree as a value -/
def TreeV (w : World) (v : Value) (t : Tr) : Prop := ∃ vn vs, v = .agg #[.int .i64 t.z, vn, vs] ∧ SeqV w vn t.ns ∧ SeqV w vs t.ss
theorem TreeV.next {w w' : World} {v : Value} {t : Tr} (h : TreeV w v t) (hb : Below w.heap.size w w') : TreeV w' v t := by
  obtain ⟨vn, vs, rfl, h1, h2⟩ := h
  exact ⟨vn, vs, rfl, h1.next hb, h2.next hb⟩

end Go.Proofs.YtkgaoedlnejigaaDoor

namespace Go.Proofs.YtkgaoedlnejigaaDoor
open Go.RowKit Go.Shelf
theorem goodB_slash {a : List UInt8} (h : goodB a = true) : [47] <+: a := by
  simp only [goodB, Lib.hasPrefix, Bool.and_eq_true, List.isPrefixOf_iff_prefix] at h
  exact h.1.2
end Go.Proofs.YtkgaoedlnejigaaDoor

namespace Go.Proofs.YtkgaoedlnejigaaDoor
open Go.RowKit Go.Shelf

theorem lastIndex_eq (a b : List UInt8) (hb : 47 ∉ b) : Lib.lastIndexByte ⟨(a ++ 47 :: b).toArray⟩ 47 = a.length := by
  have hat : ∀ j, j < (a ++ 47 :: b).length → ((ByteArray.mk (a ++ 47 :: b).toArray).data[j]!) = (a ++ 47 :: b)[j]! := fun j hj => by simp
  rcases Lib.lastIndexByte_spec ⟨(a ++ 47 :: b).toArray⟩ 47 with ⟨_, h⟩ | ⟨i, hi, e, hc, hn⟩
  · exact absurd (by simp) (h a.length (by show a.length < (a ++ 47 :: b).toArray.size; simp))
  · rw [e]
    have hi' : i < (a ++ 47 :: b).length := by
      have : i < (a ++ 47 :: b).toArray.size := hi
      simpa using this
    have h1 : a.length ≤ i := by
      apply Nat.le_of_not_lt
      intro hlt
      exact hn a.length hlt (by show a.length < (a ++ 47 :: b).toArray.size; simp) (by simp)
    by_cases h2 : i = a.length
    · rw [h2]
    · exfalso
      apply hb
      have hlt : i - a.length - 1 < b.length := by simp at hi'; omega
      have hb' : (a ++ 47 :: b)[i]! = b[i - a.length - 1]! := by
        rw [List.getElem!_eq_getElem?_getD, List.getElem!_eq_getElem?_getD, List.getElem?_append_right h1]
        obtain ⟨k, hk⟩ : ∃ k, i - a.length = k + 1 := ⟨i - a.length - 1, by omega⟩
        rw [hk]; simp
      rw [hat i hi', hb'] at hc
      have hm : b[i - a.length - 1]! ∈ b := by
        rw [List.getElem!_eq_getElem?_getD, List.getElem?_eq_getElem hlt]; simp
      have : b[i - a.length - 1]! = 47 := by
        apply UInt8.toNat_inj.1
        show _ = 47
        omega
      rwa [this] at hm

theorem cut_first (a b : List UInt8) : (ByteArray.mk (a ++ 47 :: b).toArray).extract 0 a.length = ⟨a.toArray⟩ := by
  rw [cut_front]; simp
theorem cut_last (a b : List UInt8) : (ByteArray.mk (a ++ 47 :: b).toArray).extract (a.length + 1) (a.length + b.length + 1) = ⟨b.toArray⟩ := by
  have := cut_back (a ++ 47 :: b) (a.length + 1)
  rw [show (a ++ 47 :: b).length = a.length + b.length + 1 from by simp; omega] at this
  rw [this]
  have e : (a ++ 47 :: b).drop (a.length + 1) = b := by rw [← List.drop_drop]; simp
  rw [e]

/-- a path's parent, out of what stands ahead of its last slash -/
def dirL (a : List UInt8) : List UInt8 := if a = [] then [47] else a
theorem dirL_nil : dirL [] = [47] := by rw [dirL, if_pos rfl]
theorem dirL_other {a : List UInt8} (h : a ≠ []) : dirL a = a := by rw [dirL, if_neg h]
theorem ret_three {a b c d : ByteArray} {i j : Int} (h : a = b) (h1 : c = d) (h' : i = j) : Ending.returned (.tuple #[.string a, .string c, .int .i64 i]) = .returned (.tuple #[.string b, .string d, .int .i64 j]) := by rw [h, h1, h']

set_option maxRecDepth 20000 in
set_option maxHeartbeats 1000000 in
theorem split_main (a b : List UInt8) (w : World) (hb : 47 ∉ b) (hg : goodB (a ++ 47 :: b) = true) (hne : a ++ 47 :: b ≠ [47]) :
    Calls Tryd.prog 36 #[.string ⟨(a ++ 47 :: b).toArray⟩] w fun e w' =>
      e = .returned (.tuple #[.string ⟨(dirL a).toArray⟩, .string ⟨b.toArray⟩, .int .i64 0]) ∧ Below w.heap.size w w' := by
  have hl : a.length + b.length + 1 ≤ 200 := by have := goodB_le hg; simp at this; omega
  have hne1 : (a ++ 47 :: b == [47]) = false := by simpa using hne
  have Hg := hide hg
  have Hi := hide (lastIndex_eq a b hb)
  clear hg hne hb
  have hz : (ByteArray.mk (a ++ 47 :: b).toArray).size = a.length + b.length + 1 := by rw [Lib.size_eq]; show (a ++ 47 :: b).length = _; simp; omega
  have Hc1 := hide (cut_first a b)
  have Hc2 := hide (cut_last a b)
  generalize a ++ 47 :: b = l at *
  go_enter Tryd.func36, Tryd.ntmps36
  go_wp2_with fail
  refine (good_any _ _).mono ?_
  rintro e w1 ⟨rfl, hb1⟩
  rw [show (ByteArray.mk l.toArray).data.toList = l from rfl, unhide Hg]
  go_wp2_with fail
  refine (Tryd.strings_LastIndexByte _ _ (by omega) _).mono ?_
  rintro e w2 ⟨rfl, rfl⟩
  rw [unhide Hi]
  go_wp2_with fail
  have cA : ∀ d os, Calls Tryd.prog 49 #[.string ((ByteArray.mk l.toArray).extract 0 a.length)] (Sort.grow (redrawn w2 d) os) fun e w'' => e = .returned (.string ⟨a.toArray⟩) ∧ ∃ p : Regrown, w'' = Sort.grow (redrawn w2 p.d) p.os :=
    fun d os => Calls.regrown_of (by rw [unhide Hc1]; exact clone_any _ _ (by rw [Lib.size_eq]; show a.length ≤ _; omega))
  have cB : ∀ d os, Calls Tryd.prog 49 #[.string ((ByteArray.mk l.toArray).extract (a.length + 1) (a.length + b.length + 1))] (Sort.grow (redrawn w2 d) os) fun e w'' => e = .returned (.string ⟨b.toArray⟩) ∧ ∃ p : Regrown, w'' = Sort.grow (redrawn w2 p.d) p.os :=
    fun d os => Calls.regrown_of (by rw [unhide Hc2]; exact clone_any _ _ (by rw [Lib.size_eq]; show b.length ≤ _; omega))
  have n1 : (a.length : Int) ≤ a.length + b.length + 1 := by omega
  have n2 : (a.length : Int) ≤ a.length + b.length := by omega
  have n3 : IntKind.i64.wrap ((a.length : Int) + 1) = (a.length : Int) + 1 := by rw [IntKind.wrap_i64]; omega
  have n4 : (0 : Int) ≤ (a.length : Int) + 1 := by omega
  refine wp_region_quiet_below (by kernel_rfl) (by kernel_rfl) ?_
  repeat (quiet_step (first | exact cA _ _ | exact cB _ _))
  refine wpQuiet_nil ?_
  intro _ hw'
  obtain ⟨⟨dq, osq⟩, hw''⟩ := hw'
  subst hw''
  clear cA cB
  have hb2 : Below w.heap.size w (Sort.grow (redrawn w2 dq) osq) := below_next hb1 (below_regrown w2 dq osq)
  cases he : a.isEmpty
  · go_wp2
    go_ret3
    exact ⟨ret_three (by rw [dirL_other (by rintro rfl; simp at he)]) rfl rfl, hb2⟩
  · obtain rfl : a = [] := by simpa using he
    go_wp2
    go_ret3
    exact ⟨ret_three (by rw [dirL_nil]) rfl rfl, hb2⟩

set_option maxRecDepth 10000 in
set_option maxHeartbeats 400000 in
theorem split_bad (l : List UInt8) (w : World) (hg : goodB l = false) :
    Calls Tryd.prog 36 #[.string ⟨l.toArray⟩] w fun e w' => e = .returned (.tuple #[.string ⟨#[]⟩, .string ⟨#[]⟩, .int .i64 2]) ∧ Below w.heap.size w w' := by
  have Hg := hide hg
  clear hg
  go_enter Tryd.func36, Tryd.ntmps36
  go_wp2_with fail
  refine (good_any _ _).mono ?_
  rintro e w1 ⟨rfl, hb1⟩
  rw [show (ByteArray.mk l.toArray).data.toList = l from rfl, unhide Hg]
  go_wp2_with fail
  go_ret3
  exact ⟨rfl, hb1⟩

set_option maxRecDepth 10000 in
set_option maxHeartbeats 400000 in
theorem split_root (w : World) :
    Calls Tryd.prog 36 #[.string ⟨#[47]⟩] w fun e w' => e = .returned (.tuple #[.string ⟨#[]⟩, .string ⟨#[]⟩, .int .i64 7]) ∧ Below w.heap.size w w' := by
  go_enter Tryd.func36, Tryd.ntmps36
  go_wp2_with fail
  refine (good_any _ _).mono ?_
  rintro e w1 ⟨rfl, hb1⟩
  rw [show (ByteArray.mk #[47]).data.toList = [47] from rfl, goodB_root]
  go_wp2_with fail
  go_ret3
  exact ⟨rfl, hb1⟩

end Go.Proofs.YtkgaoedlnejigaaDoor

namespace Go.Proofs.YtkgaoedlnejigaaDoor
open Go.RowKit

/-- path.Split, at every text -/
theorem split_any (p : List UInt8) (w : World) :
    Calls Tryd.prog 36 #[.string ⟨p.toArray⟩] w fun e w' =>
      e = .returned (.tuple #[.string ⟨(dirOf p).toArray⟩, .string ⟨(stepOf p).toArray⟩, .int .i64 (splE p)]) ∧ Below w.heap.size w w' := by
  cases hg : goodB p with
  | false =>
    rw [dirOf_bad hg, stepOf_bad hg, splE_bad hg]
    exact split_bad p w hg
  | true =>
    by_cases hr : p = [47]
    · subst hr
      rw [dirOf_root, stepOf_root, splE_root]
      exact split_root w
    · obtain ⟨a, b, rfl, hb⟩ := good_cut hg
      rw [dirOf_cut hg hr hb, stepOf_cut hg hr hb, splE_ok hg hr]
      exact split_main a b w hb hg hr

set_option maxRecDepth 10000 in
set_option maxHeartbeats 400000 in
theorem ncmp_any (n : Nd) (p : List UInt8) (w : World) :
    Calls Tryd.prog 45 #[nodeV n, .string ⟨p.toArray⟩] w fun e w' => e = .returned (.int .i64 (Lib.compareBytes n.p p)) ∧ Below w.heap.size w w' := by
  unfold nodeV
  go_enter Tryd.func45, Tryd.ntmps45
  go_wp2_with fail
  refine (Tryd.strings_Compare _ _ _).mono ?_
  rintro e w1 ⟨rfl, rfl⟩
  go_wp2_with fail
  go_ret
  exact ⟨rfl, allocB _ _⟩

def headP (R : List Nd) (p : List UInt8) : Bool := match R with
  | [] => false
  | f :: _ => decide (f.p = p)
theorem nsplit_get (A R : List Nd) (p : List UInt8) (lo : ∀ a ∈ A, bl a.p p = true) (hi : ∀ a ∈ R, bl a.p p = false) (i : Nat) (h : i < A.length + R.length) : ∃ y, (A ++ R)[i]? = some y ∧ bl y.p p = decide (i < A.length) := by
  by_cases h1 : i < A.length
  · refine ⟨A[i], by rw [List.getElem?_append_left h1, List.getElem?_eq_getElem h1], ?_⟩
    rw [lo _ (List.getElem_mem h1)]; simp [h1]
  · have h2 : i - A.length < R.length := by omega
    refine ⟨R[i - A.length], by rw [List.getElem?_append_right (by omega), List.getElem?_eq_getElem h2], ?_⟩
    rw [hi _ (List.getElem_mem h2)]; simp [h1]

set_option maxRecDepth 20000 in
set_option maxHeartbeats 1000000 in
theorem nbsf_any (b off cap : Nat) (A R : List Nd) (p : List UInt8) (w : World) (hcap : A.length + R.length ≤ 100000) (hb : b < w.heap.size) (h : RowAt w b off (cellsL (A ++ R)))
    (lo : ∀ a ∈ A, bl a.p p = true) (hi : ∀ a ∈ R, bl a.p p = false) :
    Calls Tryd.prog 44 #[.slice (some ⟨b, off, none⟩) (A.length + R.length) cap, .string ⟨p.toArray⟩, .func (.func 45) #[] #[]] w fun e w' =>
      e = .returned (.tuple #[.int .i64 A.length, .bool (headP R p)]) ∧ Below w.heap.size w w' := by
  have H := hide h
  have SG := hide (nsplit_get A R p lo hi)
  obtain ⟨fin, hfin⟩ : ∃ x, headP R p = x := ⟨_, rfl⟩
  have HF := hide hfin
  rw [hfin]
  clear h hfin lo hi
  go_enter Tryd.func44, Tryd.ntmps44
  go_wp2_with fail
  go_loopg [9, 10] (A.length + R.length) (fun kx s9 s10 wr => ∃ lo hi : Nat, s9 = .int .i64 lo ∧ s10 = .int .i64 hi ∧ lo ≤ A.length ∧ A.length ≤ hi ∧ hi ≤ A.length + R.length ∧ hi - lo ≤ kx ∧ Hid (Below w.heap.size w wr))
  case atStart => exact ⟨0, A.length + R.length, rfl, rfl, Nat.zero_le _, by omega, Nat.le_refl _, by omega, hide (Below.refl _ _)⟩
  case round =>
    obtain ⟨lo, hi, rfl, rfl, h1, h2, h3, hg, hB⟩ := hrel
    by_cases hlt : lo < hi
    · obtain ⟨y, hy, hyn⟩ := unhide SG ((lo + hi) / 2) (by omega)
      have HY := hide hyn
      have r := (unhide H).kept (unhide hB) hb
      have e0 := r.n0 hy
      have e1 := r.n1 hy
      have e2 := r.n2 hy
      have e3 := r.n3 hy
      have e4 := r.n4 hy
      have e5 := r.n5 hy
      have e6 := r.n6 hy
      have e7 := r.n7 hy
      have e8 := r.n8 hy
      clear hyn hy r
      have hc := cmp_bl y.p p
      rw [unhide HY] at hc
      have CM := fun W => ncmp_any y p W
      generalize Lib.compareBytes y.p p = cv at hc CM
      by_cases hm : (lo + hi) / 2 < A.length
      · have hn : cv < 0 := by simpa [hm] using hc
        clear hc
        go_wp2_with fail
        refine (CM _).mono ?_
        rintro e w1 ⟨rfl, hb1⟩
        have hB2 : Below w.heap.size w w1 := (unhide hB).trans (hb1.mono (unhide hB).size)
        clear CM
        go_wp2_with fail
        go_roundg (hi - ((lo + hi) / 2 + 1))
        case measure => omega
        case rel => exact ⟨(lo + hi) / 2 + 1, hi, by rw [show ((lo : Int) + (hi : Int)) / 2 + 1 = (((lo + hi) / 2 + 1 : Nat) : Int) by omega], rfl, by omega, h2, h3, Nat.le_refl _, hide hB2⟩
      · have hn : ¬ cv < 0 := by simpa [hm] using hc
        clear hc
        go_wp2_with fail
        refine (CM _).mono ?_
        rintro e w1 ⟨rfl, hb1⟩
        have hB2 : Below w.heap.size w w1 := (unhide hB).trans (hb1.mono (unhide hB).size)
        clear CM
        go_wp2_with fail
        go_roundg ((lo + hi) / 2 - lo)
        case measure => omega
        case rel => exact ⟨lo, (lo + hi) / 2, rfl, by rw [show ((lo : Int) + (hi : Int)) / 2 = (((lo + hi) / 2 : Nat) : Int) by omega], h1, by omega, by omega, Nat.le_refl _, hide hB2⟩
    · obtain rfl : lo = A.length := by omega
      obtain rfl : hi = A.length := by omega
      cases R with
      | nil =>
        go_wp2_with fail
        go_ret2
        exact ⟨by rw [← unhide HF]; rfl, unhide hB⟩
      | cons f R =>
        have r := (unhide H).kept (unhide hB) hb
        have hy : (A ++ f :: R)[A.length]? = some f := by simp
        have e0 := r.n0 hy
        have e1 := r.n1 hy
        have e2 := r.n2 hy
        have e3 := r.n3 hy
        have e4 := r.n4 hy
        have e5 := r.n5 hy
        have e6 := r.n6 hy
        have e7 := r.n7 hy
        have e8 := r.n8 hy
        clear hy r
        have hc := cmp_zero f.p p
        have CM := fun W => ncmp_any f p W
        have hf : fin = decide (f.p = p) := (unhide HF).symm
        rw [← hc] at hf
        clear hc HF
        generalize Lib.compareBytes f.p p = cv at hf CM
        subst hf
        simp only [List.length_cons]
        go_wp2_with fail
        refine (CM _).mono ?_
        rintro e w1 ⟨rfl, hb1⟩
        have hB2 : Below w.heap.size w w1 := (unhide hB).trans (hb1.mono (unhide hB).size)
        clear CM
        go_wp2_with fail
        go_ret2
        exact ⟨by rfl, hB2⟩

set_option maxRecDepth 10000 in
set_option maxHeartbeats 400000 in
theorem nbsf_none (a : Option Addr) (cap : Nat) (p : List UInt8) (w : World) :
    Calls Tryd.prog 44 #[.slice a 0 cap, .string ⟨p.toArray⟩, .func (.func 45) #[] #[]] w fun e w' =>
      e = .returned (.tuple #[.int .i64 0, .bool false]) ∧ Below w.heap.size w w' := by
  go_enter Tryd.func44, Tryd.ntmps44
  go_wp2_with fail
  go_loopg [9, 10] 1 (fun _ s9 s10 wr => s9 = .int .i64 0 ∧ s10 = .int .i64 0 ∧ Hid (Below w.heap.size w wr))
  case atStart => exact ⟨rfl, rfl, hide (Below.refl _ _)⟩
  case round =>
    obtain ⟨rfl, rfl, hB⟩ := hrel
    go_wp2_with fail
    go_ret2
    exact ⟨rfl, unhide hB⟩

set_option maxRecDepth 10000 in
set_option maxHeartbeats 400000 in
theorem nfind_split (v : Value) (ns A R : List Nd) (p : List UInt8) (w : World) (hv : SeqV w v ns) (hl : ns.length ≤ 100000) (he : ns = A ++ R) (lo : ∀ a ∈ A, bl a.p p = true) (hi : ∀ a ∈ R, bl a.p p = false) :
    Calls Tryd.prog 35 #[v, .string ⟨p.toArray⟩] w fun e w' => e = .returned (.tuple #[.int .i64 A.length, .bool (headP R p)]) ∧ Below w.heap.size w w' := by
  have C : ∀ W : World, Below w.heap.size w W → Calls Tryd.prog 44 #[v, .string ⟨p.toArray⟩, .func (.func 45) #[] #[]] W fun e w' =>
      e = .returned (.tuple #[.int .i64 A.length, .bool (headP R p)]) ∧ Below W.heap.size W w' := fun W hW => by
    rcases hv with ⟨a, cap, rfl, h0, _⟩ | ⟨b, off, cap, rfl, _, _, hb, _, hr⟩
    · rw [h0] at he
      obtain ⟨rfl, rfl⟩ : A = [] ∧ R = [] := by
        have := congrArg List.length he
        simp at this
        exact ⟨List.eq_nil_of_length_eq_zero (by omega), List.eq_nil_of_length_eq_zero (by omega)⟩
      exact nbsf_none a cap p W
    · subst he
      rw [List.length_append]
      exact nbsf_any b off cap A R p W (by simpa using hl) (Nat.lt_of_lt_of_le hb hW.size) (hr.kept hW hb) lo hi
  have C' := hide C
  obtain ⟨a, c, rfl⟩ := seq_slice hv
  clear C hv hl he lo hi
  generalize headP R p = hd at C' ⊢
  go_enter Tryd.func35, Tryd.ntmps35
  go_wp2_with fail
  refine (unhide C' _ (Below.refl _ _)).mono ?_
  rintro e w1 ⟨rfl, hb1⟩
  go_wp2_with fail
  go_ret2
  exact ⟨rfl, hb1⟩
theorem nfind_there (v : Value) (ns A B : List Nd) (f : Nd) (p : List UInt8) (w : World) (hv : SeqV w v ns) (hl : ns.length ≤ 100000) (T : NThere ns A f B p) :
    Calls Tryd.prog 35 #[v, .string ⟨p.toArray⟩] w fun e w' => e = .returned (.tuple #[.int .i64 A.length, .bool true]) ∧ Below w.heap.size w w' := by
  have := nfind_split v ns A (f :: B) p w hv hl T.eq T.lo (fun a ha => by
    rcases List.mem_cons.1 ha with rfl | h
    · rw [T.nm]; exact bl_irrefl _
    · exact bl_asymm (T.hi a h))
  rwa [show headP (f :: B) p = true from by simp [headP, T.nm]] at this
theorem nfind_gap (v : Value) (ns A B : List Nd) (p : List UInt8) (w : World) (hv : SeqV w v ns) (hl : ns.length ≤ 100000) (G : NGap ns A B p) :
    Calls Tryd.prog 35 #[v, .string ⟨p.toArray⟩] w fun e w' => e = .returned (.tuple #[.int .i64 A.length, .bool false]) ∧ Below w.heap.size w w' := by
  have := nfind_split v ns A B p w hv hl G.eq G.lo (fun a ha => bl_asymm (G.hi a ha))
  rwa [show headP B p = false from by
    cases B with
    | nil => rfl
    | cons f B => have := bl_ne (G.hi f (by simp)); simp [headP, this.symm]] at this
/- numbers -/
end Go.Proofs.YtkgaoedlnejigaaDoor

namespace Go.Proofs.YtkgaoedlnejigaaDoor
open Go.RowKit

theorem ninfo0 : (Tryd.prog.info? 44).map (fun i => (i.zero, i.size, i.bytes)) = some (some (.agg #[.string ⟨#[]⟩, .string ⟨#[]⟩, .int .i64 0, .int .i64 0, .int .i64 0, .int .i64 0, .int .i64 0, .int .i64 0, .int .i64 0]), 9, 88) := by kernel_rfl
theorem ninfo : ∃ i0, Tryd.prog.info? 44 = some i0 ∧ i0.zero = some (.agg #[.string ⟨#[]⟩, .string ⟨#[]⟩, .int .i64 0, .int .i64 0, .int .i64 0, .int .i64 0, .int .i64 0, .int .i64 0, .int .i64 0]) ∧ i0.size = 9 ∧ i0.bytes = 88 := by
  obtain ⟨i0, h, e⟩ := Option.map_eq_some_iff.1 ninfo0
  simp only [Prod.mk.injEq] at e
  exact ⟨i0, h, e⟩

end Go.Proofs.YtkgaoedlnejigaaDoor

namespace Go.Proofs.YtkgaoedlnejigaaDoor
open Go.RowKit

theorem iinfo0 : (Tryd.prog.info? 3).map (fun i => (i.zero, i.size, i.bytes)) = some (some (.int .i64 0), 1, 8) := by kernel_rfl
theorem iinfo : ∃ i0, Tryd.prog.info? 3 = some i0 ∧ i0.zero = some (.int .i64 0) ∧ i0.size = 1 ∧ i0.bytes = 8 := by
  obtain ⟨i0, h, e⟩ := Option.map_eq_some_iff.1 iinfo0
  simp only [Prod.mk.injEq] at e
  exact ⟨i0, h, e⟩

end Go.Proofs.YtkgaoedlnejigaaDoor

namespace Go.Proofs.YtkgaoedlnejigaaDoor
open Go.RowKit

theorem GoodN.mono {z z' : Int} {ns : List Nd} {ss : List Int} (g : GoodN z ns ss) (h : z ≤ z') : GoodN z' ns ss :=
  ⟨g.few, g.root, g.asc, fun n hn => by
    have k := g.ok n hn
    have := k.mz
    have := k.qz
    exact ⟨k.data, k.path, k.up, k.c0, k.cm, k.cq, by omega, by omega, k.v0, k.v1, k.k0, k.kids, k.own⟩⟩
/- a change that leaves all paths -/
/- a node goes -/
/- a node comes -/
/- a node is set -/
end Go.Proofs.YtkgaoedlnejigaaDoor

namespace Go.Proofs.YtkgaoedlnejigaaDoor
open Go.RowKit

theorem zret_bool {a b : Bool} (h : a = b) : Ending.returned (.bool a) = .returned (.bool b) := by rw [h]

end Go.Proofs.YtkgaoedlnejigaaDoor

namespace Go.Proofs.YtkgaoedlnejigaaDoor
open Go.RowKit
theorem OneR.cellN {W : World} {b : Nat} {n : Nd} (h : OneR W b n) (j : Nat) (v : Value) (hj : (ncells n)[j]? = some v) : W.cell? ⟨b, j, none⟩ = some v := by
  have := h.row j v hj
  rwa [Nat.zero_add] at this
theorem OneR.keptN {W V : World} {b : Nat} {n : Nd} (h : OneR W b n) (hb : Below W.heap.size W V) : OneR V b n := by
  unfold OneR at h ⊢
  exact (hb.block _ (Array.getElem?_eq_some_iff.1 h).1).trans h
def nzero : Nd := ⟨[], [], 0, 0, 0, 0, 0, 0, 0⟩

end Go.Proofs.YtkgaoedlnejigaaDoor

namespace Go.Proofs.YtkgaoedlnejigaaDoor
open Go.RowKit

theorem nat_at (A : List Nd) (x : Nd) (B : List Nd) : (A ++ x :: B)[A.length]? = some x := by simp

end Go.Proofs.YtkgaoedlnejigaaDoor

namespace Go.Proofs.YtkgaoedlnejigaaDoor
open Go.RowKit
theorem one_newS (w : World) (x : List UInt8) : OneR (w.alloc (.cells #[.string ⟨x.toArray⟩] 9)) w.heap.size x := heap_alloc_new w _

/- owned -/
theorem sinfo0 : (Tryd.prog.info? 9).map (fun i => (i.zero, i.size, i.bytes)) = some (some (.string ⟨#[]⟩), 1, 16) := by kernel_rfl
theorem sinfo : ∃ i0, Tryd.prog.info? 9 = some i0 ∧ i0.zero = some (.string ⟨#[]⟩) ∧ i0.size = 1 ∧ i0.bytes = 16 := by
  obtain ⟨i0, h, e⟩ := Option.map_eq_some_iff.1 sinfo0
  simp only [Prod.mk.injEq] at e
  exact ⟨i0, h, e⟩
end Go.Proofs.YtkgaoedlnejigaaDoor

namespace Go.Proofs.YtkgaoedlnejigaaDoor
open Go.RowKit
theorem one_newN (w : World) (n : Nd) : OneR (w.alloc (.cells #[.string ⟨n.p.toArray⟩, .string ⟨n.d.toArray⟩, .int .i64 n.c, .int .i64 n.m, .int .i64 n.q, .int .i64 n.v, .int .i64 n.k, .int .i64 n.o, .int .i64 n.n] 44)) w.heap.size n := heap_alloc_new w _

end Go.Proofs.YtkgaoedlnejigaaDoor

namespace Go.Proofs.YtkgaoedlnejigaaDoor
open Go.RowKit

/- append(nil, l...) -/
theorem run_copyN (W : World) (ty : TypeId) (v : Value) (xs : List Nd) (hv : SeqV W v xs) (hl : xs.length * 88 ≤ 140737488355328) :
    ∃ v' w', (Builtin.append_ #[22, 22] ty #[.slice none 0 0, v]).run Tryd.prog W = .ok v' w' ∧ OwnS w' W.heap.size v' xs ∧ W.grownBy w' none := by
  obtain ⟨i0, hi0, hz0, hz1, hz2⟩ := ninfo
  have main : ∀ (a : Addr) (cap : Nat), v = .slice (some a) xs.length cap → (∀ j u, (cellsL xs)[j]? = some u → W.cell? (a.add j) = some u) →
      ∃ v' w', (Builtin.append_ #[22, 22] ty #[.slice none 0 0, v]).run Tryd.prog W = .ok v' w' ∧ OwnS w' W.heap.size v' xs ∧ W.grownBy w' none := by
    intro a cap e hc
    subst e
    obtain ⟨v', w', h1, h2, h3, _⟩ := run_append_own (P := Tryd.prog) W W.heap.size 22 ty 44 i0 _ 9 88 Tryd.underlying22 hi0 hz0 hz1 hz2 rfl (by decide) (.slice none 0 0) 0 [] (World.ownsRow_nil _ _ _ _) a xs.length cap (cellsL xs) (cellsL_length xs) hc (cellsL_one xs)
      (by simp only [maxLen]; omega) (by omega) (Nat.le_refl _)
    refine ⟨v', w', h1, OwnS.of_row (by simp only [List.nil_append, Nat.zero_add] at h2; exact h2), h3⟩
  rcases hv with ⟨a, cap, rfl, rfl, _⟩ | ⟨b, off, cap, rfl, _, _, _, _, hr⟩
  · cases a with
    | none =>
      refine ⟨.slice none 0 0, W, ?_, .inl ⟨rfl, rfl⟩, ⟨rfl, rfl, rfl, Nat.le_refl _, fun _ _ _ => rfl⟩⟩
      simp [Builtin.append_, run_underlying Tryd.underlying22, sizeOf, typeInfo, hi0, Builtin.lenOf, Builtin.firstCells]
    | some a => exact main a cap rfl (fun j u h => by simp [cellsL] at h)
  · exact main ⟨b, off, none⟩ cap rfl (fun j u h => by rw [Addr.add_lit]; exact hr j u h)
theorem wpList_copyN {w : World} {ops : Array Oper} {rest : List Oper} {o : Oper} {a : Act} {Q : Exit → Act → World → Prop} (hgd : Region.wanted o (yielded ops a.tmps) = true) (s x : Operand)
    (ho : o.op = .call { callee := .builtin .append, args := #[s, x], argTypes := #[22, 22] })
    (hs : a.eval s = .slice none 0 0) (v : Value) (hx : a.eval x = v) (xs : List Nd) (hv : SeqV w v xs) (hl : xs.length * 88 ≤ 140737488355328)
    (h : ∀ v' w', OwnS w' w.heap.size v' xs → w.grownBy w' none → wpList Tryd.prog ops Q rest (a.put o.dst v') w') : wpList Tryd.prog ops Q (o :: rest) a w := by
  obtain ⟨v', w', hr, h2, h3⟩ := run_copyN w o.type v xs hv hl
  refine wpList_step fun K hK => ?_
  rw [if_pos hgd]
  unfold Oper.wp execOp
  simp only [ho, resolve, invoke, builtin, Sem.run_bind, Sem.run_pure, Result.andThen_ok, List.map_toArray, List.map_cons, List.map_nil, hs, hx, hr]
  exact hK _ _ (h v' w' h2 h3)
theorem run_copyI (W : World) (ty : TypeId) (v : Value) (xs : List Int) (hv : SeqV W v xs) (hl : xs.length * 8 ≤ 140737488355328) :
    ∃ v' w', (Builtin.append_ #[23, 23] ty #[.slice none 0 0, v]).run Tryd.prog W = .ok v' w' ∧ OwnS w' W.heap.size v' xs ∧ W.grownBy w' none := by
  obtain ⟨i0, hi0, hz0, hz1, hz2⟩ := iinfo
  have main : ∀ (a : Addr) (cap : Nat), v = .slice (some a) xs.length cap → (∀ j u, (cellsL xs)[j]? = some u → W.cell? (a.add j) = some u) →
      ∃ v' w', (Builtin.append_ #[23, 23] ty #[.slice none 0 0, v]).run Tryd.prog W = .ok v' w' ∧ OwnS w' W.heap.size v' xs ∧ W.grownBy w' none := by
    intro a cap e hc
    subst e
    obtain ⟨v', w', h1, h2, h3, _⟩ := run_append_own (P := Tryd.prog) W W.heap.size 23 ty 3 i0 _ 1 8 Tryd.underlying23 hi0 hz0 hz1 hz2 rfl (by decide) (.slice none 0 0) 0 [] (World.ownsRow_nil _ _ _ _) a xs.length cap (cellsL xs) (cellsL_length xs) hc (cellsL_one xs)
      (by simp only [maxLen]; omega) (by omega) (Nat.le_refl _)
    refine ⟨v', w', h1, OwnS.of_row (by simp only [List.nil_append, Nat.zero_add] at h2; exact h2), h3⟩
  rcases hv with ⟨a, cap, rfl, rfl, _⟩ | ⟨b, off, cap, rfl, _, _, _, _, hr⟩
  · cases a with
    | none =>
      refine ⟨.slice none 0 0, W, ?_, .inl ⟨rfl, rfl⟩, ⟨rfl, rfl, rfl, Nat.le_refl _, fun _ _ _ => rfl⟩⟩
      simp [Builtin.append_, run_underlying Tryd.underlying23, sizeOf, typeInfo, hi0, Builtin.lenOf, Builtin.firstCells]
    | some a => exact main a cap rfl (fun j u h => by simp [cellsL] at h)
  · exact main ⟨b, off, none⟩ cap rfl (fun j u h => by rw [Addr.add_lit]; exact hr j u h)
theorem wpList_copyI {w : World} {ops : Array Oper} {rest : List Oper} {o : Oper} {a : Act} {Q : Exit → Act → World → Prop} (hgd : Region.wanted o (yielded ops a.tmps) = true) (s x : Operand)
    (ho : o.op = .call { callee := .builtin .append, args := #[s, x], argTypes := #[23, 23] })
    (hs : a.eval s = .slice none 0 0) (v : Value) (hx : a.eval x = v) (xs : List Int) (hv : SeqV w v xs) (hl : xs.length * 8 ≤ 140737488355328)
    (h : ∀ v' w', OwnS w' w.heap.size v' xs → w.grownBy w' none → wpList Tryd.prog ops Q rest (a.put o.dst v') w') : wpList Tryd.prog ops Q (o :: rest) a w := by
  obtain ⟨v', w', hr, h2, h3⟩ := run_copyI w o.type v xs hv hl
  refine wpList_step fun K hK => ?_
  rw [if_pos hgd]
  unfold Oper.wp execOp
  simp only [ho, resolve, invoke, builtin, Sem.run_bind, Sem.run_pure, Result.andThen_ok, List.map_toArray, List.map_cons, List.map_nil, hs, hx, hr]
  exact hK _ _ (h v' w' h2 h3)
/-- a tree's box at q, a box for the answer behind it -/
structure OB (w W : World) (z : Int) (vn vs : Value) : Prop where
  t : W.heap[w.heap.size]? = some (.cells #[.int .i64 z, vn, vs] 25 (0, 0))
  r : W.heap[w.heap.size + 1]? = some (.cells #[.int .i64 0, .slice none 0 0, .slice none 0 0] 25 (0, 0))
  b : Below w.heap.size w W
theorem OB.new (w : World) (z : Int) (vn vs : Value) : OB w ((w.alloc (.cells #[.int .i64 z, vn, vs] 25)).alloc (.cells #[.int .i64 0, .slice none 0 0, .slice none 0 0] 25)) z vn vs := by
  refine ⟨?_, ?_, nnext (allocB _ _) (allocB _ _)⟩
  · rw [(allocB _ _).block _ (by simp)]
    exact heap_alloc_new w _
  · have h := heap_alloc_new (w.alloc (.cells #[.int .i64 z, vn, vs] 25)) (.cells #[.int .i64 0, .slice none 0 0, .slice none 0 0] 25)
    rw [show (w.alloc (.cells #[.int .i64 z, vn, vs] 25)).heap.size = w.heap.size + 1 by simp] at h
    exact h
theorem OB.lt {w W : World} {z : Int} {vn vs : Value} (h : OB w W z vn vs) : w.heap.size + 1 < W.heap.size := (Array.getElem?_eq_some_iff.1 h.r).1
theorem OB.next {w W V : World} {z : Int} {vn vs : Value} (h : OB w W z vn vs) (hb : Below W.heap.size W V) : OB w V z vn vs := by
  have := h.lt
  exact ⟨(hb.block _ (by omega)).trans h.t, (hb.block _ (by omega)).trans h.r, nnext h.b hb⟩
theorem OB.drew {w W : World} {z : Int} {vn vs : Value} (h : OB w W z vn vs) : OB w W.drew z vn vs := h.next (Below.refl _ _).drew
theorem grown_below {W V : World} (h : W.grownBy V none) : Below W.heap.size W V := ⟨h.os, h.tape, h.output, h.size, fun k hk => h.block k hk (by simp)⟩
theorem OB.grown {w W V : World} {z : Int} {vn vs : Value} (h : OB w W z vn vs) (hg : W.grownBy V none) : OB w V z vn vs := h.next (grown_below hg)
theorem OB.cells {w W : World} {z : Int} {vn vs : Value} (h : OB w W z vn vs) : W.cell? ⟨w.heap.size, 0, none⟩ = some (.int .i64 z) ∧ W.cell? ⟨w.heap.size, 1, none⟩ = some vn ∧ W.cell? ⟨w.heap.size, 2, none⟩ = some vs ∧ W.frozen? ⟨w.heap.size, 1, none⟩ = false ∧ W.frozen? ⟨w.heap.size, 2, none⟩ = false := by
  have h1 := h.t
  refine ⟨?_, ?_, ?_, ?_, ?_⟩ <;> simp [World.cell?, World.frozen?, h1]
theorem OB.res {w W : World} {z : Int} {vn vs : Value} (h : OB w W z vn vs) : W.cell? ⟨w.heap.size + 1, 0, none⟩ = some (.int .i64 0) ∧ W.cell? ⟨w.heap.size + 1, 1, none⟩ = some (.slice none 0 0) ∧ W.cell? ⟨w.heap.size + 1, 2, none⟩ = some (.slice none 0 0) ∧ W.frozen? ⟨w.heap.size + 1, 0, none⟩ = false ∧ W.frozen? ⟨w.heap.size + 1, 1, none⟩ = false ∧ W.frozen? ⟨w.heap.size + 1, 2, none⟩ = false := by
  have h1 := h.r
  refine ⟨?_, ?_, ?_, ?_, ?_, ?_⟩ <;> simp [World.cell?, World.frozen?, h1]
theorem OB.put {w W : World} {z : Int} {vn vs : Value} (h : OB w W z vn vs) (v : Value) (c : Nat) (vn' vs' : Value) (hc : (#[.int .i64 z, vn, vs] : Array Value).set! c v = #[.int .i64 z, vn', vs']) : OB w (W.setCell ⟨w.heap.size, c, none⟩ v) z vn' vs' := by
  refine ⟨?_, (Below.heap_setCell _ _ _ _ (by simp)).trans h.r, h.b.setCell (by simp) _⟩
  rw [block_set v h.t, ← hc]
  simp
/-- copied, but for the answer -/
def OwnQ (w : World) (z : Int) (ns : List Nd) (ss : List Int) (wx : World) : Prop :=
  ∃ an cn ai ci, OB w wx z (.slice an ns.length cn) (.slice ai ss.length ci) ∧ OwnS wx (w.heap.size + 2) (.slice an ns.length cn) ns ∧ OwnS wx (w.heap.size + 2) (.slice ai ss.length ci) ss
theorem OwnQ.next {w W V : World} {z : Int} {ns : List Nd} {ss : List Int} (h : OwnQ w z ns ss W) (hb : Below W.heap.size W V) : OwnQ w z ns ss V := by
  obtain ⟨an, cn, ai, ci, h1, h2, h3⟩ := h
  exact ⟨an, cn, ai, ci, h1.next hb, h2.next hb, h3.next hb⟩
/-- what a copy gives -/
def GivesT (w : World) (t : Tr) (e : Ending) (w' : World) : Prop :=
  ∃ vn vs, e = .returned (.agg #[.int .i64 t.z, vn, vs]) ∧ OwnS w' w.heap.size vn t.ns ∧ OwnS w' w.heap.size vs t.ss ∧ Below w.heap.size w w'
theorem gives_copy {w W : World} {t : Tr} {an ai : Option Addr} {cn ci : Nat} {v0 v1 v2 : Value} (h : OB w W t.z (.slice an t.ns.length cn) (.slice ai t.ss.length ci)) (hn : OwnS W (w.heap.size + 2) (.slice an t.ns.length cn) t.ns) (hs : OwnS W (w.heap.size + 2) (.slice ai t.ss.length ci) t.ss) :
    GivesT w t (.returned (.agg #[.int .i64 t.z, .slice an t.ns.length cn, .slice ai t.ss.length ci])) (((W.setCell ⟨w.heap.size + 1, 0, none⟩ v0).setCell ⟨w.heap.size + 1, 1, none⟩ v1).setCell ⟨w.heap.size + 1, 2, none⟩ v2) := by
  have no : ∀ {α : Type} [Lay α] {v : Value} {xs : List α}, OwnS W (w.heap.size + 2) v xs → v.ownBlock ≠ some (w.heap.size + 1) := by
    intro α _ v xs ho e
    rcases ho with ⟨rfl, _⟩ | ⟨g, cap, rfl, hB, _⟩
    · cases e
    · simp [Value.ownBlock] at e; omega
  exact ⟨_, _, rfl, (((hn.lower (by omega)).other (no hn) _).other (no hn) _).other (no hn) _, (((hs.lower (by omega)).other (no hs) _).other (no hs) _).other (no hs) _, ((h.b.setCell (by simp) _).setCell (by simp) _).setCell (by simp) _⟩

set_option maxRecDepth 20000 in
set_option maxHeartbeats 2000000 in
theorem rcopyT_any (t : Tr) (vn vs : Value) (w : World) (hn : SeqV w vn t.ns) (hs : SeqV w vs t.ss) (hl : t.ns.length * 88 ≤ 140737488355328) (hls : t.ss.length * 8 ≤ 140737488355328) :
    Calls Tryd.prog 8 #[.agg #[.int .i64 t.z, vn, vs]] w (GivesT w t) := by
  have HN := hide (fun W (hW : Below w.heap.size w W) => hn.next hW)
  have HS := hide (fun W (hW : Below w.heap.size w W) => hs.next hW)
  obtain ⟨na, nc, rfl⟩ := seq_slice hn
  obtain ⟨sa, sc, rfl⟩ := seq_slice hs
  have O0 := hide (OB.new w t.z (.slice na t.ns.length nc) (.slice sa t.ss.length sc))
  clear hn hs
  go_enter Tryd.func8, Tryd.ntmps8
  go_wp2_with (at_builtin; refine wpList_copyN (by kernel_rfl) _ _ rfl rfl (.slice na t.ns.length nc) rfl t.ns (unhide HN _ (unhide O0).b) hl ?_)
  intro vN wN ho hg
  have ON := hide ((unhide O0).grown hg)
  have GN := hide (ho.lower (C := w.heap.size + 2) (by simp))
  obtain ⟨an, cn, rfl, _⟩ := ho.slice
  have q1 := (unhide ON).put (.slice an t.ns.length cn) 1 _ _ rfl
  have GN1 := hide ((unhide GN).other (a := ⟨w.heap.size, 1, none⟩) (by
    intro e
    rcases unhide GN with ⟨h, _⟩ | ⟨g, cap, h, hB, _⟩
    · rw [h] at e; cases e
    · rw [h] at e; simp [Value.ownBlock] at e; omega) (.slice an t.ns.length cn))
  have HO1 := hide q1
  obtain ⟨n0, n1, n2, n3, n4⟩ := (unhide ON).cells
  obtain ⟨m0, m1, m2, m3, m4⟩ := q1.cells
  clear ho hg q1
  go_wp2_with (at_builtin; refine wpList_copyI (by kernel_rfl) _ _ rfl rfl (.slice sa t.ss.length sc) rfl t.ss (unhide HS _ (unhide HO1).b) hls ?_)
  intro vI wI ho hg
  have OI := (unhide HO1).grown hg
  have SI := (unhide ON).lt
  have GI := ho.lower (C := w.heap.size + 2) SI
  have GN2 := (unhide GN1).next (grown_below hg)
  obtain ⟨ai, ci, rfl, _⟩ := ho.slice
  have nI : (Value.slice ai t.ss.length ci).ownBlock ≠ some w.heap.size := by
    intro e
    rcases GI with ⟨h, _⟩ | ⟨g, cap, h, hB, _⟩
    · rw [h] at e; cases e
    · rw [h] at e; simp [Value.ownBlock] at e; omega
  have nN : (Value.slice an t.ns.length cn).ownBlock ≠ some w.heap.size := by
    intro e
    rcases GN2 with ⟨h, _⟩ | ⟨g, cap, h, hB, _⟩
    · rw [h] at e; cases e
    · rw [h] at e; simp [Value.ownBlock] at e; omega
  have Q : Hid (OwnQ w t.z t.ns t.ss (wI.setCell ⟨w.heap.size, 2, none⟩ (.slice ai t.ss.length ci))) := ⟨an, cn, ai, ci, OI.put _ 2 _ _ rfl, GN2.other nN _, GI.other nI _⟩
  obtain ⟨i0, i1, i2, i3, i4⟩ := OI.cells
  clear ho hg GI GN2 nI nN OI HN HS O0 ON GN GN1 HO1
  go_upto_region 3 with fail
  generalize hwq : wI.setCell ⟨w.heap.size, 2, none⟩ (.slice ai t.ss.length ci) = wq at *
  · have hq := Q
    clear hwq Q
    obtain ⟨an, cn, ai, ci, q, qn, qs⟩ := unhide hq
    obtain ⟨c0, c1, c2, _, _⟩ := q.cells
    obtain ⟨r0, r1, r2, f0, f1, f2⟩ := q.res
    have FIN := hide (fun (v0 v1 v2 : Value) => gives_copy (v0 := v0) (v1 := v1) (v2 := v2) (t := t) q qn qs)
    have hne : w.heap.size ≠ w.heap.size + 1 := by omega
    clear q qn qs hq
    go_wp2_with fail
    exact bodyPost_ret (v := .agg #[.int .i64 t.z, .slice an t.ns.length cn, .slice ai t.ss.length ci]) (by simp [results, Tryd.results8, go_sem, r0, r1, r2]) rfl (unhide FIN _ _ _)

/- New, Get -/
end Go.Proofs.YtkgaoedlnejigaaDoor

namespace Go.Proofs.YtkgaoedlnejigaaDoor
open Go.RowKit

/-- a tree's box, and a node's for the answer -/
structure GB (w W : World) (z : Int) (vn vs : Value) : Prop where
  t : W.heap[w.heap.size]? = some (.cells #[.int .i64 z, vn, vs] 25 (0, 0))
  r : W.heap[w.heap.size + 1]? = some (.cells #[.string ⟨#[]⟩, .string ⟨#[]⟩, .int .i64 0, .int .i64 0, .int .i64 0, .int .i64 0, .int .i64 0, .int .i64 0, .int .i64 0] 44 (0, 0))
  b : Below w.heap.size w W
theorem GB.new (w : World) (z : Int) (vn vs : Value) : GB w ((w.alloc (.cells #[.int .i64 z, vn, vs] 25)).alloc (.cells #[.string ⟨#[]⟩, .string ⟨#[]⟩, .int .i64 0, .int .i64 0, .int .i64 0, .int .i64 0, .int .i64 0, .int .i64 0, .int .i64 0] 44)) z vn vs := by
  refine ⟨?_, ?_, nnext (allocB _ _) (allocB _ _)⟩
  · rw [(allocB _ _).block _ (by simp)]
    exact heap_alloc_new w _
  · have h := heap_alloc_new (w.alloc (.cells #[.int .i64 z, vn, vs] 25)) (.cells #[.string ⟨#[]⟩, .string ⟨#[]⟩, .int .i64 0, .int .i64 0, .int .i64 0, .int .i64 0, .int .i64 0, .int .i64 0, .int .i64 0] 44)
    rw [show (w.alloc (.cells #[.int .i64 z, vn, vs] 25)).heap.size = w.heap.size + 1 by simp] at h
    exact h
theorem GB.lt {w W : World} {z : Int} {vn vs : Value} (h : GB w W z vn vs) : w.heap.size + 1 < W.heap.size := (Array.getElem?_eq_some_iff.1 h.r).1
theorem GB.next {w W V : World} {z : Int} {vn vs : Value} (h : GB w W z vn vs) (hb : Below W.heap.size W V) : GB w V z vn vs := by
  have := h.lt
  exact ⟨(hb.block _ (by omega)).trans h.t, (hb.block _ (by omega)).trans h.r, nnext h.b hb⟩
theorem GB.c1 {w W : World} {z : Int} {vn vs : Value} (h : GB w W z vn vs) : W.cell? ⟨w.heap.size, 1, none⟩ = some vn := by simp [World.cell?, h.t]
theorem GB.one {w W : World} {z : Int} {vn vs : Value} (h : GB w W z vn vs) : OneR W (w.heap.size + 1) nzero := h.r

/- Kids -/
def kidsP (ns : List Nd) (p : List UInt8) : List (List UInt8) := (ns.filter fun n => decide (dirOf n.p = p)).map fun n => stepOf n.p
theorem kidsP_take {ns : List Nd} {k : Nat} {x : Nd} (hx : ns[k]? = some x) (p : List UInt8) : kidsP (ns.take (k + 1)) p = kidsP (ns.take k) p ++ (if dirOf x.p = p then [stepOf x.p] else []) := by
  rw [List.take_add_one, hx]
  simp only [kidsP, Option.toList_some, List.filter_append, List.map_append, List.filter_cons, List.filter_nil, decide_eq_true_eq]
  split <;> simp
theorem kidsP_len (ns : List Nd) (p : List UInt8) : (kidsP ns p).length = kidsN ns p := by
  rw [kidsP, List.length_map, kidsN, List.countP_eq_length_filter]

set_option maxRecDepth 20000 in
set_option maxHeartbeats 400000 in
theorem tkids_gap (z : Int) (vn vs : Value) (ns A B : List Nd) (p : List UInt8) (w : World) (hn : SeqV w vn ns) (hl : ns.length ≤ 100000) (G : NGap ns A B p) :
    Calls Tryd.prog 21 #[.agg #[.int .i64 z, vn, vs], .string ⟨p.toArray⟩] w fun e w' => e = .returned (.tuple #[.slice none 0 0, .int .i64 7]) ∧ Below w.heap.size w w' := by
  have CF := hide (fun W (hW : Below w.heap.size w W) => nfind_gap vn ns A B p W (hn.next hW) hl G)
  obtain ⟨na, nc, rfl⟩ := seq_slice hn
  clear hn G
  go_enter Tryd.func21, Tryd.ntmps21
  go_wp2_with fail
  refine (unhide CF _ (allocB _ _)).mono ?_
  rintro e w1 ⟨rfl, hb1⟩
  have HB := hide (nbox_then hb1)
  clear hb1 CF
  go_wp2_with fail
  go_ret2
  exact ⟨rfl, unhide HB⟩

set_option maxRecDepth 20000 in
set_option maxHeartbeats 4000000 in
theorem tkids_there (z : Int) (vn vs : Value) (ns A B : List Nd) (n : Nd) (p : List UInt8) (w : World) (hn : SeqV w vn ns) (hl : ns.length ≤ 400) (T : NThere ns A n B p) :
    Calls Tryd.prog 21 #[.agg #[.int .i64 z, vn, vs], .string ⟨p.toArray⟩] w fun e w' => ∃ v', e = .returned (.tuple #[v', .int .i64 0]) ∧ OwnS w' w.heap.size v' (kidsP ns p) ∧ Below w.heap.size w w' := by
  have CF := hide (fun W (hW : Below w.heap.size w W) => nfind_there vn ns A B n p W (hn.next hW) (by omega) T)
  have CS := hide (fun q W => split_any q W)
  obtain ⟨i0, hi0, hz0, hz1, hz2⟩ := sinfo
  obtain ⟨b, off, cap, rfl, hb, hr, _, _⟩ := seq_row hn (by rw [T.eq]; simp)
  have HR := hide (fun W (hW : Below w.heap.size w W) => hr.kept hW hb)
  clear hn T hr
  go_enter Tryd.func21, Tryd.ntmps21
  go_wp2_with fail
  refine (unhide CF _ (allocB _ _)).mono ?_
  rintro e w1 ⟨rfl, hb1⟩
  have c1 : w1.cell? ⟨w.heap.size, 1, none⟩ = some (.slice (some ⟨b, off, none⟩) ns.length cap) := by rw [hb1.cell (p := ⟨w.heap.size, 1, none⟩) (by simp)]; simp
  have HB := hide (nbox_then hb1)
  have hsz1 := (unhide HB).size
  clear hb1 CF
  go_wp2_with fail
  go_loopg [8, 26] ns.length (fun kx s8 s26 wr => ∃ k : Nat, s26 = .int .i64 k ∧ k ≤ ns.length ∧ ns.length - k ≤ kx ∧ Hid (OwnS wr w.heap.size s8 (kidsP (ns.take k) p)) ∧ Hid (Below w.heap.size w wr))
  case atStart => exact ⟨0, rfl, Nat.zero_le _, Nat.le_refl _, hide (.inl ⟨rfl, rfl⟩), HB⟩
  case round =>
    obtain ⟨k, rfl, hk, hg, hO, hB⟩ := hrel
    by_cases hlt : k < ns.length
    · obtain ⟨x, hx⟩ : ∃ x, ns[k]? = some x := ⟨_, List.getElem?_eq_getElem hlt⟩
      have q := unhide HR wr (unhide hB)
      have d0 := q.n0 hx
      have d1 := q.n1 hx
      have d2 := q.n2 hx
      have d3 := q.n3 hx
      have d4 := q.n4 hx
      have d5 := q.n5 hx
      have d6 := q.n6 hx
      have d7 := q.n7 hx
      have d8 := q.n8 hx
      have hbw : b < wr.heap.size := Nat.lt_of_lt_of_le hb (unhide hB).size
      have HT := hide (kidsP_take hx p)
      have hln : (kidsP (ns.take k) p).length ≤ 400 := by
        rw [kidsP_len]
        have h1 : kidsN (ns.take k) p ≤ (ns.take k).length := List.countP_le_length
        rw [List.length_take] at h1
        omega
      obtain ⟨va, vc, rfl, _⟩ := (unhide hO).slice
      obtain ⟨P, hP⟩ : ∃ P, kidsP (ns.take k) p = P := ⟨_, rfl⟩
      rw [hP] at hO hln HT
      rw [hP]
      clear q hx hP
      go_wp2_with fail
      refine (unhide CS x.p _).mono ?_
      rintro e w2 ⟨rfl, hb2⟩
      have hB2 := hide (nnext (unhide hB) (nbox_then hb2))
      have hO2 := hide ((unhide hO).next (nbox_then hb2))
      clear hb2 d0 d1 d2 d3 d4 d5 d6 d7 d8
      by_cases hs : dirOf x.p = p
      · have HS := hide hs
        obtain ⟨D, hD⟩ : ∃ D, dirOf x.p = D := ⟨_, rfl⟩
        rw [hD] at HT HS hs
        rw [hD]
        subst hs
        clear hD HS
        go_wp2_with (at_builtin; refine wpList_append_own _ rfl _ _ 28 rfl w.heap.size 9 i0 _ 1 16 Tryd.underlying28 hi0 hz0 hz1 hz2 rfl (by decide) _ P.length (cellsL P) rfl (((unhide hO2).next (allocB _ _)).row) ⟨w2.heap.size, 0, none⟩ 1 1 [.string ⟨(stepOf x.p).toArray⟩] rfl (by rfl) ?qc2 (by intro u hu; simp at hu; subst hu; rfl) ?qc4 ?qc5 ?qc6 ?_)
        case qc2 =>
          intro j u hj
          exact one_news (one_newS w2 (stepOf x.p)) j u hj
        case qc4 => simp only [maxLen]; omega
        case qc5 => omega
        case qc6 => have := (unhide hB2).size; simp; omega
        intro v' w3 hown hgrow _
        have O1 : OwnS w3 w.heap.size v' (P ++ [stepOf x.p]) := OwnS.of_row (by rw [List.length_append, cellsL_snoc]; exact hown)
        have B1 : Below w.heap.size w w3 := (nnext (unhide hB2) (allocB _ _)).grown hgrow (nnext (unhide hB2) (allocB _ _)).size (fun j hj => by
          rcases unhide hO2 with ⟨e, _⟩ | ⟨q, c, e, hq, _⟩
          · rw [e] at hj; cases hj
          · rw [e] at hj; cases hj; exact hq)
        have HO1 := hide O1
        have HB1 := hide B1
        obtain ⟨wa, wc, rfl, _⟩ := O1.slice
        clear O1 B1 hown hgrow
        go_wp2_with fail
        go_roundg (ns.length - (k + 1))
        case measure => omega
        case rel => exact ⟨k + 1, rfl, by omega, Nat.le_refl _, (by rw [unhide HT, if_pos (by trivial)]; exact HO1), HB1⟩
      · have hsb : (dirOf x.p == p) = false := by simpa using hs
        have HS := hide hs
        clear hs
        go_wp2_with fail
        go_roundg (ns.length - (k + 1))
        case measure => omega
        case rel => exact ⟨k + 1, rfl, by omega, Nat.le_refl _, (by rw [unhide HT, if_neg (unhide HS), List.append_nil]; exact hO2), hB2⟩
    · obtain rfl : k = ns.length := by omega
      have O1 := unhide hO
      rw [List.take_length] at O1
      have HO1 := hide O1
      obtain ⟨wa, wc, rfl, _⟩ := O1.slice
      clear O1
      go_wp2_with fail
      go_ret2
      exact ⟨_, rfl, unhide HO1, unhide hB⟩

end Go.Proofs.YtkgaoedlnejigaaDoor

namespace Go.Proofs.YtkgaoedlnejigaaDoor
open Go.RowKit

/-- the greater one -/
def fenN (a b : Int) : Int := if a ≤ b then b else a
end Go.Proofs.YtkgaoedlnejigaaDoor

namespace Go.Proofs.YtkgaoedlnejigaaDoor
open Go.RowKit

theorem ret_ib {a b : Int} {c : Bool} (h : a = b) : Ending.returned (.tuple #[.int .i64 a, .bool c]) = .returned (.tuple #[.int .i64 b, .bool c]) := by rw [h]
set_option maxRecDepth 10000 in
set_option maxHeartbeats 400000 in
theorem fence_any (a b : Int) (w : World) :
    Calls Tryd.prog 20 #[.int .i64 a, .int .i64 b] w fun e w' => e = .returned (.tuple #[.int .i64 (fenN a b), .bool (decide (a ≤ b))]) ∧ w' = w := by
  unfold fenN
  go_enter Tryd.func20, Tryd.ntmps20
  go_wp2
  all_goals go_ret2
  all_goals exact ⟨ret_ib (by omega), rfl⟩

set_option maxRecDepth 10000 in
theorem locks_true (w : World) : Calls Tryd.prog 6 #[] w fun e w' => e = .returned (.bool true) ∧ w' = w := by
  go_enter Tryd.func6, Tryd.ntmps6
  go_wp2_with fail
  refine (fence_any _ _ _).mono ?_
  rintro e w1 ⟨rfl, rfl⟩
  rw [show fenN 5 6 = 6 from rfl]
  go_wp2_with fail
  go_ret
  exact ⟨rfl, rfl⟩

end Go.Proofs.YtkgaoedlnejigaaDoor

namespace Go.Proofs.YtkgaoedlnejigaaDoor
open Go.RowKit

/-- what Ready answers -/
def rdyE (ns : List Nd) (d : List UInt8) (k : Int) : Int := if 0 ≤ k ∧ k ≤ 64 then (if (lookN ns d).isSome = true then 0 else 7) else 3
def rdyB (ns : List Nd) (d : List UInt8) (k : Int) : Bool := decide (rdyE ns d k = 0) && decide (k ≤ ((kidsP ns d).length : Int))
theorem rdy_out {ns : List Nd} {d : List UInt8} {k : Int} (h : ¬ (0 ≤ k ∧ k ≤ 64)) : rdyE ns d k = 3 ∧ rdyB ns d k = false := by
  have e : rdyE ns d k = 3 := by rw [rdyE, if_neg h]
  exact ⟨e, by rw [rdyB, e]; rfl⟩
theorem rdy_gap {ns : List Nd} {d : List UInt8} {k : Int} (h : 0 ≤ k ∧ k ≤ 64) (hn : lookN ns d = none) : rdyE ns d k = 7 ∧ rdyB ns d k = false := by
  have e : rdyE ns d k = 7 := by rw [rdyE, if_pos h, hn]; rfl
  exact ⟨e, by rw [rdyB, e]; rfl⟩
theorem rdy_in {ns : List Nd} {d : List UInt8} {k : Int} {n : Nd} (h : 0 ≤ k ∧ k ≤ 64) (hn : lookN ns d = some n) : rdyE ns d k = 0 ∧ rdyB ns d k = decide (k ≤ ((kidsP ns d).length : Int)) := by
  have e : rdyE ns d k = 0 := by rw [rdyE, if_pos h, hn]; rfl
  exact ⟨e, by rw [rdyB, e]; rfl⟩
set_option maxRecDepth 20000 in
set_option maxHeartbeats 400000 in
theorem ready_out (z : Int) (vn vs : Value) (d : List UInt8) (k : Int) (w : World) (ns : List Nd) (hn : SeqV w vn ns) (hk : k < 0 ∨ 64 < k) :
    Calls Tryd.prog 14 #[.agg #[.int .i64 z, vn, vs], .string ⟨d.toArray⟩, .int .i64 k] w fun e w' => e = .returned (.tuple #[.bool false, .int .i64 3]) ∧ Below w.heap.size w w' := by
  obtain ⟨na, nc, rfl⟩ := seq_slice hn
  clear hn
  rcases hk with hk | hk
  · go_enter Tryd.func14, Tryd.ntmps14
    go_wp2_with fail
    go_ret2
    exact ⟨rfl, allocB _ _⟩
  · have h0 : ¬ k < 0 := by omega
    go_enter Tryd.func14, Tryd.ntmps14
    go_wp2_with fail
    go_ret2
    exact ⟨rfl, allocB _ _⟩
set_option maxRecDepth 20000 in
set_option maxHeartbeats 400000 in
theorem ready_gap (z : Int) (vn vs : Value) (ns : List Nd) (d : List UInt8) (k : Int) (w : World) (hn : SeqV w vn ns) (hk : 0 ≤ k ∧ k ≤ 64)
    (CK : ∀ W vn, SeqV W vn ns → Calls Tryd.prog 21 #[.agg #[.int .i64 z, vn, vs], .string ⟨d.toArray⟩] W fun e w' => e = .returned (.tuple #[.slice none 0 0, .int .i64 7]) ∧ Below W.heap.size W w') :
    Calls Tryd.prog 14 #[.agg #[.int .i64 z, vn, vs], .string ⟨d.toArray⟩, .int .i64 k] w fun e w' => e = .returned (.tuple #[.bool false, .int .i64 7]) ∧ Below w.heap.size w w' := by
  have HK := hide (fun W (hW : Below w.heap.size w W) => CK W vn (hn.next hW))
  obtain ⟨na, nc, rfl⟩ := seq_slice hn
  obtain ⟨k0, k1⟩ := hk
  clear hn CK
  go_enter Tryd.func14, Tryd.ntmps14
  go_wp2_with fail
  refine (unhide HK _ (allocB _ _)).mono ?_
  rintro e w1 ⟨rfl, hb1⟩
  have HB := hide (nbox_then hb1)
  clear hb1 HK
  go_wp2_with fail
  go_ret2
  exact ⟨rfl, unhide HB⟩
set_option maxRecDepth 20000 in
set_option maxHeartbeats 400000 in
theorem ready_in (z : Int) (vn vs : Value) (ns : List Nd) (K : List (List UInt8)) (d : List UInt8) (k : Int) (w : World) (hn : SeqV w vn ns) (hk : 0 ≤ k ∧ k ≤ 64)
    (CK : ∀ W vn, SeqV W vn ns → Calls Tryd.prog 21 #[.agg #[.int .i64 z, vn, vs], .string ⟨d.toArray⟩] W fun e w' => ∃ v', e = .returned (.tuple #[v', .int .i64 0]) ∧ SeqV w' v' K ∧ Below W.heap.size W w') :
    Calls Tryd.prog 14 #[.agg #[.int .i64 z, vn, vs], .string ⟨d.toArray⟩, .int .i64 k] w fun e w' => e = .returned (.tuple #[.bool (decide (k ≤ (K.length : Int))), .int .i64 0]) ∧ Below w.heap.size w w' := by
  have HK := hide (fun W (hW : Below w.heap.size w W) => CK W vn (hn.next hW))
  obtain ⟨na, nc, rfl⟩ := seq_slice hn
  obtain ⟨k0, k1⟩ := hk
  clear hn CK
  go_enter Tryd.func14, Tryd.ntmps14
  go_wp2_with fail
  refine (unhide HK _ (allocB _ _)).mono ?_
  rintro e w1 ⟨v1, rfl, hv1, hb1⟩
  have HB := hide (nbox_then hb1)
  obtain ⟨ka, kc, rfl⟩ := seq_slice hv1
  clear hb1 HK hv1
  go_wp2_with fail
  go_ret2
  exact ⟨rfl, unhide HB⟩

theorem ready_any (z : Int) (vn vs : Value) (ns : List Nd) (d : List UInt8) (k : Int) (w : World) (hn : SeqV w vn ns) (ha : NAsc ns) (hl : ns.length ≤ 400) :
    Calls Tryd.prog 14 #[.agg #[.int .i64 z, vn, vs], .string ⟨d.toArray⟩, .int .i64 k] w fun e w' => e = .returned (.tuple #[.bool (rdyB ns d k), .int .i64 (rdyE ns d k)]) ∧ Below w.heap.size w w' := by
  by_cases hk : 0 ≤ k ∧ k ≤ 64
  · rcases nwhere d ns ha with ⟨A, n, B, T⟩ | ⟨A, B, G⟩
    · rw [(rdy_in hk T.look).1, (rdy_in hk T.look).2]
      exact ready_in z vn vs ns (kidsP ns d) d k w hn hk (fun W v hv => (tkids_there z v vs ns A B n d W hv hl T).mono fun e w' ⟨v', h1, h2, h3⟩ => ⟨v', h1, h2.seq, h3⟩)
    · rw [(rdy_gap hk G.look).1, (rdy_gap hk G.look).2]
      exact ready_gap z vn vs ns d k w hn hk (fun W v hv => tkids_gap z v vs ns A B d W hv (by omega) G)
  · rw [(rdy_out hk).1, (rdy_out hk).2]
    exact ready_out z vn vs d k w ns hn (by omega)
end Go.Proofs.YtkgaoedlnejigaaDoor
