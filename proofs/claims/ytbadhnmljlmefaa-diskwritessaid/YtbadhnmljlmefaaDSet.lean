/-
  What disk.settle and disk.extend do to a file of a row of the call's own: the walks.
-/
import Derived.Test.YtbadhnmljlmefaaDCopy
import Derived.Lib.Strings
namespace Go.Proofs.Ytbadhnmljlmefaa
open Go.RowKit

theorem grown_set {w : World} {g j : Nat} (v : Value) : w.grownBy (w.setCell ⟨g, j, none⟩ v) (some g) := ⟨rfl, rfl, rfl, by simp [World.setCell], fun k _ hne => Below.heap_setCell w ⟨g, j, none⟩ v k (fun e => hne (by rw [e]))⟩
theorem grown_drew {w w' : World} {r : Option Nat} (h : w.grownBy w' r) : w.grownBy w'.drew r := ⟨h.os, h.tape, h.output, h.size, h.block⟩
theorem grown_trans {w w' w'' : World} {g : Nat} (h : w.grownBy w' (some g)) (h' : w'.grownBy w'' (some g)) : w.grownBy w'' (some g) :=
  ⟨h'.os.trans h.os, h'.tape.trans h.tape, h'.output.trans h.output, Nat.le_trans h.size h'.size, fun k hk hne => (h'.block k (Nat.lt_of_lt_of_le hk h.size) hne).trans (h.block k hk hne)⟩
theorem grown_below {w w' : World} {g : Nat} (h : Below w.heap.size w w') : w.grownBy w' (some g) := ⟨h.os, h.tape, h.output, h.size, fun k hk _ => h.block k hk⟩

theorem cat_one (l m : List UInt8) : (ByteArray.mk l.toArray) ++ (ByteArray.mk m.toArray) = ⟨(l ++ m).toArray⟩ := by
  have h : ((ByteArray.mk l.toArray) ++ (ByteArray.mk m.toArray)).data.toList = l ++ m := by simp [ByteArray.data_append]
  exact congrArg (fun l : List UInt8 => ByteArray.mk l.toArray) h
theorem ex_front (l : List UInt8) (d : Nat) : (ByteArray.mk l.toArray).extract 0 d = ⟨(l.take d).toArray⟩ := by
  apply ByteArray.ext
  apply Array.toList_inj.1
  have h := Lib.extract_toList (ByteArray.mk l.toArray) 0 d
  rw [Lib.toList_data] at h
  refine h.trans ?_
  show (l.drop 0).take (d - 0) = _
  simp

set_option maxHeartbeats 1000000 in
theorem settle_any (g cap k : Nat) (fs : List DF) (f : DF) (n : Nat) (w : World) (ho : Own w g cap fs) (hk : fs[k]? = some f) (hn : n ≤ f.s.length + f.t.length) (hf : f.s.length + f.t.length ≤ 1048576) :
    Calls Try.prog 40 #[.pointer (some ⟨g, k * 3, none⟩), .int .i64 n] w fun e w' =>
      e = .returned (.tuple #[]) ∧ Own w' g cap (fs.set k ⟨f.n, (f.s ++ f.t).take n, []⟩) ∧ w.grownBy w' (some g) := by
  have e1 := ho.c1 hk
  have e2 := ho.c2 hk
  have f1 := ho.frozen (k * 3 + 1)
  have f2 := ho.frozen (k * 3 + 2)
  have HO := hide ho
  have HK := hide hk
  clear ho hk
  obtain ⟨fn, fss, ft⟩ := f
  simp only at *
  have hn1 : (n : Int) ≤ (fss.length : Int) + (ft.length : Int) := by omega
  go_enter Try.func40, Try.ntmps40
  go_wp2_with fail
  go_region
  go_wp2_with fail
  go_end0
  refine ⟨rfl, ?_, ?_⟩
  · rw [cat_one, ex_front]
    have h1 := (unhide HO).s1 (unhide HK) ((fss ++ ft).take n)
    have h2 := h1.s2 (f := ⟨fn, (fss ++ ft).take n, ft⟩) (by rw [List.getElem?_set_self (List.getElem?_eq_some_iff.1 (unhide HK)).1]) []
    rw [List.set_set] at h2
    exact h2
  · exact grown_drew (grown_trans (grown_set _) (grown_set _))

set_option maxHeartbeats 1000000 in
theorem extend_any (g cap k : Nat) (fs : List DF) (f : DF) (x : List UInt8) (w : World) (ho : Own w g cap fs) (hk : fs[k]? = some f) (hx : x.length ≤ 1048576) (hf : f.t.length ≤ 1048576) :
    Calls Try.prog 36 #[.pointer (some ⟨g, k * 3, none⟩), .string ⟨x.toArray⟩] w fun e w' =>
      e = .returned (.tuple #[]) ∧ Own w' g cap (fs.set k ⟨f.n, f.s, f.t ++ x⟩) ∧ w.grownBy w' (some g) := by
  have e2 := ho.c2 hk
  have f2 := ho.frozen (k * 3 + 2)
  have HO := hide ho
  have HK := hide hk
  have hg := ho.lt
  clear ho hk
  obtain ⟨fn, fss, ft⟩ := f
  simp only at *
  have C := fun W => clone_any x W (by omega)
  have hlen : ¬ 9223372036854775807 < ft.length + x.length := by omega
  go_enter Try.func36, Try.ntmps36
  go_wp2_with fail
  go_region_with (first | (go_at_call 35; refine (C _).mono ?_; rintro e w1 ⟨rfl, hb1⟩; have e3 : w1.cell? ⟨g, k * 3 + 2, none⟩ = some (.string ⟨ft.toArray⟩) := (hb1.cell (p := ⟨g, k * 3 + 2, none⟩) hg).trans e2; have f3 : w1.frozen? ⟨g, k * 3 + 2, none⟩ = false := (hb1.frozen (p := ⟨g, k * 3 + 2, none⟩) hg).trans f2))
  all_goals go_wp2_with fail
  all_goals
    have hb : Below w.heap.size w w1 := ((Below.refl _ w).drew).trans hb1
    go_end0
    refine ⟨rfl, ?_, grown_trans (grown_below hb) (grown_set _)⟩
    rw [cat_one]
    exact ((unhide HO).next hb).s2 (unhide HK) (ft ++ x)
end Go.Proofs.Ytbadhnmljlmefaa
