/-
  What path.opening, path.Under and path.Join answer, for all texts: the walks.
  What path.Split answers, for every text: the last slash, and the walk.
-/
import Derived.Test.YtoacignhobchbaaGreatDoorSUC
import Derived.Lib.LastIndexByte
import Derived.Lib.QuietBelow
namespace Go.Proofs.YtoacignhobchbaaGreatDoor
open Go.RowKit Go.Shelf

/-- what all paths below a path begin with -/
def openL (l : List UInt8) : List UInt8 := if l = [47] then [47] else l ++ [47]
theorem openL_root : openL [47] = [47] := by rw [openL, if_pos rfl]
theorem openL_other {l : List UInt8} (h : l ≠ [47]) : openL l = l ++ [47] := by rw [openL, if_neg h]
theorem openL_length (l : List UInt8) : (openL l).length ≤ l.length + 1 := by
  unfold openL
  split
  · simp
  · simp
set_option maxRecDepth 10000 in
set_option maxHeartbeats 400000 in
theorem opening_any (l : List UInt8) (w : World) (hl : l.length ≤ 140737488355328) :
    Calls Tryz.prog 147 #[.string ⟨l.toArray⟩] w fun e w' => e = .returned (.string ⟨(openL l).toArray⟩) ∧ w' = w := by
  have hz : (ByteArray.mk l.toArray).size = l.length := Lib.size_eq ⟨l.toArray⟩
  by_cases h : l = [47]
  · subst h
    go_enter Tryz.func147, Tryz.ntmps147
    go_wp2
    go_ret
    exact ⟨ret_str (by rw [openL_root]), rfl⟩
  · have h1 : (l == [47]) = false := by simpa using h
    have Ho := hide (openL_other h)
    clear h
    go_enter Tryz.func147, Tryz.ntmps147
    go_wp2
    go_ret
    exact ⟨ret_str (by rw [unhide Ho]; exact cat_one l [47]), rfl⟩

/-- what Join answers: the path, or nothing; and the error's number -/
def joinS (d m : List UInt8) : List UInt8 := if goodB d && namedB m then (if (openL d ++ m).length ≤ 200 then openL d ++ m else []) else []
def joinE (d m : List UInt8) : Int := if goodB d && namedB m then (if (openL d ++ m).length ≤ 200 then 0 else 1) else 2
theorem join_bad {d m : List UInt8} (h : (goodB d && namedB m) = false) : joinS d m = [] ∧ joinE d m = 2 := by
  unfold joinS joinE
  rw [h]
  exact ⟨rfl, rfl⟩
theorem join_long {d m : List UInt8} (h : (goodB d && namedB m) = true) (h1 : 200 < (openL d ++ m).length) : joinS d m = [] ∧ joinE d m = 1 := by
  unfold joinS joinE
  rw [if_pos h, if_pos h, if_neg (by omega), if_neg (by omega)]
  exact ⟨rfl, rfl⟩
theorem join_fits {d m : List UInt8} (h : (goodB d && namedB m) = true) (h1 : (openL d ++ m).length ≤ 200) : joinS d m = openL d ++ m ∧ joinE d m = 0 := by
  unfold joinS joinE
  rw [if_pos h, if_pos h, if_pos h1, if_pos h1]
  exact ⟨rfl, rfl⟩
set_option maxRecDepth 10000 in
set_option maxHeartbeats 1000000 in
theorem join_any (d m : List UInt8) (w : World) (hm : m.length ≤ 140737488355328) :
    Calls Tryz.prog 120 #[.string ⟨d.toArray⟩, .string ⟨m.toArray⟩] w fun e w' => e = .returned (.tuple #[.string ⟨(joinS d m).toArray⟩, .int .i64 (joinE d m)]) ∧ Below w.heap.size w w' := by
  cases hd : goodB d
  · obtain ⟨h1, h2⟩ := join_bad (d := d) (m := m) (by rw [hd]; rfl)
    have H1 := hide h1
    have H2 := hide h2
    have Hd := hide hd
    clear h1 h2 hd
    go_enter Tryz.func120, Tryz.ntmps120
    go_wp2_with fail
    refine (good_any _ _).mono ?_
    rintro e w1 ⟨rfl, hb1⟩
    rw [show (ByteArray.mk d.toArray).data.toList = d from rfl, unhide Hd]
    go_wp2_with fail
    go_ret2
    exact ⟨ret_strE (by rw [unhide H1]) (unhide H2).symm, hb1⟩
  cases hn : namedB m
  · obtain ⟨h1, h2⟩ := join_bad (d := d) (m := m) (by rw [hn, Bool.and_false])
    have H1 := hide h1
    have H2 := hide h2
    have Hd := hide hd
    have Hn := hide hn
    clear h1 h2 hd hn
    go_enter Tryz.func120, Tryz.ntmps120
    go_wp2_with fail
    refine (good_any _ _).mono ?_
    rintro e w1 ⟨rfl, hb1⟩
    rw [show (ByteArray.mk d.toArray).data.toList = d from rfl, unhide Hd]
    go_wp2_with fail
    refine (named_any _ _ (size_le_maxLen hm)).mono ?_
    rintro e w2 ⟨rfl, rfl⟩
    rw [show (ByteArray.mk m.toArray).data.toList = m from rfl, unhide Hn]
    go_wp2_with fail
    go_ret2
    exact ⟨ret_strE (by rw [unhide H1]) (unhide H2).symm, hb1⟩
  have hdl := goodB_le hd
  have hml := namedB_le hn
  have hol := openL_length d
  have hdn : (goodB d && namedB m) = true := by rw [hd, hn]; rfl
  have Hd := hide hd
  have Hn := hide hn
  clear hd hn
  generalize hO : openL d = O at hol
  have HO := hide hO
  clear hO
  have hz : ((ByteArray.mk O.toArray) ++ (ByteArray.mk m.toArray)).size = O.length + m.length := by rw [cat_one, Lib.size_eq]; show (O ++ m).length = _; simp
  by_cases hf : O.length + m.length ≤ 200
  · obtain ⟨h1, h2⟩ := join_fits hdn (by rw [unhide HO]; simpa using hf)
    have H1 := hide h1
    have H2 := hide h2
    clear h1 h2 hdn
    go_enter Tryz.func120, Tryz.ntmps120
    go_wp2_with fail
    refine (good_any _ _).mono ?_
    rintro e w1 ⟨rfl, hb1⟩
    rw [show (ByteArray.mk d.toArray).data.toList = d from rfl, unhide Hd]
    go_wp2_with fail
    refine (named_any _ _ (size_le_maxLen hm)).mono ?_
    rintro e w2 ⟨rfl, rfl⟩
    rw [show (ByteArray.mk m.toArray).data.toList = m from rfl, unhide Hn]
    go_wp2_with fail
    refine (opening_any _ _ (by omega)).mono ?_
    rintro e w3 ⟨rfl, rfl⟩
    rw [unhide HO]
    go_wp2_with fail
    go_ret2
    exact ⟨ret_strE (by rw [unhide H1, unhide HO]; exact cat_one O m) (unhide H2).symm, hb1⟩
  · obtain ⟨h1, h2⟩ := join_long hdn (by rw [unhide HO]; simp; omega)
    have H1 := hide h1
    have H2 := hide h2
    clear h1 h2 hdn
    go_enter Tryz.func120, Tryz.ntmps120
    go_wp2_with fail
    refine (good_any _ _).mono ?_
    rintro e w1 ⟨rfl, hb1⟩
    rw [show (ByteArray.mk d.toArray).data.toList = d from rfl, unhide Hd]
    go_wp2_with fail
    refine (named_any _ _ (size_le_maxLen hm)).mono ?_
    rintro e w2 ⟨rfl, rfl⟩
    rw [show (ByteArray.mk m.toArray).data.toList = m from rfl, unhide Hn]
    go_wp2_with fail
    refine (opening_any _ _ (by omega)).mono ?_
    rintro e w3 ⟨rfl, rfl⟩
    rw [unhide HO]
    go_wp2_with fail
    go_ret2
    exact ⟨ret_strE (by rw [unhide H1]) (unhide H2).symm, hb1⟩

end Go.Proofs.YtoacignhobchbaaGreatDoor

namespace Go.Proofs.YtoacignhobchbaaGreatDoor
open Go.RowKit Go.Shelf

theorem lastIndex_eq (a b : List UInt8) (hb : 47 ∉ b) : Lib.lastIndexByte ⟨(a ++ 47 :: b).toArray⟩ 47 = a.length := by
  have hat : ∀ j, j < (a ++ 47 :: b).length → ((ByteArray.mk (a ++ 47 :: b).toArray).data[j]!) = (a ++ 47 :: b)[j]! := fun j hj => by simp
  rcases Lib.lastIndexByte_spec ⟨(a ++ 47 :: b).toArray⟩ 47 with ⟨_, h⟩ | ⟨i, hi, e, hc, hn⟩
  · exact absurd (by simp) (h a.length (by show a.length < (a ++ 47 :: b).toArray.size; simp))
  · rw [e]
    have hi' : i < (a ++ 47 :: b).length := by
      have : i < (a ++ 47 :: b).toArray.size := hi
      simpa using this
    have h1 : a.length ≤ i := by
      apply Nat.le_of_not_lt
      intro hlt
      exact hn a.length hlt (by show a.length < (a ++ 47 :: b).toArray.size; simp) (by simp)
    by_cases h2 : i = a.length
    · rw [h2]
    · exfalso
      apply hb
      have hlt : i - a.length - 1 < b.length := by simp at hi'; omega
      have hb' : (a ++ 47 :: b)[i]! = b[i - a.length - 1]! := by
        rw [List.getElem!_eq_getElem?_getD, List.getElem!_eq_getElem?_getD, List.getElem?_append_right h1]
        obtain ⟨k, hk⟩ : ∃ k, i - a.length = k + 1 := ⟨i - a.length - 1, by omega⟩
        rw [hk]; simp
      rw [hat i hi', hb'] at hc
      have hm : b[i - a.length - 1]! ∈ b := by
        rw [List.getElem!_eq_getElem?_getD, List.getElem?_eq_getElem hlt]; simp
      have : b[i - a.length - 1]! = 47 := by
        apply UInt8.toNat_inj.1
        show _ = 47
        omega
      rwa [this] at hm

theorem cut_first (a b : List UInt8) : (ByteArray.mk (a ++ 47 :: b).toArray).extract 0 a.length = ⟨a.toArray⟩ := by
  rw [cut_front]; simp
theorem cut_last (a b : List UInt8) : (ByteArray.mk (a ++ 47 :: b).toArray).extract (a.length + 1) (a.length + b.length + 1) = ⟨b.toArray⟩ := by
  have := cut_back (a ++ 47 :: b) (a.length + 1)
  rw [show (a ++ 47 :: b).length = a.length + b.length + 1 from by simp; omega] at this
  rw [this]
  have e : (a ++ 47 :: b).drop (a.length + 1) = b := by rw [← List.drop_drop]; simp
  rw [e]

/-- a path's parent, out of what stands ahead of its last slash -/
def dirL (a : List UInt8) : List UInt8 := if a = [] then [47] else a
theorem dirL_nil : dirL [] = [47] := by rw [dirL, if_pos rfl]
theorem dirL_other {a : List UInt8} (h : a ≠ []) : dirL a = a := by rw [dirL, if_neg h]
theorem ret_three {a b c d : ByteArray} {i j : Int} (h : a = b) (h1 : c = d) (h' : i = j) : Ending.returned (.tuple #[.string a, .string c, .int .i64 i]) = .returned (.tuple #[.string b, .string d, .int .i64 j]) := by rw [h, h1, h']

set_option maxRecDepth 20000 in
set_option maxHeartbeats 1000000 in
theorem split_main (a b : List UInt8) (w : World) (hb : 47 ∉ b) (hg : goodB (a ++ 47 :: b) = true) (hne : a ++ 47 :: b ≠ [47]) :
    Calls Tryz.prog 82 #[.string ⟨(a ++ 47 :: b).toArray⟩] w fun e w' =>
      e = .returned (.tuple #[.string ⟨(dirL a).toArray⟩, .string ⟨b.toArray⟩, .int .i64 0]) ∧ Below w.heap.size w w' := by
  have hl : a.length + b.length + 1 ≤ 200 := by have := goodB_le hg; simp at this; omega
  have hne1 : (a ++ 47 :: b == [47]) = false := by simpa using hne
  have Hg := hide hg
  have Hi := hide (lastIndex_eq a b hb)
  clear hg hne hb
  have hz : (ByteArray.mk (a ++ 47 :: b).toArray).size = a.length + b.length + 1 := by rw [Lib.size_eq]; show (a ++ 47 :: b).length = _; simp; omega
  have Hc1 := hide (cut_first a b)
  have Hc2 := hide (cut_last a b)
  generalize a ++ 47 :: b = l at *
  go_enter Tryz.func82, Tryz.ntmps82
  go_wp2_with fail
  refine (good_any _ _).mono ?_
  rintro e w1 ⟨rfl, hb1⟩
  rw [show (ByteArray.mk l.toArray).data.toList = l from rfl, unhide Hg]
  go_wp2_with fail
  refine (Tryz.strings_LastIndexByte _ _ (by omega) _).mono ?_
  rintro e w2 ⟨rfl, rfl⟩
  rw [unhide Hi]
  go_wp2_with fail
  have cA : ∀ d os, Calls Tryz.prog 69 #[.string ((ByteArray.mk l.toArray).extract 0 a.length)] (Sort.grow (redrawn w2 d) os) fun e w'' => e = .returned (.string ⟨a.toArray⟩) ∧ ∃ p : Regrown, w'' = Sort.grow (redrawn w2 p.d) p.os :=
    fun d os => Calls.regrown_of (by rw [unhide Hc1]; exact clone_any _ _ (by rw [Lib.size_eq]; show a.length ≤ _; omega))
  have cB : ∀ d os, Calls Tryz.prog 69 #[.string ((ByteArray.mk l.toArray).extract (a.length + 1) (a.length + b.length + 1))] (Sort.grow (redrawn w2 d) os) fun e w'' => e = .returned (.string ⟨b.toArray⟩) ∧ ∃ p : Regrown, w'' = Sort.grow (redrawn w2 p.d) p.os :=
    fun d os => Calls.regrown_of (by rw [unhide Hc2]; exact clone_any _ _ (by rw [Lib.size_eq]; show b.length ≤ _; omega))
  have n1 : (a.length : Int) ≤ a.length + b.length + 1 := by omega
  have n2 : (a.length : Int) ≤ a.length + b.length := by omega
  have n3 : IntKind.i64.wrap ((a.length : Int) + 1) = (a.length : Int) + 1 := by rw [IntKind.wrap_i64]; omega
  have n4 : (0 : Int) ≤ (a.length : Int) + 1 := by omega
  refine wp_region_quiet_below (by kernel_rfl) (by kernel_rfl) ?_
  repeat (quiet_step (first | exact cA _ _ | exact cB _ _))
  refine wpQuiet_nil ?_
  intro _ hw'
  obtain ⟨⟨dq, osq⟩, hw''⟩ := hw'
  subst hw''
  clear cA cB
  have hb2 : Below w.heap.size w (Sort.grow (redrawn w2 dq) osq) := below_next hb1 (below_regrown w2 dq osq)
  cases he : a.isEmpty
  · go_wp2
    go_ret3
    exact ⟨ret_three (by rw [dirL_other (by rintro rfl; simp at he)]) rfl rfl, hb2⟩
  · obtain rfl : a = [] := by simpa using he
    go_wp2
    go_ret3
    exact ⟨ret_three (by rw [dirL_nil]) rfl rfl, hb2⟩

set_option maxRecDepth 10000 in
set_option maxHeartbeats 400000 in
theorem split_bad (l : List UInt8) (w : World) (hg : goodB l = false) :
    Calls Tryz.prog 82 #[.string ⟨l.toArray⟩] w fun e w' => e = .returned (.tuple #[.string ⟨#[]⟩, .string ⟨#[]⟩, .int .i64 2]) ∧ Below w.heap.size w w' := by
  have Hg := hide hg
  clear hg
  go_enter Tryz.func82, Tryz.ntmps82
  go_wp2_with fail
  refine (good_any _ _).mono ?_
  rintro e w1 ⟨rfl, hb1⟩
  rw [show (ByteArray.mk l.toArray).data.toList = l from rfl, unhide Hg]
  go_wp2_with fail
  go_ret3
  exact ⟨rfl, hb1⟩

set_option maxRecDepth 10000 in
set_option maxHeartbeats 400000 in
theorem split_root (w : World) :
    Calls Tryz.prog 82 #[.string ⟨#[47]⟩] w fun e w' => e = .returned (.tuple #[.string ⟨#[]⟩, .string ⟨#[]⟩, .int .i64 7]) ∧ Below w.heap.size w w' := by
  go_enter Tryz.func82, Tryz.ntmps82
  go_wp2_with fail
  refine (good_any _ _).mono ?_
  rintro e w1 ⟨rfl, hb1⟩
  rw [show (ByteArray.mk #[47]).data.toList = [47] from rfl, goodB_root]
  go_wp2_with fail
  go_ret3
  exact ⟨rfl, hb1⟩

end Go.Proofs.YtoacignhobchbaaGreatDoor
