/-
  What aviaryref.steps makes, for every text up to a bound: a new slice of the pieces between slashes; the walk.
-/
import Derived.Test.YtnbkpilgmjjflaaDoorSplit
import Derived.Test.YtnbkpilgmjjflaaDoorRefNamed
import Derived.Test.YtnbkpilgmjjflaaDoorPathPlain
import Derived.OwnWalk
import Derived.WalkSmall
import Derived.Maps.AppendAt
import Derived.RegionTactic
namespace Go.Proofs.YtnbkpilgmjjflaaDoor
open Go.RowKit

def strV (p : List UInt8) : Value := .string ⟨p.toArray⟩
theorem splitL_snoc_slash (a : List UInt8) : splitL (a ++ [47]) = splitL a ++ [[]] := splitL_tail a [] (by simp)
theorem splitL_snoc : ∀ (a : List UInt8) (c : UInt8), c ≠ 47 → ∃ ini last, splitL a = ini ++ [last] ∧ splitL (a ++ [c]) = ini ++ [last ++ [c]]
  | [], c, hc => ⟨[], [], rfl, by simp [splitL, hc]⟩
  | x :: a, c, hc => by
    obtain ⟨ini, last, h1, h2⟩ := splitL_snoc a c hc
    by_cases hx : x = 47
    · subst hx
      exact ⟨[] :: ini, last, by rw [splitL_slash, h1]; rfl, by rw [List.cons_append, splitL_slash, h2]; rfl⟩
    · cases ini with
      | nil => exact ⟨[], x :: last, by rw [splitL_other hx h1]; rfl, by rw [List.cons_append, splitL_other hx h2]; rfl⟩
      | cons p ps => exact ⟨(x :: p) :: ps, last, by rw [splitL_other hx h1]; rfl, by rw [List.cons_append, splitL_other hx h2]; rfl⟩
theorem splitL_count' (l : List UInt8) : 1 ≤ (splitL l).length ∧ (splitL l).length ≤ l.length + 1 := by
  induction l with
  | nil => simp [splitL]
  | cons c l ih =>
    by_cases hc : c = 47
    · subst hc; rw [splitL_slash]; simp; omega
    · cases hl : splitL l with
      | nil => exact absurd hl (splitL_ne l)
      | cons p ps => rw [splitL_other hc hl]; rw [hl] at ih; simp at ih ⊢; omega

theorem infoS : (Tryd.prog.info? 9).map (fun i => (i.zero, i.size, i.bytes)) = some (some (.string ⟨#[]⟩), 1, 16) := by kernel_rfl

theorem size_setCell (w : World) (a : Addr) (v : Value) : (w.setCell a v).heap.size = w.heap.size := by
  show (w.heap.modify a.block _).size = _
  rw [Array.size_modify]
theorem heap_setCell_same {w : World} {g j : Nat} {cur : Array Value} {t : TypeId} {fz : Nat × Nat} (v : Value) (h : w.heap[g]? = some (.cells cur t fz)) :
    (w.setCell ⟨g, j, none⟩ v).heap[g]? = some (.cells (cur.setIfInBounds j v) t fz) := by
  obtain ⟨hlt, hk⟩ := Array.getElem?_eq_some_iff.1 h
  show (w.heap.modify g _)[g]? = _
  rw [Array.getElem?_eq_getElem (by rw [Array.size_modify]; exact hlt), Array.getElem_modify_self, hk]
  rfl
/-- the last string of a row is set anew -/
theorem row_set {w : World} {base g cap : Nat} {cur : Array Value} {ini : List (List UInt8)} {last x : List UInt8} (o : Obj) (h : w.heap[g]? = some (.cells cur 9 (0, 0))) (hb : base ≤ g) (h1 : ini.length + 1 ≤ cap) (h2 : cap ≤ maxLen) (h3 : cur.size = cap)
    (h4 : cur.toList.take (ini.length + [last].length) = ini.map strV ++ [last].map strV) :
    (((w.setCell ⟨g, ini.length, none⟩ (.string ⟨x.toArray⟩)).alloc o).drew).ownsRow base 9 1 (.slice (some ⟨g, 0, none⟩) (ini.length + 1) cap) (ini.length + 1) ((ini ++ [x]).map strV) := by
  have hlt : g < w.heap.size := (Array.getElem?_eq_some_iff.1 h).1
  refine ⟨by simp, .inr ⟨g, cap, cur.setIfInBounds ini.length (.string ⟨x.toArray⟩), rfl, hb, ?_, h1, h2, by simpa using h3, ?_⟩⟩
  · show ((w.setCell _ _).alloc o).heap[g]? = _
    rw [Below.heap_alloc _ _ _ (by rw [size_setCell]; exact hlt)]
    exact heap_setCell_same _ h
  · rw [Nat.mul_one, Array.toList_setIfInBounds]
    have h5 : cur.toList.take ini.length = ini.map strV := by
      have h6 := congrArg (List.take ini.length) h4
      rw [List.take_take] at h6
      simpa using h6
    have h7 : ini.length < cur.toList.length := by simp; omega
    rw [List.take_succ_eq_append_getElem (by simpa using h7), List.take_set_of_le (Nat.le_refl _), h5]
    simp [strV]
theorem row_ne {W : World} {base n B : Nat} {v : Value} {xs : List Value} {cs : Array Value} {fz : Nat × Nat} (h : W.ownsRow base 9 1 v n xs) (hb : W.heap[B]? = some (.cells cs 5 fz)) : some B ≠ v.ownBlock := by
  rcases h.2 with ⟨rfl, _⟩ | ⟨g, cap, cur, rfl, _, hgb, _⟩
  · simp [Value.ownBlock]
  · intro e
    obtain rfl : B = g := by simpa [Value.ownBlock] using e
    rw [hb] at hgb
    simp at hgb

set_option maxHeartbeats 1000000 in
theorem refSteps_any (l : List UInt8) (w : World) (hl : l.length ≤ 1048576) :
    Calls Tryd.prog 33 #[.string ⟨l.toArray⟩] w fun e w' =>
      ∃ v, e = .returned v ∧ w'.ownsRow w.heap.size 9 1 v (splitL l).length ((splitL l).map strV) ∧ Below w.heap.size w w' := by
  have hz : (ByteArray.mk l.toArray).size = l.length := Lib.size_eq ⟨l.toArray⟩
  have hconv : ∀ W s, (convert 9 49 (.string s)).run Tryd.prog W = .ok (.slice (some ⟨W.heap.size, 0, none⟩) s.size (grownCap W s.size 0 5)) (Lib.bytesWorld W 5 s) := fun W s =>
    Lib.run_convert_string_bytes W 9 49 5 s Tryd.underlying9 Tryd.underlying49 Tryd.underlying5
  go_enter Tryd.func33, Tryd.ntmps33
  go_wp2
  generalize hW1 : Lib.bytesWorld (w.alloc (.cells #[.string ⟨#[]⟩] 9)) 5 ⟨l.toArray⟩ = W1
  have hs1 : W1.heap.size = w.heap.size + 2 := by rw [← hW1, Lib.bytesWorld_size]; simp
  have Hcell : Hid (∀ j (hj : j < l.length), W1.cell? ⟨w.heap.size + 1, j, none⟩ = some (.int .u8 (l[j].toNat : Int))) := hide (fun j hj => by
    rw [← hW1]
    have h := bytes_cell (w.alloc (.cells #[.string ⟨#[]⟩] 9)) 5 ⟨l.toArray⟩ l rfl j hj
    rwa [World.size_alloc] at h)
  have htag : ∃ cs fz, W1.heap[w.heap.size + 1]? = some (.cells cs 5 fz) := by
    rw [← hW1]
    have h := Lib.bytesWorld_at_new (w.alloc (.cells #[.string ⟨#[]⟩] 9)) 5 ⟨l.toArray⟩
    rw [World.size_alloc] at h
    exact ⟨_, _, h⟩
  have hB1 : Below w.heap.size w W1 := by rw [← hW1]; exact ((Below.refl _ w).alloc (Nat.le_refl _) _).trans ((bytes_below _ _ _).mono (by simp))
  have hrow1 : W1.ownsRow w.heap.size 9 1 (.slice (some ⟨w.heap.size, 0, none⟩) 1 1) 1 [.string ⟨#[]⟩] := by
    refine ⟨rfl, .inr ⟨w.heap.size, 1, #[.string ⟨#[]⟩], rfl, Nat.le_refl _, ?_, Nat.le_refl _, by decide, rfl, rfl⟩⟩
    rw [← hW1, Lib.bytesWorld_at_old _ _ _ _ (by simp)]
    exact World.alloc_heap_new _ _
  clear hW1
  have Htag := hide htag
  clear htag
  go_loopw [3, 10] (fun v i wr => ∃ k : Nat, k ≤ l.length ∧ i = .int .i64 k ∧ wr.ownsRow w.heap.size 9 1 v (splitL (l.take k)).length ((splitL (l.take k)).map strV) ∧ Below w.heap.size w wr ∧ wr.heap[w.heap.size + 1]? = W1.heap[w.heap.size + 1]?) (fun _ i _ => l.length - (intOf i).toNat)
  case atStart => exact ⟨0, Nat.zero_le _, rfl, hrow1, hB1, rfl⟩
  case round =>
    obtain ⟨k, hk, rfl, hown, hB, hblk⟩ := hrel
    clear hrow1 hB1
    have Hown := hide hown
    have Hblk := hide hblk
    clear hblk
    have hcn := splitL_count' (l.take k)
    have hlt' : (l.take k).length ≤ k := List.length_take_le _ _
    by_cases hlt : k < l.length
    · have hc : wr.cell? ⟨w.heap.size + 1, k, none⟩ = some (.int .u8 (l[k].toNat : Int)) := (World.cell?_of_block (unhide Hblk)).trans (unhide Hcell k hlt)
      have Htk := hide (List.take_succ_eq_append_getElem hlt)
      generalize hcc : l[k] = c at hc Htk
      have hcb := c.toNat_lt
      obtain ⟨i0, hi, hz0, hz1, hz2⟩ := info_parts infoS
      by_cases hsl : c = 47
      · subst hsl
        clear hcc
        go_wp2_with (at_builtin; go_must (refine wpList_append_own _ rfl (.tmp 16) (.tmp 17) 54 rfl w.heap.size 9 i0 (.string ⟨#[]⟩) 1 16 Tryd.underlying54 hi hz0 hz1 hz2 rfl (by decide) _ _ _ rfl (hown.alloc _) ⟨wr.heap.size, 0, none⟩ 1 1 [.string ⟨#[]⟩] rfl rfl (cell_one_new _ _ _) (by simp [Value.oneCell']) (by simp only [maxLen]; omega) (by omega) (by have := hB.size; simp; omega) ?_); intro v' w1 hown' hgrow _)
        refine ⟨⟨k + 1, by omega, by go_num, ?_, ?_, ?_⟩, by simp [intOf]; omega⟩
        · rw [unhide Htk, splitL_snoc_slash, List.length_append, List.map_append]; exact hown'
        · exact (hB.alloc hB.size _).grown hgrow (by have := hB.size; simp; omega) (fun j e => ((unhide Hown).lt j e).1)
        · obtain ⟨cs, fz, ht⟩ := unhide Htag
          have hlt2 : w.heap.size + 1 < wr.heap.size := (Array.getElem?_eq_some_iff.1 ((unhide Hblk).trans ht)).1
          refine (hgrow.block _ (by simp; omega) (row_ne (unhide Hown) ((unhide Hblk).trans ht))).trans ?_
          exact (Below.heap_alloc wr _ _ hlt2).trans (unhide Hblk)
      · obtain ⟨ini, last, hi1, hi2⟩ := splitL_snoc (l.take k) c hsl
        have hsl' : ((c.toNat : Int) == 47) = false := by
          rw [beq_eq_false_iff_ne]
          intro h
          exact hsl (UInt8.toNat_inj.1 (by show c.toNat = 47; omega))
        clear hcc hsl hown
        have hown2 := unhide Hown
        rw [hi1, List.length_append, List.map_append] at hown2
        obtain ⟨hxl, hn | ⟨g, cap, cur, rfl, hg1, hg2, hg3, hg4, hg5, hg6⟩⟩ := hown2
        · exact absurd hn.2 (by simp)
        · have hgl : g < wr.heap.size := (Array.getElem?_eq_some_iff.1 hg2).1
          rw [Nat.mul_one] at hg5 hg6
          have hcl : wr.cell? ⟨g, ini.length, none⟩ = some (.string ⟨last.toArray⟩) := by
            have h := congrArg (fun x : List Value => x[ini.length]?) hg6
            simp only [List.length_singleton, List.getElem?_take] at h
            rw [if_pos (by omega), List.getElem?_append_right (by simp)] at h
            simp only [List.length_map, Nat.sub_self, List.map_cons, List.map_nil, List.getElem?_cons_zero] at h
            simp only [World.cell?, hg2]
            rw [← Array.getElem?_toList, h]; rfl
          have hfr : wr.frozen? ⟨g, ini.length, none⟩ = false := by simp [World.frozen?, hg2]
          have hll : last.length ≤ 1048576 := by
            have h1 := splitL_length (l.take k) last (by rw [hi1]; simp)
            omega
          have hlz : (ByteArray.mk last.toArray).size = last.length := Lib.size_eq ⟨last.toArray⟩
          have hb2s : ∀ W X, W.cell? ⟨X, 0, none⟩ = some (.int .u8 (c.toNat : Int)) → (convert 49 9 (.slice (some ⟨X, 0, none⟩) 1 1)).run Tryd.prog W = .ok (.string ⟨#[c]⟩) W := fun W X h =>
            run_convert_bytes_back W 49 9 5 ⟨X, 0, none⟩ 1 [c] Tryd.underlying49 Tryd.underlying5 Tryd.underlying9 (fun j hj => by
              obtain rfl : j = 0 := by simpa using hj
              simpa [Addr.add] using h)
          have Hg2 := hide hg2
          have Hg6 := hide hg6
          have Hi1 := hide hi1
          have Hi2 := hide hi2
          clear hg2 hg6 hi1 hi2
          simp only [List.length_singleton] at hxl hg3 hg5 ⊢
          have hil : ini.length ≤ 1048576 := by
            have h := hcn.2
            rw [unhide Hi1] at h
            simp at h
            omega
          have hil1 : (0 : Int) ≤ (ini.length : Int) := by omega
          have hil2 : (ini.length : Int) ≤ 1048576 := by omega
          have hil3 : (ini.length : Int) < (ini.length : Int) + 1 := by omega
          have hca : ∀ o, (wr.alloc o).cell? ⟨g, ini.length, none⟩ = some (.string ⟨last.toArray⟩) := fun o => (World.cell?_of_block (Below.heap_alloc wr o g hgl)).trans hcl
          have hfa : ∀ o, (wr.alloc o).frozen? ⟨g, ini.length, none⟩ = false := fun o => (World.frozen?_of_block (Below.heap_alloc wr o g hgl)).trans hfr
          go_wp2
          go_region
          clear hcl hfr hca hfa hb2s
          go_wp2
          refine ⟨⟨k + 1, by omega, by go_num, ?_, ?_, ?_⟩, by simp [intOf]; omega⟩
          · rw [unhide Htk, unhide Hi2, List.length_append, List.length_singleton, cat_one last [c]]
            exact row_set _ (unhide Hg2) hg1 hg3 hg4 (by simpa using hg5) (unhide Hg6)
          · exact ((hB.setCell (p := ⟨g, ini.length, none⟩) hg1 _).alloc (by rw [size_setCell]; exact hB.size) _).drew
          · obtain ⟨cs, fz, ht⟩ := unhide Htag
            have hb := (unhide Hblk).trans ht
            have hlt2 : w.heap.size + 1 < wr.heap.size := (Array.getElem?_eq_some_iff.1 hb).1
            have hne : w.heap.size + 1 ≠ g := by
              rintro rfl
              have h := unhide Hg2
              rw [hb] at h
              simp at h
            show (((wr.setCell _ _).alloc _).heap)[_]? = _
            rw [Below.heap_alloc _ _ _ (by rw [size_setCell]; exact hlt2), Below.heap_setCell _ _ _ _ hne]
            exact unhide Hblk
    · have hke : k = l.length := by omega
      subst hke
      rw [List.take_length] at Hown
      clear hown
      go_wp2
      go_ret
      exact ⟨_, rfl, unhide Hown, hB⟩

end Go.Proofs.YtnbkpilgmjjflaaDoor
