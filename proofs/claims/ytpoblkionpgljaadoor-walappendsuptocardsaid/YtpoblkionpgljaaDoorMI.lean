/-
  What aviaryref.Named answers, for every text: the walk.
  What aviaryref.steps makes, for every text up to a bound: a new slice of the pieces between slashes; the walk.
  What aviaryref.GoodPath answers, for every text up to a bound: the walk.
  What aviaryref.GoodZxid answers, for every number: the walk.
  What aviaryref.Sum answers, for every text: the sum by single bits, and the walk.
  What aviaryref.bytesOf and numberOf answer: the walks.
  What aviaryref.GoodTxn answers: the walk.
  What aviaryref.GoodTxn answers of what has a path: the walks.
  What aviaryref.GoodTxn answers of what has a path: the walks.
  What aviaryref.GoodTxn answers of what has a path: the walks.
  What aviaryref.GoodTxn answers, for every transaction up to a bound: the walk.
  What aviaryref.Encode answers: the walk.
-/
import Derived.Test.YtpoblkionpgljaaDoorMA
import Derived.Lib.ConvBytes
import Derived.Lib.Strings
import Derived.Test.YtpoblkionpgljaaDoorMB
import Derived.OwnWalk
import Derived.WalkSmall
import Derived.Maps.AppendAt
import Derived.RegionTactic
import Derived.Test.YtpoblkionpgljaaDoorRows
import Derived.Laws.CopyOwn
import Derived.WalkKit
import Derived.WalkSpells
import Derived.WalkLawsBesides
import Derived.Test.YtpoblkionpgljaaDoorMC
import Derived.Deep.QuietTactic
import Derived.BigQuiet
namespace Go.Proofs.YtpoblkionpgljaaDoor
open Go.RowKit

def okL : List UInt8 := [97, 98, 99, 100, 101, 102, 103, 104, 105, 106, 107, 108, 109, 110, 111, 112, 113, 114, 115, 116, 117, 118, 119, 120, 121, 122, 48, 49, 50, 51, 52, 53, 54, 55, 56, 57, 45, 95]
theorem ok_fin : ∀ n : Fin 256, okL.any (fun d => d == UInt8.ofNat n.val) = letterB (UInt8.ofNat n.val) := by decide +kernel
theorem ok_letter (c : UInt8) : okL.any (fun d => d == c) = letterB c := by
  have h := ok_fin ⟨c.toNat, c.toNat_lt⟩
  rwa [show UInt8.ofNat (⟨c.toNat, c.toNat_lt⟩ : Fin 256).val = c from by simp] at h

theorem any_take_succ (l : List UInt8) (j : Nat) (h : j < l.length) (c : UInt8) : (l.take (j + 1)).any (fun d => d == c) = ((l.take j).any (fun d => d == c) || l[j] == c) := by
  rw [List.take_succ_eq_append_getElem h, List.any_append]; simp

theorem val_bool {a b : Bool} (h : a = b) : Value.bool a = .bool b := by rw [h]
theorem u8_beq (c d : UInt8) : ((c.toNat : Int) == (d.toNat : Int)) = (d == c) := by
  rw [Bool.eq_iff_iff, beq_iff_eq, beq_iff_eq]
  constructor
  · intro h; exact (UInt8.toNat_inj.1 (by omega)).symm
  · rintro rfl; rfl
theorem ok_all (c : UInt8) : (okL.take 38).any (fun d => d == c) = okL.any (fun d => d == c) := rfl
theorem namedB_all {l : List UInt8} (h : l.all letterB = true) : namedB l = (decide (1 ≤ l.length) && decide (l.length ≤ 40)) := by
  rw [namedB, h, Bool.and_true]
theorem nm_true {n : Nat} (h : 0 < n) (h1 : n ≤ 40) : (decide (1 ≤ n) && decide (n ≤ 40)) = true := by
  rw [decide_eq_true (show 1 ≤ n from h), decide_eq_true h1]; rfl
theorem nm_long {n : Nat} (h1 : ¬ n ≤ 40) : (decide (1 ≤ n) && decide (n ≤ 40)) = false := by
  rw [decide_eq_false h1, Bool.and_false]
theorem nm_none {n : Nat} (h : ¬ 0 < n) : (decide (1 ≤ n) && decide (n ≤ 40)) = false := by
  rw [decide_eq_false (show ¬ 1 ≤ n from h), Bool.false_and]
theorem bytes_below (w : World) (e : TypeId) (s : ByteArray) : Below w.heap.size w (Lib.bytesWorld w e s) :=
  ⟨rfl, rfl, rfl, by rw [Lib.bytesWorld_size]; omega, fun k hk => Lib.bytesWorld_at_old w e s k hk⟩
theorem bytes_cell (w : World) (e : TypeId) (s : ByteArray) (l : List UInt8) (h : s.data.toList = l) (j : Nat) (hj : j < l.length) : (Lib.bytesWorld w e s).cell? ⟨w.heap.size, j, none⟩ = some (.int .u8 (l[j].toNat : Int)) := by
  subst h
  rw [Lib.bytesWorld_cell _ _ _ _ (by rw [Lib.size_eq]; exact hj), List.getD_eq_getElem?_getD, List.getElem?_eq_getElem hj]; rfl
theorem all_take_next {l : List UInt8} {k : Nat} (h : k < l.length) (p : UInt8 → Bool) (h1 : (l.take k).all p = true) (h2 : p l[k] = true) : (l.take (k + 1)).all p = true := by
  rw [List.take_succ_eq_append_getElem h, List.all_append, h1]; simpa using h2
theorem named_of_not {l : List UInt8} {k : Nat} (h : k < l.length) (h2 : letterB l[k] = false) : namedB l = false := by
  have : l.all letterB = false := by
    rw [List.all_eq_false]
    exact ⟨l[k], List.getElem_mem h, by simp [h2]⟩
  rw [namedB, this, Bool.and_false]

set_option maxHeartbeats 1000000 in
theorem refNamed_any (l : List UInt8) (w : World) (hl : l.length ≤ 140737488355328) :
    Calls Tryd.prog 77 #[.string ⟨l.toArray⟩] w fun e w' => e = .returned (.bool (namedB l)) ∧ Below w.heap.size w w' := by
  have hz : (ByteArray.mk l.toArray).size = l.length := Lib.size_eq ⟨l.toArray⟩
  have hconv : ∀ W s, (convert 9 82 (.string s)).run Tryd.prog W = .ok (.slice (some ⟨W.heap.size, 0, none⟩) s.size (grownCap W s.size 0 5)) (Lib.bytesWorld W 5 s) := fun W s =>
    Lib.run_convert_string_bytes W 9 82 5 s Tryd.underlying9 Tryd.underlying82 Tryd.underlying5
  go_enter Tryd.func77, Tryd.ntmps77
  go_wp2
  generalize hOK : (ByteArray.mk #[97, 98, 99, 100, 101, 102, 103, 104, 105, 106, 107, 108, 109, 110, 111, 112, 113, 114, 115, 116, 117, 118, 119, 120, 121, 122, 48, 49, 50, 51, 52, 53, 54, 55, 56, 57, 45, 95]) = OK
  have HOK : Hid (OK.data.toList = okL) := hide (by rw [← hOK]; rfl)
  have hOs : OK.size = 38 := by rw [← hOK]; rfl
  clear hOK
  generalize hW1 : Lib.bytesWorld w 5 ⟨l.toArray⟩ = W1
  have hs1 : W1.heap.size = w.heap.size + 1 := by rw [← hW1]; exact Lib.bytesWorld_size _ _ _
  have Hcell : Hid (∀ j (hj : j < l.length), W1.cell? ⟨w.heap.size, j, none⟩ = some (.int .u8 (l[j].toNat : Int))) := hide (fun j hj => by
    rw [← hW1]; exact bytes_cell w 5 ⟨l.toArray⟩ l rfl j hj)
  have hB1 : Below w.heap.size w W1 := by rw [← hW1]; exact bytes_below _ _ _
  clear hW1
  go_loopw [12] (fun i wr => ∃ k : Nat, k ≤ l.length ∧ i = .int .i64 k ∧ (l.take k).all letterB = true ∧ Below (w.heap.size + 1) W1 wr) (fun i _ => l.length - (intOf i).toNat)
  case atStart => exact ⟨0, Nat.zero_le _, rfl, by simp, Below.refl _ _⟩
  case round =>
    obtain ⟨k, hk, rfl, hall, hBr⟩ := hrel
    have Hall := hide hall
    clear hall
    by_cases hlt : k < l.length
    · have hc : wr.cell? ⟨w.heap.size, k, none⟩ = some (.int .u8 (l[k].toNat : Int)) := (hBr.cell (p := ⟨w.heap.size, k, none⟩) (by simp)).trans (unhide Hcell k hlt)
      generalize hcc : l[k] = c at hc
      have Hcc := hide hcc
      clear hcc
      have hcb := c.toNat_lt
      go_wp2
      generalize hW2 : Lib.bytesWorld wr 5 OK = W2
      have HW2 : Hid (∀ j (hj : j < okL.length), W2.cell? ⟨wr.heap.size, j, none⟩ = some (.int .u8 (okL[j].toNat : Int))) := hide (fun j hj => by
        rw [← hW2]; exact bytes_cell wr 5 OK okL (unhide HOK) j hj)
      have hB2 : Below (w.heap.size + 1) W1 W2 := by
        rw [← hW2]; exact hBr.trans ((bytes_below wr 5 OK).mono (by have := hBr.size; omega))
      clear hW2
      go_loop [6, 19] (fun t i => ∃ j : Nat, j ≤ 38 ∧ i = .int .i64 j ∧ t = .bool ((okL.take j).any (fun d => d == c))) (fun _ i => 38 - (intOf i).toNat)
      case atStart => exact ⟨0, Nat.zero_le _, rfl, by simp⟩
      case round =>
        obtain ⟨j, hj, rfl, rfl⟩ := hrel
        by_cases hjl : j < 38
        · have hd : W2.cell? ⟨wr.heap.size, j, none⟩ = some (.int .u8 ((okL[j]'hjl).toNat : Int)) := unhide HW2 j hjl
          have HS := hide (any_take_succ okL j hjl c)
          generalize hdd : okL[j]'hjl = d at hd
          have Hdd := hide hdd
          clear hdd
          cases hin : (okL.take j).any (fun d => d == c)
          · have Hin := hide hin
            clear hin
            go_wp2
            exact ⟨⟨j + 1, by omega, by go_num, val_bool (by rw [unhide HS, unhide Hin, unhide Hdd, Bool.false_or]; exact u8_beq c d)⟩, by simp [intOf]; omega⟩
          · have Hin := hide hin
            clear hin
            go_wp2
            exact ⟨⟨j + 1, by omega, by go_num, val_bool (by rw [unhide HS, unhide Hin, Bool.true_or])⟩, by simp [intOf]; omega⟩
        · have hj38 : j = 38 := by omega
          subst hj38
          rw [ok_all, ok_letter c]
          cases hlc : letterB c
          · have Hlc := hide hlc
            clear hlc
            go_wp2
            go_ret
            exact ⟨ret_bool (named_of_not hlt (by rw [unhide Hcc]; exact unhide Hlc)).symm, hB1.trans (hB2.mono (by omega))⟩
          · have Hlc := hide hlc
            clear hlc
            go_wp2
            exact ⟨⟨k + 1, by omega, by go_num, all_take_next hlt letterB (unhide Hall) (by rw [unhide Hcc]; exact unhide Hlc), hB2⟩, by simp [intOf]; omega⟩
    · have hke : k = l.length := by omega
      subst hke
      have hall' : l.all letterB = true := by
        have := unhide Hall
        rwa [List.take_length] at this
      have Hn := hide (namedB_all hall')
      clear hall' Hall
      have hfin : Below w.heap.size w wr := hB1.trans (hBr.mono (by omega))
      by_cases h0 : 0 < l.length
      · by_cases h40 : l.length ≤ 40
        · go_wp2
          go_ret
          exact ⟨ret_bool (by rw [unhide Hn]; first | exact (nm_true h0 h40).symm | exact (decide_eq_true (by omega)).trans (nm_true h0 h40).symm), hfin⟩
        · go_wp2
          go_ret
          exact ⟨ret_bool (by rw [unhide Hn]; first | exact (nm_long h40).symm | exact (decide_eq_false (by omega)).trans (nm_long h40).symm), hfin⟩
      · go_wp2
        go_ret
        exact ⟨ret_bool (by rw [unhide Hn]; first | exact (nm_none h0).symm | exact (decide_eq_false (by omega)).trans (nm_none h0).symm), hfin⟩

end Go.Proofs.YtpoblkionpgljaaDoor

namespace Go.Proofs.YtpoblkionpgljaaDoor
open Go.RowKit

def strV (p : List UInt8) : Value := .string ⟨p.toArray⟩
theorem splitL_snoc_slash (a : List UInt8) : splitL (a ++ [47]) = splitL a ++ [[]] := splitL_tail a [] (by simp)
theorem splitL_snoc : ∀ (a : List UInt8) (c : UInt8), c ≠ 47 → ∃ ini last, splitL a = ini ++ [last] ∧ splitL (a ++ [c]) = ini ++ [last ++ [c]]
  | [], c, hc => ⟨[], [], rfl, by simp [splitL, hc]⟩
  | x :: a, c, hc => by
    obtain ⟨ini, last, h1, h2⟩ := splitL_snoc a c hc
    by_cases hx : x = 47
    · subst hx
      exact ⟨[] :: ini, last, by rw [splitL_slash, h1]; rfl, by rw [List.cons_append, splitL_slash, h2]; rfl⟩
    · cases ini with
      | nil => exact ⟨[], x :: last, by rw [splitL_other hx h1]; rfl, by rw [List.cons_append, splitL_other hx h2]; rfl⟩
      | cons p ps => exact ⟨(x :: p) :: ps, last, by rw [splitL_other hx h1]; rfl, by rw [List.cons_append, splitL_other hx h2]; rfl⟩
theorem splitL_count' (l : List UInt8) : 1 ≤ (splitL l).length ∧ (splitL l).length ≤ l.length + 1 := by
  induction l with
  | nil => simp [splitL]
  | cons c l ih =>
    by_cases hc : c = 47
    · subst hc; rw [splitL_slash]; simp; omega
    · cases hl : splitL l with
      | nil => exact absurd hl (splitL_ne l)
      | cons p ps => rw [splitL_other hc hl]; rw [hl] at ih; simp at ih ⊢; omega

theorem infoS : (Tryd.prog.info? 9).map (fun i => (i.zero, i.size, i.bytes)) = some (some (.string ⟨#[]⟩), 1, 16) := by kernel_rfl

theorem size_setCell (w : World) (a : Addr) (v : Value) : (w.setCell a v).heap.size = w.heap.size := by
  show (w.heap.modify a.block _).size = _
  rw [Array.size_modify]
theorem heap_setCell_same {w : World} {g j : Nat} {cur : Array Value} {t : TypeId} {fz : Nat × Nat} (v : Value) (h : w.heap[g]? = some (.cells cur t fz)) :
    (w.setCell ⟨g, j, none⟩ v).heap[g]? = some (.cells (cur.setIfInBounds j v) t fz) := by
  obtain ⟨hlt, hk⟩ := Array.getElem?_eq_some_iff.1 h
  show (w.heap.modify g _)[g]? = _
  rw [Array.getElem?_eq_getElem (by rw [Array.size_modify]; exact hlt), Array.getElem_modify_self, hk]
  rfl
/-- the last string of a row is set anew -/
theorem row_set {w : World} {base g cap : Nat} {cur : Array Value} {ini : List (List UInt8)} {last x : List UInt8} (o : Obj) (h : w.heap[g]? = some (.cells cur 9 (0, 0))) (hb : base ≤ g) (h1 : ini.length + 1 ≤ cap) (h2 : cap ≤ maxLen) (h3 : cur.size = cap)
    (h4 : cur.toList.take (ini.length + [last].length) = ini.map strV ++ [last].map strV) :
    (((w.setCell ⟨g, ini.length, none⟩ (.string ⟨x.toArray⟩)).alloc o).drew).ownsRow base 9 1 (.slice (some ⟨g, 0, none⟩) (ini.length + 1) cap) (ini.length + 1) ((ini ++ [x]).map strV) := by
  have hlt : g < w.heap.size := (Array.getElem?_eq_some_iff.1 h).1
  refine ⟨by simp, .inr ⟨g, cap, cur.setIfInBounds ini.length (.string ⟨x.toArray⟩), rfl, hb, ?_, h1, h2, by simpa using h3, ?_⟩⟩
  · show ((w.setCell _ _).alloc o).heap[g]? = _
    rw [Below.heap_alloc _ _ _ (by rw [size_setCell]; exact hlt)]
    exact heap_setCell_same _ h
  · rw [Nat.mul_one, Array.toList_setIfInBounds]
    have h5 : cur.toList.take ini.length = ini.map strV := by
      have h6 := congrArg (List.take ini.length) h4
      rw [List.take_take] at h6
      simpa using h6
    have h7 : ini.length < cur.toList.length := by simp; omega
    rw [List.take_succ_eq_append_getElem (by simpa using h7), List.take_set_of_le (Nat.le_refl _), h5]
    simp [strV]
theorem row_ne {W : World} {base n B : Nat} {v : Value} {xs : List Value} {cs : Array Value} {fz : Nat × Nat} (h : W.ownsRow base 9 1 v n xs) (hb : W.heap[B]? = some (.cells cs 5 fz)) : some B ≠ v.ownBlock := by
  rcases h.2 with ⟨rfl, _⟩ | ⟨g, cap, cur, rfl, _, hgb, _⟩
  · simp [Value.ownBlock]
  · intro e
    obtain rfl : B = g := by simpa [Value.ownBlock] using e
    rw [hb] at hgb
    simp at hgb

set_option maxHeartbeats 1000000 in
theorem refSteps_any (l : List UInt8) (w : World) (hl : l.length ≤ 1048576) :
    Calls Tryd.prog 83 #[.string ⟨l.toArray⟩] w fun e w' =>
      ∃ v, e = .returned v ∧ w'.ownsRow w.heap.size 9 1 v (splitL l).length ((splitL l).map strV) ∧ Below w.heap.size w w' := by
  have hz : (ByteArray.mk l.toArray).size = l.length := Lib.size_eq ⟨l.toArray⟩
  have hconv : ∀ W s, (convert 9 82 (.string s)).run Tryd.prog W = .ok (.slice (some ⟨W.heap.size, 0, none⟩) s.size (grownCap W s.size 0 5)) (Lib.bytesWorld W 5 s) := fun W s =>
    Lib.run_convert_string_bytes W 9 82 5 s Tryd.underlying9 Tryd.underlying82 Tryd.underlying5
  go_enter Tryd.func83, Tryd.ntmps83
  go_wp2
  generalize hW1 : Lib.bytesWorld (w.alloc (.cells #[.string ⟨#[]⟩] 9)) 5 ⟨l.toArray⟩ = W1
  have hs1 : W1.heap.size = w.heap.size + 2 := by rw [← hW1, Lib.bytesWorld_size]; simp
  have Hcell : Hid (∀ j (hj : j < l.length), W1.cell? ⟨w.heap.size + 1, j, none⟩ = some (.int .u8 (l[j].toNat : Int))) := hide (fun j hj => by
    rw [← hW1]
    have h := bytes_cell (w.alloc (.cells #[.string ⟨#[]⟩] 9)) 5 ⟨l.toArray⟩ l rfl j hj
    rwa [World.size_alloc] at h)
  have htag : ∃ cs fz, W1.heap[w.heap.size + 1]? = some (.cells cs 5 fz) := by
    rw [← hW1]
    have h := Lib.bytesWorld_at_new (w.alloc (.cells #[.string ⟨#[]⟩] 9)) 5 ⟨l.toArray⟩
    rw [World.size_alloc] at h
    exact ⟨_, _, h⟩
  have hB1 : Below w.heap.size w W1 := by rw [← hW1]; exact ((Below.refl _ w).alloc (Nat.le_refl _) _).trans ((bytes_below _ _ _).mono (by simp))
  have hrow1 : W1.ownsRow w.heap.size 9 1 (.slice (some ⟨w.heap.size, 0, none⟩) 1 1) 1 [.string ⟨#[]⟩] := by
    refine ⟨rfl, .inr ⟨w.heap.size, 1, #[.string ⟨#[]⟩], rfl, Nat.le_refl _, ?_, Nat.le_refl _, by decide, rfl, rfl⟩⟩
    rw [← hW1, Lib.bytesWorld_at_old _ _ _ _ (by simp)]
    exact World.alloc_heap_new _ _
  clear hW1
  have Htag := hide htag
  clear htag
  go_loopw [3, 10] (fun v i wr => ∃ k : Nat, k ≤ l.length ∧ i = .int .i64 k ∧ wr.ownsRow w.heap.size 9 1 v (splitL (l.take k)).length ((splitL (l.take k)).map strV) ∧ Below w.heap.size w wr ∧ wr.heap[w.heap.size + 1]? = W1.heap[w.heap.size + 1]?) (fun _ i _ => l.length - (intOf i).toNat)
  case atStart => exact ⟨0, Nat.zero_le _, rfl, hrow1, hB1, rfl⟩
  case round =>
    obtain ⟨k, hk, rfl, hown, hB, hblk⟩ := hrel
    clear hrow1 hB1
    have Hown := hide hown
    have Hblk := hide hblk
    clear hblk
    have hcn := splitL_count' (l.take k)
    have hlt' : (l.take k).length ≤ k := List.length_take_le _ _
    by_cases hlt : k < l.length
    · have hc : wr.cell? ⟨w.heap.size + 1, k, none⟩ = some (.int .u8 (l[k].toNat : Int)) := (World.cell?_of_block (unhide Hblk)).trans (unhide Hcell k hlt)
      have Htk := hide (List.take_succ_eq_append_getElem hlt)
      generalize hcc : l[k] = c at hc Htk
      have hcb := c.toNat_lt
      obtain ⟨i0, hi, hz0, hz1, hz2⟩ := info_parts infoS
      by_cases hsl : c = 47
      · subst hsl
        clear hcc
        go_wp2_with (at_builtin; go_must (refine wpList_append_own _ rfl (.tmp 16) (.tmp 17) 100 rfl w.heap.size 9 i0 (.string ⟨#[]⟩) 1 16 Tryd.underlying100 hi hz0 hz1 hz2 rfl (by decide) _ _ _ rfl (hown.alloc _) ⟨wr.heap.size, 0, none⟩ 1 1 [.string ⟨#[]⟩] rfl rfl (cell_one_new _ _ _) (by simp [Value.oneCell']) (by simp only [maxLen]; omega) (by omega) (by have := hB.size; simp; omega) ?_); intro v' w1 hown' hgrow _)
        refine ⟨⟨k + 1, by omega, by go_num, ?_, ?_, ?_⟩, by simp [intOf]; omega⟩
        · rw [unhide Htk, splitL_snoc_slash, List.length_append, List.map_append]; exact hown'
        · exact (hB.alloc hB.size _).grown hgrow (by have := hB.size; simp; omega) (fun j e => ((unhide Hown).lt j e).1)
        · obtain ⟨cs, fz, ht⟩ := unhide Htag
          have hlt2 : w.heap.size + 1 < wr.heap.size := (Array.getElem?_eq_some_iff.1 ((unhide Hblk).trans ht)).1
          refine (hgrow.block _ (by simp; omega) (row_ne (unhide Hown) ((unhide Hblk).trans ht))).trans ?_
          exact (Below.heap_alloc wr _ _ hlt2).trans (unhide Hblk)
      · obtain ⟨ini, last, hi1, hi2⟩ := splitL_snoc (l.take k) c hsl
        have hsl' : ((c.toNat : Int) == 47) = false := by
          rw [beq_eq_false_iff_ne]
          intro h
          exact hsl (UInt8.toNat_inj.1 (by show c.toNat = 47; omega))
        clear hcc hsl hown
        have hown2 := unhide Hown
        rw [hi1, List.length_append, List.map_append] at hown2
        obtain ⟨hxl, hn | ⟨g, cap, cur, rfl, hg1, hg2, hg3, hg4, hg5, hg6⟩⟩ := hown2
        · exact absurd hn.2 (by simp)
        · have hgl : g < wr.heap.size := (Array.getElem?_eq_some_iff.1 hg2).1
          rw [Nat.mul_one] at hg5 hg6
          have hcl : wr.cell? ⟨g, ini.length, none⟩ = some (.string ⟨last.toArray⟩) := by
            have h := congrArg (fun x : List Value => x[ini.length]?) hg6
            simp only [List.length_singleton, List.getElem?_take] at h
            rw [if_pos (by omega), List.getElem?_append_right (by simp)] at h
            simp only [List.length_map, Nat.sub_self, List.map_cons, List.map_nil, List.getElem?_cons_zero] at h
            simp only [World.cell?, hg2]
            rw [← Array.getElem?_toList, h]; rfl
          have hfr : wr.frozen? ⟨g, ini.length, none⟩ = false := by simp [World.frozen?, hg2]
          have hll : last.length ≤ 1048576 := by
            have h1 := splitL_length (l.take k) last (by rw [hi1]; simp)
            omega
          have hlz : (ByteArray.mk last.toArray).size = last.length := Lib.size_eq ⟨last.toArray⟩
          have hb2s : ∀ W X, W.cell? ⟨X, 0, none⟩ = some (.int .u8 (c.toNat : Int)) → (convert 82 9 (.slice (some ⟨X, 0, none⟩) 1 1)).run Tryd.prog W = .ok (.string ⟨#[c]⟩) W := fun W X h =>
            run_convert_bytes_back W 82 9 5 ⟨X, 0, none⟩ 1 [c] Tryd.underlying82 Tryd.underlying5 Tryd.underlying9 (fun j hj => by
              obtain rfl : j = 0 := by simpa using hj
              simpa [Addr.add] using h)
          have Hg2 := hide hg2
          have Hg6 := hide hg6
          have Hi1 := hide hi1
          have Hi2 := hide hi2
          clear hg2 hg6 hi1 hi2
          simp only [List.length_singleton] at hxl hg3 hg5 ⊢
          have hil : ini.length ≤ 1048576 := by
            have h := hcn.2
            rw [unhide Hi1] at h
            simp at h
            omega
          have hil1 : (0 : Int) ≤ (ini.length : Int) := by omega
          have hil2 : (ini.length : Int) ≤ 1048576 := by omega
          have hil3 : (ini.length : Int) < (ini.length : Int) + 1 := by omega
          have hca : ∀ o, (wr.alloc o).cell? ⟨g, ini.length, none⟩ = some (.string ⟨last.toArray⟩) := fun o => (World.cell?_of_block (Below.heap_alloc wr o g hgl)).trans hcl
          have hfa : ∀ o, (wr.alloc o).frozen? ⟨g, ini.length, none⟩ = false := fun o => (World.frozen?_of_block (Below.heap_alloc wr o g hgl)).trans hfr
          go_wp2
          go_region
          clear hcl hfr hca hfa hb2s
          go_wp2
          refine ⟨⟨k + 1, by omega, by go_num, ?_, ?_, ?_⟩, by simp [intOf]; omega⟩
          · rw [unhide Htk, unhide Hi2, List.length_append, List.length_singleton, cat_one last [c]]
            exact row_set _ (unhide Hg2) hg1 hg3 hg4 (by simpa using hg5) (unhide Hg6)
          · exact ((hB.setCell (p := ⟨g, ini.length, none⟩) hg1 _).alloc (by rw [size_setCell]; exact hB.size) _).drew
          · obtain ⟨cs, fz, ht⟩ := unhide Htag
            have hb := (unhide Hblk).trans ht
            have hlt2 : w.heap.size + 1 < wr.heap.size := (Array.getElem?_eq_some_iff.1 hb).1
            have hne : w.heap.size + 1 ≠ g := by
              rintro rfl
              have h := unhide Hg2
              rw [hb] at h
              simp at h
            show (((wr.setCell _ _).alloc _).heap)[_]? = _
            rw [Below.heap_alloc _ _ _ (by rw [size_setCell]; exact hlt2), Below.heap_setCell _ _ _ _ hne]
            exact unhide Hblk
    · have hke : k = l.length := by omega
      subst hke
      rw [List.take_length] at Hown
      clear hown
      go_wp2
      go_ret
      exact ⟨_, rfl, unhide Hown, hB⟩

end Go.Proofs.YtpoblkionpgljaaDoor

namespace Go.Proofs.YtpoblkionpgljaaDoor
open Go.RowKit

/-- a slice of strings that was made: where it lies and what its cells hold -/
theorem row_form {W : World} {base n : Nat} {v : Value} {ps : List (List UInt8)} (h : W.ownsRow base 9 1 v n (ps.map strV)) (hn : 1 ≤ n) :
    ∃ g cap, v = .slice (some ⟨g, 0, none⟩) n cap ∧ n ≤ cap ∧ cap ≤ maxLen ∧ g < W.heap.size ∧ base ≤ g ∧ ∀ j (hj : j < ps.length), W.cell? ⟨g, j, none⟩ = some (.string ⟨ps[j].toArray⟩) := by
  obtain ⟨hl, ⟨_, h0⟩ | ⟨g, cap, cur, rfl, hb, hg, h1, h2, h3, h4⟩⟩ := h
  · omega
  · refine ⟨g, cap, rfl, h1, h2, (Array.getElem?_eq_some_iff.1 hg).1, hb, fun j hj => ?_⟩
    simp only [World.cell?, hg]
    have h5 := congrArg (fun x : List Value => x[j]?) h4
    simp only [List.getElem?_take, List.getElem?_map, List.getElem?_eq_getElem hj, Option.map_some] at h5
    rw [if_pos (by simp at hl; omega)] at h5
    rw [← Array.getElem?_toList, h5]; rfl

theorem goodB_nil : goodB [] = false := by decide +kernel
theorem goodB_other {c : UInt8} {r : List UInt8} (h : c ≠ 47) : goodB (c :: r) = false := by
  apply goodB_front
  simp [Lib.hasPrefix, List.isPrefixOf]
  exact fun e => h e.symm
theorem splitL_first {c : UInt8} {r : List UInt8} (h : c ≠ 47) : ∃ p ps, splitL (c :: r) = (c :: p) :: ps := by
  cases hl : splitL r with
  | nil => exact absurd hl (splitL_ne r)
  | cons p ps => exact ⟨p, ps, splitL_other h hl⟩

set_option maxHeartbeats 1000000 in
theorem refGood_root (w : World) :
    Calls Tryd.prog 68 #[.string ⟨#[47]⟩] w fun e w' => e = .returned (.bool true) ∧ Below w.heap.size w w' := by
  go_enter Tryd.func68, Tryd.ntmps68
  go_wp2_with fail
  go_ret
  exact ⟨rfl, Below.refl _ _⟩

set_option maxHeartbeats 1000000 in
theorem refGood_long (l : List UInt8) (w : World) (hl : l.length ≤ 1048576) (h200 : 200 < l.length) :
    Calls Tryd.prog 68 #[.string ⟨l.toArray⟩] w fun e w' => e = .returned (.bool false) ∧ Below w.heap.size w w' := by
  have hz : (ByteArray.mk l.toArray).size = l.length := Lib.size_eq ⟨l.toArray⟩
  have hr1 : (l == [47]) = false := by
    rw [beq_eq_false_iff_ne]; rintro rfl; simp at h200
  go_enter Tryd.func68, Tryd.ntmps68
  go_wp2_with fail
  refine (refSteps_any l _ hl).mono ?_
  rintro e w1 ⟨v, rfl, hown, hb1⟩
  obtain ⟨g, cap, rfl, _, _, _, _, _⟩ := row_form hown (splitL_count' l).1
  clear hown
  go_wp2_with fail
  go_ret
  exact ⟨rfl, hb1⟩

set_option maxHeartbeats 1000000 in
theorem refGood_first (c : UInt8) (r : List UInt8) (w : World) (hl : (c :: r).length ≤ 200) (hc : c ≠ 47) :
    Calls Tryd.prog 68 #[.string ⟨(c :: r).toArray⟩] w fun e w' => e = .returned (.bool false) ∧ Below w.heap.size w w' := by
  obtain ⟨p, ps, hsp⟩ := splitL_first (r := r) hc
  have hz : (ByteArray.mk (c :: r).toArray).size = (c :: r).length := Lib.size_eq ⟨(c :: r).toArray⟩
  have hr1 : (c :: r == [47]) = false := by
    rw [beq_eq_false_iff_ne]; intro h; simp at h; exact hc h.1
  have Hc1 := hide (splitL_count' (c :: r))
  generalize c :: r = l at *
  go_enter Tryd.func68, Tryd.ntmps68
  go_wp2_with fail
  refine (refSteps_any l _ (by omega)).mono ?_
  rintro e w1 ⟨v, rfl, hown, hb1⟩
  obtain ⟨g, cap, rfl, hcap, hcm, hg, hgb, hcell⟩ := row_form hown (unhide Hc1).1
  have h0 := hcell 0 (by rw [hsp]; simp)
  simp only [hsp, List.getElem_cons_zero] at h0
  have hn := (unhide Hc1).1
  clear hown hcell hsp Hc1
  generalize (splitL l).length = n at *
  obtain ⟨q, rfl⟩ : ∃ q, n = q + 1 := ⟨n - 1, by omega⟩
  have hq1 : (0 : Int) < (q : Int) + 1 := by omega
  go_wp2_with fail
  go_ret
  exact ⟨rfl, hb1⟩

set_option maxHeartbeats 1000000 in
theorem refGood_none (w : World) :
    Calls Tryd.prog 68 #[.string ⟨#[]⟩] w fun e w' => e = .returned (.bool false) ∧ Below w.heap.size w w' := by
  go_enter Tryd.func68, Tryd.ntmps68
  go_wp2_with fail
  refine (refSteps_any [] _ (by simp)).mono ?_
  rintro e w1 ⟨v, rfl, hown, hb1⟩
  obtain ⟨g, cap, rfl, hcap, hcm, hg, hgb, hcell⟩ := row_form hown (by simp [splitL])
  have h0 := hcell 0 (by simp [splitL])
  simp only [splitL, List.getElem_cons_zero] at h0
  simp only [splitL, List.length_singleton] at *
  clear hown hcell
  go_wp2_with fail
  go_ret
  exact ⟨rfl, hb1⟩

set_option maxRecDepth 100000 in
set_option maxHeartbeats 1000000 in
theorem refGood_main (r : List UInt8) (w : World) (hl : r.length + 1 ≤ 200) (hr : r ≠ []) :
    Calls Tryd.prog 68 #[.string ⟨(47 :: r).toArray⟩] w fun e w' => e = .returned (.bool ((splitL r).all namedB)) ∧ Below w.heap.size w w' := by
  have hz : (ByteArray.mk (47 :: r).toArray).size = r.length + 1 := Lib.size_eq ⟨(47 :: r).toArray⟩
  have hr1 : ((47 :: r) == [47]) = false := by
    rw [beq_eq_false_iff_ne]; intro h; simp at h; exact hr h
  have hcnt := splitL_count' r
  have hlen := splitL_length r
  have hsteps := refSteps_any (47 :: r) w (by simp; omega)
  rw [splitL_slash] at hsteps
  generalize 47 :: r = l at *
  generalize splitL r = ps at *
  go_enter Tryd.func68, Tryd.ntmps68
  go_wp2_with fail
  refine hsteps.mono ?_
  clear hsteps
  rintro e w1 ⟨v, rfl, hown, hb1⟩
  obtain ⟨g, cap, rfl, hcap, hcm, hg, hgb, hcell⟩ := row_form hown (by simp)
  have h0 := hcell 0 (by simp)
  simp only [List.getElem_cons_zero] at h0
  have Hcell : Hid (∀ j (hj : j < ps.length), w1.cell? ⟨g, 1 + j, none⟩ = some (.string ⟨ps[j].toArray⟩)) := hide (fun j hj => by
    have h := hcell (1 + j) (by simp; omega)
    rw [h]
    simp [Nat.add_comm 1 j])
  clear hown hcell
  simp only [List.length_cons] at hcap ⊢
  have hm1 : (0 : Int) < (ps.length : Int) + 1 := by omega
  have hm2 : ¬ (ps.length : Int) + 1 < 2 := by omega
  unfold maxLen at hcm
  have Hlen := hide hlen
  clear hlen
  go_wp2_with fail
  clear h0 hm1 hm2 hcap hcm hz hr1
  go_loopw [27] (fun i wr => ∃ j : Nat, j ≤ ps.length ∧ i = .int .i64 j ∧ (ps.take j).all namedB = true ∧ Below w1.heap.size w1 wr) (fun i _ => ps.length - (intOf i).toNat)
  case atStart => exact ⟨0, Nat.zero_le _, rfl, by simp, Below.refl _ _⟩
  case round =>
    obtain ⟨j, hj, rfl, hall, hBr⟩ := hrel
    have Hall := hide hall
    clear hall
    by_cases hjl : j < ps.length
    · have hc : wr.cell? ⟨g, 1 + j, none⟩ = some (.string ⟨ps[j].toArray⟩) := (hBr.cell (p := ⟨g, 1 + j, none⟩) hg).trans (unhide Hcell j hjl)
      have hpl : ps[j].length ≤ 200 := by have := unhide Hlen ps[j] (List.getElem_mem hjl); omega
      have Htk := hide (List.take_succ_eq_append_getElem hjl)
      have Hmem := hide (List.getElem_mem hjl)
      generalize ps[j] = x at hc hpl Htk Hmem
      go_wp2_with fail
      refine (refNamed_any x _ (by omega)).mono ?_
      rintro e w2 ⟨rfl, hb2⟩
      have hBn : Below w1.heap.size w1 w2 := hBr.trans (hb2.mono hBr.size)
      clear hb2 hBr hc
      cases hx : namedB x
      · have Hx := hide hx
        clear hx
        go_wp2_with fail
        go_ret
        refine ⟨ret_bool ?_, hb1.trans (hBn.mono hb1.size)⟩
        symm
        rw [List.all_eq_false]
        exact ⟨x, unhide Hmem, by simp [unhide Hx]⟩
      · have Hx := hide hx
        clear hx
        go_wp2_with fail
        exact ⟨⟨j + 1, by omega, by go_num, by rw [unhide Htk, List.all_append, unhide Hall]; simp [unhide Hx], hBn⟩, by simp [intOf]; omega⟩
    · have hje : j = ps.length := by omega
      subst hje
      rw [List.take_length] at Hall
      go_wp2_with fail
      go_ret
      exact ⟨ret_bool (unhide Hall).symm, hb1.trans (hBr.mono hb1.size)⟩

/-- WHAT aviaryref.GoodPath ANSWERS -/
theorem refGood_any (l : List UInt8) (w : World) (hl : l.length ≤ 1048576) :
    Calls Tryd.prog 68 #[.string ⟨l.toArray⟩] w fun e w' => e = .returned (.bool (goodB l)) ∧ Below w.heap.size w w' := by
  by_cases h200 : 200 < l.length
  · rw [goodB_long h200]; exact refGood_long l w hl h200
  · cases l with
    | nil => rw [goodB_nil]; exact refGood_none w
    | cons c r =>
      by_cases hc : c = 47
      · subst hc
        by_cases hr : r = []
        · subst hr; rw [goodB_root]; exact refGood_root w
        · simp at h200
          rw [goodB_cons r hr, decide_eq_true (by omega), Bool.true_and]
          exact refGood_main r w (by omega) hr
      · rw [goodB_other hc]; exact refGood_first c r w (by omega) hc

end Go.Proofs.YtpoblkionpgljaaDoor

namespace Go.Proofs.YtpoblkionpgljaaDoor
open Go.RowKit

theorem tdq {z : Int} (h0 : 0 ≤ z) (hm : z ≤ 9223372036854775807) : wrap64 (z.tdiv 2147483648) = z / 2147483648 := by
  rw [Int.tdiv_eq_ediv_of_nonneg h0]; unfold wrap64; omega
theorem tmq {z : Int} (h0 : 0 ≤ z) : wrap64 (z.tmod 2147483648) = z % 2147483648 := by
  rw [Int.tmod_eq_emod_of_nonneg h0]; unfold wrap64; omega
theorem tmq' {z : Int} (h0 : 0 ≤ z) : z.tmod 2147483648 = z % 2147483648 := Int.tmod_eq_emod_of_nonneg h0

set_option maxHeartbeats 400000 in
theorem rgood_any (z : Int) (hm : z ≤ 9223372036854775807) (w : World) : Calls Tryd.prog 67 #[.int .i64 z] w fun e w' => e = .returned (.bool (zGood z)) ∧ w' = w := by
  by_cases h0 : 0 ≤ z
  · by_cases h1 : z < 4611686018427387904
    · have H := hide (zGood_iff.2 ⟨h0, h1⟩)
      have h2 : decide (z / 2147483648 < 2147483648) = true := decide_eq_true (by omega)
      go_enter Tryd.func67, Tryd.ntmps67
      go_wp2_with fail
      go_ret
      exact ⟨zret_bool (Eq.trans (by first | rfl | exact h2 | (rw [tdq h0 hm]; exact h2)) (unhide H).symm), rfl⟩
    · have H := hide (zGood_no (z := z) (by omega))
      have h2 : decide (z / 2147483648 < 2147483648) = false := decide_eq_false (by omega)
      go_enter Tryd.func67, Tryd.ntmps67
      go_wp2_with fail
      go_ret
      exact ⟨zret_bool (Eq.trans (by first | rfl | exact h2 | (rw [tdq h0 hm]; exact h2)) (unhide H).symm), rfl⟩
  · have H := hide (zGood_no (z := z) (by omega))
    go_enter Tryd.func67, Tryd.ntmps67
    go_wp2_with fail
    go_ret
    exact ⟨zret_bool (by rw [unhide H]), rfl⟩

end Go.Proofs.YtpoblkionpgljaaDoor

namespace Go.Proofs.YtpoblkionpgljaaDoor
open Go.RowKit

/- plain: one bit of a byte at a time -/
def bitR (r x : Nat) : Nat := (r / 2) ^^^ (3988292384 * (r % 2 ^^^ x))
def bitsR (b : Nat) : Nat → Nat → Nat
  | 0, c => c
  | k + 1, c => bitR (bitsR b k c) (bitN b k)
theorem half_xor (a b : Nat) : (a ^^^ b) / 2 = a / 2 ^^^ b / 2 := by
  have e : ∀ x : Nat, x / 2 = x >>> 1 := fun x => by rw [Nat.shiftRight_eq_div_pow]
  rw [e, e, e, Nat.shiftRight_xor_distrib]
theorem mod2_xor (a b : Nat) : (a ^^^ b) % 2 = a % 2 ^^^ b % 2 := by
  have := Nat.xor_mod_two_pow (a := a) (b := b) (n := 1)
  simpa using this
theorem bitsR_crcN (b c : Nat) : ∀ k, bitsR b k c ^^^ b / 2 ^ k = crcN k (c ^^^ b)
  | 0 => by simp [bitsR, crcN]
  | k + 1 => by
    have ih := bitsR_crcN b c k
    show bitR (bitsR b k c) (bitN b k) ^^^ _ = crc1 (crcN k (c ^^^ b))
    rw [← ih]
    generalize bitsR b k c = r
    have e : b / 2 ^ (k + 1) = b / 2 ^ k / 2 := by rw [Nat.pow_succ, Nat.div_div_eq_div_mul]
    rw [e, crc1, half_xor, mod2_xor, bitR, bitN]
    rw [Nat.xor_assoc, Nat.xor_assoc, Nat.xor_comm (3988292384 * _)]
theorem bit_xor_le {a b : Nat} (ha : a ≤ 1) (hb : b ≤ 1) : a ^^^ b ≤ 1 := by
  have : a ^^^ b < 2 ^ 1 := Nat.xor_lt_two_pow (by omega) (by omega)
  omega
theorem bitR_lt {r x : Nat} (h : r < 4294967296) (hx : x ≤ 1) : bitR r x < 4294967296 := by
  unfold bitR
  have := bit_xor_le (show r % 2 ≤ 1 by omega) hx
  exact xor_lt32 (by omega) (by omega)
theorem bitsR_lt {b c : Nat} (h : c < 4294967296) : ∀ k, bitsR b k c < 4294967296
  | 0 => h
  | k + 1 => bitR_lt (bitsR_lt h k) (bitN_le _ _)
theorem bitsR_all {c : Nat} (b : UInt8) : bitsR b.toNat 8 c = crcB c b := by
  have h := bitsR_crcN b.toNat c 8
  have hb := b.toNat_lt
  rw [show b.toNat / 2 ^ 8 = 0 from by omega, Nat.xor_zero] at h
  exact h
theorem bitN_top {r : Nat} (h : r < 4294967296) : bitN r 32 = 0 := by unfold bitN; omega
/-- one bit of the next state -/
theorem bitN_bitR {r x : Nat} (hx : x ≤ 1) (i : Nat) : bitN (bitR r x) i = bitN r (i + 1) ^^^ ((r % 2 ^^^ x) * bitN 3988292384 i) := by
  have := bit_xor_le (show r % 2 ≤ 1 by omega) hx
  rw [bitR, bitN_xor, bitN_half, bitN_mul _ _ _ this]
theorem bitN_ones : ∀ i, i < 32 → bitN 4294967295 i = 1 := by decide +kernel
theorem flip_step {r k : Nat} (hk : k < 32) : (4294967295 ^^^ r) / 2 ^ k + bitN r k = 2 * ((4294967295 ^^^ r) / 2 ^ (k + 1)) + 1 := by
  have h := bitN_xor 4294967295 r k
  rw [bitN_ones k hk] at h
  have hb := bitN_le r k
  have e : (4294967295 ^^^ r) / 2 ^ (k + 1) = (4294967295 ^^^ r) / 2 ^ k / 2 := by rw [Nat.pow_succ, Nat.div_div_eq_div_mul]
  rw [e]
  have hq : (4294967295 ^^^ r) / 2 ^ k % 2 = 1 ^^^ bitN r k := h
  have : bitN r k = 0 ∨ bitN r k = 1 := by omega
  rcases this with h0 | h0 <;> rw [h0] at hq ⊢ <;> simp at hq <;> omega

/- the 32 cells -/
def regV (f : Nat → Nat) : List Value := (List.range 32).map fun i => .int .i64 (f i : Nat)
def regAt (W : World) (g : Nat) (f : Nat → Nat) : Prop := W.heap[g]? = some (.cells (regV f).toArray 84 (0, 0))
theorem regV_length (f : Nat → Nat) : (regV f).length = 32 := by simp [regV]
theorem regV_get (f : Nat → Nat) {j : Nat} (h : j < 32) : (regV f)[j]? = some (.int .i64 (f j : Nat)) := by
  simp [regV, List.getElem?_map, List.getElem?_range h]
theorem regV_congr {f f' : Nat → Nat} (h : ∀ j, j < 32 → f j = f' j) : regV f = regV f' := by
  unfold regV
  exact List.map_congr_left fun j hj => by rw [h j (List.mem_range.1 hj)]
theorem regAt.congr {W : World} {g : Nat} {f f' : Nat → Nat} (h : regAt W g f) (he : ∀ j, j < 32 → f j = f' j) : regAt W g f' := by
  unfold regAt at h ⊢; rw [← regV_congr he]; exact h
theorem regAt.cell {W : World} {g : Nat} {f : Nat → Nat} (h : regAt W g f) {j : Nat} (hj : j < 32) : W.cell? ⟨g, j, none⟩ = some (.int .i64 (f j : Nat)) := by
  unfold regAt at h; simp [World.cell?, h, regV_get f hj]
theorem regAt.soft {W : World} {g : Nat} {f : Nat → Nat} (h : regAt W g f) (j : Nat) : W.frozen? ⟨g, j, none⟩ = false := by
  unfold regAt at h; simp [World.frozen?, h]
theorem reg_set_same {w : World} {g j : Nat} {cur : Array Value} {t : TypeId} {fz : Nat × Nat} (v : Value) (h : w.heap[g]? = some (.cells cur t fz)) :
    (w.setCell ⟨g, j, none⟩ v).heap[g]? = some (.cells (cur.setIfInBounds j v) t fz) := by
  obtain ⟨hlt, hk⟩ := Array.getElem?_eq_some_iff.1 h
  show (w.heap.modify g _)[g]? = _
  rw [Array.getElem?_eq_getElem (by rw [Array.size_modify]; exact hlt), Array.getElem_modify_self, hk]
  rfl
theorem regAt.set {W : World} {g : Nat} {f : Nat → Nat} (h : regAt W g f) {j v : Nat} (hj : j < 32) : regAt (W.setCell ⟨g, j, none⟩ (.int .i64 (v : Nat))) g (fun i => if i = j then v else f i) := by
  unfold regAt at h ⊢
  rw [reg_set_same _ h]
  congr 2
  apply Array.ext'
  rw [Array.toList_setIfInBounds]
  apply List.ext_getElem?
  intro i
  rw [List.getElem?_set]
  by_cases hi : i < 32
  · by_cases e : j = i
    · subst e
      rw [regV_get (fun i => if i = j then v else f i) hi, if_pos rfl, if_pos (by simp [regV_length]; omega), if_pos rfl]
    · rw [if_neg e, regV_get _ hi, regV_get (fun i => if i = j then v else f i) hi, if_neg (fun h => e h.symm)]
  · have e1 : ∀ f' : Nat → Nat, (regV f')[i]? = none := fun f' => by rw [List.getElem?_eq_none_iff, regV_length]; omega
    rw [if_neg (by omega), e1, e1]
/-- behind copy(reg[:], reg[1:]) -/
theorem reg_copy {f : Nat → Nat} : regV (fun i => if i < 31 then f (i + 1) else f i) = (regV f).take 0 ++ ((regV f).drop 1) ++ (regV f).drop (0 + ((regV f).drop 1).length) := by
  apply List.ext_getElem?
  intro i
  simp only [List.take_zero, List.nil_append, Nat.zero_add, List.length_drop, regV_length]
  by_cases hi : i < 31
  · rw [regV_get _ (by omega), List.getElem?_append_left (by simp [regV_length]; omega), List.getElem?_drop, if_pos hi, regV_get _ (by omega), Nat.add_comm]
  · rw [List.getElem?_append_right (by simp [regV_length]; omega), List.getElem?_drop, List.length_drop, regV_length]
    by_cases h32 : i < 32
    · obtain rfl : i = 31 := by omega
      rw [regV_get _ (by omega), regV_get _ (by omega)]; rfl
    · have e1 : ∀ f' : Nat → Nat, ∀ i', 32 ≤ i' → (regV f')[i']? = none := fun f' i' h' => by rw [List.getElem?_eq_none_iff, regV_length]; omega
      rw [e1 _ _ (by omega), e1 _ _ (by omega)]
theorem regAt.copied {W : World} {g : Nat} {f : Nat → Nat} (h : regAt W g f) (ty : TypeId) :
    (Builtin.copy_ #[85, 85] ty #[.slice (some ⟨g, 0, none⟩) 32 32, .slice (some ⟨g, 1, none⟩) 31 31]).run Tryd.prog W = .ok (goInt 31) (W.setRow g (regV (fun i => if i < 31 then f (i + 1) else f i)).toArray) := by
  rw [reg_copy]
  have hl : ((regV f).drop 1).length = 31 := by simp [regV_length]
  have := run_copy_row (P := Tryd.prog) W 85 85 ty 3 g 0 32 32 ⟨g, 1, none⟩ 31 31 (regV f).toArray 84 ((regV f).drop 1) Tryd.underlying85 (by kernel_rfl) h (by rw [hl]; rfl)
    (fun j v hv => by
      rw [List.getElem?_drop] at hv
      rw [show (⟨g, 1, none⟩ : Addr).add j = ⟨g, 1 + j, none⟩ from by unfold Addr.add; split <;> simp_all]
      unfold regAt at h
      simp only [World.cell?, h]
      simpa using hv) (by rw [hl]; simp [regV_length]) (fun v hv => by
      obtain ⟨i, _, rfl⟩ := List.mem_map.1 (List.mem_of_mem_drop hv)
      rfl)
  rw [hl] at this ⊢
  exact this
theorem regAt.row {W : World} {g : Nat} {f : Nat → Nat} (h : regAt W g f) (f' : Nat → Nat) : regAt (W.setRow g (regV f').toArray) g f' := setRow_heap W g _ _ _ _ h

theorem rbytes_below (w : World) (e : TypeId) (s : ByteArray) : Below w.heap.size w (Lib.bytesWorld w e s) :=
  ⟨rfl, rfl, rfl, by rw [Lib.bytesWorld_size]; omega, fun k hk => Lib.bytesWorld_at_old w e s k hk⟩
theorem rbytes_cell (w : World) (e : TypeId) (s : ByteArray) (l : List UInt8) (h : s.data.toList = l) (j : Nat) (hj : j < l.length) : (Lib.bytesWorld w e s).cell? ⟨w.heap.size, j, none⟩ = some (.int .u8 (l[j].toNat : Int)) := by
  subst h
  rw [Lib.bytesWorld_cell _ _ _ _ (by rw [Lib.size_eq]; exact hj), List.getD_eq_getElem?_getD, List.getElem?_eq_getElem hj]; rfl

theorem i64_val {a b : Int} (h : a = b) : Value.int .i64 a = .int .i64 b := by rw [h]
theorem and1_u8 {a : Nat} (ha : a < 256) : bits .and .u8 a 1 = ((a % 2 : Nat) : Int) := by
  have h := bits_mask .u8 8 (by decide) wraps_u8 1 (by decide) (a : Int) (by omega) (by omega)
  exact_mod_cast h
theorem and1_i64 {a : Nat} (ha : a < 9223372036854775808) : bits .and .i64 a 1 = ((a % 2 : Nat) : Int) := by
  have h := bits_mask .i64 63 (by decide) wraps63 1 (by decide) (a : Int) (by omega) (by omega)
  exact_mod_cast h
theorem wrap64_nat {a : Nat} (ha : a < 9223372036854775808) : wrap64 a = a := by unfold wrap64; omega
theorem out_bits {x c n : Nat} (hc : c < 256) : bits .xor .i64 ((bitN x 0 : Nat) : Int) (wrap64 (bits .and .u8 ((c : Int) / 2 ^ n) 1)) = ((x % 2 ^^^ bitN c n : Nat) : Int) := by
  have h1 : ((c : Int) / 2 ^ n) = ((c / 2 ^ n : Nat) : Int) := by rw [Int.natCast_ediv, Int.natCast_pow]; rfl
  have h2 : c / 2 ^ n < 256 := Nat.lt_of_le_of_lt (Nat.div_le_self _ _) hc
  have h3 := bitN_le x 0
  have h4 : bitN x 0 = x % 2 := by simp [bitN]
  rw [h1, and1_u8 h2, wrap64_nat (by omega), xor_i64 (by omega) (by omega), h4]
  rfl
theorem cell_bits {f o i : Nat} (hf : f ≤ 1) (ho : o ≤ 1) : bits .xor .i64 (f : Int) (wrap64 (o * bits .and .i64 ((3988292384 : Int) / 2 ^ i) 1)) = ((f ^^^ (o * bitN 3988292384 i) : Nat) : Int) := by
  have h1 : ((3988292384 : Int) / 2 ^ i) = ((3988292384 / 2 ^ i : Nat) : Int) := by rw [Int.natCast_ediv, Int.natCast_pow]; rfl
  have h2 : 3988292384 / 2 ^ i ≤ 3988292384 := Nat.div_le_self _ _
  have h5 := bitN_le 3988292384 i
  have h6 : o * bitN 3988292384 i ≤ 1 * 1 := Nat.mul_le_mul ho h5
  rw [h1, and1_i64 (by omega)]
  rw [show ((o : Int) * ((3988292384 / 2 ^ i % 2 : Nat) : Int)) = ((o * bitN 3988292384 i : Nat) : Int) from by rw [Int.natCast_mul]; rfl, wrap64_nat (by omega)]
  exact xor_i64 (by omega) (by omega)

set_option maxHeartbeats 1000000 in
theorem rsum_any (l : List UInt8) (w : World) (hl : l.length ≤ 140737488355328) :
    Calls Tryd.prog 38 #[.string ⟨l.toArray⟩] w fun e w' => e = .returned (.int .i64 (sumN l : Nat)) ∧ Below w.heap.size w w' := by
  have hz : (ByteArray.mk l.toArray).size = l.length := Lib.size_eq ⟨l.toArray⟩
  have hconv : ∀ W s, (convert 9 82 (.string s)).run Tryd.prog W = .ok (.slice (some ⟨W.heap.size, 0, none⟩) s.size (grownCap W s.size 0 5)) (Lib.bytesWorld W 5 s) := fun W s =>
    Lib.run_convert_string_bytes W 9 82 5 s Tryd.underlying9 Tryd.underlying82 Tryd.underlying5
  go_enter Tryd.func38, Tryd.ntmps38
  go_wp2
  generalize hW1 : w.alloc (Obj.cells _ 84) = W1
  have hs1 : W1.heap.size = w.heap.size + 1 := by rw [← hW1]; simp
  have HR1 : Hid (regAt W1 w.heap.size (fun _ => 0)) := hide (by
    rw [← hW1]
    show (w.heap.push _)[w.heap.size]? = _
    simp [regV]
    rfl)
  have hB1 : Below w.heap.size w W1 := by rw [← hW1]; exact (Below.refl _ _).alloc (Nat.le_refl _) _
  clear hW1
  go_loopw [12] (fun i wr => ∃ k : Nat, k ≤ 32 ∧ i = .int .i64 k ∧ regAt wr w.heap.size (fun j => if j < k then 1 else 0) ∧ wr.heap.size = w.heap.size + 1 ∧ Below w.heap.size w wr) (fun i _ => 32 - (intOf i).toNat)
  case atStart => exact ⟨0, Nat.zero_le _, rfl, (unhide HR1).congr (fun j _ => by simp), hs1, hB1⟩
  case round =>
    obtain ⟨k, hk, rfl, hr, hsz, hB⟩ := hrel
    have HR := hide hr
    clear hr HR1 hs1 hB1
    by_cases hlt : k < 32
    · have h1 := (unhide HR).cell hlt
      have h2 := (unhide HR).soft k
      go_wp2
      refine ⟨⟨k + 1, by omega, by go_num, ?_, ?_, ?_⟩, by simp [intOf]; omega⟩
      · exact ((unhide HR).set (v := 1) hlt).congr (fun j hj => by by_cases e : j = k <;> by_cases e' : j < k <;> simp [e, e'] <;> omega)
      · simpa [World.setCell] using hsz
      · exact hB.setCell (by show w.heap.size ≤ w.heap.size; exact Nat.le_refl _) _
    · obtain rfl : k = 32 := by omega
      have HR2 : Hid (regAt wr w.heap.size (bitN 4294967295)) := hide ((unhide HR).congr (fun j hj => by rw [if_pos hj, bitN_ones j hj]))
      clear HR
      go_wp2
      generalize hW2 : Lib.bytesWorld wr 5 ⟨l.toArray⟩ = W2
      have hs2 : W2.heap.size = w.heap.size + 2 := by rw [← hW2, Lib.bytesWorld_size]; omega
      have hb2 : Below wr.heap.size wr W2 := by rw [← hW2]; exact rbytes_below _ _ _
      have Hcell : Hid (∀ j (hj : j < l.length), W2.cell? ⟨w.heap.size + 1, j, none⟩ = some (.int .u8 (l[j].toNat : Int))) := hide (fun j hj => by
        rw [← hW2, ← hsz]; exact rbytes_cell wr 5 ⟨l.toArray⟩ l rfl j hj)
      have HR3 : Hid (regAt W2 w.heap.size (bitN 4294967295)) := hide ((hb2.block _ (by omega)).trans (unhide HR2))
      have hB2 : Below w.heap.size w W2 := hB.trans (hb2.mono (by omega))
      clear hW2 hb2 HR2 hB hsz
      go_loopw [21] (fun i wr => ∃ k : Nat, k ≤ l.length ∧ i = .int .i64 k ∧ regAt wr w.heap.size (bitN (crcL (l.take k))) ∧ wr.heap[w.heap.size + 1]? = W2.heap[w.heap.size + 1]? ∧ wr.heap.size = w.heap.size + 2 ∧ Below w.heap.size w wr) (fun i _ => l.length - (intOf i).toNat)
      case atStart => exact ⟨0, Nat.zero_le _, rfl, unhide HR3, rfl, hs2, hB2⟩
      case round =>
        obtain ⟨k, hk, rfl, hr, hblk, hsz, hB⟩ := hrel
        have HR := hide hr
        have HK := hide hblk
        clear hr hblk HR3 hB2
        obtain ⟨r, hr⟩ : ∃ r, crcL (l.take k) = r := ⟨_, rfl⟩
        have hrl : r < 4294967296 := hr ▸ crcL_lt _
        rw [hr] at HR
        have Hr := hide hr
        clear hr
        by_cases hlt : k < l.length
        · have hc : wr.cell? ⟨w.heap.size + 1, k, none⟩ = some (.int .u8 (l[k].toNat : Int)) := (World.cell?_of_block (a := ⟨w.heap.size + 1, k, none⟩) (unhide HK)).trans (unhide Hcell k hlt)
          have Hnext : Hid (crcL (l.take (k + 1)) = bitsR l[k].toNat 8 r) := hide (by rw [List.take_succ_eq_append_getElem hlt, crcL_snoc, bitsR_all, unhide Hr])
          generalize l[k] = c at hc Hnext
          have hcb := c.toNat_lt
          go_wp2
          clear hc
          generalize wr = V at *
          go_loopw [7] (fun i wr => ∃ n : Nat, n ≤ 8 ∧ i = .int .u64 n ∧ regAt wr w.heap.size (bitN (bitsR c.toNat n r)) ∧ wr.heap[w.heap.size + 1]? = W2.heap[w.heap.size + 1]? ∧ wr.heap.size = w.heap.size + 2 ∧ Below w.heap.size w wr) (fun i _ => 8 - (intOf i).toNat)
          case atStart => exact ⟨0, Nat.zero_le _, rfl, unhide HR, unhide HK, hsz, hB⟩
          case round =>
            clear HR HK hsz hB
            obtain ⟨n, hn, rfl, hr, hblk, hsz, hB⟩ := hrel
            have HR := hide hr
            have HK := hide hblk
            clear hr hblk
            have hxl := bitsR_lt (b := c.toNat) hrl n
            have Hs : Hid (bitsR c.toNat (n + 1) r = bitR (bitsR c.toNat n r) (bitN c.toNat n)) := hide rfl
            by_cases h8 : n < 8
            · obtain ⟨x, hx⟩ : ∃ x, bitsR c.toNat n r = x := ⟨_, rfl⟩
              rw [hx] at HR hxl Hs
              clear hx
              have h1 := (unhide HR).cell (show 0 < 32 by decide)
              have hn2 : (n : Int) ≤ 8 := by omega
              go_wp2
              rw [out_bits (by omega)]
              obtain ⟨o, ho⟩ : ∃ o, x % 2 ^^^ bitN c.toNat n = o := ⟨_, rfl⟩
              have hol : o ≤ 1 := ho ▸ bit_xor_le (by omega) (bitN_le _ _)
              have Ho := hide ho
              rw [ho]
              clear ho h1
              have hcopy := regAt.copied (W := wr.drew) (g := w.heap.size) (f := bitN x) (unhide HR)
              go_region
              clear hcopy
              generalize hW3 : wr.drew.setRow w.heap.size (regV fun i => if i < 31 then bitN x (i + 1) else bitN x i).toArray = W3
              have HR3 : Hid (regAt W3 w.heap.size (fun i => if i < 31 then bitN x (i + 1) else bitN x i)) := hide (by
                rw [← hW3]; exact regAt.row (W := wr.drew) (f := bitN x) (unhide HR) _)
              have HK3 : Hid (W3.heap[w.heap.size + 1]? = W2.heap[w.heap.size + 1]?) := hide (by
                rw [← hW3, setRow_other _ _ _ _ (by omega)]; exact unhide HK)
              have hs3 : W3.heap.size = w.heap.size + 2 := by rw [← hW3]; simpa [World.setRow] using hsz
              have hB3 : Below w.heap.size w W3 := by rw [← hW3]; exact below_setRow hB.drew (Nat.le_refl _) _
              clear hW3 HR HK hsz hB
              have h1 := (unhide HR3).cell (show 31 < 32 by decide)
              have h2 := (unhide HR3).soft 31
              go_wp2
              clear h1 h2
              generalize hW4 : W3.setCell ⟨w.heap.size, 31, none⟩ (.int .i64 0) = W4
              have HR4 : Hid (regAt W4 w.heap.size (fun i => bitN x (i + 1))) := hide (by
                rw [← hW4]
                refine ((unhide HR3).set (v := 0) (show 31 < 32 by decide)).congr (fun j hj => ?_)
                by_cases e : j = 31
                · subst e; simp [bitN_top hxl]
                · rw [if_neg e, if_pos (by omega)])
              have HK4 : Hid (W4.heap[w.heap.size + 1]? = W2.heap[w.heap.size + 1]?) := hide (by
                rw [← hW4, Below.heap_setCell _ _ _ _ (by show w.heap.size + 1 ≠ w.heap.size; omega)]; exact unhide HK3)
              have hs4 : W4.heap.size = w.heap.size + 2 := by rw [← hW4]; simpa [World.setCell] using hs3
              have hB4 : Below w.heap.size w W4 := by rw [← hW4]; exact hB3.setCell (by show w.heap.size ≤ w.heap.size; exact Nat.le_refl _) _
              clear hW4 HR3 HK3 hs3 hB3
              generalize wr = V2 at *
              go_loopw [41] (fun i wr => ∃ j : Nat, j ≤ 32 ∧ i = .int .i64 j ∧ regAt wr w.heap.size (fun i => if i < j then bitN x (i + 1) ^^^ (o * bitN 3988292384 i) else bitN x (i + 1)) ∧ wr.heap[w.heap.size + 1]? = W2.heap[w.heap.size + 1]? ∧ wr.heap.size = w.heap.size + 2 ∧ Below w.heap.size w wr) (fun i _ => 32 - (intOf i).toNat)
              case atStart => exact ⟨0, Nat.zero_le _, rfl, (unhide HR4).congr (fun j _ => by simp), unhide HK4, hs4, hB4⟩
              case round =>
                clear HR4 HK4 hs4 hB4
                obtain ⟨j, hj, rfl, hr, hblk, hsz, hB⟩ := hrel
                have HR := hide hr
                have HK := hide hblk
                clear hr hblk
                by_cases hj2 : j < 32
                · have h1 := (unhide HR).cell hj2
                  have h2 := (unhide HR).soft j
                  simp only [Nat.lt_irrefl, if_false] at h1
                  have hle := bitN_le x (j + 1)
                  obtain ⟨y, hy⟩ : ∃ y, bitN x (j + 1) = y := ⟨_, rfl⟩
                  rw [hy] at h1 hle
                  have Hy := hide hy
                  clear hy
                  have hj3 : (j : Int) ≤ 64 := by omega
                  go_wp2
                  rw [cell_bits hle hol]
                  refine ⟨⟨j + 1, by omega, by go_num, ?_, ?_, ?_, ?_⟩, by simp [intOf]; omega⟩
                  · refine ((unhide HR).set hj2).congr (fun i hi => ?_)
                    by_cases e : i = j
                    · subst e; rw [if_pos rfl, if_pos (by omega), unhide Hy]
                    · rw [if_neg e]
                      by_cases e' : i < j
                      · rw [if_pos e', if_pos (by omega)]
                      · rw [if_neg e', if_neg (by omega)]
                  · rw [Below.heap_setCell _ _ _ _ (by show w.heap.size + 1 ≠ w.heap.size; omega)]; exact unhide HK
                  · simpa [World.setCell] using hsz
                  · exact hB.setCell (by show w.heap.size ≤ w.heap.size; exact Nat.le_refl _) _
                · obtain rfl : j = 32 := by omega
                  have hfin : regAt wr w.heap.size (bitN (bitsR c.toNat (n + 1) r)) := (unhide HR).congr (fun i hi => by
                    rw [if_pos hi, unhide Hs, bitN_bitR (bitN_le _ _), unhide Ho])
                  have HF := hide hfin
                  clear hfin HR
                  go_wp2
                  exact ⟨⟨n + 1, by omega, by go_num, unhide HF, unhide HK, hsz, hB⟩, by simp [intOf]; omega⟩
            · obtain rfl : n = 8 := by omega
              have Hn' := hide (unhide Hnext)
              go_wp2
              exact ⟨⟨k + 1, by omega, by go_num, by rw [unhide Hn']; exact unhide HR, unhide HK, hsz, hB⟩, by simp [intOf]; omega⟩
        · obtain rfl : k = l.length := by omega
          rw [List.take_length] at Hr
          clear HK Hcell hs2 hlt hk
          go_wp2
          go_loop [10, 11] (fun n i => ∃ j : Nat, j ≤ 32 ∧ i = .int .i64 ((j : Int) - 1) ∧ n = .int .i64 ((4294967295 ^^^ r) / 2 ^ j : Nat)) (fun _ i => (intOf i + 1).toNat)
          case atStart => exact ⟨32, by omega, rfl, by rw [Nat.div_eq_of_lt (by have := xor_lt32 (show 4294967295 < 4294967296 by decide) hrl; omega)]; rfl⟩
          case round =>
            obtain ⟨j, hj, rfl, rfl⟩ := hrel
            by_cases hj0 : j = 0
            · subst hj0
              have hfin : (4294967295 ^^^ r) / 2 ^ 0 = sumN l := by rw [sumN, unhide Hr]; simp
              rw [hfin]
              clear hfin
              go_wp2
              go_ret
              exact ⟨rfl, hB⟩
            · obtain ⟨i, rfl⟩ : ∃ i, j = i + 1 := ⟨j - 1, by omega⟩
              have hst := flip_step (r := r) (k := i) (by omega)
              have hcl := (unhide HR).cell (show i < 32 by omega)
              have hle := bitN_le r i
              have hlt : (4294967295 ^^^ r) / 2 ^ (i + 1) < 4294967296 := Nat.lt_of_le_of_lt (Nat.div_le_self _ _) (xor_lt32 (by decide) hrl)
              obtain ⟨a, ha⟩ : ∃ a, (4294967295 ^^^ r) / 2 ^ (i + 1) = a := ⟨_, rfl⟩
              obtain ⟨y, hy⟩ : ∃ y, bitN r i = y := ⟨_, rfl⟩
              rw [ha] at hst hlt ⊢
              rw [hy] at hst hcl hle
              have Hst := hide hst
              clear ha hy hst
              rw [show ((i + 1 : Nat) : Int) - 1 = (i : Int) from by omega]
              go_wp2
              have hst := unhide Hst
              exact ⟨⟨i, by omega, rfl, i64_val (by omega)⟩, by simp only [intOf]; omega⟩

end Go.Proofs.YtpoblkionpgljaaDoor

namespace Go.Proofs.YtpoblkionpgljaaDoor
open Go.RowKit

theorem one_text (c : UInt8) (W : World) (X : Nat) (h : W.cell? ⟨X, 0, none⟩ = some (.int .u8 (c.toNat : Int))) :
    (convert 82 9 (.slice (some ⟨X, 0, none⟩) 1 1)).run Tryd.prog W = .ok (.string ⟨#[c]⟩) W :=
  run_convert_bytes_back W 82 9 5 ⟨X, 0, none⟩ 1 [c] Tryd.underlying82 Tryd.underlying5 Tryd.underlying9 (fun j hj => by
    obtain rfl : j = 0 := by simpa using hj
    simpa [Addr.add] using h)

set_option maxHeartbeats 1000000 in
theorem bytesOf_any (n k : Nat) (w : World) (hn : n < 9223372036854775808) (hk : k ≤ 8) :
    Calls Tryd.prog 37 #[.int .i64 n, .int .i64 k] w fun e w' => e = .returned (.string ⟨(be k n).toArray⟩) ∧ Below w.heap.size w w' := by
  go_enter Tryd.func37, Tryd.ntmps37
  go_wp2
  go_loopw [0, 1, 5] (fun x i t wr => ∃ j : Nat, j ≤ k ∧ x = .int .i64 (n / 256 ^ j : Nat) ∧ i = .int .i64 ((k : Int) - j) ∧ t = .string ⟨(be j n).toArray⟩ ∧ Below w.heap.size w wr) (fun _ i _ _ => (intOf i).toNat)
  case atStart => exact ⟨0, Nat.zero_le _, by simp, by simp, rfl, Below.refl _ _⟩
  case round =>
    obtain ⟨j, hj, rfl, rfl, rfl, hB⟩ := hrel
    by_cases hlt : j < k
    · have hq : n / 256 ^ j < 9223372036854775808 := Nat.lt_of_le_of_lt (Nat.div_le_self _ _) hn
      have Hdiv := hide (div_256 n j)
      have Hby := hide (ofNat_mod (n / 256 ^ j))
      have Hfr := hide (be_front j n)
      have hbl := be_length j n
      obtain ⟨x, hx⟩ : ∃ x, n / 256 ^ j = x := ⟨_, rfl⟩
      obtain ⟨B, hB'⟩ : ∃ B, be j n = B := ⟨_, rfl⟩
      rw [hx] at hq Hdiv Hby Hfr ⊢
      rw [hB'] at Hfr hbl ⊢
      clear hx hB'
      have hzB : (ByteArray.mk B.toArray).size = B.length := Lib.size_eq ⟨_⟩
      have htx : ∀ W X, W.cell? ⟨X, 0, none⟩ = some (.int .u8 ((x : Int) % 256)) → (convert 82 9 (.slice (some ⟨X, 0, none⟩) 1 1)).run Tryd.prog W = .ok (.string ⟨#[UInt8.ofNat x]⟩) W := fun W X h => one_text (UInt8.ofNat x) W X (by rw [← unhide Hby]; exact h)
      have hkj : (0 : Int) < (k : Int) - j := by omega
      go_wp2
      refine ⟨⟨j + 1, by omega, i64_v (by rw [← unhide Hdiv]; omega), i64_v (by omega), ?_, hB.alloc hB.size _⟩, by simp only [intOf]; omega⟩
      rw [show (ByteArray.mk #[UInt8.ofNat x]) = ⟨[UInt8.ofNat x].toArray⟩ from rfl, cat_one, unhide Hfr]
      rfl
    · obtain rfl : j = k := by omega
      rw [show (j : Int) - (j : Int) = 0 from by omega]
      go_wp2
      go_ret
      exact ⟨rfl, hB⟩

theorem wrap_mul_add (t b : Nat) : wrap64 (wrap64 ((t : Int) * 256) + (b : Int)) = wrap64 ((t * 256 + b : Nat) : Int) := by unfold wrap64; omega

set_option maxHeartbeats 1000000 in
theorem numberOf_any (s : ByteArray) (w : World) (hs : s.size ≤ 8) :
    Calls Tryd.prog 65 #[.string s] w fun e w' => e = .returned (.int .i64 (wrap64 (un s.data.toList : Nat))) ∧ Below w.heap.size w w' := by
  obtain ⟨l, rfl⟩ := ba_list s
  show Calls _ _ _ _ fun e w' => e = .returned (.int .i64 (wrap64 (un l : Nat))) ∧ _
  have hz : (ByteArray.mk l.toArray).size = l.length := Lib.size_eq ⟨l.toArray⟩
  rw [hz] at hs
  have hconv : ∀ W s, (convert 9 82 (.string s)).run Tryd.prog W = .ok (.slice (some ⟨W.heap.size, 0, none⟩) s.size (grownCap W s.size 0 5)) (Lib.bytesWorld W 5 s) := fun W s =>
    Lib.run_convert_string_bytes W 9 82 5 s Tryd.underlying9 Tryd.underlying82 Tryd.underlying5
  go_enter Tryd.func65, Tryd.ntmps65
  go_wp2
  generalize hW1 : Lib.bytesWorld w 5 ⟨l.toArray⟩ = W1
  have Hcell : Hid (∀ j (hj : j < l.length), W1.cell? ⟨w.heap.size, j, none⟩ = some (.int .u8 (l[j].toNat : Int))) := hide (fun j hj => by
    rw [← hW1]; exact bytes_cell w 5 ⟨l.toArray⟩ l rfl j hj)
  have hB1 : Below w.heap.size w W1 := by rw [← hW1]; exact bytes_below _ _ _
  clear hW1 hconv
  go_loop [3, 9] (fun t i => ∃ k : Nat, k ≤ l.length ∧ i = .int .i64 k ∧ t = .int .i64 (wrap64 (un (l.take k) : Nat))) (fun _ i => l.length - (intOf i).toNat)
  case atStart => exact ⟨0, Nat.zero_le _, rfl, i64_c (by simp [un, wrap64])⟩
  case round =>
    obtain ⟨k, hk, rfl, rfl⟩ := hrel
    by_cases hlt : k < l.length
    · have hc := unhide Hcell k hlt
      have Hs := hide (un_take l k hlt)
      have hsm := un_small (l := l.take k) (by rw [List.length_take]; omega)
      obtain ⟨x, hx⟩ : ∃ x, un (l.take k) = x := ⟨_, rfl⟩
      rw [hx] at hsm Hs ⊢
      clear hx
      rw [show wrap64 (x : Int) = x from by unfold wrap64; omega]
      have hb := l[k].toNat_lt
      generalize l[k] = c at hc Hs hb
      go_wp2
      refine ⟨⟨k + 1, by omega, by go_num, i64_c ?_⟩, by simp [intOf]; omega⟩
      rw [unhide Hs, ← wrap_mul_add]
    · obtain rfl : k = l.length := by omega
      rw [List.take_length]
      go_wp2
      go_ret
      exact ⟨rfl, hB1⟩

end Go.Proofs.YtpoblkionpgljaaDoor

namespace Go.Proofs.YtpoblkionpgljaaDoor
open Go.RowKit

set_option maxHeartbeats 400000 in
theorem in_any (n k : Int) (w : World) :
    Calls Tryd.prog 66 #[.int .i64 n, .int .i64 k] w fun e w' => e = .returned (.bool (cntB n k)) ∧ w' = w := by
  go_enter Tryd.func66, Tryd.ntmps66
  go_wp2
  all_goals go_ret
  all_goals exact ⟨zret_bool (by rw [Bool.eq_iff_iff, cntB_iff]; simp; try omega), rfl⟩

theorem gd_of {t : WTxn} (h : opB t.o = true) (h1 : numB t = true) (h2 : t.d.length ≤ 256) : gdE t = if fmB t then 0 else 2 := by simp [gdE, h, h1, h2]

theorem drewN_below {w : World} {n : Nat} : Below w.heap.size w (w.drewN n) := ⟨rfl, rfl, rfl, Nat.le_refl _, fun _ _ => rfl⟩
theorem drawn_box {w : World} {o : Obj} {n : Nat} : Below w.heap.size w ((w.alloc o).drewN n) :=
  ((Below.refl _ _).alloc (Nat.le_refl _) _).trans (drewN_below.mono (by simp))
theorem drawn_then {w : World} {o : Obj} {n : Nat} {w2 : World} (h : Below ((w.alloc o).drewN n).heap.size ((w.alloc o).drewN n) w2) : Below w.heap.size w w2 :=
  below_next drawn_box h

set_option maxHeartbeats 1000000 in
theorem rgd_1 (z s : Int) (p d : List UInt8) (v u : Int) (w : World) (hz : z ≤ 9223372036854775807) (hd : d.length ≤ 256) (hn : numB ⟨z, 1, s, p, d, v, u⟩ = true) :
    Calls Tryd.prog 36 #[.agg #[.int .i64 z, .int .i64 1, .int .i64 s, .string ⟨p.toArray⟩, .string ⟨d.toArray⟩, .int .i64 v, .int .i64 u]] w fun e w' => e = .returned (.int .i64 (gdE ⟨z, 1, s, p, d, v, u⟩)) ∧ Below w.heap.size w w' := by
  have HG : Hid (gdE ⟨z, 1, s, p, d, v, u⟩ = if (p == [] && d == [] && v == 0 && u == 0) then 0 else 2) := hide (by rw [gd_of rfl hn hd, fm_1])
  obtain ⟨G, hG⟩ : ∃ G, gdE ⟨z, 1, s, p, d, v, u⟩ = G := ⟨_, rfl⟩
  rw [hG] at HG ⊢
  clear hG
  obtain ⟨h1, h2, h3, h4⟩ := numB_iff.1 hn
  have Hz := hide h1
  have Hs := hide h2
  have Hv := hide h3
  have Hu := hide h4
  clear h1 h2 h3 h4 hn
  have hzd : (ByteArray.mk d.toArray).size = d.length := Lib.size_eq ⟨d.toArray⟩
  go_enter Tryd.func36, Tryd.ntmps36
  go_wp2_with fail
  refine (rgood_any _ hz _).mono ?_
  rintro e w1 ⟨rfl, rfl⟩
  rw [unhide Hz]
  go_wp2_with fail
  refine (in_any _ _ _).mono ?_
  rintro e w1 ⟨rfl, rfl⟩
  rw [unhide Hs]
  go_wp2_with fail
  refine (in_any _ _ _).mono ?_
  rintro e w1 ⟨rfl, rfl⟩
  rw [unhide Hv]
  go_wp2_with fail
  refine (in_any _ _ _).mono ?_
  rintro e w1 ⟨rfl, rfl⟩
  rw [unhide Hu]
  go_wp2_with fail
  go_quiet (fail)
  go_wp2_with fail
  all_goals go_ret
  all_goals (refine ⟨ret_gd ?_, drawn_box⟩; rw [unhide HG]; clear HG Hz Hs Hv Hu; simp [*]; try (rename_i hl; simpa using hl))

set_option maxHeartbeats 1000000 in
theorem rgd_2 (z s : Int) (p d : List UInt8) (v u : Int) (w : World) (hz : z ≤ 9223372036854775807) (hd : d.length ≤ 256) (hn : numB ⟨z, 2, s, p, d, v, u⟩ = true) :
    Calls Tryd.prog 36 #[.agg #[.int .i64 z, .int .i64 2, .int .i64 s, .string ⟨p.toArray⟩, .string ⟨d.toArray⟩, .int .i64 v, .int .i64 u]] w fun e w' => e = .returned (.int .i64 (gdE ⟨z, 2, s, p, d, v, u⟩)) ∧ Below w.heap.size w w' := by
  have HG : Hid (gdE ⟨z, 2, s, p, d, v, u⟩ = if (p == [] && d == [] && v == 0 && u == 0) then 0 else 2) := hide (by rw [gd_of rfl hn hd, fm_2])
  obtain ⟨G, hG⟩ : ∃ G, gdE ⟨z, 2, s, p, d, v, u⟩ = G := ⟨_, rfl⟩
  rw [hG] at HG ⊢
  clear hG
  obtain ⟨h1, h2, h3, h4⟩ := numB_iff.1 hn
  have Hz := hide h1
  have Hs := hide h2
  have Hv := hide h3
  have Hu := hide h4
  clear h1 h2 h3 h4 hn
  have hzd : (ByteArray.mk d.toArray).size = d.length := Lib.size_eq ⟨d.toArray⟩
  go_enter Tryd.func36, Tryd.ntmps36
  go_wp2_with fail
  refine (rgood_any _ hz _).mono ?_
  rintro e w1 ⟨rfl, rfl⟩
  rw [unhide Hz]
  go_wp2_with fail
  refine (in_any _ _ _).mono ?_
  rintro e w1 ⟨rfl, rfl⟩
  rw [unhide Hs]
  go_wp2_with fail
  refine (in_any _ _ _).mono ?_
  rintro e w1 ⟨rfl, rfl⟩
  rw [unhide Hv]
  go_wp2_with fail
  refine (in_any _ _ _).mono ?_
  rintro e w1 ⟨rfl, rfl⟩
  rw [unhide Hu]
  go_wp2_with fail
  go_quiet (fail)
  go_wp2_with fail
  all_goals go_ret
  all_goals (refine ⟨ret_gd ?_, drawn_box⟩; rw [unhide HG]; clear HG Hz Hs Hv Hu; simp [*]; try (rename_i hl; simpa using hl))

end Go.Proofs.YtpoblkionpgljaaDoor

namespace Go.Proofs.YtpoblkionpgljaaDoor
open Go.RowKit

set_option maxHeartbeats 1000000 in
theorem rgd_3 (z s : Int) (p d : List UInt8) (v u : Int) (w : World) (hz : z ≤ 9223372036854775807) (hp : p.length ≤ 1048576) (hd : d.length ≤ 256) (hn : numB ⟨z, 3, s, p, d, v, u⟩ = true) :
    Calls Tryd.prog 36 #[.agg #[.int .i64 z, .int .i64 3, .int .i64 s, .string ⟨p.toArray⟩, .string ⟨d.toArray⟩, .int .i64 v, .int .i64 u]] w fun e w' => e = .returned (.int .i64 (gdE ⟨z, 3, s, p, d, v, u⟩)) ∧ Below w.heap.size w w' := by
  have HG : Hid (gdE ⟨z, 3, s, p, d, v, u⟩ = if (goodB p && !(p == [47]) && v == 0) then 0 else 2) := hide (by rw [gd_of rfl hn hd, fm_3])
  obtain ⟨G, hG⟩ : ∃ G, gdE ⟨z, 3, s, p, d, v, u⟩ = G := ⟨_, rfl⟩
  rw [hG] at HG ⊢
  clear hG
  obtain ⟨h1, h2, h3, h4⟩ := numB_iff.1 hn
  have Hz := hide h1
  have Hs := hide h2
  have Hv := hide h3
  have Hu := hide h4
  clear h1 h2 h3 h4 hn
  have hzd : (ByteArray.mk d.toArray).size = d.length := Lib.size_eq ⟨d.toArray⟩
  cases hg : goodB p
  all_goals
    have Hg := hide hg
    clear hg
    go_enter Tryd.func36, Tryd.ntmps36
    go_wp2_with fail
    refine (rgood_any _ hz _).mono ?_
    rintro e w1 ⟨rfl, rfl⟩
    rw [unhide Hz]
    go_wp2_with fail
    refine (in_any _ _ _).mono ?_
    rintro e w1 ⟨rfl, rfl⟩
    rw [unhide Hs]
    go_wp2_with fail
    refine (in_any _ _ _).mono ?_
    rintro e w1 ⟨rfl, rfl⟩
    rw [unhide Hv]
    go_wp2_with fail
    refine (in_any _ _ _).mono ?_
    rintro e w1 ⟨rfl, rfl⟩
    rw [unhide Hu]
    go_wp2_with fail
    go_quiet (fail)
    go_wp2_with fail
    all_goals
      refine (refGood_any p _ hp).mono ?_
      rintro e w2 ⟨rfl, hb2⟩
      have hbz : Below w.heap.size w w2 := drawn_then hb2
      obtain ⟨hc, hf⟩ := bcell hb2
      rw [unhide Hg]
      go_wp2_with fail
    all_goals go_ret
    all_goals (refine ⟨ret_gd ?_, by assumption⟩; rw [unhide HG, unhide Hg]; clear HG Hg Hz Hs Hv Hu; simp [*]; try (rename_i hl; simp [‹¬p = [47]›] at hl; exact hl))

end Go.Proofs.YtpoblkionpgljaaDoor

namespace Go.Proofs.YtpoblkionpgljaaDoor
open Go.RowKit

set_option maxHeartbeats 1000000 in
theorem rgd_4 (z s : Int) (p d : List UInt8) (v u : Int) (w : World) (hz : z ≤ 9223372036854775807) (hp : p.length ≤ 1048576) (hd : d.length ≤ 256) (hn : numB ⟨z, 4, s, p, d, v, u⟩ = true) :
    Calls Tryd.prog 36 #[.agg #[.int .i64 z, .int .i64 4, .int .i64 s, .string ⟨p.toArray⟩, .string ⟨d.toArray⟩, .int .i64 v, .int .i64 u]] w fun e w' => e = .returned (.int .i64 (gdE ⟨z, 4, s, p, d, v, u⟩)) ∧ Below w.heap.size w w' := by
  have HG : Hid (gdE ⟨z, 4, s, p, d, v, u⟩ = if (goodB p && !(p == [47]) && d == [] && v == 0 && u == 0) then 0 else 2) := hide (by rw [gd_of rfl hn hd, fm_4])
  obtain ⟨G, hG⟩ : ∃ G, gdE ⟨z, 4, s, p, d, v, u⟩ = G := ⟨_, rfl⟩
  rw [hG] at HG ⊢
  clear hG
  obtain ⟨h1, h2, h3, h4⟩ := numB_iff.1 hn
  have Hz := hide h1
  have Hs := hide h2
  have Hv := hide h3
  have Hu := hide h4
  clear h1 h2 h3 h4 hn
  have hzd : (ByteArray.mk d.toArray).size = d.length := Lib.size_eq ⟨d.toArray⟩
  cases hg : goodB p
  all_goals
    have Hg := hide hg
    clear hg
    go_enter Tryd.func36, Tryd.ntmps36
    go_wp2_with fail
    refine (rgood_any _ hz _).mono ?_
    rintro e w1 ⟨rfl, rfl⟩
    rw [unhide Hz]
    go_wp2_with fail
    refine (in_any _ _ _).mono ?_
    rintro e w1 ⟨rfl, rfl⟩
    rw [unhide Hs]
    go_wp2_with fail
    refine (in_any _ _ _).mono ?_
    rintro e w1 ⟨rfl, rfl⟩
    rw [unhide Hv]
    go_wp2_with fail
    refine (in_any _ _ _).mono ?_
    rintro e w1 ⟨rfl, rfl⟩
    rw [unhide Hu]
    go_wp2_with fail
    go_quiet (fail)
    go_wp2_with fail
    all_goals
      refine (refGood_any p _ hp).mono ?_
      rintro e w2 ⟨rfl, hb2⟩
      have hbz : Below w.heap.size w w2 := drawn_then hb2
      obtain ⟨hc, hf⟩ := bcell hb2
      rw [unhide Hg]
      go_wp2_with fail
    all_goals go_ret
    all_goals (refine ⟨ret_gd ?_, by assumption⟩; rw [unhide HG, unhide Hg]; clear HG Hg Hz Hs Hv Hu; simp [*]; try (rename_i hl; simp [‹¬p = [47]›] at hl; exact hl))

end Go.Proofs.YtpoblkionpgljaaDoor

namespace Go.Proofs.YtpoblkionpgljaaDoor
open Go.RowKit

set_option maxHeartbeats 1000000 in
theorem rgd_5 (z s : Int) (p d : List UInt8) (v u : Int) (w : World) (hz : z ≤ 9223372036854775807) (hp : p.length ≤ 1048576) (hd : d.length ≤ 256) (hn : numB ⟨z, 5, s, p, d, v, u⟩ = true) :
    Calls Tryd.prog 36 #[.agg #[.int .i64 z, .int .i64 5, .int .i64 s, .string ⟨p.toArray⟩, .string ⟨d.toArray⟩, .int .i64 v, .int .i64 u]] w fun e w' => e = .returned (.int .i64 (gdE ⟨z, 5, s, p, d, v, u⟩)) ∧ Below w.heap.size w w' := by
  have HG : Hid (gdE ⟨z, 5, s, p, d, v, u⟩ = if (goodB p && u == 0) then 0 else 2) := hide (by rw [gd_of rfl hn hd, fm_5])
  obtain ⟨G, hG⟩ : ∃ G, gdE ⟨z, 5, s, p, d, v, u⟩ = G := ⟨_, rfl⟩
  rw [hG] at HG ⊢
  clear hG
  obtain ⟨h1, h2, h3, h4⟩ := numB_iff.1 hn
  have Hz := hide h1
  have Hs := hide h2
  have Hv := hide h3
  have Hu := hide h4
  clear h1 h2 h3 h4 hn
  have hzd : (ByteArray.mk d.toArray).size = d.length := Lib.size_eq ⟨d.toArray⟩
  cases hg : goodB p
  all_goals
    have Hg := hide hg
    clear hg
    go_enter Tryd.func36, Tryd.ntmps36
    go_wp2_with fail
    refine (rgood_any _ hz _).mono ?_
    rintro e w1 ⟨rfl, rfl⟩
    rw [unhide Hz]
    go_wp2_with fail
    refine (in_any _ _ _).mono ?_
    rintro e w1 ⟨rfl, rfl⟩
    rw [unhide Hs]
    go_wp2_with fail
    refine (in_any _ _ _).mono ?_
    rintro e w1 ⟨rfl, rfl⟩
    rw [unhide Hv]
    go_wp2_with fail
    refine (in_any _ _ _).mono ?_
    rintro e w1 ⟨rfl, rfl⟩
    rw [unhide Hu]
    go_wp2_with fail
    go_quiet (fail)
    go_wp2_with fail
    all_goals
      refine (refGood_any p _ hp).mono ?_
      rintro e w2 ⟨rfl, hb2⟩
      have hbz : Below w.heap.size w w2 := drawn_then hb2
      obtain ⟨hc, hf⟩ := bcell hb2
      rw [unhide Hg]
      go_wp2_with fail
    all_goals go_ret
    all_goals (refine ⟨ret_gd ?_, by assumption⟩; rw [unhide HG, unhide Hg]; clear HG Hg Hz Hs Hv Hu; simp [*]; try (rename_i hl; simpa using hl))

end Go.Proofs.YtpoblkionpgljaaDoor

namespace Go.Proofs.YtpoblkionpgljaaDoor
open Go.RowKit

set_option maxHeartbeats 2000000 in
theorem rgd_any (t : WTxn) (w : World) (hzb : t.z ≤ 9223372036854775807) (hp : t.p.length ≤ 1048576) (hd : t.d.length ≤ 140737488355328) :
    Calls Tryd.prog 36 #[txnV t] w fun e w' => e = .returned (.int .i64 (gdE t)) ∧ Below w.heap.size w w' := by
  cases ho : opB t.o
  · have H := hide (gdE_kind ho)
    have hor := opB_no ho
    clear ho
    obtain ⟨z, o, s, p, d, v, u⟩ := t
    unfold txnV
    replace hor : o < 1 ∨ 5 < o := hor
    rcases hor with hor | hor
    all_goals
      go_enter Tryd.func36, Tryd.ntmps36
      go_wp2_with fail
      go_ret
      exact ⟨ret_gd (unhide H).symm, (Below.refl _ _).alloc (Nat.le_refl _) _⟩
  have hor := opB_iff.1 ho
  have ho1 := hor.1
  have ho2 := hor.2
  have Ho := hide ho
  clear ho hor
  cases hz : zGood t.z
  · have H := hide (gdE_range (unhide Ho) (num_no (.inl hz)))
    have Hz := hide hz
    clear hz
    · obtain ⟨z, o, s, p, d, v, u⟩ := t
      unfold txnV
      have hzd : (ByteArray.mk d.toArray).size = d.length := Lib.size_eq ⟨d.toArray⟩
      replace ho1 : 1 ≤ o := ho1
      replace ho2 : o ≤ 5 := ho2
      replace hd : d.length ≤ 140737488355328 := hd
      go_enter Tryd.func36, Tryd.ntmps36
      go_wp2_with fail
      refine (rgood_any _ hzb _).mono ?_
      rintro e w1 ⟨rfl, rfl⟩
      rw [unhide Hz]
      go_wp2_with fail
      go_ret
      exact ⟨ret_gd (unhide H).symm, (Below.refl _ _).alloc (Nat.le_refl _) _⟩
  cases hs : cntB t.s 1
  · have H := hide (gdE_range (unhide Ho) (num_no (.inr (.inl hs))))
    have Hz := hide hz
    have Hs := hide hs
    clear hz hs
    · obtain ⟨z, o, s, p, d, v, u⟩ := t
      unfold txnV
      have hzd : (ByteArray.mk d.toArray).size = d.length := Lib.size_eq ⟨d.toArray⟩
      replace ho1 : 1 ≤ o := ho1
      replace ho2 : o ≤ 5 := ho2
      replace hd : d.length ≤ 140737488355328 := hd
      go_enter Tryd.func36, Tryd.ntmps36
      go_wp2_with fail
      refine (rgood_any _ hzb _).mono ?_
      rintro e w1 ⟨rfl, rfl⟩
      rw [unhide Hz]
      go_wp2_with fail
      refine (in_any _ _ _).mono ?_
      rintro e w1 ⟨rfl, rfl⟩
      rw [unhide Hs]
      go_wp2_with fail
      go_ret
      exact ⟨ret_gd (unhide H).symm, (Below.refl _ _).alloc (Nat.le_refl _) _⟩
  cases hv : cntB t.v 0
  · have H := hide (gdE_range (unhide Ho) (num_no (.inr (.inr (.inl hv)))))
    have Hz := hide hz
    have Hs := hide hs
    have Hv := hide hv
    clear hz hs hv
    · obtain ⟨z, o, s, p, d, v, u⟩ := t
      unfold txnV
      have hzd : (ByteArray.mk d.toArray).size = d.length := Lib.size_eq ⟨d.toArray⟩
      replace ho1 : 1 ≤ o := ho1
      replace ho2 : o ≤ 5 := ho2
      replace hd : d.length ≤ 140737488355328 := hd
      go_enter Tryd.func36, Tryd.ntmps36
      go_wp2_with fail
      refine (rgood_any _ hzb _).mono ?_
      rintro e w1 ⟨rfl, rfl⟩
      rw [unhide Hz]
      go_wp2_with fail
      refine (in_any _ _ _).mono ?_
      rintro e w1 ⟨rfl, rfl⟩
      rw [unhide Hs]
      go_wp2_with fail
      refine (in_any _ _ _).mono ?_
      rintro e w1 ⟨rfl, rfl⟩
      rw [unhide Hv]
      go_wp2_with fail
      go_ret
      exact ⟨ret_gd (unhide H).symm, (Below.refl _ _).alloc (Nat.le_refl _) _⟩
  cases hu : cntB t.w 0
  · have H := hide (gdE_range (unhide Ho) (num_no (.inr (.inr (.inr hu)))))
    have Hz := hide hz
    have Hs := hide hs
    have Hv := hide hv
    have Hu := hide hu
    clear hz hs hv hu
    · obtain ⟨z, o, s, p, d, v, u⟩ := t
      unfold txnV
      have hzd : (ByteArray.mk d.toArray).size = d.length := Lib.size_eq ⟨d.toArray⟩
      replace ho1 : 1 ≤ o := ho1
      replace ho2 : o ≤ 5 := ho2
      replace hd : d.length ≤ 140737488355328 := hd
      go_enter Tryd.func36, Tryd.ntmps36
      go_wp2_with fail
      refine (rgood_any _ hzb _).mono ?_
      rintro e w1 ⟨rfl, rfl⟩
      rw [unhide Hz]
      go_wp2_with fail
      refine (in_any _ _ _).mono ?_
      rintro e w1 ⟨rfl, rfl⟩
      rw [unhide Hs]
      go_wp2_with fail
      refine (in_any _ _ _).mono ?_
      rintro e w1 ⟨rfl, rfl⟩
      rw [unhide Hv]
      go_wp2_with fail
      refine (in_any _ _ _).mono ?_
      rintro e w1 ⟨rfl, rfl⟩
      rw [unhide Hu]
      go_wp2_with fail
      go_ret
      exact ⟨ret_gd (unhide H).symm, (Below.refl _ _).alloc (Nat.le_refl _) _⟩
  have HN := hide (numB_iff.2 ⟨hz, hs, hv, hu⟩)
  have Hz := hide hz
  have Hs := hide hs
  have Hv := hide hv
  have Hu := hide hu
  clear hz hs hv hu
  by_cases hl : 256 < t.d.length
  · have H := hide (gdE_long (unhide Ho) (unhide HN) hl)
    · obtain ⟨z, o, s, p, d, v, u⟩ := t
      unfold txnV
      replace hl : 256 < d.length := hl
      have hzd : (ByteArray.mk d.toArray).size = d.length := Lib.size_eq ⟨d.toArray⟩
      replace ho1 : 1 ≤ o := ho1
      replace ho2 : o ≤ 5 := ho2
      replace hd : d.length ≤ 140737488355328 := hd
      go_enter Tryd.func36, Tryd.ntmps36
      go_wp2_with fail
      refine (rgood_any _ hzb _).mono ?_
      rintro e w1 ⟨rfl, rfl⟩
      rw [unhide Hz]
      go_wp2_with fail
      refine (in_any _ _ _).mono ?_
      rintro e w1 ⟨rfl, rfl⟩
      rw [unhide Hs]
      go_wp2_with fail
      refine (in_any _ _ _).mono ?_
      rintro e w1 ⟨rfl, rfl⟩
      rw [unhide Hv]
      go_wp2_with fail
      refine (in_any _ _ _).mono ?_
      rintro e w1 ⟨rfl, rfl⟩
      rw [unhide Hu]
      go_wp2_with fail
      go_ret
      exact ⟨ret_gd (unhide H).symm, (Below.refl _ _).alloc (Nat.le_refl _) _⟩
  have hl' : t.d.length ≤ 256 := by omega
  obtain ⟨z, o, s, p, d, v, u⟩ := t
  rcases op_cases (unhide Ho) with h | h | h | h | h <;> (replace h : o = _ := h; subst h)
  · exact rgd_1 z s p d v u w hzb hl' (unhide HN)
  · exact rgd_2 z s p d v u w hzb hl' (unhide HN)
  · exact rgd_3 z s p d v u w hzb hp hl' (unhide HN)
  · exact rgd_4 z s p d v u w hzb hp hl' (unhide HN)
  · exact rgd_5 z s p d v u w hzb hp hl' (unhide HN)

end Go.Proofs.YtpoblkionpgljaaDoor

namespace Go.Proofs.YtpoblkionpgljaaDoor
open Go.RowKit

theorem rnum_in (n : Int) (k : Nat) (w : World) (h0 : 0 ≤ n) (hn : n < 9223372036854775808) (hk : k ≤ 8) (d : Nat) (os : Array Obj) :
    Calls Tryd.prog 37 #[.int .i64 n, .int .i64 k] (Sort.grow (redrawn w d) os) fun e w'' => e = .returned (.string ⟨(be k n.toNat).toArray⟩) ∧ ∃ p : Regrown, w'' = Sort.grow (redrawn w p.d) p.os := by
  have h := bytesOf_any n.toNat k (Sort.grow (redrawn w d) os) (by omega) hk
  rw [Int.toNat_of_nonneg h0] at h
  exact Calls.regrown_of h

set_option maxHeartbeats 1000000 in
theorem rencode_no (t : WTxn) (w : World) (hzb : t.z ≤ 9223372036854775807) (hp : t.p.length ≤ 1048576) (hd : t.d.length ≤ 140737488355328) (h : gdE t ≠ 0) :
    Calls Tryd.prog 11 #[txnV t] w fun e w' => e = .returned (.tuple #[.string ⟨#[]⟩, .int .i64 (gdE t)]) ∧ Below w.heap.size w w' := by
  obtain ⟨E, hE⟩ : ∃ E, gdE t = E := ⟨_, rfl⟩
  have hne : (E == 0) = false := by rw [← hE]; simpa using h
  have hne' : (E != 0) = true := by simp [bne, hne]
  have HE := hide hE
  rw [hE]
  clear hE h
  obtain ⟨z, o, s, p, d, v, u⟩ := t
  unfold txnV
  go_enter Tryd.func11, Tryd.ntmps11
  go_wp2_with fail
  refine (rgd_any ⟨z, o, s, p, d, v, u⟩ _ hzb hp hd).mono ?_
  rintro e w1 ⟨rfl, hb1⟩
  have hbz := box_then hb1
  rw [unhide HE]
  go_wp2_with fail
  go_ret2
  exact ⟨rfl, hbz⟩

set_option maxRecDepth 100000 in
set_option maxHeartbeats 2000000 in
theorem rencode_yes (t : WTxn) (w : World) (ht : gdE t = 0) :
    Calls Tryd.prog 11 #[txnV t] w fun e w' => e = .returned (.tuple #[.string ⟨(recL t).toArray⟩, .int .i64 0]) ∧ Below w.heap.size w w' := by
  have H := hide ht
  obtain ⟨hz, ho, hs, hv, hu, hp, hd⟩ := gd_bounds ht
  have hbl := gd_body_le ht
  clear ht
  obtain ⟨bb, hbb⟩ : ∃ b, bodyL t = b := ⟨_, rfl⟩
  have Hb := hide hbb
  rw [hbb] at hbl
  clear hbb
  obtain ⟨z, o, s, p, d, v, u⟩ := t
  unfold txnV
  simp only at hz ho hs hv hu hp hd
  have hzp : (ByteArray.mk p.toArray).size = p.length := Lib.size_eq ⟨p.toArray⟩
  have hzd : (ByteArray.mk d.toArray).size = d.length := Lib.size_eq ⟨d.toArray⟩
  go_enter Tryd.func11, Tryd.ntmps11
  go_wp2_with fail
  refine (rgd_any ⟨z, o, s, p, d, v, u⟩ _ (by show z ≤ _; omega) (by show p.length ≤ _; omega) (by show d.length ≤ _; omega)).mono ?_
  rintro e W ⟨rfl, hb1⟩
  have hB := box_then hb1
  have hW : W.heap[w.heap.size]? = some (.cells #[.int .i64 z, .int .i64 o, .int .i64 s, .string ⟨p.toArray⟩, .string ⟨d.toArray⟩, .int .i64 v, .int .i64 u] 29) :=
    (hb1.block _ (by simp)).trans (by show (w.heap.push _)[w.heap.size]? = _; simp)
  rw [unhide H]
  go_wp2_with fail
  have k0 : ∀ d' os, (Sort.grow (redrawn W d') os).cell? ⟨w.heap.size, 0, none⟩ = some (.int .i64 z) := fun d' os => cell_regrown (by simp [World.cell?, hW]) d' os
  have k1 : ∀ d' os, (Sort.grow (redrawn W d') os).cell? ⟨w.heap.size, 1, none⟩ = some (.int .i64 o) := fun d' os => cell_regrown (by simp [World.cell?, hW]) d' os
  have k2 : ∀ d' os, (Sort.grow (redrawn W d') os).cell? ⟨w.heap.size, 2, none⟩ = some (.int .i64 s) := fun d' os => cell_regrown (by simp [World.cell?, hW]) d' os
  have k3 : ∀ d' os, (Sort.grow (redrawn W d') os).cell? ⟨w.heap.size, 3, none⟩ = some (.string ⟨p.toArray⟩) := fun d' os => cell_regrown (by simp [World.cell?, hW]) d' os
  have k4 : ∀ d' os, (Sort.grow (redrawn W d') os).cell? ⟨w.heap.size, 4, none⟩ = some (.string ⟨d.toArray⟩) := fun d' os => cell_regrown (by simp [World.cell?, hW]) d' os
  have k5 : ∀ d' os, (Sort.grow (redrawn W d') os).cell? ⟨w.heap.size, 5, none⟩ = some (.int .i64 v) := fun d' os => cell_regrown (by simp [World.cell?, hW]) d' os
  have k6 : ∀ d' os, (Sort.grow (redrawn W d') os).cell? ⟨w.heap.size, 6, none⟩ = some (.int .i64 u) := fun d' os => cell_regrown (by simp [World.cell?, hW]) d' os
  clear hW hb1
  have c0 : ∀ d' os, Calls Tryd.prog 37 #[.int .i64 z, .int .i64 8] (Sort.grow (redrawn W d') os) fun e w'' => e = .returned (.string ⟨(be 8 z.toNat).toArray⟩) ∧ ∃ p : Regrown, w'' = Sort.grow (redrawn W p.d) p.os := rnum_in z 8 W (by omega) (by omega) (by omega)
  have c1 : ∀ d' os, Calls Tryd.prog 37 #[.int .i64 o, .int .i64 1] (Sort.grow (redrawn W d') os) fun e w'' => e = .returned (.string ⟨(be 1 o.toNat).toArray⟩) ∧ ∃ p : Regrown, w'' = Sort.grow (redrawn W p.d) p.os := rnum_in o 1 W (by omega) (by omega) (by omega)
  have c2 : ∀ d' os, Calls Tryd.prog 37 #[.int .i64 s, .int .i64 4] (Sort.grow (redrawn W d') os) fun e w'' => e = .returned (.string ⟨(be 4 s.toNat).toArray⟩) ∧ ∃ p : Regrown, w'' = Sort.grow (redrawn W p.d) p.os := rnum_in s 4 W (by omega) (by omega) (by omega)
  have c3 : ∀ d' os, Calls Tryd.prog 37 #[.int .i64 v, .int .i64 4] (Sort.grow (redrawn W d') os) fun e w'' => e = .returned (.string ⟨(be 4 v.toNat).toArray⟩) ∧ ∃ p : Regrown, w'' = Sort.grow (redrawn W p.d) p.os := rnum_in v 4 W (by omega) (by omega) (by omega)
  have c4 : ∀ d' os, Calls Tryd.prog 37 #[.int .i64 u, .int .i64 4] (Sort.grow (redrawn W d') os) fun e w'' => e = .returned (.string ⟨(be 4 u.toNat).toArray⟩) ∧ ∃ p : Regrown, w'' = Sort.grow (redrawn W p.d) p.os := rnum_in u 4 W (by omega) (by omega) (by omega)
  have c5 : ∀ d' os, Calls Tryd.prog 37 #[.int .i64 (p.length : Nat), .int .i64 1] (Sort.grow (redrawn W d') os) fun e w'' => e = .returned (.string ⟨(be 1 p.length).toArray⟩) ∧ ∃ p : Regrown, w'' = Sort.grow (redrawn W p.d) p.os := rnum_in p.length 1 W (by omega) (by omega) (by omega)
  have c6 : ∀ d' os, Calls Tryd.prog 37 #[.int .i64 (d.length : Nat), .int .i64 2] (Sort.grow (redrawn W d') os) fun e w'' => e = .returned (.string ⟨(be 2 d.length).toArray⟩) ∧ ∃ p : Regrown, w'' = Sort.grow (redrawn W p.d) p.os := rnum_in d.length 2 W (by omega) (by omega) (by omega)
  have l0 := be_length 8 z.toNat
  have l1 := be_length 1 o.toNat
  have l2 := be_length 4 s.toNat
  have l3 := be_length 4 v.toNat
  have l4 := be_length 4 u.toNat
  have l5 := be_length 1 p.length
  have l6 := be_length 2 d.length
  obtain ⟨b0, e0⟩ : ∃ b, be 8 z.toNat = b := ⟨_, rfl⟩
  rw [e0] at c0 l0
  have E0 := hide e0
  clear e0
  obtain ⟨b1, e1⟩ : ∃ b, be 1 o.toNat = b := ⟨_, rfl⟩
  rw [e1] at c1 l1
  have E1 := hide e1
  clear e1
  obtain ⟨b2, e2⟩ : ∃ b, be 4 s.toNat = b := ⟨_, rfl⟩
  rw [e2] at c2 l2
  have E2 := hide e2
  clear e2
  obtain ⟨b3, e3⟩ : ∃ b, be 4 v.toNat = b := ⟨_, rfl⟩
  rw [e3] at c3 l3
  have E3 := hide e3
  clear e3
  obtain ⟨b4, e4⟩ : ∃ b, be 4 u.toNat = b := ⟨_, rfl⟩
  rw [e4] at c4 l4
  have E4 := hide e4
  clear e4
  obtain ⟨b5, e5⟩ : ∃ b, be 1 p.length = b := ⟨_, rfl⟩
  rw [e5] at c5 l5
  have E5 := hide e5
  clear e5
  obtain ⟨b6, e6⟩ : ∃ b, be 2 d.length = b := ⟨_, rfl⟩
  rw [e6] at c6 l6
  have E6 := hide e6
  clear e6
  refine wp_region_quiet_below (by kernel_rfl) (by kernel_rfl) ?_
  repeat (first | go_big_quiet_step (first | with_reducible exact c0 _ _ | with_reducible exact c1 _ _ | with_reducible exact c2 _ _ | with_reducible exact c3 _ _ | with_reducible exact c4 _ _ | with_reducible exact c5 _ _ | with_reducible exact c6 _ _) | quiet_step (first | with_reducible exact c0 _ _ | with_reducible exact c1 _ _ | with_reducible exact c2 _ _ | with_reducible exact c3 _ _ | with_reducible exact c4 _ _ | with_reducible exact c5 _ _ | with_reducible exact c6 _ _))
  refine wpQuiet_nil ?_
  intro _ hw'
  obtain ⟨⟨dq, osq⟩, hw''⟩ := hw'
  subst hw''
  have hb2 : Below w.heap.size w (Sort.grow (redrawn W dq) osq) := below_next hB (below_regrown W dq osq)
  clear c0 c1 c2 c3 c4 c5 c6 k0 k1 k2 k3 k4 k5 k6
  have hcat : (ByteArray.mk b0.toArray ++ ByteArray.mk b1.toArray ++ ByteArray.mk b2.toArray ++ ByteArray.mk b3.toArray ++ ByteArray.mk b4.toArray ++ ByteArray.mk b5.toArray ++ ByteArray.mk p.toArray ++ ByteArray.mk b6.toArray ++ ByteArray.mk d.toArray) = ⟨bb.toArray⟩ := by
    rw [cat_one, cat_one, cat_one, cat_one, cat_one, cat_one, cat_one, cat_one, ← unhide Hb]
    simp only [List.append_assoc, bodyL]
    rw [unhide E0, unhide E1, unhide E2, unhide E3, unhide E4, unhide E5, unhide E6]
  rw [hcat]
  clear hcat E0 E1 E2 E3 E4 E5 E6 l0 l1 l2 l3 l4 l5 l6 hB
  have hzb : (ByteArray.mk bb.toArray).size = bb.length := Lib.size_eq ⟨bb.toArray⟩
  go_wp2_with fail
  refine (bytesOf_any bb.length 2 _ (by omega) (by omega)).mono ?_
  rintro e w3 ⟨rfl, hb3⟩
  replace hb3 := below_next hb2 hb3
  clear hb2
  have l2 := be_length 2 bb.length
  obtain ⟨n2, e2⟩ : ∃ n2, be 2 bb.length = n2 := ⟨_, rfl⟩
  rw [e2] at l2 ⊢
  have E2 := hide e2
  clear e2
  go_wp2_with fail
  have hF : (ByteArray.mk #[84] ++ ByteArray.mk n2.toArray ++ ByteArray.mk bb.toArray) = ⟨(frontL bb).toArray⟩ := by
    rw [show (ByteArray.mk #[84]) = ⟨[(84 : UInt8)].toArray⟩ from rfl, cat_one, cat_one, frontL, unhide E2]
    rfl
  rw [hF]
  have lF := frontL_length bb
  obtain ⟨F, eF⟩ : ∃ F, frontL bb = F := ⟨_, rfl⟩
  rw [eF] at lF ⊢
  have EF := hide eF
  clear eF hF
  have hzF : (ByteArray.mk F.toArray).size = F.length := Lib.size_eq ⟨F.toArray⟩
  refine (rsum_any F _ (by omega)).mono ?_
  rintro e w4 ⟨rfl, hb4⟩
  replace hb4 := below_next hb3 hb4
  clear hb3
  have hsl := sumN_lt F
  obtain ⟨X, hX⟩ : ∃ X, sumN F = X := ⟨_, rfl⟩
  rw [hX] at hsl ⊢
  have HX := hide hX
  clear hX
  go_wp2_with fail
  refine (bytesOf_any X 4 _ (by omega) (by omega)).mono ?_
  rintro e w5 ⟨rfl, hb5⟩
  replace hb5 := below_next hb4 hb5
  clear hb4
  have l4 := be_length 4 X
  obtain ⟨n4, e4⟩ : ∃ n4, be 4 X = n4 := ⟨_, rfl⟩
  rw [e4] at l4 ⊢
  have E4 := hide e4
  clear e4
  go_wp2_with fail
  go_ret2
  refine ⟨ret_strI ?_ rfl, hb5⟩
  rw [cat_one, recL, unhide Hb, unhide EF, unhide HX, unhide E4]

end Go.Proofs.YtpoblkionpgljaaDoor
