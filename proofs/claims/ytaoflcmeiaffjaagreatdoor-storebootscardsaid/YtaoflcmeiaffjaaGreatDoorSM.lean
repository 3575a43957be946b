/-
  What store.Boot and aviaryref.Boot refuse: the walks.
  What aviaryref.Named answers, for every text: the walk.
  What aviaryref.GoodDisk and file answer: the walks.
  What aviaryref.Read, CopyDisk and SameDisk answer: the walks.
  What aviaryref.decimal answers: the walk.
  What aviaryref.GoodZxid answers, for every number: the walk.
  What aviaryref.GoodZxid, Epoch and Count answer, for every number: the walks.
  What aviaryref.Make, Next and Begin answer, for every number: the walks.
  What aviaryref.ReadZxid answers, for every text: the walk.
-/
import Derived.Test.YtaoflcmeiaffjaaGreatDoorSL
import Derived.Test.YtaoflcmeiaffjaaGreatDoorSC
import Derived.Lib.ConvBytes
import Derived.Lib.Strings
import Derived.Test.YtaoflcmeiaffjaaGreatDoorSH
import Derived.Laws.StructEq
import Derived.WalkSmall
import Derived.RegionTactic
namespace Go.Proofs.YtaoflcmeiaffjaaGreatDoor
open Go.RowKit

set_option maxRecDepth 10000 in
set_option maxHeartbeats 1000000 in
theorem sboot_low (v : Value) (fs : List DF) (id : Int) (w : World) (hv : DiskV w v fs) (hid : id < 0) :
    Calls Tryz.prog 7 #[.int .i64 id, .agg #[v]] w (GivesV w sv0 3) := by
  obtain ⟨a, n, c, rfl⟩ := disk_slice hv
  clear hv
  go_enter Tryz.func7, Tryz.ntmps7
  go_upto_region 1 with fail
  have X := hide (KBox.start w (.slice a n c))
  generalize (w.alloc (.cells #[.slice a n c] 24)).alloc (.cells #[.bool false, .slice none 0 0, .int .i64 0, .int .i64 0, .slice none 0 0, .int .i64 0, .int .i64 0, .slice none 0 0, .slice none 0 0, .slice none 0 0] 34) = W0 at *
  obtain ⟨r0, r1, r2, r3, r4, r5, r6, r7, r8, r9⟩ := (unhide X).r.cells
  have rf0 := (unhide X).r.froz 0
  have rf1 := (unhide X).r.froz 1
  have rf2 := (unhide X).r.froz 2
  have rf3 := (unhide X).r.froz 3
  have rf4 := (unhide X).r.froz 4
  have rf5 := (unhide X).r.froz 5
  have rf6 := (unhide X).r.froz 6
  have rf7 := (unhide X).r.froz 7
  have rf8 := (unhide X).r.froz 8
  have rf9 := (unhide X).r.froz 9
  go_wp2_with fail
  exact bodyPost_ret (v := .tuple #[.agg #[.bool false, .slice none 0 0, .int .i64 0, .int .i64 0, .slice none 0 0, .int .i64 0, .int .i64 0, .slice none 0 0, .slice none 0 0, .slice none 0 0], .int .i64 3]) (by simp [results, Tryz.results7, go_sem, r0, r1, r2, r3, r4, r5, r6, r7, r8, r9]) rfl (gives_zero rfl (unhide X).zero)

set_option maxRecDepth 10000 in
set_option maxHeartbeats 1000000 in
theorem sboot_high (v : Value) (fs : List DF) (id : Int) (w : World) (hv : DiskV w v fs) (hid : 3 ≤ id) :
    Calls Tryz.prog 7 #[.int .i64 id, .agg #[v]] w (GivesV w sv0 3) := by
  obtain ⟨a, n, c, rfl⟩ := disk_slice hv
  clear hv
  go_enter Tryz.func7, Tryz.ntmps7
  go_upto_region 1 with fail
  have X := hide (KBox.start w (.slice a n c))
  generalize (w.alloc (.cells #[.slice a n c] 24)).alloc (.cells #[.bool false, .slice none 0 0, .int .i64 0, .int .i64 0, .slice none 0 0, .int .i64 0, .int .i64 0, .slice none 0 0, .slice none 0 0, .slice none 0 0] 34) = W0 at *
  obtain ⟨r0, r1, r2, r3, r4, r5, r6, r7, r8, r9⟩ := (unhide X).r.cells
  have rf0 := (unhide X).r.froz 0
  have rf1 := (unhide X).r.froz 1
  have rf2 := (unhide X).r.froz 2
  have rf3 := (unhide X).r.froz 3
  have rf4 := (unhide X).r.froz 4
  have rf5 := (unhide X).r.froz 5
  have rf6 := (unhide X).r.froz 6
  have rf7 := (unhide X).r.froz 7
  have rf8 := (unhide X).r.froz 8
  have rf9 := (unhide X).r.froz 9
  go_wp2_with fail
  exact bodyPost_ret (v := .tuple #[.agg #[.bool false, .slice none 0 0, .int .i64 0, .int .i64 0, .slice none 0 0, .int .i64 0, .int .i64 0, .slice none 0 0, .slice none 0 0, .slice none 0 0], .int .i64 3]) (by simp [results, Tryz.results7, go_sem, r0, r1, r2, r3, r4, r5, r6, r7, r8, r9]) rfl (gives_zero rfl (unhide X).zero)

set_option maxRecDepth 10000 in
set_option maxHeartbeats 1000000 in
theorem sboot_err (v : Value) (fs d : List DF) (ts : List WTxn) (id E : Int) (w : World) (hv : DiskV w v fs) (h0 : 0 ≤ id) (h1 : id < 3) (hE : E ≠ 0) (G : GivesW 27 (fun x => #[x]) fs ts d E) :
    Calls Tryz.prog 7 #[.int .i64 id, .agg #[v]] w (GivesV w sv0 E) := by
  have hne : (E != 0) = true := by simpa using hE
  have HV := hide hv
  have HG := hide G
  obtain ⟨a, n, c, rfl⟩ := disk_slice hv
  clear hv G hE
  go_enter Tryz.func7, Tryz.ntmps7
  go_upto_region 2 with fail
  have X := hide (KBox.start w (.slice a n c))
  generalize (w.alloc (.cells #[.slice a n c] 24)).alloc (.cells #[.bool false, .slice none 0 0, .int .i64 0, .int .i64 0, .slice none 0 0, .int .i64 0, .int .i64 0, .slice none 0 0, .slice none 0 0, .slice none 0 0] 34) = W0 at *
  go_wp2_with fail
  refine (unhide HG _ _ ((unhide HV).next (unhide X).below)).mono ?_
  rintro e w1 ⟨al, kl, cl, a1, n1, c1, rfl, _, _, hb1⟩
  have X1 := hide (((unhide X).next hb1).next (allocB w1 (.cells #[.slice a1 n1 c1] 24)))
  clear hb1 X HG
  go_upto_region 5 with fail
  generalize w1.alloc (.cells #[.slice a1 n1 c1] 24) = W1 at *
  obtain ⟨r0, r1, r2, r3, r4, r5, r6, r7, r8, r9⟩ := (unhide X1).r.cells
  have rf0 := (unhide X1).r.froz 0
  have rf1 := (unhide X1).r.froz 1
  have rf2 := (unhide X1).r.froz 2
  have rf3 := (unhide X1).r.froz 3
  have rf4 := (unhide X1).r.froz 4
  have rf5 := (unhide X1).r.froz 5
  have rf6 := (unhide X1).r.froz 6
  have rf7 := (unhide X1).r.froz 7
  have rf8 := (unhide X1).r.froz 8
  have rf9 := (unhide X1).r.froz 9
  go_wp2_with fail
  exact bodyPost_ret (v := .tuple #[.agg #[.bool false, .slice none 0 0, .int .i64 0, .int .i64 0, .slice none 0 0, .int .i64 0, .int .i64 0, .slice none 0 0, .slice none 0 0, .slice none 0 0], .int .i64 E]) (by simp [results, Tryz.results7, go_sem, r0, r1, r2, r3, r4, r5, r6, r7, r8, r9]) rfl (gives_zero rfl (unhide X1).zero)

set_option maxRecDepth 10000 in
set_option maxHeartbeats 1000000 in
theorem rboot_low (v : Value) (fs : List DF) (id : Int) (w : World) (hv : DiskV w v fs) (hid : id < 0) :
    Calls Tryz.prog 9 #[.int .i64 id, .agg #[v]] w (GivesV w sv0 3) := by
  obtain ⟨a, n, c, rfl⟩ := disk_slice hv
  clear hv
  go_enter Tryz.func9, Tryz.ntmps9
  go_upto_region 1 with fail
  have X := hide (KBox.start w (.slice a n c))
  generalize (w.alloc (.cells #[.slice a n c] 24)).alloc (.cells #[.bool false, .slice none 0 0, .int .i64 0, .int .i64 0, .slice none 0 0, .int .i64 0, .int .i64 0, .slice none 0 0, .slice none 0 0, .slice none 0 0] 34) = W0 at *
  obtain ⟨r0, r1, r2, r3, r4, r5, r6, r7, r8, r9⟩ := (unhide X).r.cells
  have rf0 := (unhide X).r.froz 0
  have rf1 := (unhide X).r.froz 1
  have rf2 := (unhide X).r.froz 2
  have rf3 := (unhide X).r.froz 3
  have rf4 := (unhide X).r.froz 4
  have rf5 := (unhide X).r.froz 5
  have rf6 := (unhide X).r.froz 6
  have rf7 := (unhide X).r.froz 7
  have rf8 := (unhide X).r.froz 8
  have rf9 := (unhide X).r.froz 9
  go_wp2_with fail
  exact bodyPost_ret (v := .tuple #[.agg #[.bool false, .slice none 0 0, .int .i64 0, .int .i64 0, .slice none 0 0, .int .i64 0, .int .i64 0, .slice none 0 0, .slice none 0 0, .slice none 0 0], .int .i64 3]) (by simp [results, Tryz.results9, go_sem, r0, r1, r2, r3, r4, r5, r6, r7, r8, r9]) rfl (gives_zero rfl (unhide X).zero)

set_option maxRecDepth 10000 in
set_option maxHeartbeats 1000000 in
theorem rboot_high (v : Value) (fs : List DF) (id : Int) (w : World) (hv : DiskV w v fs) (hid : 3 ≤ id) :
    Calls Tryz.prog 9 #[.int .i64 id, .agg #[v]] w (GivesV w sv0 3) := by
  obtain ⟨a, n, c, rfl⟩ := disk_slice hv
  clear hv
  go_enter Tryz.func9, Tryz.ntmps9
  go_upto_region 1 with fail
  have X := hide (KBox.start w (.slice a n c))
  generalize (w.alloc (.cells #[.slice a n c] 24)).alloc (.cells #[.bool false, .slice none 0 0, .int .i64 0, .int .i64 0, .slice none 0 0, .int .i64 0, .int .i64 0, .slice none 0 0, .slice none 0 0, .slice none 0 0] 34) = W0 at *
  obtain ⟨r0, r1, r2, r3, r4, r5, r6, r7, r8, r9⟩ := (unhide X).r.cells
  have rf0 := (unhide X).r.froz 0
  have rf1 := (unhide X).r.froz 1
  have rf2 := (unhide X).r.froz 2
  have rf3 := (unhide X).r.froz 3
  have rf4 := (unhide X).r.froz 4
  have rf5 := (unhide X).r.froz 5
  have rf6 := (unhide X).r.froz 6
  have rf7 := (unhide X).r.froz 7
  have rf8 := (unhide X).r.froz 8
  have rf9 := (unhide X).r.froz 9
  go_wp2_with fail
  exact bodyPost_ret (v := .tuple #[.agg #[.bool false, .slice none 0 0, .int .i64 0, .int .i64 0, .slice none 0 0, .int .i64 0, .int .i64 0, .slice none 0 0, .slice none 0 0, .slice none 0 0], .int .i64 3]) (by simp [results, Tryz.results9, go_sem, r0, r1, r2, r3, r4, r5, r6, r7, r8, r9]) rfl (gives_zero rfl (unhide X).zero)

set_option maxRecDepth 10000 in
set_option maxHeartbeats 1000000 in
theorem rboot_err (v : Value) (fs d : List DF) (ts : List WTxn) (id E : Int) (w : World) (hv : DiskV w v fs) (h0 : 0 ≤ id) (h1 : id < 3) (hE : E ≠ 0) (G : GivesW 29 (fun x => #[x]) fs ts d E) :
    Calls Tryz.prog 9 #[.int .i64 id, .agg #[v]] w (GivesV w sv0 E) := by
  have hne : (E != 0) = true := by simpa using hE
  have HV := hide hv
  have HG := hide G
  obtain ⟨a, n, c, rfl⟩ := disk_slice hv
  clear hv G hE
  go_enter Tryz.func9, Tryz.ntmps9
  go_upto_region 2 with fail
  have X := hide (KBox.start w (.slice a n c))
  generalize (w.alloc (.cells #[.slice a n c] 24)).alloc (.cells #[.bool false, .slice none 0 0, .int .i64 0, .int .i64 0, .slice none 0 0, .int .i64 0, .int .i64 0, .slice none 0 0, .slice none 0 0, .slice none 0 0] 34) = W0 at *
  go_wp2_with fail
  refine (unhide HG _ _ ((unhide HV).next (unhide X).below)).mono ?_
  rintro e w1 ⟨al, kl, cl, a1, n1, c1, rfl, _, _, hb1⟩
  have X1 := hide (((unhide X).next hb1).next (allocB w1 (.cells #[.slice a1 n1 c1] 24)))
  clear hb1 X HG
  go_upto_region 5 with fail
  generalize w1.alloc (.cells #[.slice a1 n1 c1] 24) = W1 at *
  obtain ⟨r0, r1, r2, r3, r4, r5, r6, r7, r8, r9⟩ := (unhide X1).r.cells
  have rf0 := (unhide X1).r.froz 0
  have rf1 := (unhide X1).r.froz 1
  have rf2 := (unhide X1).r.froz 2
  have rf3 := (unhide X1).r.froz 3
  have rf4 := (unhide X1).r.froz 4
  have rf5 := (unhide X1).r.froz 5
  have rf6 := (unhide X1).r.froz 6
  have rf7 := (unhide X1).r.froz 7
  have rf8 := (unhide X1).r.froz 8
  have rf9 := (unhide X1).r.froz 9
  go_wp2_with fail
  exact bodyPost_ret (v := .tuple #[.agg #[.bool false, .slice none 0 0, .int .i64 0, .int .i64 0, .slice none 0 0, .int .i64 0, .int .i64 0, .slice none 0 0, .slice none 0 0, .slice none 0 0], .int .i64 E]) (by simp [results, Tryz.results9, go_sem, r0, r1, r2, r3, r4, r5, r6, r7, r8, r9]) rfl (gives_zero rfl (unhide X1).zero)

end Go.Proofs.YtaoflcmeiaffjaaGreatDoor

namespace Go.Proofs.YtaoflcmeiaffjaaGreatDoor
open Go.RowKit

def okL : List UInt8 := [97, 98, 99, 100, 101, 102, 103, 104, 105, 106, 107, 108, 109, 110, 111, 112, 113, 114, 115, 116, 117, 118, 119, 120, 121, 122, 48, 49, 50, 51, 52, 53, 54, 55, 56, 57, 45, 95]
theorem ok_fin : ∀ n : Fin 256, okL.any (fun d => d == UInt8.ofNat n.val) = letterB (UInt8.ofNat n.val) := by decide +kernel
theorem ok_letter (c : UInt8) : okL.any (fun d => d == c) = letterB c := by
  have h := ok_fin ⟨c.toNat, c.toNat_lt⟩
  rwa [show UInt8.ofNat (⟨c.toNat, c.toNat_lt⟩ : Fin 256).val = c from by simp] at h

theorem any_take_succ (l : List UInt8) (j : Nat) (h : j < l.length) (c : UInt8) : (l.take (j + 1)).any (fun d => d == c) = ((l.take j).any (fun d => d == c) || l[j] == c) := by
  rw [List.take_succ_eq_append_getElem h, List.any_append]; simp

theorem val_bool {a b : Bool} (h : a = b) : Value.bool a = .bool b := by rw [h]
theorem u8_beq (c d : UInt8) : ((c.toNat : Int) == (d.toNat : Int)) = (d == c) := by
  rw [Bool.eq_iff_iff, beq_iff_eq, beq_iff_eq]
  constructor
  · intro h; exact (UInt8.toNat_inj.1 (by omega)).symm
  · rintro rfl; rfl
theorem ok_all (c : UInt8) : (okL.take 38).any (fun d => d == c) = okL.any (fun d => d == c) := rfl
theorem namedB_all {l : List UInt8} (h : l.all letterB = true) : namedB l = (decide (1 ≤ l.length) && decide (l.length ≤ 40)) := by
  rw [namedB, h, Bool.and_true]
theorem nm_true {n : Nat} (h : 0 < n) (h1 : n ≤ 40) : (decide (1 ≤ n) && decide (n ≤ 40)) = true := by
  rw [decide_eq_true (show 1 ≤ n from h), decide_eq_true h1]; rfl
theorem nm_long {n : Nat} (h1 : ¬ n ≤ 40) : (decide (1 ≤ n) && decide (n ≤ 40)) = false := by
  rw [decide_eq_false h1, Bool.and_false]
theorem nm_none {n : Nat} (h : ¬ 0 < n) : (decide (1 ≤ n) && decide (n ≤ 40)) = false := by
  rw [decide_eq_false (show ¬ 1 ≤ n from h), Bool.false_and]
theorem bytes_below (w : World) (e : TypeId) (s : ByteArray) : Below w.heap.size w (Lib.bytesWorld w e s) :=
  ⟨rfl, rfl, rfl, by rw [Lib.bytesWorld_size]; omega, fun k hk => Lib.bytesWorld_at_old w e s k hk⟩
theorem bytes_cell (w : World) (e : TypeId) (s : ByteArray) (l : List UInt8) (h : s.data.toList = l) (j : Nat) (hj : j < l.length) : (Lib.bytesWorld w e s).cell? ⟨w.heap.size, j, none⟩ = some (.int .u8 (l[j].toNat : Int)) := by
  subst h
  rw [Lib.bytesWorld_cell _ _ _ _ (by rw [Lib.size_eq]; exact hj), List.getD_eq_getElem?_getD, List.getElem?_eq_getElem hj]; rfl
theorem all_take_next {l : List UInt8} {k : Nat} (h : k < l.length) (p : UInt8 → Bool) (h1 : (l.take k).all p = true) (h2 : p l[k] = true) : (l.take (k + 1)).all p = true := by
  rw [List.take_succ_eq_append_getElem h, List.all_append, h1]; simpa using h2
theorem named_of_not {l : List UInt8} {k : Nat} (h : k < l.length) (h2 : letterB l[k] = false) : namedB l = false := by
  have : l.all letterB = false := by
    rw [List.all_eq_false]
    exact ⟨l[k], List.getElem_mem h, by simp [h2]⟩
  rw [namedB, this, Bool.and_false]

set_option maxRecDepth 10000 in
set_option maxHeartbeats 1000000 in
theorem refNamed_any (l : List UInt8) (w : World) (hl : l.length ≤ 140737488355328) :
    Calls Tryz.prog 89 #[.string ⟨l.toArray⟩] w fun e w' => e = .returned (.bool (namedB l)) ∧ Below w.heap.size w w' := by
  have hz : (ByteArray.mk l.toArray).size = l.length := Lib.size_eq ⟨l.toArray⟩
  have hconv : ∀ W s, (convert 9 122 (.string s)).run Tryz.prog W = .ok (.slice (some ⟨W.heap.size, 0, none⟩) s.size (grownCap W s.size 0 5)) (Lib.bytesWorld W 5 s) := fun W s =>
    Lib.run_convert_string_bytes W 9 122 5 s Tryz.underlying9 Tryz.underlying122 Tryz.underlying5
  go_enter Tryz.func89, Tryz.ntmps89
  go_wp2
  generalize hOK : (ByteArray.mk #[97, 98, 99, 100, 101, 102, 103, 104, 105, 106, 107, 108, 109, 110, 111, 112, 113, 114, 115, 116, 117, 118, 119, 120, 121, 122, 48, 49, 50, 51, 52, 53, 54, 55, 56, 57, 45, 95]) = OK
  have HOK : Hid (OK.data.toList = okL) := hide (by rw [← hOK]; rfl)
  have hOs : OK.size = 38 := by rw [← hOK]; rfl
  clear hOK
  generalize hW1 : Lib.bytesWorld w 5 ⟨l.toArray⟩ = W1
  have hs1 : W1.heap.size = w.heap.size + 1 := by rw [← hW1]; exact Lib.bytesWorld_size _ _ _
  have Hcell : Hid (∀ j (hj : j < l.length), W1.cell? ⟨w.heap.size, j, none⟩ = some (.int .u8 (l[j].toNat : Int))) := hide (fun j hj => by
    rw [← hW1]; exact bytes_cell w 5 ⟨l.toArray⟩ l rfl j hj)
  have hB1 : Below w.heap.size w W1 := by rw [← hW1]; exact bytes_below _ _ _
  clear hW1
  go_loopw [12] (fun i wr => ∃ k : Nat, k ≤ l.length ∧ i = .int .i64 k ∧ (l.take k).all letterB = true ∧ Below (w.heap.size + 1) W1 wr) (fun i _ => l.length - (intOf i).toNat)
  case atStart => exact ⟨0, Nat.zero_le _, rfl, by simp, Below.refl _ _⟩
  case round =>
    obtain ⟨k, hk, rfl, hall, hBr⟩ := hrel
    have Hall := hide hall
    clear hall
    by_cases hlt : k < l.length
    · have hc : wr.cell? ⟨w.heap.size, k, none⟩ = some (.int .u8 (l[k].toNat : Int)) := (hBr.cell (p := ⟨w.heap.size, k, none⟩) (by simp)).trans (unhide Hcell k hlt)
      generalize hcc : l[k] = c at hc
      have Hcc := hide hcc
      clear hcc
      have hcb := c.toNat_lt
      go_wp2
      generalize hW2 : Lib.bytesWorld wr 5 OK = W2
      have HW2 : Hid (∀ j (hj : j < okL.length), W2.cell? ⟨wr.heap.size, j, none⟩ = some (.int .u8 (okL[j].toNat : Int))) := hide (fun j hj => by
        rw [← hW2]; exact bytes_cell wr 5 OK okL (unhide HOK) j hj)
      have hB2 : Below (w.heap.size + 1) W1 W2 := by
        rw [← hW2]; exact hBr.trans ((bytes_below wr 5 OK).mono (by have := hBr.size; omega))
      clear hW2
      go_loop [6, 19] (fun t i => ∃ j : Nat, j ≤ 38 ∧ i = .int .i64 j ∧ t = .bool ((okL.take j).any (fun d => d == c))) (fun _ i => 38 - (intOf i).toNat)
      case atStart => exact ⟨0, Nat.zero_le _, rfl, by simp⟩
      case round =>
        obtain ⟨j, hj, rfl, rfl⟩ := hrel
        by_cases hjl : j < 38
        · have hd : W2.cell? ⟨wr.heap.size, j, none⟩ = some (.int .u8 ((okL[j]'hjl).toNat : Int)) := unhide HW2 j hjl
          have HS := hide (any_take_succ okL j hjl c)
          generalize hdd : okL[j]'hjl = d at hd
          have Hdd := hide hdd
          clear hdd
          cases hin : (okL.take j).any (fun d => d == c)
          · have Hin := hide hin
            clear hin
            go_wp2
            exact ⟨⟨j + 1, by omega, by go_num, val_bool (by rw [unhide HS, unhide Hin, unhide Hdd, Bool.false_or]; exact u8_beq c d)⟩, by simp [intOf]; omega⟩
          · have Hin := hide hin
            clear hin
            go_wp2
            exact ⟨⟨j + 1, by omega, by go_num, val_bool (by rw [unhide HS, unhide Hin, Bool.true_or])⟩, by simp [intOf]; omega⟩
        · have hj38 : j = 38 := by omega
          subst hj38
          rw [ok_all, ok_letter c]
          cases hlc : letterB c
          · have Hlc := hide hlc
            clear hlc
            go_wp2
            go_ret
            exact ⟨ret_bool (named_of_not hlt (by rw [unhide Hcc]; exact unhide Hlc)).symm, hB1.trans (hB2.mono (by omega))⟩
          · have Hlc := hide hlc
            clear hlc
            go_wp2
            exact ⟨⟨k + 1, by omega, by go_num, all_take_next hlt letterB (unhide Hall) (by rw [unhide Hcc]; exact unhide Hlc), hB2⟩, by simp [intOf]; omega⟩
    · have hke : k = l.length := by omega
      subst hke
      have hall' : l.all letterB = true := by
        have := unhide Hall
        rwa [List.take_length] at this
      have Hn := hide (namedB_all hall')
      clear hall' Hall
      have hfin : Below w.heap.size w wr := hB1.trans (hBr.mono (by omega))
      by_cases h0 : 0 < l.length
      · by_cases h40 : l.length ≤ 40
        · go_wp2
          go_ret
          exact ⟨ret_bool (by rw [unhide Hn]; first | exact (nm_true h0 h40).symm | exact (decide_eq_true (by omega)).trans (nm_true h0 h40).symm), hfin⟩
        · go_wp2
          go_ret
          exact ⟨ret_bool (by rw [unhide Hn]; first | exact (nm_long h40).symm | exact (decide_eq_false (by omega)).trans (nm_long h40).symm), hfin⟩
      · go_wp2
        go_ret
        exact ⟨ret_bool (by rw [unhide Hn]; first | exact (nm_none h0).symm | exact (decide_eq_false (by omega)).trans (nm_none h0).symm), hfin⟩

end Go.Proofs.YtaoflcmeiaffjaaGreatDoor

namespace Go.Proofs.YtaoflcmeiaffjaaGreatDoor
open Go.RowKit
set_option maxRecDepth 10000 in

set_option maxHeartbeats 2000000 in
theorem rgood_some (b off cap : Nat) (fs : List DF) (w : World) (hs : Slim fs) (hl : fs.length ≤ 140737488355328) (hb : b < w.heap.size) (h : RowAt w b off (cellsF fs)) :
    Calls Tryz.prog 88 #[.agg #[.slice (some ⟨b, off, none⟩) fs.length cap]] w fun e w' => e = .returned (.bool (goodD fs)) ∧ Below w.heap.size w w' := by
  have H := hide h
  have HS := hide hs
  have NO := hide (fun (k : Nat) (f : DF) => @bad_file fs k f)
  have NR := hide (fun (k : Nat) (f g : DF) => @bad_order fs k f g)
  have YES := hide (fun h => @good_of_okTo fs h)
  have LONG := hide (@bad_len fs)
  have Z := hide (okTo_zero fs)
  have SU := hide (fun (k : Nat) (f : DF) (h : OkTo fs k) => okTo_succ (f := f) h)
  have hb0 : b ≠ w.heap.size := by omega
  clear h hs
  generalize goodD fs = G at NO NR YES LONG ⊢
  go_enter Tryz.func88, Tryz.ntmps88
  go_wp2_with fail
  go_loopg [8] fs.length (fun kx s12 wr => ∃ k : Nat, s12 = .int .i64 k ∧ k ≤ fs.length ∧ fs.length - k ≤ kx ∧ Hid (Below w.heap.size w wr ∧ w.heap.size < wr.heap.size ∧ wr.cell? ⟨w.heap.size, 0, none⟩ = some (.slice (some ⟨b, off, none⟩) fs.length cap)) ∧ Hid (OkTo fs k))
  case atStart => exact ⟨0, rfl, Nat.zero_le _, by omega, hide ⟨(Below.refl _ _).alloc (Nat.le_refl _) _, by simp, by simp⟩, Z⟩
  case round =>
    obtain ⟨k, rfl, hk, hg, hB, hO⟩ := hrel
    by_cases hlt : k < fs.length
    · obtain ⟨f, hf⟩ : ∃ f, fs[k]? = some f := ⟨_, List.getElem?_eq_getElem hlt⟩
      have HF := hide hf
      have r := (unhide H).kept (unhide hB).1 hb
      have e0 := r.c0 hf
      have e1 := r.c1 hf
      have e2 := r.c2 hf
      have hsl := unhide HS f (List.mem_of_getElem? hf)
      have hbw : b < wr.heap.size := Nat.lt_of_lt_of_le hb (unhide hB).1.size
      have h00 := (unhide hB).2.2
      clear hf r
      obtain ⟨W1, hW1⟩ : ∃ W1, W1 = wr.alloc (.cells #[.string ⟨f.n.toArray⟩, .string ⟨f.s.toArray⟩, .string ⟨f.t.toArray⟩] 72) := ⟨_, rfl⟩
      have hBa : Below wr.heap.size wr W1 := by rw [hW1]; exact (Below.refl _ _).alloc (Nat.le_refl _) _
      have hBw : Below w.heap.size w W1 := dbelow_next (unhide hB).1 hBa
      have hz1 : w.heap.size < W1.heap.size := Nat.lt_of_lt_of_le (unhide hB).2.1 hBa.size
      have h01 : W1.cell? ⟨w.heap.size, 0, none⟩ = some (.slice (some ⟨b, off, none⟩) fs.length cap) := by rw [hBa.cell (p := ⟨w.heap.size, 0, none⟩) (unhide hB).2.1]; exact h00
      have b0 : W1.cell? ⟨wr.heap.size, 0, none⟩ = some (.string ⟨f.n.toArray⟩) := by rw [hW1]; simp
      have b1 : W1.cell? ⟨wr.heap.size, 1, none⟩ = some (.string ⟨f.s.toArray⟩) := by rw [hW1]; simp
      have b2 : W1.cell? ⟨wr.heap.size, 2, none⟩ = some (.string ⟨f.t.toArray⟩) := by rw [hW1]; simp
      have hzb : wr.heap.size < W1.heap.size := by rw [hW1]; simp
      have HF1 : Hid (Below w.heap.size w W1 ∧ w.heap.size < W1.heap.size ∧ wr.heap.size < W1.heap.size) := ⟨hBw, hz1, hzb⟩
      have CN := fun W => refNamed_any f.n W hsl.1
      have HL := hide hsl
      have hsum : ¬ 9223372036854775807 < f.s.length + f.t.length := by omega
      have hW1' := hide hW1
      have HE := hide (And.intro h01 (And.intro b0 (And.intro b1 b2)))
      clear hBa hBw hz1 hzb h00 hsl
      go_wp2_with fail
      rw [← hW1]
      clear hW1 e0 e1 e2
      refine (CN _).mono ?_
      rintro e w1 ⟨rfl, hb1⟩
      have hB1 := dbelow_next (unhide HF1).1 hb1
      have hlt1 : w.heap.size < w1.heap.size := Nat.lt_of_lt_of_le (unhide HF1).2.1 hb1.size
      have g0 : w1.cell? ⟨w.heap.size, 0, none⟩ = some (.slice (some ⟨b, off, none⟩) fs.length cap) := (hb1.cell (p := ⟨w.heap.size, 0, none⟩) (unhide HF1).2.1).trans (unhide HE).1
      have g1 : w1.cell? ⟨wr.heap.size, 0, none⟩ = some (.string ⟨f.n.toArray⟩) := (hb1.cell (p := ⟨wr.heap.size, 0, none⟩) (unhide HF1).2.2).trans (unhide HE).2.1
      have g2 : w1.cell? ⟨wr.heap.size, 1, none⟩ = some (.string ⟨f.s.toArray⟩) := (hb1.cell (p := ⟨wr.heap.size, 1, none⟩) (unhide HF1).2.2).trans (unhide HE).2.2.1
      have g3 : w1.cell? ⟨wr.heap.size, 2, none⟩ = some (.string ⟨f.t.toArray⟩) := (hb1.cell (p := ⟨wr.heap.size, 2, none⟩) (unhide HF1).2.2).trans (unhide HE).2.2.2
      have HB1 := hide hB1
      clear CN hb1 hB1 h01 b0 b1 b2 HE HF1 hW1'
      cases hn : namedB f.n with
      | false =>
        have HN := hide hn
        clear hn
        go_wp2_with fail
        go_ret
        exact ⟨ret_bool (unhide NO k f (unhide HF) (fileOk_short (unhide HN))).symm, unhide HB1⟩
      | true =>
        have HN := hide hn
        clear hn
        by_cases hbig : f.s.length + f.t.length ≤ 1048576
        · have hok := fileOk_yes (unhide HN) hbig
          have hbi : ¬ ((1048576 : Int) < (f.s.length : Int) + (f.t.length : Int)) := by omega
          rcases Nat.eq_zero_or_pos k with hk0 | hk0
          · subst hk0
            have OK2 := hide (unhide SU 0 f (unhide hO) (unhide HF) hok (fun g h => absurd h (Nat.lt_irrefl 0)))
            go_wp2_with fail
            go_region
            go_wp2_with fail
            go_roundg (fs.length - 1)
            case measure => omega
            case rel => exact ⟨1, rfl, by omega, Nat.le_refl _, hide ⟨(unhide HB1).drew, hlt1, g0⟩, OK2⟩
          · obtain ⟨m, rfl⟩ : ∃ m, k = m + 1 := ⟨k - 1, by omega⟩
            obtain ⟨g, hg⟩ : ∃ g, fs[m]? = some g := ⟨_, List.getElem?_eq_getElem (by omega)⟩
            have r := (unhide H).kept (unhide HB1) hb
            have e0 := r.c0 hg
            have HG := hide hg
            clear r hg
            have hm1 : (m : Int) < (fs.length : Int) := by omega
            cases hbl : bl g.n f.n with
            | true =>
              have OK2 := hide (unhide SU (m + 1) f (unhide hO) (unhide HF) hok (fun g' _ h => by
                rw [Nat.add_sub_cancel, unhide HG] at h
                cases h
                exact hbl))
              have hbl' : Op.bytesLess g.n f.n = true := hbl
              clear hbl
              go_wp2_with fail
              go_region
              go_wp2_with fail
              go_roundg (fs.length - (m + 1 + 1))
              case measure => omega
              case rel => exact ⟨m + 1 + 1, rfl, by omega, Nat.le_refl _, hide ⟨(unhide HB1).drew, hlt1, g0⟩, OK2⟩
            | false =>
              have hbl' : Op.bytesLess g.n f.n = false := hbl
              have HGF := hide (unhide NR (m + 1) f g (unhide HF) (by simpa using unhide HG) (by omega) hbl).symm
              clear hbl
              go_wp2_with fail
              go_region
              go_wp2_with fail
              go_ret
              exact ⟨ret_bool (unhide HGF), (unhide HB1).drew⟩
        · have hbi : (1048576 : Int) < (f.s.length : Int) + (f.t.length : Int) := by omega
          go_wp2_with fail
          go_ret
          exact ⟨ret_bool (unhide NO k f (unhide HF) (fileOk_long (by omega))).symm, unhide HB1⟩
    · have hkk : k = fs.length := by omega
      subst hkk
      have h00 := (unhide hB).2.2
      by_cases h16 : fs.length ≤ 16
      · have h16i : (fs.length : Int) ≤ 16 := by omega
        go_wp2_with fail
        go_ret
        exact ⟨ret_bool (by rw [unhide YES h16 (unhide hO)]), (unhide hB).1⟩
      · have h16i : ¬ ((fs.length : Int) ≤ 16) := by omega
        go_wp2_with fail
        go_ret
        exact ⟨ret_bool (by rw [unhide LONG (by omega)]), (unhide hB).1⟩

set_option maxRecDepth 10000 in
set_option maxHeartbeats 1000000 in
theorem rgood_none (a : Option Addr) (cap : Nat) (w : World) :
    Calls Tryz.prog 88 #[.agg #[.slice a 0 cap]] w fun e w' => e = .returned (.bool true) ∧ Below w.heap.size w w' := by
  go_enter Tryz.func88, Tryz.ntmps88
  go_wp2_with fail
  go_loopg [8] 1 (fun _ s wr => s = .int .i64 0 ∧ wr = w.alloc (.cells #[.slice a 0 cap] 24))
  case atStart => exact ⟨rfl, rfl⟩
  case round =>
    obtain ⟨rfl, rfl⟩ := hrel
    go_wp2_with fail
    go_ret
    exact ⟨rfl, (Below.refl _ _).alloc (Nat.le_refl _) _⟩
theorem rdgood_any (v : Value) (fs : List DF) (w : World) (hv : DiskV w v fs) (hs : Slim fs) (hl : fs.length ≤ 140737488355328) :
    Calls Tryz.prog 88 #[.agg #[v]] w fun e w' => e = .returned (.bool (goodD fs)) ∧ Below w.heap.size w w' := by
  rcases hv with ⟨a, cap, rfl, rfl, _⟩ | ⟨b, off, cap, rfl, _, _, hb, _, hr⟩
  · rw [goodD_nil]; exact rgood_none a cap w
  · exact rgood_some b off cap fs w hs hl hb hr

/- aviaryref.file -/
/-- where the first file of this name stands -/
def posI (A R : List DF) : Int := match R with
  | [] => -1
  | _ :: _ => (A.length : Int)
set_option maxRecDepth 10000 in
set_option maxHeartbeats 1000000 in
theorem rfile_split (v : Value) (fs A R : List DF) (name : List UInt8) (w : World) (hv : DiskV w v fs) (hl : fs.length ≤ 16) (he : fs = A ++ R) (lo : ∀ a ∈ A, a.n ≠ name) (hi : ∀ f B, R = f :: B → f.n = name) :
    Calls Tryz.prog 90 #[.agg #[v], .string ⟨name.toArray⟩] w fun e w' => e = .returned (.int .i64 (posI A R)) ∧ Below w.heap.size w w' := by
  obtain ⟨a, c, rfl, hrow⟩ : ∃ a c, v = .slice a fs.length c ∧ (0 < fs.length → ∃ b off, a = some ⟨b, off, none⟩ ∧ b < w.heap.size ∧ RowAt w b off (cellsF fs)) := by
    rcases hv with ⟨a, cap, rfl, rfl, _⟩ | ⟨b, off, cap, rfl, _, _, hb, _, hr⟩
    · exact ⟨a, cap, rfl, fun h => by simp at h⟩
    · exact ⟨_, cap, rfl, fun _ => ⟨b, off, rfl, hb, hr⟩⟩
  have HR := hide hrow
  have HE := hide he
  have LO := hide lo
  have HI := hide hi
  have hal : A.length ≤ fs.length := by rw [he]; simp
  clear hv hrow he lo hi
  go_enter Tryz.func90, Tryz.ntmps90
  go_wp2_with fail
  go_loopg [10] fs.length (fun kx s wr => ∃ k : Nat, s = .int .i64 k ∧ k ≤ A.length ∧ fs.length - k ≤ kx ∧ Hid (Below w.heap.size w wr))
  case atStart => exact ⟨0, rfl, Nat.zero_le _, by omega, hide ((Below.refl _ _).alloc (Nat.le_refl _) _)⟩
  case round =>
    obtain ⟨k, rfl, hk, hkx, hB⟩ := hrel
    by_cases hlt : k < fs.length
    · obtain ⟨b, off, rfl, hb, hr⟩ := unhide HR (by omega)
      obtain ⟨f, hf⟩ : ∃ f, fs[k]? = some f := ⟨_, List.getElem?_eq_getElem hlt⟩
      have r := hr.kept (unhide hB) hb
      have e0 := r.c0 hf
      have e1 := r.c1 hf
      have e2 := r.c2 hf
      have hbw : b < wr.heap.size := Nat.lt_of_lt_of_le hb (unhide hB).size
      have hlti : (k : Int) < (fs.length : Int) := by omega
      have hal2 := (unhide hB).alloc (unhide hB).size (.cells #[.string ⟨f.n.toArray⟩, .string ⟨f.s.toArray⟩, .string ⟨f.t.toArray⟩] 72)
      have HAL := hide hal2
      have HF := hide hf
      clear r hr hf hal2
      by_cases hka : k < A.length
      · have hn : (f.n == name) = false := by
          have hf := unhide HF
          rw [unhide HE, List.getElem?_append_left hka] at hf
          simpa using unhide LO f (List.mem_of_getElem? hf)
        go_wp2_with fail
        go_roundg (fs.length - (k + 1))
        case measure => omega
        case rel => exact ⟨k + 1, rfl, by omega, Nat.le_refl _, HAL⟩
      · obtain rfl : k = A.length := by omega
        have hR : ∃ B, R = f :: B := by
          have hf := unhide HF
          rw [unhide HE, List.getElem?_append_right (Nat.le_refl _), Nat.sub_self] at hf
          cases R with
          | nil => simp at hf
          | cons x B => simp at hf; exact ⟨B, by rw [hf]⟩
        obtain ⟨B, rfl⟩ := hR
        have hn : f.n = name := unhide HI f B rfl
        rw [hn] at e0 HAL
        clear hn
        go_wp2_with fail
        go_ret
        exact ⟨rfl, unhide HAL⟩
    · have hki : ¬ ((k : Int) < (fs.length : Int)) := by omega
      have hR : R = [] := by
        have : fs.length = A.length + R.length := by rw [unhide HE]; simp
        exact List.eq_nil_of_length_eq_zero (by omega)
      subst hR
      go_wp2_with fail
      go_ret
      exact ⟨rfl, unhide hB⟩
theorem rfile_there (v : Value) (fs A B : List DF) (f : DF) (name : List UInt8) (w : World) (hv : DiskV w v fs) (hl : fs.length ≤ 16) (T : There fs A f B name) :
    Calls Tryz.prog 90 #[.agg #[v], .string ⟨name.toArray⟩] w fun e w' => e = .returned (.int .i64 (A.length : Int)) ∧ Below w.heap.size w w' :=
  rfile_split v fs A (f :: B) name w hv hl T.eq (fun a ha => bl_ne (T.lo a ha)) (fun f' B' h => by cases h; exact T.nm)
theorem rfile_gap (v : Value) (fs A B : List DF) (name : List UInt8) (w : World) (hv : DiskV w v fs) (hl : fs.length ≤ 16) (G : Gap fs A B name) :
    Calls Tryz.prog 90 #[.agg #[v], .string ⟨name.toArray⟩] w fun e w' => e = .returned (.int .i64 (-1)) ∧ Below w.heap.size w w' :=
  rfile_split v fs fs [] name w hv hl (by simp) (fun a ha => by
    rw [G.eq] at ha
    rcases List.mem_append.1 ha with h | h
    · exact bl_ne (G.lo a h)
    · exact (bl_ne (G.hi a h)).symm) (fun f' B' h => by cases h)
end Go.Proofs.YtaoflcmeiaffjaaGreatDoor

namespace Go.Proofs.YtaoflcmeiaffjaaGreatDoor
open Go.RowKit

theorem disk_len {w : World} {v : Value} {fs : List DF} (hv : DiskV w v fs) : (∃ a c, v = .slice a 0 c ∧ fs = []) ∨ ∃ b off c, v = .slice (some ⟨b, off, none⟩) fs.length c ∧ b < w.heap.size ∧ RowAt w b off (cellsF fs) ∧ fs ≠ [] := by
  rcases hv with ⟨a, cap, rfl, rfl, _⟩ | ⟨b, off, cap, rfl, _, _, hb, h0, hr⟩
  · exact .inl ⟨a, cap, rfl, rfl⟩
  · exact .inr ⟨b, off, cap, rfl, hb, hr, h0⟩

set_option maxRecDepth 10000 in
set_option maxHeartbeats 1000000 in
theorem rcopy_some (a : Addr) (cap : Nat) (fs : List DF) (w : World) (hl : fs.length * 48 ≤ 140737488355328) (hc : ∀ j u, (cellsF fs)[j]? = some u → w.cell? (a.add j) = some u) :
    Calls Tryz.prog 8 #[.agg #[.slice (some a) fs.length cap]] w fun e w' => ∃ v', e = .returned (.agg #[v']) ∧ OwnV w' w.heap.size v' fs ∧ Below w.heap.size w w' := by
  obtain ⟨i0, hi0, hz0, hz1, hz2⟩ := info_file
  have HR := hide hc
  clear hc
  go_enter Tryz.func8, Tryz.ntmps8
  go_wp2_with (at_builtin; refine wpList_append_own _ rfl _ _ 22 rfl (w.heap.size + 2) 72 i0 _ 3 48 Tryz.underlying22 hi0 hz0 hz1 hz2 rfl (by decide) _ 0 [] rfl (World.ownsRow_nil _ _ _ _) a fs.length cap (cellsF fs) rfl (cellsF_length fs) ?qc2 (cellsF_one fs) ?qc4 ?qc5 ?qc6 ?_)
  case qc2 =>
    intro j u hj
    exact Lib.cell?_alloc_some _ (Lib.cell?_alloc_some _ (unhide HR j u hj))
  case qc4 => simp only [maxLen]; omega
  case qc5 => omega
  case qc6 => simp
  intro v' w1 hown hgrow _
  have X := (Boxes.start w (.slice (some a) fs.length cap) 24 24).grownO hgrow (fun k e => by cases e)
  have ho := OwnV.of_row (B := w.heap.size + 2) (by simpa using hown)
  have cr := X.cr
  have fr := X.fr
  have HB := hide X.below
  have HO := hide ho
  obtain ⟨a5, c5, rfl, _⟩ := own_slice ho
  clear X ho hown hgrow
  go_wp2
  refine bodyPost_ret (v := .agg #[.slice a5 fs.length c5]) (by simp [results, Tryz.results8, go_sem, cr]) rfl ⟨_, rfl, ?_, (unhide HB).setCell (by simp) _⟩
  rcases unhide HO with h | ⟨g, c, e, h1, h2⟩
  · exact .inl h
  · exact .inr ⟨g, c, e, by omega, h2.other (by show g ≠ w.heap.size + 1; omega) _⟩

set_option maxRecDepth 10000 in
set_option maxHeartbeats 400000 in
theorem rcopy_nil (cap : Nat) (w : World) :
    Calls Tryz.prog 8 #[.agg #[.slice none 0 cap]] w fun e w' => ∃ v', e = .returned (.agg #[v']) ∧ OwnV w' w.heap.size v' [] ∧ Below w.heap.size w w' := by
  have X := Boxes.start w (.slice none 0 cap) 24 24
  have cr := X.cr
  have HB := hide X.below
  clear X
  go_enter Tryz.func8, Tryz.ntmps8
  go_wp2_with fail
  exact bodyPost_ret (v := .agg #[.slice none 0 0]) (by simp [results, Tryz.results8, go_sem]) rfl ⟨_, rfl, .inl ⟨rfl, rfl⟩, unhide HB⟩

theorem rcopy_any (v : Value) (fs : List DF) (w : World) (hv : DiskV w v fs) (hl : fs.length * 48 ≤ 140737488355328) :
    Calls Tryz.prog 8 #[.agg #[v]] w fun e w' => ∃ v', e = .returned (.agg #[v']) ∧ OwnV w' w.heap.size v' fs ∧ Below w.heap.size w w' := by
  rcases hv with ⟨a, cap, rfl, rfl, _⟩ | ⟨b, off, cap, rfl, _, _, hb, _, hr⟩
  · cases a with
    | none => exact rcopy_nil cap w
    | some a => exact rcopy_some a cap [] w (by simp) (fun j u h => by simp [cellsF] at h)
  · exact rcopy_some ⟨b, off, none⟩ cap fs w hl (fun j u h => by rw [Addr.add_lit]; exact hr j u h)

set_option maxRecDepth 10000 in
set_option maxHeartbeats 400000 in
theorem rsame_none (a a' : Option Addr) (c c' : Nat) (w : World) :
    Calls Tryz.prog 13 #[.agg #[.slice a 0 c], .agg #[.slice a' 0 c']] w fun e w' => e = .returned (.bool true) ∧ Below w.heap.size w w' := by
  go_enter Tryz.func13, Tryz.ntmps13
  go_wp2_with fail
  go_loopg [16] 1 (fun _ s wr => s = .int .i64 0 ∧ wr = (w.alloc (.cells #[.slice a 0 c] 24)).alloc (.cells #[.slice a' 0 c'] 24))
  case atStart => exact ⟨rfl, rfl⟩
  case round =>
    obtain ⟨rfl, rfl⟩ := hrel
    go_wp2_with fail
    go_ret
    exact ⟨rfl, ((Below.refl _ _).alloc (Nat.le_refl _) _).alloc (by simp) _⟩

set_option maxRecDepth 10000 in
set_option maxHeartbeats 1000000 in
theorem rsame_some (b off c b' off' c' : Nat) (fs : List DF) (w : World) (hl : fs.length ≤ 1000000) (hb : b < w.heap.size) (hb' : b' < w.heap.size) (hr : RowAt w b off (cellsF fs)) (hr' : RowAt w b' off' (cellsF fs)) :
    Calls Tryz.prog 13 #[.agg #[.slice (some ⟨b, off, none⟩) fs.length c], .agg #[.slice (some ⟨b', off', none⟩) fs.length c']] w fun e w' => e = .returned (.bool true) ∧ Below w.heap.size w w' := by
  have HR := hide hr
  have HR' := hide hr'
  have hb1 : b ≠ w.heap.size := by omega
  have hb2 : b' ≠ w.heap.size := by omega
  clear hr hr'
  go_enter Tryz.func13, Tryz.ntmps13
  go_wp2_with fail
  obtain ⟨W0, hW0⟩ : ∃ W, W = (w.alloc (.cells #[.slice (some ⟨b, off, none⟩) fs.length c] 24)).alloc (.cells #[.slice (some ⟨b', off', none⟩) fs.length c'] 24) := ⟨_, rfl⟩
  have ca : W0.cell? ⟨w.heap.size, 0, none⟩ = some (.slice (some ⟨b, off, none⟩) fs.length c) := by rw [hW0]; simp
  have cb : W0.cell? ⟨w.heap.size + 1, 0, none⟩ = some (.slice (some ⟨b', off', none⟩) fs.length c') := by rw [hW0]; simp
  have hB0 : Below w.heap.size w W0 := by rw [hW0]; exact ((Below.refl _ _).alloc (Nat.le_refl _) _).alloc (by simp) _
  rw [← hW0]
  have HB := hide hB0
  clear hW0 hB0
  go_loopg [16] fs.length (fun kx s wr => ∃ (k : Nat) (q : Nat), s = .int .i64 k ∧ k ≤ fs.length ∧ fs.length - k ≤ kx ∧ wr = W0.drewN q)
  case atStart => exact ⟨0, 0, rfl, Nat.zero_le _, by omega, rfl⟩
  case round =>
    obtain ⟨k, q, rfl, hk, hkx, rfl⟩ := hrel
    by_cases hlt : k < fs.length
    · obtain ⟨f, hf⟩ : ∃ f, fs[k]? = some f := ⟨_, List.getElem?_eq_getElem hlt⟩
      have r := (unhide HR).kept (unhide HB) hb
      have e0 := r.c0 hf
      have e1 := r.c1 hf
      have e2 := r.c2 hf
      have r' := (unhide HR').kept (unhide HB) hb'
      have e0' := r'.c0 hf
      have e1' := r'.c1 hf
      have e2' := r'.c2 hf
      have hlti : (k : Int) < (fs.length : Int) := by omega
      clear r r' hf
      go_wp2_with fail
      go_region
      go_wp2_with fail
      go_roundg (fs.length - (k + 1))
      case measure => omega
      case rel => exact ⟨k + 1, q + 1, rfl, by omega, Nat.le_refl _, rfl⟩
    · have hki : ¬ ((k : Int) < (fs.length : Int)) := by omega
      go_wp2_with fail
      go_ret
      exact ⟨rfl, (unhide HB).trans ⟨rfl, rfl, rfl, Nat.le_refl _, fun _ _ => rfl⟩⟩

theorem rsame_any (v v' : Value) (fs : List DF) (w : World) (hl : fs.length ≤ 1000000) (hv : DiskV w v fs) (hv' : DiskV w v' fs) :
    Calls Tryz.prog 13 #[.agg #[v], .agg #[v']] w fun e w' => e = .returned (.bool true) ∧ Below w.heap.size w w' := by
  rcases disk_len hv with ⟨a, c, rfl, h0⟩ | ⟨b, off, c, rfl, hb, hr, h0⟩
  · rcases disk_len hv' with ⟨a', c', rfl, _⟩ | ⟨b', off', c', rfl, hb', hr', h0'⟩
    · exact rsame_none a a' c c' w
    · exact absurd h0 h0'
  · rcases disk_len hv' with ⟨a', c', rfl, h0'⟩ | ⟨b', off', c', rfl, hb', hr', h0'⟩
    · exact absurd h0' h0
    · exact rsame_some b off c b' off' c' fs w hl hb hb' hr hr'

set_option maxRecDepth 10000 in
set_option maxHeartbeats 1000000 in
theorem rread_there (v : Value) (fs A B : List DF) (f : DF) (name : List UInt8) (w : World) (hv : DiskV w v fs) (hs : Slim fs) (g : GoodD fs) (T : There fs A f B name) :
    Calls Tryz.prog 47 #[.agg #[v], .string ⟨name.toArray⟩] w fun e w' => e = .returned (.tuple #[.string ⟨(f.s ++ f.t).toArray⟩, .int .i64 0]) ∧ Below w.heap.size w w' := by
  have CG := fun W (hW : Below w.heap.size w W) => rdgood_any v fs W (hv.next hW) hs (by have := g.few; omega)
  have CF := fun W (hW : Below w.heap.size w W) => rfile_there v fs A B f name W (hv.next hW) g.few T
  rw [goodD_true.2 g] at CG
  obtain ⟨b, off, cap, rfl, hb, hr, hk, hlt⟩ := there_row hv T
  have hfl := fileOk_len (T.ok g)
  have HR := hide hr
  have HK := hide hk
  have hlti : (A.length : Int) < (fs.length : Int) := by omega
  have hA0 : ¬ ((A.length : Int) < 0) := by omega
  clear hv hs g T hr hk
  go_enter Tryz.func47, Tryz.ntmps47
  go_wp2_with fail
  refine (CG _ ((Below.refl _ _).alloc (Nat.le_refl _) _)).mono ?_
  rintro e w1 ⟨rfl, hb1⟩
  have hB1 := dbox_then hb1
  have X1 := hide ((BoxAt.new w (.slice (some ⟨b, off, none⟩) fs.length cap)).next hb1)
  have c1 := (unhide X1).c
  clear CG hb1
  go_wp2_with fail
  refine (CF _ hB1).mono ?_
  rintro e w2 ⟨rfl, hb2⟩
  have hB2 := dbelow_next hB1 hb2
  have c2 := ((unhide X1).next hb2).c
  have r := (unhide HR).kept hB2 hb
  have e1 := r.c1 (unhide HK)
  have e2 := r.c2 (unhide HK)
  have hcat : ¬ 9223372036854775807 < f.s.length + f.t.length := by omega
  clear CF hb2 hB1 c1 X1 r
  go_wp2_with fail
  go_quiet (fail)
  go_wp2_with fail
  go_ret2
  exact ⟨by rw [← dcat_one]; rfl, hB2.trans ⟨rfl, rfl, rfl, Nat.le_refl _, fun _ _ => rfl⟩⟩

set_option maxRecDepth 10000 in
set_option maxHeartbeats 1000000 in
theorem rread_no (v : Value) (fs : List DF) (name : List UInt8) (E : Int) (w : World) (hv : DiskV w v fs) (hs : Slim fs) (hl : fs.length ≤ 140737488355328) (h : LocNo fs name E) :
    Calls Tryz.prog 47 #[.agg #[v], .string ⟨name.toArray⟩] w fun e w' => e = .returned (.tuple #[.string ⟨#[]⟩, .int .i64 E]) ∧ Below w.heap.size w w' := by
  have CG := fun W (hW : Below w.heap.size w W) => rdgood_any v fs W (hv.next hW) hs hl
  rcases h with ⟨hg, rfl⟩ | ⟨g, ⟨A, B, G⟩, rfl⟩
  · obtain ⟨a, n, c, rfl⟩ := disk_slice hv
    rw [hg] at CG
    clear hv hs hg
    go_enter Tryz.func47, Tryz.ntmps47
    go_wp2_with fail
    refine (CG _ ((Below.refl _ _).alloc (Nat.le_refl _) _)).mono ?_
    rintro e w1 ⟨rfl, hb1⟩
    have hB1 := dbox_then hb1
    clear CG hb1
    go_wp2_with fail
    go_ret2
    exact ⟨rfl, hB1⟩
  · have CF := fun W (hW : Below w.heap.size w W) => rfile_gap v fs A B name W (hv.next hW) g.few G
    obtain ⟨a, n, c, rfl⟩ := disk_slice hv
    rw [goodD_true.2 g] at CG
    clear hv hs g G
    go_enter Tryz.func47, Tryz.ntmps47
    go_wp2_with fail
    refine (CG _ ((Below.refl _ _).alloc (Nat.le_refl _) _)).mono ?_
    rintro e w1 ⟨rfl, hb1⟩
    have hB1 := dbox_then hb1
    have X1 := hide ((BoxAt.new w (.slice a n c)).next hb1)
    have c1 := (unhide X1).c
    clear CG hb1
    go_wp2_with fail
    refine (CF _ hB1).mono ?_
    rintro e w2 ⟨rfl, hb2⟩
    have hB2 := dbelow_next hB1 hb2
    clear CF hb2 hB1 c1 X1
    go_wp2_with fail
    go_ret2
    exact ⟨rfl, hB2⟩
theorem rread_any (v : Value) (fs : List DF) (name : List UInt8) (w : World) (hv : DiskV w v fs) (hs : Slim fs) (hl : fs.length ≤ 140737488355328) :
    Calls Tryz.prog 47 #[.agg #[v], .string ⟨name.toArray⟩] w fun e w' => e = .returned (.tuple #[.string ⟨(readD fs name).1.toArray⟩, .int .i64 (readD fs name).2]) ∧ Below w.heap.size w w' := by
  rcases loc_cases fs name with ⟨E, h⟩ | ⟨g, A, f, B, T⟩
  · have h' := rread_no v fs name E w hv hs hl h
    rcases h with ⟨h, rfl⟩ | ⟨g, ⟨A, B, G⟩, rfl⟩
    · rw [readD_bad h]; exact h'
    · rw [readD_gap g G]; exact h'
  · rw [readD_there g T]; exact rread_there v fs A B f name w hv hs g T
end Go.Proofs.YtaoflcmeiaffjaaGreatDoor

namespace Go.Proofs.YtaoflcmeiaffjaaGreatDoor
open Go.RowKit

theorem zret_str {a b : ByteArray} (h : a = b) : Ending.returned (.string a) = .returned (.string b) := by rw [h]
theorem zcat_one (a b : List UInt8) : (ByteArray.mk a.toArray) ++ (ByteArray.mk b.toArray) = ⟨(a ++ b).toArray⟩ := by
  apply ByteArray.ext
  simp [ByteArray.data_append]
theorem zdigit_string (w : World) (u : Nat) : (convert 122 9 (.slice (some ⟨w.heap.size, 0, none⟩) 1 1)).run Tryz.prog (w.alloc (.cells #[.int .u8 (48 + (u : Int) % 10)] 5)) = .ok (.string ⟨#[UInt8.ofNat (48 + u % 10)]⟩) (w.alloc (.cells #[.int .u8 (48 + (u : Int) % 10)] 5)) :=
  run_convert_bytes_back _ 122 9 5 ⟨w.heap.size, 0, none⟩ 1 [UInt8.ofNat (48 + u % 10)] Tryz.underlying122 Tryz.underlying5 Tryz.underlying9 (fun j hj => by
    obtain rfl : j = 0 := by simpa using hj
    have h : ((UInt8.ofNat (48 + u % 10)).toNat : Int) = 48 + (u : Int) % 10 := by
      rw [UInt8.toNat_ofNat']; omega
    show _ = some (Value.int .u8 ((UInt8.ofNat (48 + u % 10)).toNat : Int))
    rw [h]
    simp [Addr.add])

set_option maxRecDepth 10000 in
set_option maxHeartbeats 1000000 in
theorem zdecimal_any (u : Nat) : u < 1000000000000 → ∀ w : World,
    Calls Tryz.prog 87 #[.int .i64 u] w fun e w' => e = .returned (.string ⟨(Lib.decDigits u).toArray⟩) ∧ Below w.heap.size w w' := by
  induction u using Nat.strongRecOn with
  | _ u ih =>
    intro hu w
    have hds := zdigit_string w u
    by_cases h10 : u < 10
    · have Hd : Hid (Lib.decDigits u = [UInt8.ofNat (48 + u % 10)]) := hide (by rw [decs h10, Nat.mod_eq_of_lt h10])
      clear ih
      generalize UInt8.ofNat (48 + u % 10) = c at hds Hd
      go_enter Tryz.func87, Tryz.ntmps87
      go_wp2_with fail
      go_ret
      exact ⟨zret_str (by rw [unhide Hd]), (Below.refl _ _).alloc (Nat.le_refl _) _⟩
    · have Hd := hide (decb h10)
      have hrec := ih (u / 10) (by omega) (by omega)
      have hlen := dec_len 11 (u / 10) (by omega)
      have Hrec := hide hrec
      clear hrec ih
      generalize UInt8.ofNat (48 + u % 10) = c at hds Hd
      go_enter Tryz.func87, Tryz.ntmps87
      go_wp2_with fail
      rw [show ((u : Int) / 10) = ((u / 10 : Nat) : Int) from by omega]
      refine (unhide Hrec _).mono ?_
      rintro e w1 ⟨rfl, hb1⟩
      clear Hrec
      generalize Lib.decDigits (u / 10) = D at *
      have hz : (ByteArray.mk D.toArray).size = D.length := Lib.size_eq ⟨D.toArray⟩
      go_wp2_with fail
      go_ret
      exact ⟨zret_str (by rw [unhide Hd]; exact zcat_one D [c]), ((Below.refl _ w).alloc (Nat.le_refl _) _).trans (hb1.mono (by simp))⟩

end Go.Proofs.YtaoflcmeiaffjaaGreatDoor

namespace Go.Proofs.YtaoflcmeiaffjaaGreatDoor
open Go.RowKit

theorem tdq {z : Int} (h0 : 0 ≤ z) (hm : z ≤ 9223372036854775807) : wrap64 (z.tdiv 2147483648) = z / 2147483648 := by
  rw [Int.tdiv_eq_ediv_of_nonneg h0]; unfold wrap64; omega
theorem tmq {z : Int} (h0 : 0 ≤ z) : wrap64 (z.tmod 2147483648) = z % 2147483648 := by
  rw [Int.tmod_eq_emod_of_nonneg h0]; unfold wrap64; omega
theorem tmq' {z : Int} (h0 : 0 ≤ z) : z.tmod 2147483648 = z % 2147483648 := Int.tmod_eq_emod_of_nonneg h0

set_option maxRecDepth 10000 in
set_option maxHeartbeats 400000 in
theorem rgood_any (z : Int) (hm : z ≤ 9223372036854775807) (w : World) : Calls Tryz.prog 86 #[.int .i64 z] w fun e w' => e = .returned (.bool (zGood z)) ∧ w' = w := by
  by_cases h0 : 0 ≤ z
  · by_cases h1 : z < 4611686018427387904
    · have H := hide (zGood_iff.2 ⟨h0, h1⟩)
      have h2 : decide (z / 2147483648 < 2147483648) = true := decide_eq_true (by omega)
      go_enter Tryz.func86, Tryz.ntmps86
      go_wp2_with fail
      go_ret
      exact ⟨zret_bool (Eq.trans (by first | rfl | exact h2 | (rw [tdq h0 hm]; exact h2)) (unhide H).symm), rfl⟩
    · have H := hide (zGood_no (z := z) (by omega))
      have h2 : decide (z / 2147483648 < 2147483648) = false := decide_eq_false (by omega)
      go_enter Tryz.func86, Tryz.ntmps86
      go_wp2_with fail
      go_ret
      exact ⟨zret_bool (Eq.trans (by first | rfl | exact h2 | (rw [tdq h0 hm]; exact h2)) (unhide H).symm), rfl⟩
  · have H := hide (zGood_no (z := z) (by omega))
    go_enter Tryz.func86, Tryz.ntmps86
    go_wp2_with fail
    go_ret
    exact ⟨zret_bool (by rw [unhide H]), rfl⟩

end Go.Proofs.YtaoflcmeiaffjaaGreatDoor

namespace Go.Proofs.YtaoflcmeiaffjaaGreatDoor
open Go.RowKit
set_option maxRecDepth 10000 in

set_option maxHeartbeats 400000 in
theorem repoch_any (z : Int) (hm : z ≤ 9223372036854775807) (w : World) : Calls Tryz.prog 49 #[.int .i64 z] w fun e w' => e = .returned (.int .i64 (zEpoch z)) ∧ w' = w := by
  cases hg : zGood z
  · have H := hide (zEpoch_no hg)
    have Hg := hide hg
    clear hg
    go_enter Tryz.func49, Tryz.ntmps49
    go_wp2_with fail
    refine (rgood_any z hm _).mono ?_
    rintro e w1 ⟨rfl, rfl⟩
    rw [unhide Hg]
    go_wp2_with fail
    go_ret
    exact ⟨ret_int (unhide H).symm, rfl⟩
  · have H := hide (zEpoch_yes hg)
    have Hg := hide hg
    have h0 := (zGood_iff.1 hg).1
    clear hg
    go_enter Tryz.func49, Tryz.ntmps49
    go_wp2_with fail
    refine (rgood_any z hm _).mono ?_
    rintro e w1 ⟨rfl, rfl⟩
    rw [unhide Hg]
    go_wp2_with fail
    go_ret
    exact ⟨ret_int (Eq.trans (by first | rfl | exact tdq h0 hm) (unhide H).symm), rfl⟩

end Go.Proofs.YtaoflcmeiaffjaaGreatDoor

namespace Go.Proofs.YtaoflcmeiaffjaaGreatDoor
open Go.RowKit
set_option maxRecDepth 10000 in

set_option maxHeartbeats 400000 in
theorem rmake_any (e c : Int) (w : World) :
    Calls Tryz.prog 36 #[.int .i64 e, .int .i64 c] w fun x w' => x = .returned (.tuple #[.int .i64 (zMake e c), .int .i64 (zMakeE e c)]) ∧ w' = w := by
  by_cases h1 : e < 0
  · have H := hide (zMake_no (e := e) (c := c) (.inl (zIn_no (by omega))))
    go_enter Tryz.func36, Tryz.ntmps36
    go_wp2_with fail
    go_ret2
    exact ⟨ret_int2 (unhide H).1.symm (unhide H).2.symm, rfl⟩
  by_cases h2 : 2147483648 ≤ e
  · have H := hide (zMake_no (e := e) (c := c) (.inl (zIn_no (by omega))))
    go_enter Tryz.func36, Tryz.ntmps36
    go_wp2_with fail
    go_ret2
    exact ⟨ret_int2 (unhide H).1.symm (unhide H).2.symm, rfl⟩
  by_cases h3 : c < 0
  · have H := hide (zMake_no (e := e) (c := c) (.inr (zIn_no (by omega))))
    go_enter Tryz.func36, Tryz.ntmps36
    go_wp2_with fail
    go_ret2
    exact ⟨ret_int2 (unhide H).1.symm (unhide H).2.symm, rfl⟩
  by_cases h4 : 2147483648 ≤ c
  · have H := hide (zMake_no (e := e) (c := c) (.inr (zIn_no (by omega))))
    go_enter Tryz.func36, Tryz.ntmps36
    go_wp2_with fail
    go_ret2
    exact ⟨ret_int2 (unhide H).1.symm (unhide H).2.symm, rfl⟩
  have H := hide (zMake_yes (e := e) (c := c) (zIn_iff.2 (by omega)) (zIn_iff.2 (by omega)))
  go_enter Tryz.func36, Tryz.ntmps36
  go_wp2_with fail
  go_ret2
  exact ⟨ret_int2 (unhide H).1.symm (unhide H).2.symm, rfl⟩

end Go.Proofs.YtaoflcmeiaffjaaGreatDoor

namespace Go.Proofs.YtaoflcmeiaffjaaGreatDoor
open Go.RowKit

theorem zbytes_below (w : World) (e : TypeId) (s : ByteArray) : Below w.heap.size w (Lib.bytesWorld w e s) :=
  ⟨rfl, rfl, rfl, by rw [Lib.bytesWorld_size]; omega, fun k hk => Lib.bytesWorld_at_old w e s k hk⟩
theorem zbytes_cell (w : World) (e : TypeId) (s : ByteArray) (l : List UInt8) (h : s.data.toList = l) (j : Nat) (hj : j < l.length) : (Lib.bytesWorld w e s).cell? ⟨w.heap.size, j, none⟩ = some (.int .u8 (l[j].toNat : Int)) := by
  subst h
  rw [Lib.bytesWorld_cell _ _ _ _ (by rw [Lib.size_eq]; exact hj), List.getD_eq_getElem?_getD, List.getElem?_eq_getElem hj]; rfl

theorem rd_split {l : List UInt8} {d : Nat} (h : l[d]? = some 46) : l = l.take d ++ 46 :: l.drop (d + 1) := by
  obtain ⟨hd, he⟩ := List.getElem?_eq_some_iff.1 h
  have h1 := List.take_append_drop d l
  rw [List.drop_eq_getElem_cons hd, he] at h1
  exact h1.symm
theorem not_part {l : List UInt8} {c : UInt8} (h : c ∈ l) (h1 : isD c = false) : partB l = false := by
  refine partB_no (fun hh => ?_)
  have := List.all_eq_true.1 hh.2.2.2 c h
  rw [h1] at this
  exact absurd this (by decide)
theorem rd_bad {l : List UInt8} {c : UInt8} {k : Nat} (h : l[k]? = some c) (h1 : c ≠ 46) (h2 : isD c = false) : zRead l = 0 ∧ zReadE l = 2 := by
  have hm : c ∈ l := List.mem_of_getElem? h
  rcases dot_cases l with hd | ⟨a, b, rfl, hd⟩
  · exact zRead_no (.inl (by rw [(cut_miss hd).1]; exact not_part hm h2))
  · rcases List.mem_append.1 hm with hm | hm
    · exact zRead_no (.inl (by rw [(cut_hit hd).1]; exact not_part hm h2))
    · rcases List.mem_cons.1 hm with hm | hm
      · exact absurd hm h1
      · exact zRead_no (.inr (by rw [(cut_hit hd).2]; exact not_part hm h2))
theorem rd_cut {l : List UInt8} {d : Nat} (hd : l[d]? = some 46) (ha : (l.take d).all isD = true) : cutA l = l.take d ∧ cutZ l = l.drop (d + 1) := by
  have h := cut_hit (a := l.take d) (b := l.drop (d + 1)) (isD_dot ha)
  rw [← rd_split hd] at h
  exact h
theorem rd_two {l : List UInt8} {d k : Nat} (hd : l[d]? = some 46) (ha : (l.take d).all isD = true) (hk : d < k) (h : l[k]? = some 46) : zRead l = 0 ∧ zReadE l = 2 := by
  refine zRead_no (.inr ?_)
  rw [(rd_cut hd ha).2]
  refine not_part (c := 46) ?_ (by decide)
  refine List.mem_of_getElem? (i := k - (d + 1)) ?_
  rw [List.getElem?_drop, show d + 1 + (k - (d + 1)) = k from by omega]
  exact h
theorem rd_none {l : List UInt8} (h : l.all isD = true) : zRead l = 0 ∧ zReadE l = 2 :=
  zRead_no (.inr (by rw [(cut_miss (isD_dot h)).2]; rfl))
theorem all_take_n {l : List UInt8} {k : Nat} {c : UInt8} (h : l[k]? = some c) (h1 : (l.take k).all isD = true) (h2 : isD c = true) : (l.take (k + 1)).all isD = true := by
  rw [List.take_add_one, h, List.all_append, h1]
  simpa using h2
theorem all_drop_of {l : List UInt8} {d : Nat} (h : ∀ j, d < j → j < l.length → ∃ c, l[j]? = some c ∧ isD c = true) : (l.drop (d + 1)).all isD = true := by
  rw [List.all_eq_true]
  intro c hc
  obtain ⟨i, hi⟩ := List.getElem?_of_mem hc
  rw [List.getElem?_drop] at hi
  have hlt := (List.getElem?_eq_some_iff.1 hi).1
  obtain ⟨c', h1, h2⟩ := h (d + 1 + i) (by omega) hlt
  rw [hi] at h1
  cases h1
  exact h2
theorem rd_front (l : List UInt8) (d : Nat) : (ByteArray.mk l.toArray).extract 0 d = ⟨(l.take d).toArray⟩ := by
  apply ByteArray.ext
  apply Array.toList_inj.1
  have h := Lib.extract_toList (ByteArray.mk l.toArray) 0 d
  rw [Lib.toList_data] at h
  refine h.trans ?_
  show (l.drop 0).take (d - 0) = _
  simp
theorem rd_back (l : List UInt8) (d : Nat) : (ByteArray.mk l.toArray).extract (d + 1) l.length = ⟨(l.drop (d + 1)).toArray⟩ := by
  apply ByteArray.ext
  apply Array.toList_inj.1
  have h := Lib.extract_toList (ByteArray.mk l.toArray) (d + 1) l.length
  rw [Lib.toList_data] at h
  refine h.trans ?_
  show (l.drop (d + 1)).take (l.length - (d + 1)) = l.drop (d + 1)
  exact List.take_of_length_le (by simp)
/-- how far the first loop has come: no dot yet, or one -/
def rdAt (l : List UInt8) (k : Nat) (D : Value) : Prop :=
  (D = .int .i64 (-1) ∧ (l.take k).all isD = true) ∨ ∃ d : Nat, D = .int .i64 d ∧ d < k ∧ (l.take d).all isD = true ∧ l[d]? = some 46 ∧ ∀ j, d < j → j < k → ∃ c, l[j]? = some c ∧ isD c = true
theorem zint {a b : Int} (h : a = b) : Value.int .i64 a = .int .i64 b := by rw [h]

theorem zalloc_new (w : World) (o : Obj) : (w.alloc o).heap[w.heap.size]? = some o := by
  show (w.heap.push o)[w.heap.size]? = _
  simp
theorem zsize_setCell (w : World) (a : Addr) (v : Value) : (w.setCell a v).heap.size = w.heap.size := by
  show (w.heap.modify a.block _).size = _
  rw [Array.size_modify]
theorem zheap_setCell_same {w : World} {g j : Nat} {cur : Array Value} {t : TypeId} {fz : Nat × Nat} (v : Value) (h : w.heap[g]? = some (.cells cur t fz)) :
    (w.setCell ⟨g, j, none⟩ v).heap[g]? = some (.cells (cur.setIfInBounds j v) t fz) := by
  obtain ⟨hlt, hk⟩ := Array.getElem?_eq_some_iff.1 h
  show (w.heap.modify g _)[g]? = _
  rw [Array.getElem?_eq_getElem (by rw [Array.size_modify]; exact hlt), Array.getElem_modify_self, hk]
  rfl
/-- the two cells of n, and the two texts -/
def rdPair (W : World) (g : Nat) (x y : Int) : Prop := W.heap[g + 1]? = some (.cells #[.int .i64 x, .int .i64 y] 123 (0, 0))
def rdTexts (W : World) (g : Nat) (a b : List UInt8) : Prop := W.heap[g + 1 + 1]? = some (.cells #[.string ⟨a.toArray⟩, .string ⟨b.toArray⟩] 9 (0, 0))
theorem rdPair.c0 {W : World} {g : Nat} {x y : Int} (h : rdPair W g x y) : W.cell? ⟨g + 1, 0, none⟩ = some (.int .i64 x) := by unfold rdPair at h; simp [World.cell?, h]
theorem rdPair.c1 {W : World} {g : Nat} {x y : Int} (h : rdPair W g x y) : W.cell? ⟨g + 1, 1, none⟩ = some (.int .i64 y) := by unfold rdPair at h; simp [World.cell?, h]
theorem rdPair.f0 {W : World} {g : Nat} {x y : Int} (h : rdPair W g x y) : W.frozen? ⟨g + 1, 0, none⟩ = false := by unfold rdPair at h; simp [World.frozen?, h]
theorem rdPair.f1 {W : World} {g : Nat} {x y : Int} (h : rdPair W g x y) : W.frozen? ⟨g + 1, 1, none⟩ = false := by unfold rdPair at h; simp [World.frozen?, h]
theorem rdPair.s0 {W : World} {g : Nat} {x y : Int} (h : rdPair W g x y) (z : Int) : rdPair (W.setCell ⟨g + 1, 0, none⟩ (.int .i64 z)) g z y := zheap_setCell_same _ h
theorem rdPair.s1 {W : World} {g : Nat} {x y : Int} (h : rdPair W g x y) (z : Int) : rdPair (W.setCell ⟨g + 1, 1, none⟩ (.int .i64 z)) g x z := zheap_setCell_same _ h
theorem rdPair.kept {W V : World} {g : Nat} {x y : Int} (h : rdPair W g x y) {B : Nat} (hb : Below B W V) (hg : g + 3 ≤ B) : rdPair V g x y := (hb.block _ (by omega)).trans h
theorem rdTexts.c0 {W : World} {g : Nat} {a b : List UInt8} (h : rdTexts W g a b) : W.cell? ⟨g + 1 + 1, 0, none⟩ = some (.string ⟨a.toArray⟩) := by unfold rdTexts at h; simp [World.cell?, h]
theorem rdTexts.c1 {W : World} {g : Nat} {a b : List UInt8} (h : rdTexts W g a b) : W.cell? ⟨g + 1 + 1, 1, none⟩ = some (.string ⟨b.toArray⟩) := by unfold rdTexts at h; simp [World.cell?, h]
theorem rdTexts.kept {W V : World} {g : Nat} {a b : List UInt8} (h : rdTexts W g a b) {B : Nat} (hb : Below B W V) (hg : g + 3 ≤ B) : rdTexts V g a b := (hb.block _ (by omega)).trans h
theorem rdTexts.set {W : World} {g : Nat} {a b : List UInt8} (h : rdTexts W g a b) (j : Nat) (v : Value) : rdTexts (W.setCell ⟨g + 1, j, none⟩ v) g a b :=
  (Below.heap_setCell _ _ _ _ (by show g + 1 + 1 ≠ g + 1; omega)).trans h
/-- how far the second loop has come -/
def rdDone (W : World) (g : Nat) (a b : List UInt8) (k : Nat) : Prop :=
  ∃ x y : Int, rdPair W g x y ∧ ((k = 0 ∧ x = 0 ∧ y = 0) ∨ (k = 1 ∧ partB a = true ∧ x = num a ∧ y = 0) ∨ (k = 2 ∧ partB a = true ∧ partB b = true ∧ x = num a ∧ y = num b))
theorem num_take_n {l : List UInt8} {k : Nat} (h : k < l.length) : num (l.take (k + 1)) = 10 * num (l.take k) + (l[k].toNat - 48) := by
  rw [List.take_succ_eq_append_getElem h, num_snoc]
theorem all_take_of {l : List UInt8} (h : l.all isD = true) (k : Nat) : (l.take k).all isD = true := by
  rw [List.all_eq_true] at h ⊢
  exact fun c hc => h c (List.mem_of_mem_take hc)
theorem num_take_small {l : List UInt8} (h : l.all isD = true) {k : Nat} (hk : k < 10) : num (l.take k) < 1000000000 := by
  have h1 := num_lt _ (all_take_of h k)
  have h2 : (l.take k).length ≤ 9 := by rw [List.length_take]; omega
  have h3 : 10 ^ (l.take k).length ≤ 10 ^ 9 := Nat.pow_le_pow_right (by decide) h2
  have h4 : (10 : Nat) ^ 9 = 1000000000 := by decide
  omega
theorem num_ten {l : List UInt8} (h : l.all isD = true) (hk : l.length ≤ 10) : num l < 10000000000 := by
  have h1 := num_lt _ h
  have h3 : 10 ^ l.length ≤ 10 ^ 10 := Nat.pow_le_pow_right (by decide) hk
  have h4 : (10 : Nat) ^ 10 = 10000000000 := by decide
  omega
theorem isD_at {l : List UInt8} (h : l.all isD = true) {k : Nat} (hk : k < l.length) : 48 ≤ l[k].toNat ∧ l[k].toNat ≤ 57 :=
  isD_iff.1 (List.all_eq_true.1 h _ (List.getElem_mem hk))

set_option maxRecDepth 10000 in
set_option maxHeartbeats 1000000 in
theorem zrread_any (l : List UInt8) (w : World) (hl : l.length ≤ 140737488355328) :
    Calls Tryz.prog 48 #[.string ⟨l.toArray⟩] w fun e w' => e = .returned (.tuple #[.int .i64 (zRead l), .int .i64 (zReadE l)]) ∧ Below w.heap.size w w' := by
  have hz : (ByteArray.mk l.toArray).size = l.length := Lib.size_eq ⟨l.toArray⟩
  have hconv : ∀ W s, (convert 9 122 (.string s)).run Tryz.prog W = .ok (.slice (some ⟨W.heap.size, 0, none⟩) s.size (grownCap W s.size 0 5)) (Lib.bytesWorld W 5 s) := fun W s =>
    Lib.run_convert_string_bytes W 9 122 5 s Tryz.underlying9 Tryz.underlying122 Tryz.underlying5
  go_enter Tryz.func48, Tryz.ntmps48
  go_wp2
  generalize hW1 : Lib.bytesWorld w 5 ⟨l.toArray⟩ = W1
  have hs1 : W1.heap.size = w.heap.size + 1 := by rw [← hW1]; exact Lib.bytesWorld_size _ _ _
  have Hcell : Hid (∀ j (hj : j < l.length), W1.cell? ⟨w.heap.size, j, none⟩ = some (.int .u8 (l[j].toNat : Int))) := hide (fun j hj => by
    rw [← hW1]; exact zbytes_cell w 5 ⟨l.toArray⟩ l rfl j hj)
  have hB1 : Below w.heap.size w W1 := by rw [← hW1]; exact zbytes_below _ _ _
  clear hW1
  go_loop [4, 15] (fun D i => ∃ k : Nat, k ≤ l.length ∧ i = .int .i64 k ∧ rdAt l k D) (fun _ i => l.length - (intOf i).toNat)
  case atStart => exact ⟨0, Nat.zero_le _, rfl, .inl ⟨rfl, by simp⟩⟩
  case round =>
    obtain ⟨k, hk, rfl, hat⟩ := hrel
    by_cases hlt : k < l.length
    · have hc := unhide Hcell k hlt
      have Hk : Hid (l[k]? = some l[k]) := hide (List.getElem?_eq_getElem hlt)
      generalize l[k] = c at hc Hk
      have hcb := c.toNat_lt
      by_cases hdot : c = 46
      · subst hdot
        rcases hat with ⟨rfl, hall⟩ | ⟨d, rfl, hdk, hall, hd, hrest⟩
        · have Hall := hide hall
          clear hall
          go_wp2
          exact ⟨⟨k + 1, by omega, by go_num, .inr ⟨k, rfl, by omega, unhide Hall, unhide Hk, fun j h1 h2 => by omega⟩⟩, by simp [intOf]; omega⟩
        · have H := hide (rd_two hd hall hdk (unhide Hk))
          clear hall hd hrest
          go_wp2
          go_ret2
          exact ⟨ret_int2 (unhide H).1.symm (unhide H).2.symm, hB1⟩
      · have hc46 : ((c.toNat : Int) == 46) = false := by
          rw [beq_eq_false_iff_ne]
          intro h
          exact hdot (UInt8.toNat_inj.1 (by show c.toNat = 46; omega))
        cases hdg : isD c
        · have H := hide (rd_bad (unhide Hk) hdot hdg)
          have hq : c.toNat < 48 ∨ 57 < c.toNat := by
            by_cases h : 48 ≤ c.toNat ∧ c.toNat ≤ 57
            · rw [isD_iff.2 h] at hdg; exact absurd hdg (by decide)
            · omega
          clear hat hdot hdg
          rcases hq with hq | hq
          · go_wp2
            go_ret2
            exact ⟨ret_int2 (unhide H).1.symm (unhide H).2.symm, hB1⟩
          · go_wp2
            go_ret2
            exact ⟨ret_int2 (unhide H).1.symm (unhide H).2.symm, hB1⟩
        · have hd1 := (isD_iff.1 hdg).1
          have hd2 := (isD_iff.1 hdg).2
          have Hat : Hid (∀ D, rdAt l k D → rdAt l (k + 1) D) := hide (by
            rintro D (⟨h1, h2⟩ | ⟨d, h1, h2, h3, h4, h5⟩)
            · exact .inl ⟨h1, all_take_n (unhide Hk) h2 hdg⟩
            · refine .inr ⟨d, h1, by omega, h3, h4, fun j j1 j2 => ?_⟩
              by_cases hj : j = k
              · subst hj; exact ⟨c, unhide Hk, hdg⟩
              · exact h5 j j1 (by omega))
          have HA := hide hat
          clear hdot hdg hat
          go_wp2
          exact ⟨⟨k + 1, by omega, by go_num, unhide Hat _ (unhide HA)⟩, by simp [intOf]; omega⟩
    · obtain rfl : k = l.length := by omega
      rcases hat with ⟨rfl, hall⟩ | ⟨d, rfl, hdk, hall, hd, hrest⟩
      · rw [List.take_length] at hall
        have H := hide (rd_none hall)
        clear hall
        go_wp2
        go_ret2
        exact ⟨ret_int2 (unhide H).1.symm (unhide H).2.symm, hB1⟩
      · have Hcut := hide (rd_cut hd hall)
        have Hsp := hide (rd_split hd)
        have Hb := hide (all_drop_of hrest)
        have Ha := hide hall
        clear hall hd hrest Hcell
        have He1 : Hid ((ByteArray.mk l.toArray).extract 0 d = ⟨(l.take d).toArray⟩) := hide (rd_front l d)
        have He2 : Hid ((ByteArray.mk l.toArray).extract (d + 1) l.length = ⟨(l.drop (d + 1)).toArray⟩) := hide (rd_back l d)
        generalize (ByteArray.mk l.toArray) = T at *
        have c1 : (0 : Int) ≤ (d : Int) := by omega
        have c2 : (d : Int) ≤ (l.length : Int) := by omega
        have c3 : (0 : Int) ≤ (d : Int) + 1 := by omega
        have c4 : (d : Int) + 1 ≤ (l.length : Int) := by omega
        go_wp2
        go_region
        rw [unhide He1, unhide He2]
        go_wp2
        generalize hW3 : ((W1.alloc (Obj.cells #[Value.int IntKind.i64 0, Value.int IntKind.i64 0] 123)).alloc (Obj.cells #[Value.string ⟨(l.take d).toArray⟩, Value.string ⟨(l.drop (d + 1)).toArray⟩] 9)).drew = W3
        obtain ⟨a, ha⟩ : ∃ a, l.take d = a := ⟨_, rfl⟩
        obtain ⟨b, hb⟩ : ∃ b, l.drop (d + 1) = b := ⟨_, rfl⟩
        have hal : a.length ≤ l.length := by rw [← ha, List.length_take]; omega
        have hbl : b.length ≤ l.length := by rw [← hb, List.length_drop]; omega
        rw [ha, hb] at hW3 Hcut ⊢
        rw [ha] at Ha
        rw [hb] at Hb
        clear He1 He2 Hsp ha hb
        have hs3 : W3.heap.size = w.heap.size + 3 := by rw [← hW3]; show ((W1.heap.push _).push _).size = _; simp; omega
        have HP3 : Hid (rdPair W3 w.heap.size 0 0) := hide (by
          rw [← hW3]
          refine (Below.heap_alloc (W1.alloc _) _ (w.heap.size + 1) (by simp; omega)).trans ?_
          rw [← hs1]
          exact zalloc_new _ _)
        have HT3 : Hid (rdTexts W3 w.heap.size a b) := hide (by
          rw [← hW3]
          have h := zalloc_new (W1.alloc (Obj.cells #[Value.int IntKind.i64 0, Value.int IntKind.i64 0] 123)) (Obj.cells #[Value.string ⟨a.toArray⟩, Value.string ⟨b.toArray⟩] 9)
          rw [World.size_alloc, hs1] at h
          exact h)
        have hB3 : Below w.heap.size w W3 := by
          rw [← hW3]
          exact ((hB1.alloc (by omega) _).alloc (by simp; omega) _).drew
        clear hW3 c1 c2 c3 c4 hB1 hs1 hdk
        go_loopw [43] (fun i wr => ∃ k : Nat, k ≤ 2 ∧ i = .int .i64 k ∧ rdDone wr w.heap.size a b k ∧ rdTexts wr w.heap.size a b ∧ w.heap.size + 3 ≤ wr.heap.size ∧ Below w.heap.size w wr) (fun i _ => 2 - (intOf i).toNat)
        case atStart => exact ⟨0, by omega, rfl, ⟨0, 0, unhide HP3, .inl ⟨rfl, rfl, rfl⟩⟩, unhide HT3, by omega, hB3⟩
        case round =>
          obtain ⟨k, hk2, rfl, ⟨x, y, hp, hxy⟩, htx, hge, hBr⟩ := hrel
          have HP := hide hp
          have HT := hide htx
          clear hp htx HP3 HT3 hB3 hs3
          rcases hxy with ⟨rfl, rfl, rfl⟩ | ⟨rfl, hpa, rfl, rfl⟩ | ⟨rfl, hpa, hpb, rfl, rfl⟩
          · have hdone : True := trivial
            · have ht := (unhide HT).c0
              by_cases hlong : 10 < a.length
              · have H := hide (zRead_no (l := l) (.inl (by rw [(unhide Hcut).1]; exact partB_no (by omega))))
                go_wp2
                go_ret2
                exact ⟨ret_int2 (unhide H).1.symm (unhide H).2.symm, hBr⟩
              generalize wr = V at *
              have hz2 : (ByteArray.mk a.toArray).size = a.length := Lib.size_eq ⟨a.toArray⟩
              go_wp2
              generalize hW4 : Lib.bytesWorld V 5 ⟨a.toArray⟩ = W4
              have hb4 : Below V.heap.size V W4 := by rw [← hW4]; exact zbytes_below _ _ _
              have hs4 : W4.heap.size = V.heap.size + 1 := by rw [← hW4]; exact Lib.bytesWorld_size _ _ _
              have Hc4 : Hid (∀ j (hj : j < a.length), W4.cell? ⟨V.heap.size, j, none⟩ = some (.int .u8 (a[j].toNat : Int))) := hide (fun j hj => by
                rw [← hW4]; exact zbytes_cell V 5 ⟨a.toArray⟩ a rfl j hj)
              have HP4 := hide ((unhide HP).kept hb4 (by omega))
              have HT4 := hide ((unhide HT).kept hb4 (by omega))
              have hB4 : Below w.heap.size w W4 := hBr.trans (hb4.mono (by omega))
              clear hW4 HP HT ht hb4
              go_loopw [54] (fun i wr => ∃ j : Nat, j ≤ a.length ∧ i = .int .i64 j ∧ rdPair wr w.heap.size (num (a.take j) : Int) 0 ∧ rdTexts wr w.heap.size a b ∧ wr.heap[V.heap.size]? = W4.heap[V.heap.size]? ∧ wr.heap.size = V.heap.size + 1 ∧ Below w.heap.size w wr) (fun i _ => a.length - (intOf i).toNat)
              case atStart => exact ⟨0, Nat.zero_le _, rfl, unhide HP4, unhide HT4, rfl, hs4, hB4⟩
              case round =>
                obtain ⟨j, hj, rfl, hp, htx, hblk, hsz, hBj⟩ := hrel
                have HP := hide hp
                have HT := hide htx
                have HK := hide hblk
                clear hp htx hblk HP4 HT4 hB4
                by_cases hjl : j < a.length
                · have hc : wr.cell? ⟨V.heap.size, j, none⟩ = some (.int .u8 (a[j].toNat : Int)) := (World.cell?_of_block (a := ⟨V.heap.size, j, none⟩) (unhide HK)).trans (unhide Hc4 j hjl)
                  have hd := isD_at (unhide Ha) hjl
                  have hsm := num_take_small (unhide Ha) (k := j) (by omega)
                  have Hnt := hide (num_take_n hjl)
                  have h0 := (unhide HP).c0
                  have h1 := (unhide HP).f0
                  obtain ⟨n, hn⟩ : ∃ n, num (a.take j) = n := ⟨_, rfl⟩
                  rw [hn] at hsm Hnt HP h0
                  generalize a[j] = c at hc hd Hnt
                  clear hn
                  have hd1 := hd.1
                  have hd2 := hd.2
                  clear hd
                  go_wp2
                  have hstep : (10 * (n : Int) + (c.toNat : Int) - 48) = (num (a.take (j + 1)) : Int) := by rw [unhide Hnt]; omega
                  rw [hstep]
                  refine ⟨⟨j + 1, by omega, by go_num, (unhide HP).s0 _, (unhide HT).set _ _, ?_, ?_, ?_⟩, by simp [intOf]; omega⟩
                  · exact (Below.heap_setCell _ _ _ _ (by show V.heap.size ≠ w.heap.size + 1; omega)).trans (unhide HK)
                  · rw [zsize_setCell]; exact hsz
                  · exact hBj.setCell (by show w.heap.size ≤ w.heap.size + 1; omega) _
                · have hje : j = a.length := by omega
                  subst hje
                  rw [List.take_length] at HP
                  have h0 := (unhide HP).c0
                  have hn10 := num_ten (unhide Ha) (by omega)
                  go_wp2_with fail
                  refine (zdecimal_any (num a) (by omega) _).mono ?_
                  rintro e w5 ⟨rfl, hb5⟩
                  have HP5 := hide ((unhide HP).kept hb5 (by omega))
                  have HT5 := hide ((unhide HT).kept hb5 (by omega))
                  have hB5 : Below w.heap.size w w5 := hBj.trans (hb5.mono (by omega))
                  have hs5 := hb5.size
                  clear HP HT HK Hc4 h0 hb5
                  by_cases heq : Lib.decDigits (num a) = a
                  · have Hp := hide (part_of_dec (l := a) (by omega) heq)
                    rw [heq]
                    clear heq
                    go_wp2_with fail
                    exact ⟨⟨1, by omega, by go_num, ⟨_, _, unhide HP5, .inr (.inl ⟨rfl, unhide Hp, rfl, rfl⟩)⟩, unhide HT5, by omega, hB5⟩, by simp [intOf]⟩
                  · have H := hide (zRead_no (l := l) (.inl (by
                      rw [(unhide Hcut).1]
                      cases hp : partB a with
                      | false => rfl
                      | true => exact absurd (dec_part hp) heq)))
                    have hne : (Lib.decDigits (num a) == a) = false := by simpa using heq
                    clear heq
                    generalize Lib.decDigits (num a) = D at *
                    go_wp2_with fail
                    go_ret2
                    exact ⟨ret_int2 (unhide H).1.symm (unhide H).2.symm, hB5⟩
          · have HpA := hide hpa
            clear hpa
            · have ht := (unhide HT).c1
              by_cases hlong : 10 < b.length
              · have H := hide (zRead_no (l := l) (.inr (by rw [(unhide Hcut).2]; exact partB_no (by omega))))
                go_wp2
                go_ret2
                exact ⟨ret_int2 (unhide H).1.symm (unhide H).2.symm, hBr⟩
              generalize wr = V at *
              have hz2 : (ByteArray.mk b.toArray).size = b.length := Lib.size_eq ⟨b.toArray⟩
              go_wp2
              generalize hW4 : Lib.bytesWorld V 5 ⟨b.toArray⟩ = W4
              have hb4 : Below V.heap.size V W4 := by rw [← hW4]; exact zbytes_below _ _ _
              have hs4 : W4.heap.size = V.heap.size + 1 := by rw [← hW4]; exact Lib.bytesWorld_size _ _ _
              have Hc4 : Hid (∀ j (hj : j < b.length), W4.cell? ⟨V.heap.size, j, none⟩ = some (.int .u8 (b[j].toNat : Int))) := hide (fun j hj => by
                rw [← hW4]; exact zbytes_cell V 5 ⟨b.toArray⟩ b rfl j hj)
              have HP4 := hide ((unhide HP).kept hb4 (by omega))
              have HT4 := hide ((unhide HT).kept hb4 (by omega))
              have hB4 : Below w.heap.size w W4 := hBr.trans (hb4.mono (by omega))
              clear hW4 HP HT ht hb4
              go_loopw [54] (fun i wr => ∃ j : Nat, j ≤ b.length ∧ i = .int .i64 j ∧ rdPair wr w.heap.size (num a : Int) (num (b.take j) : Int) ∧ rdTexts wr w.heap.size a b ∧ wr.heap[V.heap.size]? = W4.heap[V.heap.size]? ∧ wr.heap.size = V.heap.size + 1 ∧ Below w.heap.size w wr) (fun i _ => b.length - (intOf i).toNat)
              case atStart => exact ⟨0, Nat.zero_le _, rfl, unhide HP4, unhide HT4, rfl, hs4, hB4⟩
              case round =>
                obtain ⟨j, hj, rfl, hp, htx, hblk, hsz, hBj⟩ := hrel
                have HP := hide hp
                have HT := hide htx
                have HK := hide hblk
                clear hp htx hblk HP4 HT4 hB4
                by_cases hjl : j < b.length
                · have hc : wr.cell? ⟨V.heap.size, j, none⟩ = some (.int .u8 (b[j].toNat : Int)) := (World.cell?_of_block (a := ⟨V.heap.size, j, none⟩) (unhide HK)).trans (unhide Hc4 j hjl)
                  have hd := isD_at (unhide Hb) hjl
                  have hsm := num_take_small (unhide Hb) (k := j) (by omega)
                  have Hnt := hide (num_take_n hjl)
                  have h0 := (unhide HP).c1
                  have h1 := (unhide HP).f1
                  obtain ⟨n, hn⟩ : ∃ n, num (b.take j) = n := ⟨_, rfl⟩
                  rw [hn] at hsm Hnt HP h0
                  generalize b[j] = c at hc hd Hnt
                  clear hn
                  have hd1 := hd.1
                  have hd2 := hd.2
                  clear hd
                  go_wp2
                  have hstep : (10 * (n : Int) + (c.toNat : Int) - 48) = (num (b.take (j + 1)) : Int) := by rw [unhide Hnt]; omega
                  rw [hstep]
                  refine ⟨⟨j + 1, by omega, by go_num, (unhide HP).s1 _, (unhide HT).set _ _, ?_, ?_, ?_⟩, by simp [intOf]; omega⟩
                  · exact (Below.heap_setCell _ _ _ _ (by show V.heap.size ≠ w.heap.size + 1; omega)).trans (unhide HK)
                  · rw [zsize_setCell]; exact hsz
                  · exact hBj.setCell (by show w.heap.size ≤ w.heap.size + 1; omega) _
                · have hje : j = b.length := by omega
                  subst hje
                  rw [List.take_length] at HP
                  have h0 := (unhide HP).c1
                  have hn10 := num_ten (unhide Hb) (by omega)
                  go_wp2_with fail
                  refine (zdecimal_any (num b) (by omega) _).mono ?_
                  rintro e w5 ⟨rfl, hb5⟩
                  have HP5 := hide ((unhide HP).kept hb5 (by omega))
                  have HT5 := hide ((unhide HT).kept hb5 (by omega))
                  have hB5 : Below w.heap.size w w5 := hBj.trans (hb5.mono (by omega))
                  have hs5 := hb5.size
                  clear HP HT HK Hc4 h0 hb5
                  by_cases heq : Lib.decDigits (num b) = b
                  · have Hp := hide (part_of_dec (l := b) (by omega) heq)
                    rw [heq]
                    clear heq
                    go_wp2_with fail
                    exact ⟨⟨2, by omega, by go_num, ⟨_, _, unhide HP5, .inr (.inr ⟨rfl, unhide HpA, unhide Hp, rfl, rfl⟩)⟩, unhide HT5, by omega, hB5⟩, by simp [intOf]⟩
                  · have H := hide (zRead_no (l := l) (.inr (by
                      rw [(unhide Hcut).2]
                      cases hp : partB b with
                      | false => rfl
                      | true => exact absurd (dec_part hp) heq)))
                    have hne : (Lib.decDigits (num b) == b) = false := by simpa using heq
                    clear heq
                    generalize Lib.decDigits (num b) = D at *
                    go_wp2_with fail
                    go_ret2
                    exact ⟨ret_int2 (unhide H).1.symm (unhide H).2.symm, hB5⟩
          · have H := hide (zRead_yes (l := l) (by rw [(unhide Hcut).1]; exact hpa) (by rw [(unhide Hcut).2]; exact hpb))
            have HC := hide (unhide Hcut)
            have h0 := (unhide HP).c0
            have h1 := (unhide HP).c1
            clear hpa hpb HP HT
            go_wp2_with fail
            refine (rmake_any _ _ _).mono ?_
            rintro e w6 ⟨rfl, rfl⟩
            rw [(unhide HC).1, (unhide HC).2] at H
            obtain ⟨X, hX⟩ : ∃ X, zMake (num a) (num b) = X := ⟨_, rfl⟩
            obtain ⟨E, hE⟩ : ∃ E, zMakeE (num a) (num b) = E := ⟨_, rfl⟩
            rw [hX, hE] at H ⊢
            clear hX hE h0 h1
            go_wp2_with fail
            go_ret2
            exact ⟨ret_int2 (unhide H).1.symm (unhide H).2.symm, hBr⟩

end Go.Proofs.YtaoflcmeiaffjaaGreatDoor
