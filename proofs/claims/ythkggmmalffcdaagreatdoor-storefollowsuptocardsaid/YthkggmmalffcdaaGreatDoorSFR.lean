/-
  What aviaryref.Named answers, for every text: the walk.
  What aviaryref.GoodDisk and file answer: the walks.
  What aviaryref.Read, CopyDisk and SameDisk answer: the walks.
  aviaryref.CopyServer: the walk.
  What aviaryref.Last answers: the walk.
-/
import Derived.Test.YthkggmmalffcdaaGreatDoorSFC
import Derived.Lib.ConvBytes
import Derived.Lib.Strings
import Derived.Test.YthkggmmalffcdaaGreatDoorSFG
import Derived.Laws.StructEq
import Derived.Test.YthkggmmalffcdaaGreatDoorSFL
import Derived.Test.YthkggmmalffcdaaGreatDoorSFI
import Derived.Deep.LoopGhost
namespace Go.Proofs.YthkggmmalffcdaaGreatDoor
open Go.RowKit

def okL : List UInt8 := [97, 98, 99, 100, 101, 102, 103, 104, 105, 106, 107, 108, 109, 110, 111, 112, 113, 114, 115, 116, 117, 118, 119, 120, 121, 122, 48, 49, 50, 51, 52, 53, 54, 55, 56, 57, 45, 95]
theorem ok_fin : ∀ n : Fin 256, okL.any (fun d => d == UInt8.ofNat n.val) = letterB (UInt8.ofNat n.val) := by decide +kernel
theorem ok_letter (c : UInt8) : okL.any (fun d => d == c) = letterB c := by
  have h := ok_fin ⟨c.toNat, c.toNat_lt⟩
  rwa [show UInt8.ofNat (⟨c.toNat, c.toNat_lt⟩ : Fin 256).val = c from by simp] at h

theorem any_take_succ (l : List UInt8) (j : Nat) (h : j < l.length) (c : UInt8) : (l.take (j + 1)).any (fun d => d == c) = ((l.take j).any (fun d => d == c) || l[j] == c) := by
  rw [List.take_succ_eq_append_getElem h, List.any_append]; simp

theorem val_bool {a b : Bool} (h : a = b) : Value.bool a = .bool b := by rw [h]
theorem u8_beq (c d : UInt8) : ((c.toNat : Int) == (d.toNat : Int)) = (d == c) := by
  rw [Bool.eq_iff_iff, beq_iff_eq, beq_iff_eq]
  constructor
  · intro h; exact (UInt8.toNat_inj.1 (by omega)).symm
  · rintro rfl; rfl
theorem ok_all (c : UInt8) : (okL.take 38).any (fun d => d == c) = okL.any (fun d => d == c) := rfl
theorem namedB_all {l : List UInt8} (h : l.all letterB = true) : namedB l = (decide (1 ≤ l.length) && decide (l.length ≤ 40)) := by
  rw [namedB, h, Bool.and_true]
theorem nm_true {n : Nat} (h : 0 < n) (h1 : n ≤ 40) : (decide (1 ≤ n) && decide (n ≤ 40)) = true := by
  rw [decide_eq_true (show 1 ≤ n from h), decide_eq_true h1]; rfl
theorem nm_long {n : Nat} (h1 : ¬ n ≤ 40) : (decide (1 ≤ n) && decide (n ≤ 40)) = false := by
  rw [decide_eq_false h1, Bool.and_false]
theorem nm_none {n : Nat} (h : ¬ 0 < n) : (decide (1 ≤ n) && decide (n ≤ 40)) = false := by
  rw [decide_eq_false (show ¬ 1 ≤ n from h), Bool.false_and]
theorem bytes_below (w : World) (e : TypeId) (s : ByteArray) : Below w.heap.size w (Lib.bytesWorld w e s) :=
  ⟨rfl, rfl, rfl, by rw [Lib.bytesWorld_size]; omega, fun k hk => Lib.bytesWorld_at_old w e s k hk⟩
theorem bytes_cell (w : World) (e : TypeId) (s : ByteArray) (l : List UInt8) (h : s.data.toList = l) (j : Nat) (hj : j < l.length) : (Lib.bytesWorld w e s).cell? ⟨w.heap.size, j, none⟩ = some (.int .u8 (l[j].toNat : Int)) := by
  subst h
  rw [Lib.bytesWorld_cell _ _ _ _ (by rw [Lib.size_eq]; exact hj), List.getD_eq_getElem?_getD, List.getElem?_eq_getElem hj]; rfl
theorem all_take_next {l : List UInt8} {k : Nat} (h : k < l.length) (p : UInt8 → Bool) (h1 : (l.take k).all p = true) (h2 : p l[k] = true) : (l.take (k + 1)).all p = true := by
  rw [List.take_succ_eq_append_getElem h, List.all_append, h1]; simpa using h2
theorem named_of_not {l : List UInt8} {k : Nat} (h : k < l.length) (h2 : letterB l[k] = false) : namedB l = false := by
  have : l.all letterB = false := by
    rw [List.all_eq_false]
    exact ⟨l[k], List.getElem_mem h, by simp [h2]⟩
  rw [namedB, this, Bool.and_false]

set_option maxRecDepth 10000 in
set_option maxHeartbeats 1000000 in
theorem refNamed_any (l : List UInt8) (w : World) (hl : l.length ≤ 140737488355328) :
    Calls Tryz.prog 131 #[.string ⟨l.toArray⟩] w fun e w' => e = .returned (.bool (namedB l)) ∧ Below w.heap.size w w' := by
  have hz : (ByteArray.mk l.toArray).size = l.length := Lib.size_eq ⟨l.toArray⟩
  have hconv : ∀ W s, (convert 9 176 (.string s)).run Tryz.prog W = .ok (.slice (some ⟨W.heap.size, 0, none⟩) s.size (grownCap W s.size 0 5)) (Lib.bytesWorld W 5 s) := fun W s =>
    Lib.run_convert_string_bytes W 9 176 5 s Tryz.underlying9 Tryz.underlying176 Tryz.underlying5
  go_enter Tryz.func131, Tryz.ntmps131
  go_wp2
  generalize hOK : (ByteArray.mk #[97, 98, 99, 100, 101, 102, 103, 104, 105, 106, 107, 108, 109, 110, 111, 112, 113, 114, 115, 116, 117, 118, 119, 120, 121, 122, 48, 49, 50, 51, 52, 53, 54, 55, 56, 57, 45, 95]) = OK
  have HOK : Hid (OK.data.toList = okL) := hide (by rw [← hOK]; rfl)
  have hOs : OK.size = 38 := by rw [← hOK]; rfl
  clear hOK
  generalize hW1 : Lib.bytesWorld w 5 ⟨l.toArray⟩ = W1
  have hs1 : W1.heap.size = w.heap.size + 1 := by rw [← hW1]; exact Lib.bytesWorld_size _ _ _
  have Hcell : Hid (∀ j (hj : j < l.length), W1.cell? ⟨w.heap.size, j, none⟩ = some (.int .u8 (l[j].toNat : Int))) := hide (fun j hj => by
    rw [← hW1]; exact bytes_cell w 5 ⟨l.toArray⟩ l rfl j hj)
  have hB1 : Below w.heap.size w W1 := by rw [← hW1]; exact bytes_below _ _ _
  clear hW1
  go_loopw [12] (fun i wr => ∃ k : Nat, k ≤ l.length ∧ i = .int .i64 k ∧ (l.take k).all letterB = true ∧ Below (w.heap.size + 1) W1 wr) (fun i _ => l.length - (intOf i).toNat)
  case atStart => exact ⟨0, Nat.zero_le _, rfl, by simp, Below.refl _ _⟩
  case round =>
    obtain ⟨k, hk, rfl, hall, hBr⟩ := hrel
    have Hall := hide hall
    clear hall
    by_cases hlt : k < l.length
    · have hc : wr.cell? ⟨w.heap.size, k, none⟩ = some (.int .u8 (l[k].toNat : Int)) := (hBr.cell (p := ⟨w.heap.size, k, none⟩) (by simp)).trans (unhide Hcell k hlt)
      generalize hcc : l[k] = c at hc
      have Hcc := hide hcc
      clear hcc
      have hcb := c.toNat_lt
      go_wp2
      generalize hW2 : Lib.bytesWorld wr 5 OK = W2
      have HW2 : Hid (∀ j (hj : j < okL.length), W2.cell? ⟨wr.heap.size, j, none⟩ = some (.int .u8 (okL[j].toNat : Int))) := hide (fun j hj => by
        rw [← hW2]; exact bytes_cell wr 5 OK okL (unhide HOK) j hj)
      have hB2 : Below (w.heap.size + 1) W1 W2 := by
        rw [← hW2]; exact hBr.trans ((bytes_below wr 5 OK).mono (by have := hBr.size; omega))
      clear hW2
      go_loop [6, 19] (fun t i => ∃ j : Nat, j ≤ 38 ∧ i = .int .i64 j ∧ t = .bool ((okL.take j).any (fun d => d == c))) (fun _ i => 38 - (intOf i).toNat)
      case atStart => exact ⟨0, Nat.zero_le _, rfl, by simp⟩
      case round =>
        obtain ⟨j, hj, rfl, rfl⟩ := hrel
        by_cases hjl : j < 38
        · have hd : W2.cell? ⟨wr.heap.size, j, none⟩ = some (.int .u8 ((okL[j]'hjl).toNat : Int)) := unhide HW2 j hjl
          have HS := hide (any_take_succ okL j hjl c)
          generalize hdd : okL[j]'hjl = d at hd
          have Hdd := hide hdd
          clear hdd
          cases hin : (okL.take j).any (fun d => d == c)
          · have Hin := hide hin
            clear hin
            go_wp2
            exact ⟨⟨j + 1, by omega, by go_num, val_bool (by rw [unhide HS, unhide Hin, unhide Hdd, Bool.false_or]; exact u8_beq c d)⟩, by simp [intOf]; omega⟩
          · have Hin := hide hin
            clear hin
            go_wp2
            exact ⟨⟨j + 1, by omega, by go_num, val_bool (by rw [unhide HS, unhide Hin, Bool.true_or])⟩, by simp [intOf]; omega⟩
        · have hj38 : j = 38 := by omega
          subst hj38
          rw [ok_all, ok_letter c]
          cases hlc : letterB c
          · have Hlc := hide hlc
            clear hlc
            go_wp2
            go_ret
            exact ⟨ret_bool (named_of_not hlt (by rw [unhide Hcc]; exact unhide Hlc)).symm, hB1.trans (hB2.mono (by omega))⟩
          · have Hlc := hide hlc
            clear hlc
            go_wp2
            exact ⟨⟨k + 1, by omega, by go_num, all_take_next hlt letterB (unhide Hall) (by rw [unhide Hcc]; exact unhide Hlc), hB2⟩, by simp [intOf]; omega⟩
    · have hke : k = l.length := by omega
      subst hke
      have hall' : l.all letterB = true := by
        have := unhide Hall
        rwa [List.take_length] at this
      have Hn := hide (namedB_all hall')
      clear hall' Hall
      have hfin : Below w.heap.size w wr := hB1.trans (hBr.mono (by omega))
      by_cases h0 : 0 < l.length
      · by_cases h40 : l.length ≤ 40
        · go_wp2
          go_ret
          exact ⟨ret_bool (by rw [unhide Hn]; first | exact (nm_true h0 h40).symm | exact (decide_eq_true (by omega)).trans (nm_true h0 h40).symm), hfin⟩
        · go_wp2
          go_ret
          exact ⟨ret_bool (by rw [unhide Hn]; first | exact (nm_long h40).symm | exact (decide_eq_false (by omega)).trans (nm_long h40).symm), hfin⟩
      · go_wp2
        go_ret
        exact ⟨ret_bool (by rw [unhide Hn]; first | exact (nm_none h0).symm | exact (decide_eq_false (by omega)).trans (nm_none h0).symm), hfin⟩

end Go.Proofs.YthkggmmalffcdaaGreatDoor

namespace Go.Proofs.YthkggmmalffcdaaGreatDoor
open Go.RowKit
set_option maxRecDepth 10000 in

set_option maxHeartbeats 2000000 in
theorem rgood_some (b off cap : Nat) (fs : List DF) (w : World) (hs : Slim fs) (hl : fs.length ≤ 140737488355328) (hb : b < w.heap.size) (h : RowAt w b off (cellsF fs)) :
    Calls Tryz.prog 130 #[.agg #[.slice (some ⟨b, off, none⟩) fs.length cap]] w fun e w' => e = .returned (.bool (goodD fs)) ∧ Below w.heap.size w w' := by
  have H := hide h
  have HS := hide hs
  have NO := hide (fun (k : Nat) (f : DF) => @bad_file fs k f)
  have NR := hide (fun (k : Nat) (f g : DF) => @bad_order fs k f g)
  have YES := hide (fun h => @good_of_okTo fs h)
  have LONG := hide (@bad_len fs)
  have Z := hide (okTo_zero fs)
  have SU := hide (fun (k : Nat) (f : DF) (h : OkTo fs k) => okTo_succ (f := f) h)
  have hb0 : b ≠ w.heap.size := by omega
  clear h hs
  generalize goodD fs = G at NO NR YES LONG ⊢
  go_enter Tryz.func130, Tryz.ntmps130
  go_wp2_with fail
  go_loopg [8] fs.length (fun kx s12 wr => ∃ k : Nat, s12 = .int .i64 k ∧ k ≤ fs.length ∧ fs.length - k ≤ kx ∧ Hid (Below w.heap.size w wr ∧ w.heap.size < wr.heap.size ∧ wr.cell? ⟨w.heap.size, 0, none⟩ = some (.slice (some ⟨b, off, none⟩) fs.length cap)) ∧ Hid (OkTo fs k))
  case atStart => exact ⟨0, rfl, Nat.zero_le _, by omega, hide ⟨(Below.refl _ _).alloc (Nat.le_refl _) _, by simp, by simp⟩, Z⟩
  case round =>
    obtain ⟨k, rfl, hk, hg, hB, hO⟩ := hrel
    by_cases hlt : k < fs.length
    · obtain ⟨f, hf⟩ : ∃ f, fs[k]? = some f := ⟨_, List.getElem?_eq_getElem hlt⟩
      have HF := hide hf
      have r := (unhide H).kept (unhide hB).1 hb
      have e0 := r.c0 hf
      have e1 := r.c1 hf
      have e2 := r.c2 hf
      have hsl := unhide HS f (List.mem_of_getElem? hf)
      have hbw : b < wr.heap.size := Nat.lt_of_lt_of_le hb (unhide hB).1.size
      have h00 := (unhide hB).2.2
      clear hf r
      obtain ⟨W1, hW1⟩ : ∃ W1, W1 = wr.alloc (.cells #[.string ⟨f.n.toArray⟩, .string ⟨f.s.toArray⟩, .string ⟨f.t.toArray⟩] 73) := ⟨_, rfl⟩
      have hBa : Below wr.heap.size wr W1 := by rw [hW1]; exact (Below.refl _ _).alloc (Nat.le_refl _) _
      have hBw : Below w.heap.size w W1 := dbelow_next (unhide hB).1 hBa
      have hz1 : w.heap.size < W1.heap.size := Nat.lt_of_lt_of_le (unhide hB).2.1 hBa.size
      have h01 : W1.cell? ⟨w.heap.size, 0, none⟩ = some (.slice (some ⟨b, off, none⟩) fs.length cap) := by rw [hBa.cell (p := ⟨w.heap.size, 0, none⟩) (unhide hB).2.1]; exact h00
      have b0 : W1.cell? ⟨wr.heap.size, 0, none⟩ = some (.string ⟨f.n.toArray⟩) := by rw [hW1]; simp
      have b1 : W1.cell? ⟨wr.heap.size, 1, none⟩ = some (.string ⟨f.s.toArray⟩) := by rw [hW1]; simp
      have b2 : W1.cell? ⟨wr.heap.size, 2, none⟩ = some (.string ⟨f.t.toArray⟩) := by rw [hW1]; simp
      have hzb : wr.heap.size < W1.heap.size := by rw [hW1]; simp
      have HF1 : Hid (Below w.heap.size w W1 ∧ w.heap.size < W1.heap.size ∧ wr.heap.size < W1.heap.size) := ⟨hBw, hz1, hzb⟩
      have CN := fun W => refNamed_any f.n W hsl.1
      have HL := hide hsl
      have hsum : ¬ 9223372036854775807 < f.s.length + f.t.length := by omega
      have hW1' := hide hW1
      have HE := hide (And.intro h01 (And.intro b0 (And.intro b1 b2)))
      clear hBa hBw hz1 hzb h00 hsl
      go_wp2_with fail
      rw [← hW1]
      clear hW1 e0 e1 e2
      refine (CN _).mono ?_
      rintro e w1 ⟨rfl, hb1⟩
      have hB1 := dbelow_next (unhide HF1).1 hb1
      have hlt1 : w.heap.size < w1.heap.size := Nat.lt_of_lt_of_le (unhide HF1).2.1 hb1.size
      have g0 : w1.cell? ⟨w.heap.size, 0, none⟩ = some (.slice (some ⟨b, off, none⟩) fs.length cap) := (hb1.cell (p := ⟨w.heap.size, 0, none⟩) (unhide HF1).2.1).trans (unhide HE).1
      have g1 : w1.cell? ⟨wr.heap.size, 0, none⟩ = some (.string ⟨f.n.toArray⟩) := (hb1.cell (p := ⟨wr.heap.size, 0, none⟩) (unhide HF1).2.2).trans (unhide HE).2.1
      have g2 : w1.cell? ⟨wr.heap.size, 1, none⟩ = some (.string ⟨f.s.toArray⟩) := (hb1.cell (p := ⟨wr.heap.size, 1, none⟩) (unhide HF1).2.2).trans (unhide HE).2.2.1
      have g3 : w1.cell? ⟨wr.heap.size, 2, none⟩ = some (.string ⟨f.t.toArray⟩) := (hb1.cell (p := ⟨wr.heap.size, 2, none⟩) (unhide HF1).2.2).trans (unhide HE).2.2.2
      have HB1 := hide hB1
      clear CN hb1 hB1 h01 b0 b1 b2 HE HF1 hW1'
      cases hn : namedB f.n with
      | false =>
        have HN := hide hn
        clear hn
        go_wp2_with fail
        go_ret
        exact ⟨ret_bool (unhide NO k f (unhide HF) (fileOk_short (unhide HN))).symm, unhide HB1⟩
      | true =>
        have HN := hide hn
        clear hn
        by_cases hbig : f.s.length + f.t.length ≤ 1048576
        · have hok := fileOk_yes (unhide HN) hbig
          have hbi : ¬ ((1048576 : Int) < (f.s.length : Int) + (f.t.length : Int)) := by omega
          rcases Nat.eq_zero_or_pos k with hk0 | hk0
          · subst hk0
            have OK2 := hide (unhide SU 0 f (unhide hO) (unhide HF) hok (fun g h => absurd h (Nat.lt_irrefl 0)))
            go_wp2_with fail
            go_region
            go_wp2_with fail
            go_roundg (fs.length - 1)
            case measure => omega
            case rel => exact ⟨1, rfl, by omega, Nat.le_refl _, hide ⟨(unhide HB1).drew, hlt1, g0⟩, OK2⟩
          · obtain ⟨m, rfl⟩ : ∃ m, k = m + 1 := ⟨k - 1, by omega⟩
            obtain ⟨g, hg⟩ : ∃ g, fs[m]? = some g := ⟨_, List.getElem?_eq_getElem (by omega)⟩
            have r := (unhide H).kept (unhide HB1) hb
            have e0 := r.c0 hg
            have HG := hide hg
            clear r hg
            have hm1 : (m : Int) < (fs.length : Int) := by omega
            cases hbl : bl g.n f.n with
            | true =>
              have OK2 := hide (unhide SU (m + 1) f (unhide hO) (unhide HF) hok (fun g' _ h => by
                rw [Nat.add_sub_cancel, unhide HG] at h
                cases h
                exact hbl))
              have hbl' : Op.bytesLess g.n f.n = true := hbl
              clear hbl
              go_wp2_with fail
              go_region
              go_wp2_with fail
              go_roundg (fs.length - (m + 1 + 1))
              case measure => omega
              case rel => exact ⟨m + 1 + 1, rfl, by omega, Nat.le_refl _, hide ⟨(unhide HB1).drew, hlt1, g0⟩, OK2⟩
            | false =>
              have hbl' : Op.bytesLess g.n f.n = false := hbl
              have HGF := hide (unhide NR (m + 1) f g (unhide HF) (by simpa using unhide HG) (by omega) hbl).symm
              clear hbl
              go_wp2_with fail
              go_region
              go_wp2_with fail
              go_ret
              exact ⟨ret_bool (unhide HGF), (unhide HB1).drew⟩
        · have hbi : (1048576 : Int) < (f.s.length : Int) + (f.t.length : Int) := by omega
          go_wp2_with fail
          go_ret
          exact ⟨ret_bool (unhide NO k f (unhide HF) (fileOk_long (by omega))).symm, unhide HB1⟩
    · have hkk : k = fs.length := by omega
      subst hkk
      have h00 := (unhide hB).2.2
      by_cases h16 : fs.length ≤ 16
      · have h16i : (fs.length : Int) ≤ 16 := by omega
        go_wp2_with fail
        go_ret
        exact ⟨ret_bool (by rw [unhide YES h16 (unhide hO)]), (unhide hB).1⟩
      · have h16i : ¬ ((fs.length : Int) ≤ 16) := by omega
        go_wp2_with fail
        go_ret
        exact ⟨ret_bool (by rw [unhide LONG (by omega)]), (unhide hB).1⟩

set_option maxRecDepth 10000 in
set_option maxHeartbeats 1000000 in
theorem rgood_none (a : Option Addr) (cap : Nat) (w : World) :
    Calls Tryz.prog 130 #[.agg #[.slice a 0 cap]] w fun e w' => e = .returned (.bool true) ∧ Below w.heap.size w w' := by
  go_enter Tryz.func130, Tryz.ntmps130
  go_wp2_with fail
  go_loopg [8] 1 (fun _ s wr => s = .int .i64 0 ∧ wr = w.alloc (.cells #[.slice a 0 cap] 24))
  case atStart => exact ⟨rfl, rfl⟩
  case round =>
    obtain ⟨rfl, rfl⟩ := hrel
    go_wp2_with fail
    go_ret
    exact ⟨rfl, (Below.refl _ _).alloc (Nat.le_refl _) _⟩
theorem rdgood_any (v : Value) (fs : List DF) (w : World) (hv : DiskV w v fs) (hs : Slim fs) (hl : fs.length ≤ 140737488355328) :
    Calls Tryz.prog 130 #[.agg #[v]] w fun e w' => e = .returned (.bool (goodD fs)) ∧ Below w.heap.size w w' := by
  rcases hv with ⟨a, cap, rfl, rfl, _⟩ | ⟨b, off, cap, rfl, _, _, hb, _, hr⟩
  · rw [goodD_nil]; exact rgood_none a cap w
  · exact rgood_some b off cap fs w hs hl hb hr

/- aviaryref.file -/
/-- where the first file of this name stands -/
def posI (A R : List DF) : Int := match R with
  | [] => -1
  | _ :: _ => (A.length : Int)
set_option maxRecDepth 10000 in
set_option maxHeartbeats 1000000 in
theorem rfile_split (v : Value) (fs A R : List DF) (name : List UInt8) (w : World) (hv : DiskV w v fs) (hl : fs.length ≤ 16) (he : fs = A ++ R) (lo : ∀ a ∈ A, a.n ≠ name) (hi : ∀ f B, R = f :: B → f.n = name) :
    Calls Tryz.prog 77 #[.agg #[v], .string ⟨name.toArray⟩] w fun e w' => e = .returned (.int .i64 (posI A R)) ∧ Below w.heap.size w w' := by
  obtain ⟨a, c, rfl, hrow⟩ : ∃ a c, v = .slice a fs.length c ∧ (0 < fs.length → ∃ b off, a = some ⟨b, off, none⟩ ∧ b < w.heap.size ∧ RowAt w b off (cellsF fs)) := by
    rcases hv with ⟨a, cap, rfl, rfl, _⟩ | ⟨b, off, cap, rfl, _, _, hb, _, hr⟩
    · exact ⟨a, cap, rfl, fun h => by simp at h⟩
    · exact ⟨_, cap, rfl, fun _ => ⟨b, off, rfl, hb, hr⟩⟩
  have HR := hide hrow
  have HE := hide he
  have LO := hide lo
  have HI := hide hi
  have hal : A.length ≤ fs.length := by rw [he]; simp
  clear hv hrow he lo hi
  go_enter Tryz.func77, Tryz.ntmps77
  go_wp2_with fail
  go_loopg [10] fs.length (fun kx s wr => ∃ k : Nat, s = .int .i64 k ∧ k ≤ A.length ∧ fs.length - k ≤ kx ∧ Hid (Below w.heap.size w wr))
  case atStart => exact ⟨0, rfl, Nat.zero_le _, by omega, hide ((Below.refl _ _).alloc (Nat.le_refl _) _)⟩
  case round =>
    obtain ⟨k, rfl, hk, hkx, hB⟩ := hrel
    by_cases hlt : k < fs.length
    · obtain ⟨b, off, rfl, hb, hr⟩ := unhide HR (by omega)
      obtain ⟨f, hf⟩ : ∃ f, fs[k]? = some f := ⟨_, List.getElem?_eq_getElem hlt⟩
      have r := hr.kept (unhide hB) hb
      have e0 := r.c0 hf
      have e1 := r.c1 hf
      have e2 := r.c2 hf
      have hbw : b < wr.heap.size := Nat.lt_of_lt_of_le hb (unhide hB).size
      have hlti : (k : Int) < (fs.length : Int) := by omega
      have hal2 := (unhide hB).alloc (unhide hB).size (.cells #[.string ⟨f.n.toArray⟩, .string ⟨f.s.toArray⟩, .string ⟨f.t.toArray⟩] 73)
      have HAL := hide hal2
      have HF := hide hf
      clear r hr hf hal2
      by_cases hka : k < A.length
      · have hn : (f.n == name) = false := by
          have hf := unhide HF
          rw [unhide HE, List.getElem?_append_left hka] at hf
          simpa using unhide LO f (List.mem_of_getElem? hf)
        go_wp2_with fail
        go_roundg (fs.length - (k + 1))
        case measure => omega
        case rel => exact ⟨k + 1, rfl, by omega, Nat.le_refl _, HAL⟩
      · obtain rfl : k = A.length := by omega
        have hR : ∃ B, R = f :: B := by
          have hf := unhide HF
          rw [unhide HE, List.getElem?_append_right (Nat.le_refl _), Nat.sub_self] at hf
          cases R with
          | nil => simp at hf
          | cons x B => simp at hf; exact ⟨B, by rw [hf]⟩
        obtain ⟨B, rfl⟩ := hR
        have hn : f.n = name := unhide HI f B rfl
        rw [hn] at e0 HAL
        clear hn
        go_wp2_with fail
        go_ret
        exact ⟨rfl, unhide HAL⟩
    · have hki : ¬ ((k : Int) < (fs.length : Int)) := by omega
      have hR : R = [] := by
        have : fs.length = A.length + R.length := by rw [unhide HE]; simp
        exact List.eq_nil_of_length_eq_zero (by omega)
      subst hR
      go_wp2_with fail
      go_ret
      exact ⟨rfl, unhide hB⟩
theorem rfile_there (v : Value) (fs A B : List DF) (f : DF) (name : List UInt8) (w : World) (hv : DiskV w v fs) (hl : fs.length ≤ 16) (T : There fs A f B name) :
    Calls Tryz.prog 77 #[.agg #[v], .string ⟨name.toArray⟩] w fun e w' => e = .returned (.int .i64 (A.length : Int)) ∧ Below w.heap.size w w' :=
  rfile_split v fs A (f :: B) name w hv hl T.eq (fun a ha => bl_ne (T.lo a ha)) (fun f' B' h => by cases h; exact T.nm)
theorem rfile_gap (v : Value) (fs A B : List DF) (name : List UInt8) (w : World) (hv : DiskV w v fs) (hl : fs.length ≤ 16) (G : Gap fs A B name) :
    Calls Tryz.prog 77 #[.agg #[v], .string ⟨name.toArray⟩] w fun e w' => e = .returned (.int .i64 (-1)) ∧ Below w.heap.size w w' :=
  rfile_split v fs fs [] name w hv hl (by simp) (fun a ha => by
    rw [G.eq] at ha
    rcases List.mem_append.1 ha with h | h
    · exact bl_ne (G.lo a h)
    · exact (bl_ne (G.hi a h)).symm) (fun f' B' h => by cases h)
end Go.Proofs.YthkggmmalffcdaaGreatDoor

namespace Go.Proofs.YthkggmmalffcdaaGreatDoor
open Go.RowKit

theorem disk_len {w : World} {v : Value} {fs : List DF} (hv : DiskV w v fs) : (∃ a c, v = .slice a 0 c ∧ fs = []) ∨ ∃ b off c, v = .slice (some ⟨b, off, none⟩) fs.length c ∧ b < w.heap.size ∧ RowAt w b off (cellsF fs) ∧ fs ≠ [] := by
  rcases hv with ⟨a, cap, rfl, rfl, _⟩ | ⟨b, off, cap, rfl, _, _, hb, h0, hr⟩
  · exact .inl ⟨a, cap, rfl, rfl⟩
  · exact .inr ⟨b, off, cap, rfl, hb, hr, h0⟩

set_option maxRecDepth 10000 in
set_option maxHeartbeats 1000000 in
theorem rcopy_some (a : Addr) (cap : Nat) (fs : List DF) (w : World) (hl : fs.length * 48 ≤ 140737488355328) (hc : ∀ j u, (cellsF fs)[j]? = some u → w.cell? (a.add j) = some u) :
    Calls Tryz.prog 18 #[.agg #[.slice (some a) fs.length cap]] w fun e w' => ∃ v', e = .returned (.agg #[v']) ∧ OwnV w' w.heap.size v' fs ∧ Below w.heap.size w w' := by
  obtain ⟨i0, hi0, hz0, hz1, hz2⟩ := info_file
  have HR := hide hc
  clear hc
  go_enter Tryz.func18, Tryz.ntmps18
  go_wp2_with (at_builtin; refine wpList_append_own _ rfl _ _ 22 rfl (w.heap.size + 2) 73 i0 _ 3 48 Tryz.underlying22 hi0 hz0 hz1 hz2 rfl (by decide) _ 0 [] rfl (World.ownsRow_nil _ _ _ _) a fs.length cap (cellsF fs) rfl (cellsF_length fs) ?qc2 (cellsF_one fs) ?qc4 ?qc5 ?qc6 ?_)
  case qc2 =>
    intro j u hj
    exact Lib.cell?_alloc_some _ (Lib.cell?_alloc_some _ (unhide HR j u hj))
  case qc4 => simp only [maxLen]; omega
  case qc5 => omega
  case qc6 => simp
  intro v' w1 hown hgrow _
  have X := (Boxes.start w (.slice (some a) fs.length cap) 24 24).grownO hgrow (fun k e => by cases e)
  have ho := OwnV.of_row (B := w.heap.size + 2) (by simpa using hown)
  have cr := X.cr
  have fr := X.fr
  have HB := hide X.below
  have HO := hide ho
  obtain ⟨a5, c5, rfl, _⟩ := own_slice ho
  clear X ho hown hgrow
  go_wp2
  refine bodyPost_ret (v := .agg #[.slice a5 fs.length c5]) (by simp [results, Tryz.results18, go_sem, cr]) rfl ⟨_, rfl, ?_, (unhide HB).setCell (by simp) _⟩
  rcases unhide HO with h | ⟨g, c, e, h1, h2⟩
  · exact .inl h
  · exact .inr ⟨g, c, e, by omega, h2.other (by show g ≠ w.heap.size + 1; omega) _⟩

set_option maxRecDepth 10000 in
set_option maxHeartbeats 400000 in
theorem rcopy_nil (cap : Nat) (w : World) :
    Calls Tryz.prog 18 #[.agg #[.slice none 0 cap]] w fun e w' => ∃ v', e = .returned (.agg #[v']) ∧ OwnV w' w.heap.size v' [] ∧ Below w.heap.size w w' := by
  have X := Boxes.start w (.slice none 0 cap) 24 24
  have cr := X.cr
  have HB := hide X.below
  clear X
  go_enter Tryz.func18, Tryz.ntmps18
  go_wp2_with fail
  exact bodyPost_ret (v := .agg #[.slice none 0 0]) (by simp [results, Tryz.results18, go_sem]) rfl ⟨_, rfl, .inl ⟨rfl, rfl⟩, unhide HB⟩

theorem rcopy_any (v : Value) (fs : List DF) (w : World) (hv : DiskV w v fs) (hl : fs.length * 48 ≤ 140737488355328) :
    Calls Tryz.prog 18 #[.agg #[v]] w fun e w' => ∃ v', e = .returned (.agg #[v']) ∧ OwnV w' w.heap.size v' fs ∧ Below w.heap.size w w' := by
  rcases hv with ⟨a, cap, rfl, rfl, _⟩ | ⟨b, off, cap, rfl, _, _, hb, _, hr⟩
  · cases a with
    | none => exact rcopy_nil cap w
    | some a => exact rcopy_some a cap [] w (by simp) (fun j u h => by simp [cellsF] at h)
  · exact rcopy_some ⟨b, off, none⟩ cap fs w hl (fun j u h => by rw [Addr.add_lit]; exact hr j u h)

set_option maxRecDepth 10000 in
set_option maxHeartbeats 400000 in
theorem rsame_none (a a' : Option Addr) (c c' : Nat) (w : World) :
    Calls Tryz.prog 23 #[.agg #[.slice a 0 c], .agg #[.slice a' 0 c']] w fun e w' => e = .returned (.bool true) ∧ Below w.heap.size w w' := by
  go_enter Tryz.func23, Tryz.ntmps23
  go_wp2_with fail
  go_loopg [16] 1 (fun _ s wr => s = .int .i64 0 ∧ wr = (w.alloc (.cells #[.slice a 0 c] 24)).alloc (.cells #[.slice a' 0 c'] 24))
  case atStart => exact ⟨rfl, rfl⟩
  case round =>
    obtain ⟨rfl, rfl⟩ := hrel
    go_wp2_with fail
    go_ret
    exact ⟨rfl, ((Below.refl _ _).alloc (Nat.le_refl _) _).alloc (by simp) _⟩

set_option maxRecDepth 10000 in
set_option maxHeartbeats 1000000 in
theorem rsame_some (b off c b' off' c' : Nat) (fs : List DF) (w : World) (hl : fs.length ≤ 1000000) (hb : b < w.heap.size) (hb' : b' < w.heap.size) (hr : RowAt w b off (cellsF fs)) (hr' : RowAt w b' off' (cellsF fs)) :
    Calls Tryz.prog 23 #[.agg #[.slice (some ⟨b, off, none⟩) fs.length c], .agg #[.slice (some ⟨b', off', none⟩) fs.length c']] w fun e w' => e = .returned (.bool true) ∧ Below w.heap.size w w' := by
  have HR := hide hr
  have HR' := hide hr'
  have hb1 : b ≠ w.heap.size := by omega
  have hb2 : b' ≠ w.heap.size := by omega
  clear hr hr'
  go_enter Tryz.func23, Tryz.ntmps23
  go_wp2_with fail
  obtain ⟨W0, hW0⟩ : ∃ W, W = (w.alloc (.cells #[.slice (some ⟨b, off, none⟩) fs.length c] 24)).alloc (.cells #[.slice (some ⟨b', off', none⟩) fs.length c'] 24) := ⟨_, rfl⟩
  have ca : W0.cell? ⟨w.heap.size, 0, none⟩ = some (.slice (some ⟨b, off, none⟩) fs.length c) := by rw [hW0]; simp
  have cb : W0.cell? ⟨w.heap.size + 1, 0, none⟩ = some (.slice (some ⟨b', off', none⟩) fs.length c') := by rw [hW0]; simp
  have hB0 : Below w.heap.size w W0 := by rw [hW0]; exact ((Below.refl _ _).alloc (Nat.le_refl _) _).alloc (by simp) _
  rw [← hW0]
  have HB := hide hB0
  clear hW0 hB0
  go_loopg [16] fs.length (fun kx s wr => ∃ (k : Nat) (q : Nat), s = .int .i64 k ∧ k ≤ fs.length ∧ fs.length - k ≤ kx ∧ wr = W0.drewN q)
  case atStart => exact ⟨0, 0, rfl, Nat.zero_le _, by omega, rfl⟩
  case round =>
    obtain ⟨k, q, rfl, hk, hkx, rfl⟩ := hrel
    by_cases hlt : k < fs.length
    · obtain ⟨f, hf⟩ : ∃ f, fs[k]? = some f := ⟨_, List.getElem?_eq_getElem hlt⟩
      have r := (unhide HR).kept (unhide HB) hb
      have e0 := r.c0 hf
      have e1 := r.c1 hf
      have e2 := r.c2 hf
      have r' := (unhide HR').kept (unhide HB) hb'
      have e0' := r'.c0 hf
      have e1' := r'.c1 hf
      have e2' := r'.c2 hf
      have hlti : (k : Int) < (fs.length : Int) := by omega
      clear r r' hf
      go_wp2_with fail
      go_region
      go_wp2_with fail
      go_roundg (fs.length - (k + 1))
      case measure => omega
      case rel => exact ⟨k + 1, q + 1, rfl, by omega, Nat.le_refl _, rfl⟩
    · have hki : ¬ ((k : Int) < (fs.length : Int)) := by omega
      go_wp2_with fail
      go_ret
      exact ⟨rfl, (unhide HB).trans ⟨rfl, rfl, rfl, Nat.le_refl _, fun _ _ => rfl⟩⟩

theorem rsame_any (v v' : Value) (fs : List DF) (w : World) (hl : fs.length ≤ 1000000) (hv : DiskV w v fs) (hv' : DiskV w v' fs) :
    Calls Tryz.prog 23 #[.agg #[v], .agg #[v']] w fun e w' => e = .returned (.bool true) ∧ Below w.heap.size w w' := by
  rcases disk_len hv with ⟨a, c, rfl, h0⟩ | ⟨b, off, c, rfl, hb, hr, h0⟩
  · rcases disk_len hv' with ⟨a', c', rfl, _⟩ | ⟨b', off', c', rfl, hb', hr', h0'⟩
    · exact rsame_none a a' c c' w
    · exact absurd h0 h0'
  · rcases disk_len hv' with ⟨a', c', rfl, h0'⟩ | ⟨b', off', c', rfl, hb', hr', h0'⟩
    · exact absurd h0' h0
    · exact rsame_some b off c b' off' c' fs w hl hb hb' hr hr'

set_option maxRecDepth 10000 in
set_option maxHeartbeats 1000000 in
theorem rread_there (v : Value) (fs A B : List DF) (f : DF) (name : List UInt8) (w : World) (hv : DiskV w v fs) (hs : Slim fs) (g : GoodD fs) (T : There fs A f B name) :
    Calls Tryz.prog 124 #[.agg #[v], .string ⟨name.toArray⟩] w fun e w' => e = .returned (.tuple #[.string ⟨(f.s ++ f.t).toArray⟩, .int .i64 0]) ∧ Below w.heap.size w w' := by
  have CG := fun W (hW : Below w.heap.size w W) => rdgood_any v fs W (hv.next hW) hs (by have := g.few; omega)
  have CF := fun W (hW : Below w.heap.size w W) => rfile_there v fs A B f name W (hv.next hW) g.few T
  rw [goodD_true.2 g] at CG
  obtain ⟨b, off, cap, rfl, hb, hr, hk, hlt⟩ := there_row hv T
  have hfl := fileOk_len (T.ok g)
  have HR := hide hr
  have HK := hide hk
  have hlti : (A.length : Int) < (fs.length : Int) := by omega
  have hA0 : ¬ ((A.length : Int) < 0) := by omega
  clear hv hs g T hr hk
  go_enter Tryz.func124, Tryz.ntmps124
  go_wp2_with fail
  refine (CG _ ((Below.refl _ _).alloc (Nat.le_refl _) _)).mono ?_
  rintro e w1 ⟨rfl, hb1⟩
  have hB1 := dbox_then hb1
  have X1 := hide ((BoxAt.new w (.slice (some ⟨b, off, none⟩) fs.length cap)).next hb1)
  have c1 := (unhide X1).c
  clear CG hb1
  go_wp2_with fail
  refine (CF _ hB1).mono ?_
  rintro e w2 ⟨rfl, hb2⟩
  have hB2 := dbelow_next hB1 hb2
  have c2 := ((unhide X1).next hb2).c
  have r := (unhide HR).kept hB2 hb
  have e1 := r.c1 (unhide HK)
  have e2 := r.c2 (unhide HK)
  have hcat : ¬ 9223372036854775807 < f.s.length + f.t.length := by omega
  clear CF hb2 hB1 c1 X1 r
  go_wp2_with fail
  go_quiet (fail)
  go_wp2_with fail
  go_ret2
  exact ⟨by rw [← dcat_one]; rfl, hB2.trans ⟨rfl, rfl, rfl, Nat.le_refl _, fun _ _ => rfl⟩⟩

set_option maxRecDepth 10000 in
set_option maxHeartbeats 1000000 in
theorem rread_no (v : Value) (fs : List DF) (name : List UInt8) (E : Int) (w : World) (hv : DiskV w v fs) (hs : Slim fs) (hl : fs.length ≤ 140737488355328) (h : LocNo fs name E) :
    Calls Tryz.prog 124 #[.agg #[v], .string ⟨name.toArray⟩] w fun e w' => e = .returned (.tuple #[.string ⟨#[]⟩, .int .i64 E]) ∧ Below w.heap.size w w' := by
  have CG := fun W (hW : Below w.heap.size w W) => rdgood_any v fs W (hv.next hW) hs hl
  rcases h with ⟨hg, rfl⟩ | ⟨g, ⟨A, B, G⟩, rfl⟩
  · obtain ⟨a, n, c, rfl⟩ := disk_slice hv
    rw [hg] at CG
    clear hv hs hg
    go_enter Tryz.func124, Tryz.ntmps124
    go_wp2_with fail
    refine (CG _ ((Below.refl _ _).alloc (Nat.le_refl _) _)).mono ?_
    rintro e w1 ⟨rfl, hb1⟩
    have hB1 := dbox_then hb1
    clear CG hb1
    go_wp2_with fail
    go_ret2
    exact ⟨rfl, hB1⟩
  · have CF := fun W (hW : Below w.heap.size w W) => rfile_gap v fs A B name W (hv.next hW) g.few G
    obtain ⟨a, n, c, rfl⟩ := disk_slice hv
    rw [goodD_true.2 g] at CG
    clear hv hs g G
    go_enter Tryz.func124, Tryz.ntmps124
    go_wp2_with fail
    refine (CG _ ((Below.refl _ _).alloc (Nat.le_refl _) _)).mono ?_
    rintro e w1 ⟨rfl, hb1⟩
    have hB1 := dbox_then hb1
    have X1 := hide ((BoxAt.new w (.slice a n c)).next hb1)
    have c1 := (unhide X1).c
    clear CG hb1
    go_wp2_with fail
    refine (CF _ hB1).mono ?_
    rintro e w2 ⟨rfl, hb2⟩
    have hB2 := dbelow_next hB1 hb2
    clear CF hb2 hB1 c1 X1
    go_wp2_with fail
    go_ret2
    exact ⟨rfl, hB2⟩
end Go.Proofs.YthkggmmalffcdaaGreatDoor

namespace Go.Proofs.YthkggmmalffcdaaGreatDoor
open Go.RowKit

/- append(nil, l...) at transactions and watches -/
theorem run_copyT (W : World) (ty : TypeId) (v : Value) (xs : List WTxn) (hv : SeqV W v xs) (hl : xs.length * 72 ≤ 140737488355328) :
    ∃ v' w', (Builtin.append_ #[25, 25] ty #[.slice none 0 0, v]).run Tryz.prog W = .ok v' w' ∧ OwnS w' W.heap.size v' xs ∧ W.grownBy w' none := by
  obtain ⟨i0, hi0, hz0, hz1, hz2⟩ := info_txn
  have main : ∀ (a : Addr) (cap : Nat), v = .slice (some a) xs.length cap → (∀ j u, (cellsL xs)[j]? = some u → W.cell? (a.add j) = some u) →
      ∃ v' w', (Builtin.append_ #[25, 25] ty #[.slice none 0 0, v]).run Tryz.prog W = .ok v' w' ∧ OwnS w' W.heap.size v' xs ∧ W.grownBy w' none := by
    intro a cap e hc
    subst e
    obtain ⟨v', w', h1, h2, h3, _⟩ := run_append_own (P := Tryz.prog) W W.heap.size 25 ty 48 i0 _ 7 72 Tryz.underlying25 hi0 hz0 hz1 hz2 rfl (by decide) (.slice none 0 0) 0 [] (World.ownsRow_nil _ _ _ _) a xs.length cap (cellsL xs) (cellsL_length xs) hc (cellsL_one xs)
      (by simp only [maxLen]; omega) (by omega) (Nat.le_refl _)
    refine ⟨v', w', h1, OwnS.of_row (by first | exact h2 | (simp only [List.nil_append, Nat.zero_add] at h2; exact h2) | simpa using h2), h3⟩
  rcases hv with ⟨a, cap, rfl, rfl, _⟩ | ⟨b, off, cap, rfl, _, _, _, _, hr⟩
  · cases a with
    | none =>
      refine ⟨.slice none 0 0, W, ?_, .inl ⟨rfl, rfl⟩, ⟨rfl, rfl, rfl, Nat.le_refl _, fun _ _ _ => rfl⟩⟩
      simp [Builtin.append_, run_underlying Tryz.underlying25, sizeOf, typeInfo, hi0, Builtin.lenOf, Builtin.firstCells]
    | some a => exact main a cap rfl (fun j u h => by simp [cellsL] at h)
  · exact main ⟨b, off, none⟩ cap rfl (fun j u h => by rw [Addr.add_lit]; exact hr j u h)
theorem wpList_copyT {w : World} {ops : Array Oper} {rest : List Oper} {o : Oper} {a : Act} {Q : Exit → Act → World → Prop} (hgd : Region.wanted o (yielded ops a.tmps) = true) (s x : Operand)
    (ho : o.op = .call { callee := .builtin .append, args := #[s, x], argTypes := #[25, 25] })
    (hs : a.eval s = .slice none 0 0) (v : Value) (hx : a.eval x = v) (xs : List WTxn) (hv : SeqV w v xs) (hl : xs.length * 72 ≤ 140737488355328)
    (h : ∀ v' w', OwnS w' w.heap.size v' xs → w.grownBy w' none → wpList Tryz.prog ops Q rest (a.put o.dst v') w') : wpList Tryz.prog ops Q (o :: rest) a w := by
  obtain ⟨v', w', hr, h2, h3⟩ := run_copyT w o.type v xs hv hl
  refine wpList_step fun K hK => ?_
  rw [if_pos hgd]
  unfold Oper.wp execOp
  simp only [ho, resolve, invoke, builtin, Sem.run_bind, Sem.run_pure, Result.andThen_ok, List.map_toArray, List.map_cons, List.map_nil, hs, hx, hr]
  exact hK _ _ (h v' w' h2 h3)
theorem run_copyW (W : World) (ty : TypeId) (v : Value) (xs : List Wa) (hv : SeqV W v xs) (hl : xs.length * 32 ≤ 140737488355328) :
    ∃ v' w', (Builtin.append_ #[32, 32] ty #[.slice none 0 0, v]).run Tryz.prog W = .ok v' w' ∧ OwnS w' W.heap.size v' xs ∧ W.grownBy w' none := by
  obtain ⟨i0, hi0, hz0, hz1, hz2⟩ := winfo
  have main : ∀ (a : Addr) (cap : Nat), v = .slice (some a) xs.length cap → (∀ j u, (cellsL xs)[j]? = some u → W.cell? (a.add j) = some u) →
      ∃ v' w', (Builtin.append_ #[32, 32] ty #[.slice none 0 0, v]).run Tryz.prog W = .ok v' w' ∧ OwnS w' W.heap.size v' xs ∧ W.grownBy w' none := by
    intro a cap e hc
    subst e
    obtain ⟨v', w', h1, h2, h3, _⟩ := run_append_own (P := Tryz.prog) W W.heap.size 32 ty 86 i0 _ 3 32 Tryz.underlying32 hi0 hz0 hz1 hz2 rfl (by decide) (.slice none 0 0) 0 [] (World.ownsRow_nil _ _ _ _) a xs.length cap (cellsL xs) (cellsL_length xs) hc (cellsL_one xs)
      (by simp only [maxLen]; omega) (by omega) (Nat.le_refl _)
    refine ⟨v', w', h1, OwnS.of_row (by first | exact h2 | (simp only [List.nil_append, Nat.zero_add] at h2; exact h2) | simpa using h2), h3⟩
  rcases hv with ⟨a, cap, rfl, rfl, _⟩ | ⟨b, off, cap, rfl, _, _, _, _, hr⟩
  · cases a with
    | none =>
      refine ⟨.slice none 0 0, W, ?_, .inl ⟨rfl, rfl⟩, ⟨rfl, rfl, rfl, Nat.le_refl _, fun _ _ _ => rfl⟩⟩
      simp [Builtin.append_, run_underlying Tryz.underlying32, sizeOf, typeInfo, hi0, Builtin.lenOf, Builtin.firstCells]
    | some a => exact main a cap rfl (fun j u h => by simp [cellsL] at h)
  · exact main ⟨b, off, none⟩ cap rfl (fun j u h => by rw [Addr.add_lit]; exact hr j u h)
theorem wpList_copyW {w : World} {ops : Array Oper} {rest : List Oper} {o : Oper} {a : Act} {Q : Exit → Act → World → Prop} (hgd : Region.wanted o (yielded ops a.tmps) = true) (s x : Operand)
    (ho : o.op = .call { callee := .builtin .append, args := #[s, x], argTypes := #[32, 32] })
    (hs : a.eval s = .slice none 0 0) (v : Value) (hx : a.eval x = v) (xs : List Wa) (hv : SeqV w v xs) (hl : xs.length * 32 ≤ 140737488355328)
    (h : ∀ v' w', OwnS w' w.heap.size v' xs → w.grownBy w' none → wpList Tryz.prog ops Q rest (a.put o.dst v') w') : wpList Tryz.prog ops Q (o :: rest) a w := by
  obtain ⟨v', w', hr, h2, h3⟩ := run_copyW w o.type v xs hv hl
  refine wpList_step fun K hK => ?_
  rw [if_pos hgd]
  unfold Oper.wp execOp
  simp only [ho, resolve, invoke, builtin, Sem.run_bind, Sem.run_pure, Result.andThen_ok, List.map_toArray, List.map_cons, List.map_nil, hs, hx, hr]
  exact hK _ _ (h v' w' h2 h3)
theorem own_seqF {W : World} {B : Nat} {v : Value} {fs : List DF} (h : OwnV W B v fs) : OwnS W B v fs := OwnS.of_row (by have := h.row; rw [← cellsF_L] at this; exact this)

set_option maxRecDepth 10000 in
set_option maxHeartbeats 4000000 in
theorem rcopyS_any (s : Sv) (v : Value) (w : World) (hv : SvV w v s) (hf : Fits s) :
    Calls Tryz.prog 6 #[v] w (GivesC w s) := by
  obtain ⟨ad, nd, cd, al, cl, an, cn, ai, ci, aw, cw, rfl, d1, l1, n1, s1, k1⟩ := hv.five
  have CD := fun W (hW : Below w.heap.size w W) => rcopy_any _ s.fs W (d1.next hW) hf.d
  have CL := fun W (hW : Below w.heap.size w W) => seq_log.2 (l1.next hW)
  have CT := fun W (hW : Below w.heap.size w W) => rcopyT_any s.tr _ _ W (n1.next hW) (s1.next hW) hf.n (by have := hf.si; omega)
  have CW := fun W (hW : Below w.heap.size w W) => k1.next hW
  have hll := hf.l
  have hlw := hf.wa
  have HD := hide CD
  have HL := hide CL
  have HT := hide CT
  have HW := hide CW
  clear CD CL CT CW hv d1 l1 n1 s1 k1 hf
  obtain ⟨up, fs, id, ep, ts, dn, ⟨tz, tns, tss⟩, ws⟩ := s
  simp only at *
  unfold GivesT at HT
  simp only at HT
  go_enter Tryz.func6, Tryz.ntmps6
  go_wp2_with fail
  have X0 := CB.start w up id ep dn tz (.slice ad nd cd) (.slice al ts.length cl) (.slice an tns.length cn) (.slice ai tss.length ci) (.slice aw ws.length cw)
  generalize (w.alloc (.cells #[.bool up, .slice ad nd cd, .int .i64 id, .int .i64 ep, .slice al ts.length cl, .int .i64 dn, .int .i64 tz, .slice an tns.length cn, .slice ai tss.length ci, .slice aw ws.length cw] 34)).alloc (.cells #[.bool false, .slice none 0 0, .int .i64 0, .int .i64 0, .slice none 0 0, .int .i64 0, .int .i64 0, .slice none 0 0, .slice none 0 0, .slice none 0 0] 34) = W0 at *
  have HX0 := hide X0
  obtain ⟨x0, x1, x2, x3, x4, x5, x6, x7, x8, x9⟩ := X0.s.cells
  clear X0
  refine (unhide HD _ (unhide HX0).below).mono ?_
  rintro e w1 ⟨v1, rfl, o1', hb1⟩
  have o1 := own_seqF o1'
  obtain ⟨a1, c1, rfl, _⟩ := o1.slice
  have z1 := (unhide HX0).lt
  have X1 := (unhide HX0).next hb1
  have Y1 := X1.put 1 (.slice a1 fs.length c1) rfl
  obtain ⟨y0, y1, y2, y3, y4, y5, y6, y7, y8, y9⟩ := X1.s.cells
  have g1 := X1.s.froz 1
  have O1 := hide (own_set (j := 1) (u := .slice a1 fs.length c1) o1 (by omega : w.heap.size < _))
  have b1 := hide (fun k hk => OwnS.low o1 k hk)
  have S1 := hide (show w.heap.size + 1 < W0.heap.size by omega)
  have Z1 := hide (show w.heap.size ≤ W0.heap.size by omega)
  have K1 := hide (show W0.heap.size ≤ (w1.setCell ⟨w.heap.size, 1, none⟩ (.slice a1 fs.length c1)).heap.size by have := hb1.size; simp [World.setCell] at *; omega)
  have L1 := hide (show w1.heap.size = (w1.setCell ⟨w.heap.size, 1, none⟩ (.slice a1 fs.length c1)).heap.size by simp [World.setCell])
  clear X1 o1 o1' hb1 z1 HX0 HD x0 x1 x2 x3 x4 x5 x6 x7 x8 x9
  have HX1 := hide Y1
  obtain ⟨x0, x1, x2, x3, x4, x5, x6, x7, x8, x9⟩ := Y1.s.cells
  clear Y1
  go_upto_region 2 with fail
  generalize w1.setCell ⟨w.heap.size, 1, none⟩ (.slice a1 fs.length c1) = V1 at *
  clear y0 y1 y2 y3 y4 y5 y6 y7 y8 y9 g1
  go_wp2_with (at_builtin; refine wpList_copyT (by kernel_rfl) _ _ rfl rfl (.slice al ts.length cl) rfl ts (unhide HL _ (unhide HX1).below) hll ?_)
  intro v2 w2 o2 hg2
  have hb2 := grown_below hg2
  obtain ⟨a2, c2, rfl, _⟩ := o2.slice
  have z2 := (unhide HX1).lt
  have X2 := (unhide HX1).next hb2
  have Y2 := X2.put 4 (.slice a2 ts.length c2) rfl
  obtain ⟨y0, y1, y2, y3, y4, y5, y6, y7, y8, y9⟩ := X2.s.cells
  have g2 := X2.s.froz 4
  have O2 := hide (own_set (j := 4) (u := .slice a2 ts.length c2) o2 (by omega : w.heap.size < _))
  have b2 := hide (fun k hk => OwnS.low o2 k hk)
  have P1 := hide (own_set (j := 4) (u := .slice a2 ts.length c2) ((unhide O1).next hb2) (Nat.lt_of_succ_lt (unhide S1)))
  have S2 := hide (show w.heap.size + 1 < V1.heap.size by omega)
  have K2 := hide (show V1.heap.size ≤ (w2.setCell ⟨w.heap.size, 4, none⟩ (.slice a2 ts.length c2)).heap.size by have := hb2.size; simp [World.setCell] at *; omega)
  have L2 := hide (show w2.heap.size = (w2.setCell ⟨w.heap.size, 4, none⟩ (.slice a2 ts.length c2)).heap.size by simp [World.setCell])
  clear X2 o2 hb2 hg2 z2 HX1 HL x0 x1 x2 x3 x4 x5 x6 x7 x8 x9 O1
  have O1 := P1
  clear P1
  have HX2 := hide Y2
  obtain ⟨x0, x1, x2, x3, x4, x5, x6, x7, x8, x9⟩ := Y2.s.cells
  clear Y2
  go_upto_region 3 with fail
  generalize w2.setCell ⟨w.heap.size, 4, none⟩ (.slice a2 ts.length c2) = V2 at *
  clear y0 y1 y2 y3 y4 y5 y6 y7 y8 y9 g2
  go_wp2_with fail
  refine (unhide HT _ (unhide HX2).below).mono ?_
  rintro e w3 ⟨v3, v4, rfl, o3, o4, hb3⟩
  obtain ⟨a3, c3, rfl, _⟩ := o3.slice
  obtain ⟨a4, c4, rfl, _⟩ := o4.slice
  have z3 := (unhide HX2).lt
  have X3 := (unhide HX2).next hb3
  have Y3 := ((X3.put 6 (.int .i64 tz) rfl).put 7 (.slice a3 tns.length c3) rfl).put 8 (.slice a4 tss.length c4) rfl
  obtain ⟨y0, y1, y2, y3, y4, y5, y6, y7, y8, y9⟩ := X3.s.cells
  have g6 := X3.s.froz 6
  have g7 := X3.s.froz 7
  have g8 := X3.s.froz 8
  have three : ∀ {α : Type} [Lay α] {B : Nat} {u : Value} {xs : List α}, OwnS w3 B u xs → w.heap.size < B → OwnS (((w3.setCell ⟨w.heap.size, 6, none⟩ (.int .i64 tz)).setCell ⟨w.heap.size, 7, none⟩ (.slice a3 tns.length c3)).setCell ⟨w.heap.size, 8, none⟩ (.slice a4 tss.length c4)) B u xs := fun h hk => own_set (own_set (own_set h hk) hk) hk
  have O3 := hide (three o3 (by omega))
  have O4 := hide (three o4 (by omega))
  have P1 := hide (three ((unhide O1).next hb3) (Nat.lt_of_succ_lt (unhide S1)))
  have P2 := hide (three ((unhide O2).next hb3) (Nat.lt_of_succ_lt (unhide S2)))
  have S3 := hide (show w.heap.size + 1 < V2.heap.size by omega)
  have K3 := hide (show V2.heap.size ≤ (((w3.setCell ⟨w.heap.size, 6, none⟩ (.int .i64 tz)).setCell ⟨w.heap.size, 7, none⟩ (.slice a3 tns.length c3)).setCell ⟨w.heap.size, 8, none⟩ (.slice a4 tss.length c4)).heap.size by have := hb3.size; simp [World.setCell] at *; omega)
  clear X3 o3 o4 hb3 z3 HX2 HT x0 x1 x2 x3 x4 x5 x6 x7 x8 x9 O1 O2 three
  have O1 := P1
  have O2 := P2
  clear P1 P2
  have HX3 := hide Y3
  obtain ⟨x0, x1, x2, x3, x4, x5, x6, x7, x8, x9⟩ := Y3.s.cells
  clear Y3
  go_upto_region 4 with fail
  generalize ((w3.setCell ⟨w.heap.size, 6, none⟩ (.int .i64 tz)).setCell ⟨w.heap.size, 7, none⟩ (.slice a3 tns.length c3)).setCell ⟨w.heap.size, 8, none⟩ (.slice a4 tss.length c4) = V3 at *
  clear y0 y1 y2 y3 y4 y5 y6 y7 y8 y9 g6 g7 g8
  go_wp2_with (at_builtin; refine wpList_copyW (by kernel_rfl) _ _ rfl rfl (.slice aw ws.length cw) rfl ws (unhide HW _ (unhide HX3).below) hlw ?_)
  intro v5 w5 o5 hg5
  have hb5 := grown_below hg5
  obtain ⟨a5, c5, rfl, _⟩ := o5.slice
  have z5 := (unhide HX3).lt
  have X5 := (unhide HX3).next hb5
  have Y5 := X5.put 9 (.slice a5 ws.length c5) rfl
  obtain ⟨y0, y1, y2, y3, y4, y5, y6, y7, y8, y9⟩ := X5.s.cells
  have g5 := X5.s.froz 9
  have O5 := hide (own_set (j := 9) (u := .slice a5 ws.length c5) o5 (by omega : w.heap.size < _))
  have P1 := hide (own_set (j := 9) (u := .slice a5 ws.length c5) ((unhide O1).next hb5) (Nat.lt_of_succ_lt (unhide S1)))
  have P2 := hide (own_set (j := 9) (u := .slice a5 ws.length c5) ((unhide O2).next hb5) (Nat.lt_of_succ_lt (unhide S2)))
  have P3 := hide (own_set (j := 9) (u := .slice a5 ws.length c5) ((unhide O3).next hb5) (Nat.lt_of_succ_lt (unhide S3)))
  have P4 := hide (own_set (j := 9) (u := .slice a5 ws.length c5) ((unhide O4).next hb5) (Nat.lt_of_succ_lt (unhide S3)))
  have S5 := hide (show w.heap.size + 1 < V3.heap.size by omega)
  have K5 := hide (show V3.heap.size ≤ (w5.setCell ⟨w.heap.size, 9, none⟩ (.slice a5 ws.length c5)).heap.size by have := hb5.size; simp [World.setCell] at *; omega)
  have L5 := hide (show w5.heap.size = (w5.setCell ⟨w.heap.size, 9, none⟩ (.slice a5 ws.length c5)).heap.size by simp [World.setCell])
  clear X5 o5 hb5 hg5 z5 HX3 HW x0 x1 x2 x3 x4 x5 x6 x7 x8 x9 O1 O2 O3 O4
  have O1 := P1
  have O2 := P2
  have O3 := P3
  have O4 := P4
  clear P1 P2 P3 P4
  have HX5 := hide Y5
  obtain ⟨x0, x1, x2, x3, x4, x5, x6, x7, x8, x9⟩ := Y5.s.cells
  obtain ⟨r0, r1, r2, r3, r4, r5, r6, r7, r8, r9⟩ := Y5.r.cells
  have rf0 := Y5.r.froz 0
  have rf1 := Y5.r.froz 1
  have rf2 := Y5.r.froz 2
  have rf3 := Y5.r.froz 3
  have rf4 := Y5.r.froz 4
  have rf5 := Y5.r.froz 5
  have rf6 := Y5.r.froz 6
  have rf7 := Y5.r.froz 7
  have rf8 := Y5.r.froz 8
  have rf9 := Y5.r.froz 9
  have Y5b := Y5.below
  clear Y5
  have HF := hide (put10_below Y5b (by omega : w.heap.size ≤ w.heap.size + 1) (.bool up) (.slice a1 fs.length c1) (.int .i64 id) (.int .i64 ep) (.slice a2 ts.length c2) (.int .i64 dn) (.int .i64 tz) (.slice a3 tns.length c3) (.slice a4 tss.length c4) (.slice a5 ws.length c5))
  have Q1 := hide (own_put10 (unhide O1) (unhide S1) (.bool up) (.slice a1 fs.length c1) (.int .i64 id) (.int .i64 ep) (.slice a2 ts.length c2) (.int .i64 dn) (.int .i64 tz) (.slice a3 tns.length c3) (.slice a4 tss.length c4) (.slice a5 ws.length c5))
  have Q2 := hide (own_put10 (unhide O2) (unhide S2) (.bool up) (.slice a1 fs.length c1) (.int .i64 id) (.int .i64 ep) (.slice a2 ts.length c2) (.int .i64 dn) (.int .i64 tz) (.slice a3 tns.length c3) (.slice a4 tss.length c4) (.slice a5 ws.length c5))
  have Q3 := hide (own_put10 (unhide O3) (unhide S3) (.bool up) (.slice a1 fs.length c1) (.int .i64 id) (.int .i64 ep) (.slice a2 ts.length c2) (.int .i64 dn) (.int .i64 tz) (.slice a3 tns.length c3) (.slice a4 tss.length c4) (.slice a5 ws.length c5))
  have Q4 := hide (own_put10 (unhide O4) (unhide S3) (.bool up) (.slice a1 fs.length c1) (.int .i64 id) (.int .i64 ep) (.slice a2 ts.length c2) (.int .i64 dn) (.int .i64 tz) (.slice a3 tns.length c3) (.slice a4 tss.length c4) (.slice a5 ws.length c5))
  have Q5 := hide (own_put10 (unhide O5) (unhide S5) (.bool up) (.slice a1 fs.length c1) (.int .i64 id) (.int .i64 ep) (.slice a2 ts.length c2) (.int .i64 dn) (.int .i64 tz) (.slice a3 tns.length c3) (.slice a4 tss.length c4) (.slice a5 ws.length c5))
  clear Y5b O1 O2 O3 O4 O5
  go_wp2_with fail
  refine bodyPost_ret (v := .agg #[.bool up, .slice a1 fs.length c1, .int .i64 id, .int .i64 ep, .slice a2 ts.length c2, .int .i64 dn, .int .i64 tz, .slice a3 tns.length c3, .slice a4 tss.length c4, .slice a5 ws.length c5]) (by simp [results, Tryz.results6, go_sem, r0, r1, r2, r3, r4, r5, r6, r7, r8, r9]) rfl ?_
  have k1 := unhide K1
  have k2 := unhide K2
  have k3 := unhide K3
  have z1 := unhide Z1
  exact ⟨a1, fs.length, c1, a2, c2, a3, c3, a4, c4, a5, c5, V1.heap.size, V2.heap.size, rfl, by omega, k2, (unhide Q1).lower z1, fun k hk => (unhide L1) ▸ unhide b1 k hk, unhide Q2, fun k hk => (unhide L2) ▸ unhide b2 k hk, unhide Q3, unhide Q4, (unhide Q5).lower k3, unhide HF⟩

end Go.Proofs.YthkggmmalffcdaaGreatDoor

namespace Go.Proofs.YthkggmmalffcdaaGreatDoor
open Go.RowKit

theorem lastZ_more {ts : List WTxn} {k : Nat} {t : WTxn} (h : ts[k]? = some t) : lastZ (ts.take (k + 1)) = t.z := by rw [take_more1 h, lastZ_snoc]
set_option maxRecDepth 10000 in
set_option maxHeartbeats 1000000 in
theorem rlast_any (v : Value) (ts : List WTxn) (w : World) (hv : LogV w v ts) :
    Calls Tryz.prog 83 #[v] w fun e w' => e = .returned (.int .i64 (lastZ ts)) ∧ Below w.heap.size w w' := by
  have hlen : ts.length ≤ 9223372036854775807 := by
    rcases hv with ⟨a, cap, rfl, rfl, _⟩ | ⟨b, off, cap, rfl, h1, h2, _⟩
    · simp
    · simp only [maxLen] at h2; omega
  have HV := hide hv
  obtain ⟨a, c, rfl⟩ := log_slice hv
  clear hv
  go_enter Tryz.func83, Tryz.ntmps83
  go_wp2_with fail
  go_loopg [3, 8] ts.length (fun kx s3 s8 wr => ∃ (k : Nat) (z : Int), s3 = .int .i64 z ∧ s8 = .int .i64 k ∧ k ≤ ts.length ∧ ts.length - k ≤ kx ∧ Hid (lastZ (ts.take k) = z) ∧ Hid (Below w.heap.size w wr))
  case atStart => exact ⟨0, 0, rfl, rfl, Nat.zero_le _, by omega, hide rfl, hide (Below.refl _ _)⟩
  case round =>
    obtain ⟨k, z, rfl, rfl, hk, hkx, HZ, HB⟩ := hrel
    by_cases hlt : k < ts.length
    · obtain ⟨t, ht⟩ : ∃ t, ts[k]? = some t := ⟨_, List.getElem?_eq_getElem hlt⟩
      obtain ⟨b, off, cap, he, hb, hr, _, _, _⟩ := log_row ((unhide HV).next (unhide HB)) ht
      simp only [Value.slice.injEq, true_and] at he
      obtain ⟨rfl, rfl⟩ := he
      have e0 := hr.z ht
      have e1 := hr.o ht
      have e2 := hr.s ht
      have e3 := hr.p ht
      have e4 := hr.d ht
      have e5 := hr.v ht
      have e6 := hr.w ht
      have hlti : (k : Int) < (ts.length : Int) := by omega
      have HL := hide (lastZ_more ht)
      have hk63 : k < 9223372036854775807 := by omega
      have HB2 := fun o => hide ((unhide HB).alloc (unhide HB).size o)
      clear hr ht hb
      go_wp2_with fail
      go_roundg (ts.length - (k + 1))
      case measure => omega
      case rel => exact ⟨k + 1, t.z, rfl, by simp, by omega, Nat.le_refl _, HL, HB2 _⟩
    · obtain rfl : k = ts.length := by omega
      have hki : ¬ ((ts.length : Int) < (ts.length : Int)) := by omega
      have hz : lastZ ts = z := by have := unhide HZ; rwa [List.take_length] at this
      have HZ2 := hide hz
      clear hz
      go_wp2_with fail
      go_ret
      rw [unhide HZ2]
      exact ⟨rfl, unhide HB⟩
end Go.Proofs.YthkggmmalffcdaaGreatDoor
