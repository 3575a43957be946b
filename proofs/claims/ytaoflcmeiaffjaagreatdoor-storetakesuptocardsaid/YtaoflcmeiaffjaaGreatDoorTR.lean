/-
  What aviaryref.Named answers, for every text: the walk.
  What aviaryref.GoodDisk and file answer: the walks.
  What aviaryref.Read, CopyDisk and SameDisk answer: the walks.
  aviaryref.CopyServer: the walk.
  What wire.unfold answers, for every text: the walk.
  What aviaryref.Last and aviaryref.Scan answer: the walks.
-/
import Derived.Test.YtaoflcmeiaffjaaGreatDoorTC
import Derived.Lib.ConvBytes
import Derived.Lib.Strings
import Derived.Test.YtaoflcmeiaffjaaGreatDoorTH
import Derived.Laws.StructEq
import Derived.Test.YtaoflcmeiaffjaaGreatDoorTM
import Derived.Test.YtaoflcmeiaffjaaGreatDoorTK
import Derived.Test.YtaoflcmeiaffjaaGreatDoorTI
namespace Go.Proofs.YtaoflcmeiaffjaaGreatDoor
open Go.RowKit

def okL : List UInt8 := [97, 98, 99, 100, 101, 102, 103, 104, 105, 106, 107, 108, 109, 110, 111, 112, 113, 114, 115, 116, 117, 118, 119, 120, 121, 122, 48, 49, 50, 51, 52, 53, 54, 55, 56, 57, 45, 95]
theorem ok_fin : ∀ n : Fin 256, okL.any (fun d => d == UInt8.ofNat n.val) = letterB (UInt8.ofNat n.val) := by decide +kernel
theorem ok_letter (c : UInt8) : okL.any (fun d => d == c) = letterB c := by
  have h := ok_fin ⟨c.toNat, c.toNat_lt⟩
  rwa [show UInt8.ofNat (⟨c.toNat, c.toNat_lt⟩ : Fin 256).val = c from by simp] at h

theorem any_take_succ (l : List UInt8) (j : Nat) (h : j < l.length) (c : UInt8) : (l.take (j + 1)).any (fun d => d == c) = ((l.take j).any (fun d => d == c) || l[j] == c) := by
  rw [List.take_succ_eq_append_getElem h, List.any_append]; simp

theorem val_bool {a b : Bool} (h : a = b) : Value.bool a = .bool b := by rw [h]
theorem u8_beq (c d : UInt8) : ((c.toNat : Int) == (d.toNat : Int)) = (d == c) := by
  rw [Bool.eq_iff_iff, beq_iff_eq, beq_iff_eq]
  constructor
  · intro h; exact (UInt8.toNat_inj.1 (by omega)).symm
  · rintro rfl; rfl
theorem ok_all (c : UInt8) : (okL.take 38).any (fun d => d == c) = okL.any (fun d => d == c) := rfl
theorem namedB_all {l : List UInt8} (h : l.all letterB = true) : namedB l = (decide (1 ≤ l.length) && decide (l.length ≤ 40)) := by
  rw [namedB, h, Bool.and_true]
theorem nm_true {n : Nat} (h : 0 < n) (h1 : n ≤ 40) : (decide (1 ≤ n) && decide (n ≤ 40)) = true := by
  rw [decide_eq_true (show 1 ≤ n from h), decide_eq_true h1]; rfl
theorem nm_long {n : Nat} (h1 : ¬ n ≤ 40) : (decide (1 ≤ n) && decide (n ≤ 40)) = false := by
  rw [decide_eq_false h1, Bool.and_false]
theorem nm_none {n : Nat} (h : ¬ 0 < n) : (decide (1 ≤ n) && decide (n ≤ 40)) = false := by
  rw [decide_eq_false (show ¬ 1 ≤ n from h), Bool.false_and]
theorem bytes_below (w : World) (e : TypeId) (s : ByteArray) : Below w.heap.size w (Lib.bytesWorld w e s) :=
  ⟨rfl, rfl, rfl, by rw [Lib.bytesWorld_size]; omega, fun k hk => Lib.bytesWorld_at_old w e s k hk⟩
theorem bytes_cell (w : World) (e : TypeId) (s : ByteArray) (l : List UInt8) (h : s.data.toList = l) (j : Nat) (hj : j < l.length) : (Lib.bytesWorld w e s).cell? ⟨w.heap.size, j, none⟩ = some (.int .u8 (l[j].toNat : Int)) := by
  subst h
  rw [Lib.bytesWorld_cell _ _ _ _ (by rw [Lib.size_eq]; exact hj), List.getD_eq_getElem?_getD, List.getElem?_eq_getElem hj]; rfl
theorem all_take_next {l : List UInt8} {k : Nat} (h : k < l.length) (p : UInt8 → Bool) (h1 : (l.take k).all p = true) (h2 : p l[k] = true) : (l.take (k + 1)).all p = true := by
  rw [List.take_succ_eq_append_getElem h, List.all_append, h1]; simpa using h2
theorem named_of_not {l : List UInt8} {k : Nat} (h : k < l.length) (h2 : letterB l[k] = false) : namedB l = false := by
  have : l.all letterB = false := by
    rw [List.all_eq_false]
    exact ⟨l[k], List.getElem_mem h, by simp [h2]⟩
  rw [namedB, this, Bool.and_false]

set_option maxRecDepth 10000 in
set_option maxHeartbeats 1000000 in
theorem refNamed_any (l : List UInt8) (w : World) (hl : l.length ≤ 140737488355328) :
    Calls Tryz.prog 89 #[.string ⟨l.toArray⟩] w fun e w' => e = .returned (.bool (namedB l)) ∧ Below w.heap.size w w' := by
  have hz : (ByteArray.mk l.toArray).size = l.length := Lib.size_eq ⟨l.toArray⟩
  have hconv : ∀ W s, (convert 9 122 (.string s)).run Tryz.prog W = .ok (.slice (some ⟨W.heap.size, 0, none⟩) s.size (grownCap W s.size 0 5)) (Lib.bytesWorld W 5 s) := fun W s =>
    Lib.run_convert_string_bytes W 9 122 5 s Tryz.underlying9 Tryz.underlying122 Tryz.underlying5
  go_enter Tryz.func89, Tryz.ntmps89
  go_wp2
  generalize hOK : (ByteArray.mk #[97, 98, 99, 100, 101, 102, 103, 104, 105, 106, 107, 108, 109, 110, 111, 112, 113, 114, 115, 116, 117, 118, 119, 120, 121, 122, 48, 49, 50, 51, 52, 53, 54, 55, 56, 57, 45, 95]) = OK
  have HOK : Hid (OK.data.toList = okL) := hide (by rw [← hOK]; rfl)
  have hOs : OK.size = 38 := by rw [← hOK]; rfl
  clear hOK
  generalize hW1 : Lib.bytesWorld w 5 ⟨l.toArray⟩ = W1
  have hs1 : W1.heap.size = w.heap.size + 1 := by rw [← hW1]; exact Lib.bytesWorld_size _ _ _
  have Hcell : Hid (∀ j (hj : j < l.length), W1.cell? ⟨w.heap.size, j, none⟩ = some (.int .u8 (l[j].toNat : Int))) := hide (fun j hj => by
    rw [← hW1]; exact bytes_cell w 5 ⟨l.toArray⟩ l rfl j hj)
  have hB1 : Below w.heap.size w W1 := by rw [← hW1]; exact bytes_below _ _ _
  clear hW1
  go_loopw [12] (fun i wr => ∃ k : Nat, k ≤ l.length ∧ i = .int .i64 k ∧ (l.take k).all letterB = true ∧ Below (w.heap.size + 1) W1 wr) (fun i _ => l.length - (intOf i).toNat)
  case atStart => exact ⟨0, Nat.zero_le _, rfl, by simp, Below.refl _ _⟩
  case round =>
    obtain ⟨k, hk, rfl, hall, hBr⟩ := hrel
    have Hall := hide hall
    clear hall
    by_cases hlt : k < l.length
    · have hc : wr.cell? ⟨w.heap.size, k, none⟩ = some (.int .u8 (l[k].toNat : Int)) := (hBr.cell (p := ⟨w.heap.size, k, none⟩) (by simp)).trans (unhide Hcell k hlt)
      generalize hcc : l[k] = c at hc
      have Hcc := hide hcc
      clear hcc
      have hcb := c.toNat_lt
      go_wp2
      generalize hW2 : Lib.bytesWorld wr 5 OK = W2
      have HW2 : Hid (∀ j (hj : j < okL.length), W2.cell? ⟨wr.heap.size, j, none⟩ = some (.int .u8 (okL[j].toNat : Int))) := hide (fun j hj => by
        rw [← hW2]; exact bytes_cell wr 5 OK okL (unhide HOK) j hj)
      have hB2 : Below (w.heap.size + 1) W1 W2 := by
        rw [← hW2]; exact hBr.trans ((bytes_below wr 5 OK).mono (by have := hBr.size; omega))
      clear hW2
      go_loop [6, 19] (fun t i => ∃ j : Nat, j ≤ 38 ∧ i = .int .i64 j ∧ t = .bool ((okL.take j).any (fun d => d == c))) (fun _ i => 38 - (intOf i).toNat)
      case atStart => exact ⟨0, Nat.zero_le _, rfl, by simp⟩
      case round =>
        obtain ⟨j, hj, rfl, rfl⟩ := hrel
        by_cases hjl : j < 38
        · have hd : W2.cell? ⟨wr.heap.size, j, none⟩ = some (.int .u8 ((okL[j]'hjl).toNat : Int)) := unhide HW2 j hjl
          have HS := hide (any_take_succ okL j hjl c)
          generalize hdd : okL[j]'hjl = d at hd
          have Hdd := hide hdd
          clear hdd
          cases hin : (okL.take j).any (fun d => d == c)
          · have Hin := hide hin
            clear hin
            go_wp2
            exact ⟨⟨j + 1, by omega, by go_num, val_bool (by rw [unhide HS, unhide Hin, unhide Hdd, Bool.false_or]; exact u8_beq c d)⟩, by simp [intOf]; omega⟩
          · have Hin := hide hin
            clear hin
            go_wp2
            exact ⟨⟨j + 1, by omega, by go_num, val_bool (by rw [unhide HS, unhide Hin, Bool.true_or])⟩, by simp [intOf]; omega⟩
        · have hj38 : j = 38 := by omega
          subst hj38
          rw [ok_all, ok_letter c]
          cases hlc : letterB c
          · have Hlc := hide hlc
            clear hlc
            go_wp2
            go_ret
            exact ⟨ret_bool (named_of_not hlt (by rw [unhide Hcc]; exact unhide Hlc)).symm, hB1.trans (hB2.mono (by omega))⟩
          · have Hlc := hide hlc
            clear hlc
            go_wp2
            exact ⟨⟨k + 1, by omega, by go_num, all_take_next hlt letterB (unhide Hall) (by rw [unhide Hcc]; exact unhide Hlc), hB2⟩, by simp [intOf]; omega⟩
    · have hke : k = l.length := by omega
      subst hke
      have hall' : l.all letterB = true := by
        have := unhide Hall
        rwa [List.take_length] at this
      have Hn := hide (namedB_all hall')
      clear hall' Hall
      have hfin : Below w.heap.size w wr := hB1.trans (hBr.mono (by omega))
      by_cases h0 : 0 < l.length
      · by_cases h40 : l.length ≤ 40
        · go_wp2
          go_ret
          exact ⟨ret_bool (by rw [unhide Hn]; first | exact (nm_true h0 h40).symm | exact (decide_eq_true (by omega)).trans (nm_true h0 h40).symm), hfin⟩
        · go_wp2
          go_ret
          exact ⟨ret_bool (by rw [unhide Hn]; first | exact (nm_long h40).symm | exact (decide_eq_false (by omega)).trans (nm_long h40).symm), hfin⟩
      · go_wp2
        go_ret
        exact ⟨ret_bool (by rw [unhide Hn]; first | exact (nm_none h0).symm | exact (decide_eq_false (by omega)).trans (nm_none h0).symm), hfin⟩

end Go.Proofs.YtaoflcmeiaffjaaGreatDoor

namespace Go.Proofs.YtaoflcmeiaffjaaGreatDoor
open Go.RowKit
set_option maxRecDepth 10000 in

set_option maxHeartbeats 2000000 in
theorem rgood_some (b off cap : Nat) (fs : List DF) (w : World) (hs : Slim fs) (hl : fs.length ≤ 140737488355328) (hb : b < w.heap.size) (h : RowAt w b off (cellsF fs)) :
    Calls Tryz.prog 88 #[.agg #[.slice (some ⟨b, off, none⟩) fs.length cap]] w fun e w' => e = .returned (.bool (goodD fs)) ∧ Below w.heap.size w w' := by
  have H := hide h
  have HS := hide hs
  have NO := hide (fun (k : Nat) (f : DF) => @bad_file fs k f)
  have NR := hide (fun (k : Nat) (f g : DF) => @bad_order fs k f g)
  have YES := hide (fun h => @good_of_okTo fs h)
  have LONG := hide (@bad_len fs)
  have Z := hide (okTo_zero fs)
  have SU := hide (fun (k : Nat) (f : DF) (h : OkTo fs k) => okTo_succ (f := f) h)
  have hb0 : b ≠ w.heap.size := by omega
  clear h hs
  generalize goodD fs = G at NO NR YES LONG ⊢
  go_enter Tryz.func88, Tryz.ntmps88
  go_wp2_with fail
  go_loopg [8] fs.length (fun kx s12 wr => ∃ k : Nat, s12 = .int .i64 k ∧ k ≤ fs.length ∧ fs.length - k ≤ kx ∧ Hid (Below w.heap.size w wr ∧ w.heap.size < wr.heap.size ∧ wr.cell? ⟨w.heap.size, 0, none⟩ = some (.slice (some ⟨b, off, none⟩) fs.length cap)) ∧ Hid (OkTo fs k))
  case atStart => exact ⟨0, rfl, Nat.zero_le _, by omega, hide ⟨(Below.refl _ _).alloc (Nat.le_refl _) _, by simp, by simp⟩, Z⟩
  case round =>
    obtain ⟨k, rfl, hk, hg, hB, hO⟩ := hrel
    by_cases hlt : k < fs.length
    · obtain ⟨f, hf⟩ : ∃ f, fs[k]? = some f := ⟨_, List.getElem?_eq_getElem hlt⟩
      have HF := hide hf
      have r := (unhide H).kept (unhide hB).1 hb
      have e0 := r.c0 hf
      have e1 := r.c1 hf
      have e2 := r.c2 hf
      have hsl := unhide HS f (List.mem_of_getElem? hf)
      have hbw : b < wr.heap.size := Nat.lt_of_lt_of_le hb (unhide hB).1.size
      have h00 := (unhide hB).2.2
      clear hf r
      obtain ⟨W1, hW1⟩ : ∃ W1, W1 = wr.alloc (.cells #[.string ⟨f.n.toArray⟩, .string ⟨f.s.toArray⟩, .string ⟨f.t.toArray⟩] 72) := ⟨_, rfl⟩
      have hBa : Below wr.heap.size wr W1 := by rw [hW1]; exact (Below.refl _ _).alloc (Nat.le_refl _) _
      have hBw : Below w.heap.size w W1 := dbelow_next (unhide hB).1 hBa
      have hz1 : w.heap.size < W1.heap.size := Nat.lt_of_lt_of_le (unhide hB).2.1 hBa.size
      have h01 : W1.cell? ⟨w.heap.size, 0, none⟩ = some (.slice (some ⟨b, off, none⟩) fs.length cap) := by rw [hBa.cell (p := ⟨w.heap.size, 0, none⟩) (unhide hB).2.1]; exact h00
      have b0 : W1.cell? ⟨wr.heap.size, 0, none⟩ = some (.string ⟨f.n.toArray⟩) := by rw [hW1]; simp
      have b1 : W1.cell? ⟨wr.heap.size, 1, none⟩ = some (.string ⟨f.s.toArray⟩) := by rw [hW1]; simp
      have b2 : W1.cell? ⟨wr.heap.size, 2, none⟩ = some (.string ⟨f.t.toArray⟩) := by rw [hW1]; simp
      have hzb : wr.heap.size < W1.heap.size := by rw [hW1]; simp
      have HF1 : Hid (Below w.heap.size w W1 ∧ w.heap.size < W1.heap.size ∧ wr.heap.size < W1.heap.size) := ⟨hBw, hz1, hzb⟩
      have CN := fun W => refNamed_any f.n W hsl.1
      have HL := hide hsl
      have hsum : ¬ 9223372036854775807 < f.s.length + f.t.length := by omega
      have hW1' := hide hW1
      have HE := hide (And.intro h01 (And.intro b0 (And.intro b1 b2)))
      clear hBa hBw hz1 hzb h00 hsl
      go_wp2_with fail
      rw [← hW1]
      clear hW1 e0 e1 e2
      refine (CN _).mono ?_
      rintro e w1 ⟨rfl, hb1⟩
      have hB1 := dbelow_next (unhide HF1).1 hb1
      have hlt1 : w.heap.size < w1.heap.size := Nat.lt_of_lt_of_le (unhide HF1).2.1 hb1.size
      have g0 : w1.cell? ⟨w.heap.size, 0, none⟩ = some (.slice (some ⟨b, off, none⟩) fs.length cap) := (hb1.cell (p := ⟨w.heap.size, 0, none⟩) (unhide HF1).2.1).trans (unhide HE).1
      have g1 : w1.cell? ⟨wr.heap.size, 0, none⟩ = some (.string ⟨f.n.toArray⟩) := (hb1.cell (p := ⟨wr.heap.size, 0, none⟩) (unhide HF1).2.2).trans (unhide HE).2.1
      have g2 : w1.cell? ⟨wr.heap.size, 1, none⟩ = some (.string ⟨f.s.toArray⟩) := (hb1.cell (p := ⟨wr.heap.size, 1, none⟩) (unhide HF1).2.2).trans (unhide HE).2.2.1
      have g3 : w1.cell? ⟨wr.heap.size, 2, none⟩ = some (.string ⟨f.t.toArray⟩) := (hb1.cell (p := ⟨wr.heap.size, 2, none⟩) (unhide HF1).2.2).trans (unhide HE).2.2.2
      have HB1 := hide hB1
      clear CN hb1 hB1 h01 b0 b1 b2 HE HF1 hW1'
      cases hn : namedB f.n with
      | false =>
        have HN := hide hn
        clear hn
        go_wp2_with fail
        go_ret
        exact ⟨ret_bool (unhide NO k f (unhide HF) (fileOk_short (unhide HN))).symm, unhide HB1⟩
      | true =>
        have HN := hide hn
        clear hn
        by_cases hbig : f.s.length + f.t.length ≤ 1048576
        · have hok := fileOk_yes (unhide HN) hbig
          have hbi : ¬ ((1048576 : Int) < (f.s.length : Int) + (f.t.length : Int)) := by omega
          rcases Nat.eq_zero_or_pos k with hk0 | hk0
          · subst hk0
            have OK2 := hide (unhide SU 0 f (unhide hO) (unhide HF) hok (fun g h => absurd h (Nat.lt_irrefl 0)))
            go_wp2_with fail
            go_region
            go_wp2_with fail
            go_roundg (fs.length - 1)
            case measure => omega
            case rel => exact ⟨1, rfl, by omega, Nat.le_refl _, hide ⟨(unhide HB1).drew, hlt1, g0⟩, OK2⟩
          · obtain ⟨m, rfl⟩ : ∃ m, k = m + 1 := ⟨k - 1, by omega⟩
            obtain ⟨g, hg⟩ : ∃ g, fs[m]? = some g := ⟨_, List.getElem?_eq_getElem (by omega)⟩
            have r := (unhide H).kept (unhide HB1) hb
            have e0 := r.c0 hg
            have HG := hide hg
            clear r hg
            have hm1 : (m : Int) < (fs.length : Int) := by omega
            cases hbl : bl g.n f.n with
            | true =>
              have OK2 := hide (unhide SU (m + 1) f (unhide hO) (unhide HF) hok (fun g' _ h => by
                rw [Nat.add_sub_cancel, unhide HG] at h
                cases h
                exact hbl))
              have hbl' : Op.bytesLess g.n f.n = true := hbl
              clear hbl
              go_wp2_with fail
              go_region
              go_wp2_with fail
              go_roundg (fs.length - (m + 1 + 1))
              case measure => omega
              case rel => exact ⟨m + 1 + 1, rfl, by omega, Nat.le_refl _, hide ⟨(unhide HB1).drew, hlt1, g0⟩, OK2⟩
            | false =>
              have hbl' : Op.bytesLess g.n f.n = false := hbl
              have HGF := hide (unhide NR (m + 1) f g (unhide HF) (by simpa using unhide HG) (by omega) hbl).symm
              clear hbl
              go_wp2_with fail
              go_region
              go_wp2_with fail
              go_ret
              exact ⟨ret_bool (unhide HGF), (unhide HB1).drew⟩
        · have hbi : (1048576 : Int) < (f.s.length : Int) + (f.t.length : Int) := by omega
          go_wp2_with fail
          go_ret
          exact ⟨ret_bool (unhide NO k f (unhide HF) (fileOk_long (by omega))).symm, unhide HB1⟩
    · have hkk : k = fs.length := by omega
      subst hkk
      have h00 := (unhide hB).2.2
      by_cases h16 : fs.length ≤ 16
      · have h16i : (fs.length : Int) ≤ 16 := by omega
        go_wp2_with fail
        go_ret
        exact ⟨ret_bool (by rw [unhide YES h16 (unhide hO)]), (unhide hB).1⟩
      · have h16i : ¬ ((fs.length : Int) ≤ 16) := by omega
        go_wp2_with fail
        go_ret
        exact ⟨ret_bool (by rw [unhide LONG (by omega)]), (unhide hB).1⟩

set_option maxRecDepth 10000 in
set_option maxHeartbeats 1000000 in
theorem rgood_none (a : Option Addr) (cap : Nat) (w : World) :
    Calls Tryz.prog 88 #[.agg #[.slice a 0 cap]] w fun e w' => e = .returned (.bool true) ∧ Below w.heap.size w w' := by
  go_enter Tryz.func88, Tryz.ntmps88
  go_wp2_with fail
  go_loopg [8] 1 (fun _ s wr => s = .int .i64 0 ∧ wr = w.alloc (.cells #[.slice a 0 cap] 24))
  case atStart => exact ⟨rfl, rfl⟩
  case round =>
    obtain ⟨rfl, rfl⟩ := hrel
    go_wp2_with fail
    go_ret
    exact ⟨rfl, (Below.refl _ _).alloc (Nat.le_refl _) _⟩
theorem rdgood_any (v : Value) (fs : List DF) (w : World) (hv : DiskV w v fs) (hs : Slim fs) (hl : fs.length ≤ 140737488355328) :
    Calls Tryz.prog 88 #[.agg #[v]] w fun e w' => e = .returned (.bool (goodD fs)) ∧ Below w.heap.size w w' := by
  rcases hv with ⟨a, cap, rfl, rfl, _⟩ | ⟨b, off, cap, rfl, _, _, hb, _, hr⟩
  · rw [goodD_nil]; exact rgood_none a cap w
  · exact rgood_some b off cap fs w hs hl hb hr

/- aviaryref.file -/
/-- where the first file of this name stands -/
def posI (A R : List DF) : Int := match R with
  | [] => -1
  | _ :: _ => (A.length : Int)
set_option maxRecDepth 10000 in
set_option maxHeartbeats 1000000 in
theorem rfile_split (v : Value) (fs A R : List DF) (name : List UInt8) (w : World) (hv : DiskV w v fs) (hl : fs.length ≤ 16) (he : fs = A ++ R) (lo : ∀ a ∈ A, a.n ≠ name) (hi : ∀ f B, R = f :: B → f.n = name) :
    Calls Tryz.prog 90 #[.agg #[v], .string ⟨name.toArray⟩] w fun e w' => e = .returned (.int .i64 (posI A R)) ∧ Below w.heap.size w w' := by
  obtain ⟨a, c, rfl, hrow⟩ : ∃ a c, v = .slice a fs.length c ∧ (0 < fs.length → ∃ b off, a = some ⟨b, off, none⟩ ∧ b < w.heap.size ∧ RowAt w b off (cellsF fs)) := by
    rcases hv with ⟨a, cap, rfl, rfl, _⟩ | ⟨b, off, cap, rfl, _, _, hb, _, hr⟩
    · exact ⟨a, cap, rfl, fun h => by simp at h⟩
    · exact ⟨_, cap, rfl, fun _ => ⟨b, off, rfl, hb, hr⟩⟩
  have HR := hide hrow
  have HE := hide he
  have LO := hide lo
  have HI := hide hi
  have hal : A.length ≤ fs.length := by rw [he]; simp
  clear hv hrow he lo hi
  go_enter Tryz.func90, Tryz.ntmps90
  go_wp2_with fail
  go_loopg [10] fs.length (fun kx s wr => ∃ k : Nat, s = .int .i64 k ∧ k ≤ A.length ∧ fs.length - k ≤ kx ∧ Hid (Below w.heap.size w wr))
  case atStart => exact ⟨0, rfl, Nat.zero_le _, by omega, hide ((Below.refl _ _).alloc (Nat.le_refl _) _)⟩
  case round =>
    obtain ⟨k, rfl, hk, hkx, hB⟩ := hrel
    by_cases hlt : k < fs.length
    · obtain ⟨b, off, rfl, hb, hr⟩ := unhide HR (by omega)
      obtain ⟨f, hf⟩ : ∃ f, fs[k]? = some f := ⟨_, List.getElem?_eq_getElem hlt⟩
      have r := hr.kept (unhide hB) hb
      have e0 := r.c0 hf
      have e1 := r.c1 hf
      have e2 := r.c2 hf
      have hbw : b < wr.heap.size := Nat.lt_of_lt_of_le hb (unhide hB).size
      have hlti : (k : Int) < (fs.length : Int) := by omega
      have hal2 := (unhide hB).alloc (unhide hB).size (.cells #[.string ⟨f.n.toArray⟩, .string ⟨f.s.toArray⟩, .string ⟨f.t.toArray⟩] 72)
      have HAL := hide hal2
      have HF := hide hf
      clear r hr hf hal2
      by_cases hka : k < A.length
      · have hn : (f.n == name) = false := by
          have hf := unhide HF
          rw [unhide HE, List.getElem?_append_left hka] at hf
          simpa using unhide LO f (List.mem_of_getElem? hf)
        go_wp2_with fail
        go_roundg (fs.length - (k + 1))
        case measure => omega
        case rel => exact ⟨k + 1, rfl, by omega, Nat.le_refl _, HAL⟩
      · obtain rfl : k = A.length := by omega
        have hR : ∃ B, R = f :: B := by
          have hf := unhide HF
          rw [unhide HE, List.getElem?_append_right (Nat.le_refl _), Nat.sub_self] at hf
          cases R with
          | nil => simp at hf
          | cons x B => simp at hf; exact ⟨B, by rw [hf]⟩
        obtain ⟨B, rfl⟩ := hR
        have hn : f.n = name := unhide HI f B rfl
        rw [hn] at e0 HAL
        clear hn
        go_wp2_with fail
        go_ret
        exact ⟨rfl, unhide HAL⟩
    · have hki : ¬ ((k : Int) < (fs.length : Int)) := by omega
      have hR : R = [] := by
        have : fs.length = A.length + R.length := by rw [unhide HE]; simp
        exact List.eq_nil_of_length_eq_zero (by omega)
      subst hR
      go_wp2_with fail
      go_ret
      exact ⟨rfl, unhide hB⟩
theorem rfile_there (v : Value) (fs A B : List DF) (f : DF) (name : List UInt8) (w : World) (hv : DiskV w v fs) (hl : fs.length ≤ 16) (T : There fs A f B name) :
    Calls Tryz.prog 90 #[.agg #[v], .string ⟨name.toArray⟩] w fun e w' => e = .returned (.int .i64 (A.length : Int)) ∧ Below w.heap.size w w' :=
  rfile_split v fs A (f :: B) name w hv hl T.eq (fun a ha => bl_ne (T.lo a ha)) (fun f' B' h => by cases h; exact T.nm)
theorem rfile_gap (v : Value) (fs A B : List DF) (name : List UInt8) (w : World) (hv : DiskV w v fs) (hl : fs.length ≤ 16) (G : Gap fs A B name) :
    Calls Tryz.prog 90 #[.agg #[v], .string ⟨name.toArray⟩] w fun e w' => e = .returned (.int .i64 (-1)) ∧ Below w.heap.size w w' :=
  rfile_split v fs fs [] name w hv hl (by simp) (fun a ha => by
    rw [G.eq] at ha
    rcases List.mem_append.1 ha with h | h
    · exact bl_ne (G.lo a h)
    · exact (bl_ne (G.hi a h)).symm) (fun f' B' h => by cases h)
end Go.Proofs.YtaoflcmeiaffjaaGreatDoor

namespace Go.Proofs.YtaoflcmeiaffjaaGreatDoor
open Go.RowKit

theorem disk_len {w : World} {v : Value} {fs : List DF} (hv : DiskV w v fs) : (∃ a c, v = .slice a 0 c ∧ fs = []) ∨ ∃ b off c, v = .slice (some ⟨b, off, none⟩) fs.length c ∧ b < w.heap.size ∧ RowAt w b off (cellsF fs) ∧ fs ≠ [] := by
  rcases hv with ⟨a, cap, rfl, rfl, _⟩ | ⟨b, off, cap, rfl, _, _, hb, h0, hr⟩
  · exact .inl ⟨a, cap, rfl, rfl⟩
  · exact .inr ⟨b, off, cap, rfl, hb, hr, h0⟩

set_option maxRecDepth 10000 in
set_option maxHeartbeats 1000000 in
theorem rcopy_some (a : Addr) (cap : Nat) (fs : List DF) (w : World) (hl : fs.length * 48 ≤ 140737488355328) (hc : ∀ j u, (cellsF fs)[j]? = some u → w.cell? (a.add j) = some u) :
    Calls Tryz.prog 8 #[.agg #[.slice (some a) fs.length cap]] w fun e w' => ∃ v', e = .returned (.agg #[v']) ∧ OwnV w' w.heap.size v' fs ∧ Below w.heap.size w w' := by
  obtain ⟨i0, hi0, hz0, hz1, hz2⟩ := info_file
  have HR := hide hc
  clear hc
  go_enter Tryz.func8, Tryz.ntmps8
  go_wp2_with (at_builtin; refine wpList_append_own _ rfl _ _ 22 rfl (w.heap.size + 2) 72 i0 _ 3 48 Tryz.underlying22 hi0 hz0 hz1 hz2 rfl (by decide) _ 0 [] rfl (World.ownsRow_nil _ _ _ _) a fs.length cap (cellsF fs) rfl (cellsF_length fs) ?qc2 (cellsF_one fs) ?qc4 ?qc5 ?qc6 ?_)
  case qc2 =>
    intro j u hj
    exact Lib.cell?_alloc_some _ (Lib.cell?_alloc_some _ (unhide HR j u hj))
  case qc4 => simp only [maxLen]; omega
  case qc5 => omega
  case qc6 => simp
  intro v' w1 hown hgrow _
  have X := (Boxes.start w (.slice (some a) fs.length cap) 24 24).grownO hgrow (fun k e => by cases e)
  have ho := OwnV.of_row (B := w.heap.size + 2) (by simpa using hown)
  have cr := X.cr
  have fr := X.fr
  have HB := hide X.below
  have HO := hide ho
  obtain ⟨a5, c5, rfl, _⟩ := own_slice ho
  clear X ho hown hgrow
  go_wp2
  refine bodyPost_ret (v := .agg #[.slice a5 fs.length c5]) (by simp [results, Tryz.results8, go_sem, cr]) rfl ⟨_, rfl, ?_, (unhide HB).setCell (by simp) _⟩
  rcases unhide HO with h | ⟨g, c, e, h1, h2⟩
  · exact .inl h
  · exact .inr ⟨g, c, e, by omega, h2.other (by show g ≠ w.heap.size + 1; omega) _⟩

set_option maxRecDepth 10000 in
set_option maxHeartbeats 400000 in
theorem rcopy_nil (cap : Nat) (w : World) :
    Calls Tryz.prog 8 #[.agg #[.slice none 0 cap]] w fun e w' => ∃ v', e = .returned (.agg #[v']) ∧ OwnV w' w.heap.size v' [] ∧ Below w.heap.size w w' := by
  have X := Boxes.start w (.slice none 0 cap) 24 24
  have cr := X.cr
  have HB := hide X.below
  clear X
  go_enter Tryz.func8, Tryz.ntmps8
  go_wp2_with fail
  exact bodyPost_ret (v := .agg #[.slice none 0 0]) (by simp [results, Tryz.results8, go_sem]) rfl ⟨_, rfl, .inl ⟨rfl, rfl⟩, unhide HB⟩

theorem rcopy_any (v : Value) (fs : List DF) (w : World) (hv : DiskV w v fs) (hl : fs.length * 48 ≤ 140737488355328) :
    Calls Tryz.prog 8 #[.agg #[v]] w fun e w' => ∃ v', e = .returned (.agg #[v']) ∧ OwnV w' w.heap.size v' fs ∧ Below w.heap.size w w' := by
  rcases hv with ⟨a, cap, rfl, rfl, _⟩ | ⟨b, off, cap, rfl, _, _, hb, _, hr⟩
  · cases a with
    | none => exact rcopy_nil cap w
    | some a => exact rcopy_some a cap [] w (by simp) (fun j u h => by simp [cellsF] at h)
  · exact rcopy_some ⟨b, off, none⟩ cap fs w hl (fun j u h => by rw [Addr.add_lit]; exact hr j u h)

set_option maxRecDepth 10000 in
set_option maxHeartbeats 400000 in
theorem rsame_none (a a' : Option Addr) (c c' : Nat) (w : World) :
    Calls Tryz.prog 13 #[.agg #[.slice a 0 c], .agg #[.slice a' 0 c']] w fun e w' => e = .returned (.bool true) ∧ Below w.heap.size w w' := by
  go_enter Tryz.func13, Tryz.ntmps13
  go_wp2_with fail
  go_loopg [16] 1 (fun _ s wr => s = .int .i64 0 ∧ wr = (w.alloc (.cells #[.slice a 0 c] 24)).alloc (.cells #[.slice a' 0 c'] 24))
  case atStart => exact ⟨rfl, rfl⟩
  case round =>
    obtain ⟨rfl, rfl⟩ := hrel
    go_wp2_with fail
    go_ret
    exact ⟨rfl, ((Below.refl _ _).alloc (Nat.le_refl _) _).alloc (by simp) _⟩

set_option maxRecDepth 10000 in
set_option maxHeartbeats 1000000 in
theorem rsame_some (b off c b' off' c' : Nat) (fs : List DF) (w : World) (hl : fs.length ≤ 1000000) (hb : b < w.heap.size) (hb' : b' < w.heap.size) (hr : RowAt w b off (cellsF fs)) (hr' : RowAt w b' off' (cellsF fs)) :
    Calls Tryz.prog 13 #[.agg #[.slice (some ⟨b, off, none⟩) fs.length c], .agg #[.slice (some ⟨b', off', none⟩) fs.length c']] w fun e w' => e = .returned (.bool true) ∧ Below w.heap.size w w' := by
  have HR := hide hr
  have HR' := hide hr'
  have hb1 : b ≠ w.heap.size := by omega
  have hb2 : b' ≠ w.heap.size := by omega
  clear hr hr'
  go_enter Tryz.func13, Tryz.ntmps13
  go_wp2_with fail
  obtain ⟨W0, hW0⟩ : ∃ W, W = (w.alloc (.cells #[.slice (some ⟨b, off, none⟩) fs.length c] 24)).alloc (.cells #[.slice (some ⟨b', off', none⟩) fs.length c'] 24) := ⟨_, rfl⟩
  have ca : W0.cell? ⟨w.heap.size, 0, none⟩ = some (.slice (some ⟨b, off, none⟩) fs.length c) := by rw [hW0]; simp
  have cb : W0.cell? ⟨w.heap.size + 1, 0, none⟩ = some (.slice (some ⟨b', off', none⟩) fs.length c') := by rw [hW0]; simp
  have hB0 : Below w.heap.size w W0 := by rw [hW0]; exact ((Below.refl _ _).alloc (Nat.le_refl _) _).alloc (by simp) _
  rw [← hW0]
  have HB := hide hB0
  clear hW0 hB0
  go_loopg [16] fs.length (fun kx s wr => ∃ (k : Nat) (q : Nat), s = .int .i64 k ∧ k ≤ fs.length ∧ fs.length - k ≤ kx ∧ wr = W0.drewN q)
  case atStart => exact ⟨0, 0, rfl, Nat.zero_le _, by omega, rfl⟩
  case round =>
    obtain ⟨k, q, rfl, hk, hkx, rfl⟩ := hrel
    by_cases hlt : k < fs.length
    · obtain ⟨f, hf⟩ : ∃ f, fs[k]? = some f := ⟨_, List.getElem?_eq_getElem hlt⟩
      have r := (unhide HR).kept (unhide HB) hb
      have e0 := r.c0 hf
      have e1 := r.c1 hf
      have e2 := r.c2 hf
      have r' := (unhide HR').kept (unhide HB) hb'
      have e0' := r'.c0 hf
      have e1' := r'.c1 hf
      have e2' := r'.c2 hf
      have hlti : (k : Int) < (fs.length : Int) := by omega
      clear r r' hf
      go_wp2_with fail
      go_region
      go_wp2_with fail
      go_roundg (fs.length - (k + 1))
      case measure => omega
      case rel => exact ⟨k + 1, q + 1, rfl, by omega, Nat.le_refl _, rfl⟩
    · have hki : ¬ ((k : Int) < (fs.length : Int)) := by omega
      go_wp2_with fail
      go_ret
      exact ⟨rfl, (unhide HB).trans ⟨rfl, rfl, rfl, Nat.le_refl _, fun _ _ => rfl⟩⟩

theorem rsame_any (v v' : Value) (fs : List DF) (w : World) (hl : fs.length ≤ 1000000) (hv : DiskV w v fs) (hv' : DiskV w v' fs) :
    Calls Tryz.prog 13 #[.agg #[v], .agg #[v']] w fun e w' => e = .returned (.bool true) ∧ Below w.heap.size w w' := by
  rcases disk_len hv with ⟨a, c, rfl, h0⟩ | ⟨b, off, c, rfl, hb, hr, h0⟩
  · rcases disk_len hv' with ⟨a', c', rfl, _⟩ | ⟨b', off', c', rfl, hb', hr', h0'⟩
    · exact rsame_none a a' c c' w
    · exact absurd h0 h0'
  · rcases disk_len hv' with ⟨a', c', rfl, h0'⟩ | ⟨b', off', c', rfl, hb', hr', h0'⟩
    · exact absurd h0' h0
    · exact rsame_some b off c b' off' c' fs w hl hb hb' hr hr'

set_option maxRecDepth 10000 in
set_option maxHeartbeats 1000000 in
theorem rread_there (v : Value) (fs A B : List DF) (f : DF) (name : List UInt8) (w : World) (hv : DiskV w v fs) (hs : Slim fs) (g : GoodD fs) (T : There fs A f B name) :
    Calls Tryz.prog 47 #[.agg #[v], .string ⟨name.toArray⟩] w fun e w' => e = .returned (.tuple #[.string ⟨(f.s ++ f.t).toArray⟩, .int .i64 0]) ∧ Below w.heap.size w w' := by
  have CG := fun W (hW : Below w.heap.size w W) => rdgood_any v fs W (hv.next hW) hs (by have := g.few; omega)
  have CF := fun W (hW : Below w.heap.size w W) => rfile_there v fs A B f name W (hv.next hW) g.few T
  rw [goodD_true.2 g] at CG
  obtain ⟨b, off, cap, rfl, hb, hr, hk, hlt⟩ := there_row hv T
  have hfl := fileOk_len (T.ok g)
  have HR := hide hr
  have HK := hide hk
  have hlti : (A.length : Int) < (fs.length : Int) := by omega
  have hA0 : ¬ ((A.length : Int) < 0) := by omega
  clear hv hs g T hr hk
  go_enter Tryz.func47, Tryz.ntmps47
  go_wp2_with fail
  refine (CG _ ((Below.refl _ _).alloc (Nat.le_refl _) _)).mono ?_
  rintro e w1 ⟨rfl, hb1⟩
  have hB1 := dbox_then hb1
  have X1 := hide ((BoxAt.new w (.slice (some ⟨b, off, none⟩) fs.length cap)).next hb1)
  have c1 := (unhide X1).c
  clear CG hb1
  go_wp2_with fail
  refine (CF _ hB1).mono ?_
  rintro e w2 ⟨rfl, hb2⟩
  have hB2 := dbelow_next hB1 hb2
  have c2 := ((unhide X1).next hb2).c
  have r := (unhide HR).kept hB2 hb
  have e1 := r.c1 (unhide HK)
  have e2 := r.c2 (unhide HK)
  have hcat : ¬ 9223372036854775807 < f.s.length + f.t.length := by omega
  clear CF hb2 hB1 c1 X1 r
  go_wp2_with fail
  go_quiet (fail)
  go_wp2_with fail
  go_ret2
  exact ⟨by rw [← dcat_one]; rfl, hB2.trans ⟨rfl, rfl, rfl, Nat.le_refl _, fun _ _ => rfl⟩⟩

set_option maxRecDepth 10000 in
set_option maxHeartbeats 1000000 in
theorem rread_no (v : Value) (fs : List DF) (name : List UInt8) (E : Int) (w : World) (hv : DiskV w v fs) (hs : Slim fs) (hl : fs.length ≤ 140737488355328) (h : LocNo fs name E) :
    Calls Tryz.prog 47 #[.agg #[v], .string ⟨name.toArray⟩] w fun e w' => e = .returned (.tuple #[.string ⟨#[]⟩, .int .i64 E]) ∧ Below w.heap.size w w' := by
  have CG := fun W (hW : Below w.heap.size w W) => rdgood_any v fs W (hv.next hW) hs hl
  rcases h with ⟨hg, rfl⟩ | ⟨g, ⟨A, B, G⟩, rfl⟩
  · obtain ⟨a, n, c, rfl⟩ := disk_slice hv
    rw [hg] at CG
    clear hv hs hg
    go_enter Tryz.func47, Tryz.ntmps47
    go_wp2_with fail
    refine (CG _ ((Below.refl _ _).alloc (Nat.le_refl _) _)).mono ?_
    rintro e w1 ⟨rfl, hb1⟩
    have hB1 := dbox_then hb1
    clear CG hb1
    go_wp2_with fail
    go_ret2
    exact ⟨rfl, hB1⟩
  · have CF := fun W (hW : Below w.heap.size w W) => rfile_gap v fs A B name W (hv.next hW) g.few G
    obtain ⟨a, n, c, rfl⟩ := disk_slice hv
    rw [goodD_true.2 g] at CG
    clear hv hs g G
    go_enter Tryz.func47, Tryz.ntmps47
    go_wp2_with fail
    refine (CG _ ((Below.refl _ _).alloc (Nat.le_refl _) _)).mono ?_
    rintro e w1 ⟨rfl, hb1⟩
    have hB1 := dbox_then hb1
    have X1 := hide ((BoxAt.new w (.slice a n c)).next hb1)
    have c1 := (unhide X1).c
    clear CG hb1
    go_wp2_with fail
    refine (CF _ hB1).mono ?_
    rintro e w2 ⟨rfl, hb2⟩
    have hB2 := dbelow_next hB1 hb2
    clear CF hb2 hB1 c1 X1
    go_wp2_with fail
    go_ret2
    exact ⟨rfl, hB2⟩
theorem rread_any (v : Value) (fs : List DF) (name : List UInt8) (w : World) (hv : DiskV w v fs) (hs : Slim fs) (hl : fs.length ≤ 140737488355328) :
    Calls Tryz.prog 47 #[.agg #[v], .string ⟨name.toArray⟩] w fun e w' => e = .returned (.tuple #[.string ⟨(readD fs name).1.toArray⟩, .int .i64 (readD fs name).2]) ∧ Below w.heap.size w w' := by
  rcases loc_cases fs name with ⟨E, h⟩ | ⟨g, A, f, B, T⟩
  · have h' := rread_no v fs name E w hv hs hl h
    rcases h with ⟨h, rfl⟩ | ⟨g, ⟨A, B, G⟩, rfl⟩
    · rw [readD_bad h]; exact h'
    · rw [readD_gap g G]; exact h'
  · rw [readD_there g T]; exact rread_there v fs A B f name w hv hs g T
end Go.Proofs.YtaoflcmeiaffjaaGreatDoor

namespace Go.Proofs.YtaoflcmeiaffjaaGreatDoor
open Go.RowKit

/- append(nil, l...) at transactions and watches -/
theorem run_copyT (W : World) (ty : TypeId) (v : Value) (xs : List WTxn) (hv : SeqV W v xs) (hl : xs.length * 72 ≤ 140737488355328) :
    ∃ v' w', (Builtin.append_ #[25, 25] ty #[.slice none 0 0, v]).run Tryz.prog W = .ok v' w' ∧ OwnS w' W.heap.size v' xs ∧ W.grownBy w' none := by
  obtain ⟨i0, hi0, hz0, hz1, hz2⟩ := info_txn
  have main : ∀ (a : Addr) (cap : Nat), v = .slice (some a) xs.length cap → (∀ j u, (cellsL xs)[j]? = some u → W.cell? (a.add j) = some u) →
      ∃ v' w', (Builtin.append_ #[25, 25] ty #[.slice none 0 0, v]).run Tryz.prog W = .ok v' w' ∧ OwnS w' W.heap.size v' xs ∧ W.grownBy w' none := by
    intro a cap e hc
    subst e
    obtain ⟨v', w', h1, h2, h3, _⟩ := run_append_own (P := Tryz.prog) W W.heap.size 25 ty 47 i0 _ 7 72 Tryz.underlying25 hi0 hz0 hz1 hz2 rfl (by decide) (.slice none 0 0) 0 [] (World.ownsRow_nil _ _ _ _) a xs.length cap (cellsL xs) (cellsL_length xs) hc (cellsL_one xs)
      (by simp only [maxLen]; omega) (by omega) (Nat.le_refl _)
    refine ⟨v', w', h1, OwnS.of_row (by first | exact h2 | (simp only [List.nil_append, Nat.zero_add] at h2; exact h2) | simpa using h2), h3⟩
  rcases hv with ⟨a, cap, rfl, rfl, _⟩ | ⟨b, off, cap, rfl, _, _, _, _, hr⟩
  · cases a with
    | none =>
      refine ⟨.slice none 0 0, W, ?_, .inl ⟨rfl, rfl⟩, ⟨rfl, rfl, rfl, Nat.le_refl _, fun _ _ _ => rfl⟩⟩
      simp [Builtin.append_, run_underlying Tryz.underlying25, sizeOf, typeInfo, hi0, Builtin.lenOf, Builtin.firstCells]
    | some a => exact main a cap rfl (fun j u h => by simp [cellsL] at h)
  · exact main ⟨b, off, none⟩ cap rfl (fun j u h => by rw [Addr.add_lit]; exact hr j u h)
theorem wpList_copyT {w : World} {ops : Array Oper} {rest : List Oper} {o : Oper} {a : Act} {Q : Exit → Act → World → Prop} (hgd : Region.wanted o (yielded ops a.tmps) = true) (s x : Operand)
    (ho : o.op = .call { callee := .builtin .append, args := #[s, x], argTypes := #[25, 25] })
    (hs : a.eval s = .slice none 0 0) (v : Value) (hx : a.eval x = v) (xs : List WTxn) (hv : SeqV w v xs) (hl : xs.length * 72 ≤ 140737488355328)
    (h : ∀ v' w', OwnS w' w.heap.size v' xs → w.grownBy w' none → wpList Tryz.prog ops Q rest (a.put o.dst v') w') : wpList Tryz.prog ops Q (o :: rest) a w := by
  obtain ⟨v', w', hr, h2, h3⟩ := run_copyT w o.type v xs hv hl
  refine wpList_step fun K hK => ?_
  rw [if_pos hgd]
  unfold Oper.wp execOp
  simp only [ho, resolve, invoke, builtin, Sem.run_bind, Sem.run_pure, Result.andThen_ok, List.map_toArray, List.map_cons, List.map_nil, hs, hx, hr]
  exact hK _ _ (h v' w' h2 h3)
theorem step_copyT {w : World} {ops : Array Oper} {o : Oper} {a : Act} {K : Act → World → Prop} {Q : Exit → Act → World → Prop} {E : Prop} (hgd : Region.wanted o (yielded ops a.tmps) = true) (s x : Operand)
    (ho : o.op = .call { callee := .builtin .append, args := #[s, x], argTypes := #[25, 25] })
    (hs : a.eval s = .slice none 0 0) (v : Value) (hx : a.eval x = v) (xs : List WTxn) (hv : SeqV w v xs) (hl : xs.length * 72 ≤ 140737488355328)
    (h : ∀ a' c' w', OwnS w' w.heap.size (.slice a' xs.length c') xs → w.grownBy w' none → K (a.put o.dst (.slice a' xs.length c')) w') :
    if Region.wanted o (yielded ops a.tmps) = true then Oper.wp Tryz.prog o a w K Q else E := by
  rw [if_pos hgd]
  obtain ⟨v', w', hr, h2, h3⟩ := run_copyT w o.type v xs hv hl
  obtain ⟨a', c', rfl, _⟩ := h2.slice
  unfold Oper.wp execOp
  simp only [ho, resolve, invoke, builtin, Sem.run_bind, Sem.run_pure, Result.andThen_ok, List.map_toArray, List.map_cons, List.map_nil, hs, hx, hr]
  exact h a' c' w' h2 h3
theorem run_copyW (W : World) (ty : TypeId) (v : Value) (xs : List Wa) (hv : SeqV W v xs) (hl : xs.length * 32 ≤ 140737488355328) :
    ∃ v' w', (Builtin.append_ #[32, 32] ty #[.slice none 0 0, v]).run Tryz.prog W = .ok v' w' ∧ OwnS w' W.heap.size v' xs ∧ W.grownBy w' none := by
  obtain ⟨i0, hi0, hz0, hz1, hz2⟩ := winfo
  have main : ∀ (a : Addr) (cap : Nat), v = .slice (some a) xs.length cap → (∀ j u, (cellsL xs)[j]? = some u → W.cell? (a.add j) = some u) →
      ∃ v' w', (Builtin.append_ #[32, 32] ty #[.slice none 0 0, v]).run Tryz.prog W = .ok v' w' ∧ OwnS w' W.heap.size v' xs ∧ W.grownBy w' none := by
    intro a cap e hc
    subst e
    obtain ⟨v', w', h1, h2, h3, _⟩ := run_append_own (P := Tryz.prog) W W.heap.size 32 ty 118 i0 _ 3 32 Tryz.underlying32 hi0 hz0 hz1 hz2 rfl (by decide) (.slice none 0 0) 0 [] (World.ownsRow_nil _ _ _ _) a xs.length cap (cellsL xs) (cellsL_length xs) hc (cellsL_one xs)
      (by simp only [maxLen]; omega) (by omega) (Nat.le_refl _)
    refine ⟨v', w', h1, OwnS.of_row (by first | exact h2 | (simp only [List.nil_append, Nat.zero_add] at h2; exact h2) | simpa using h2), h3⟩
  rcases hv with ⟨a, cap, rfl, rfl, _⟩ | ⟨b, off, cap, rfl, _, _, _, _, hr⟩
  · cases a with
    | none =>
      refine ⟨.slice none 0 0, W, ?_, .inl ⟨rfl, rfl⟩, ⟨rfl, rfl, rfl, Nat.le_refl _, fun _ _ _ => rfl⟩⟩
      simp [Builtin.append_, run_underlying Tryz.underlying32, sizeOf, typeInfo, hi0, Builtin.lenOf, Builtin.firstCells]
    | some a => exact main a cap rfl (fun j u h => by simp [cellsL] at h)
  · exact main ⟨b, off, none⟩ cap rfl (fun j u h => by rw [Addr.add_lit]; exact hr j u h)
theorem wpList_copyW {w : World} {ops : Array Oper} {rest : List Oper} {o : Oper} {a : Act} {Q : Exit → Act → World → Prop} (hgd : Region.wanted o (yielded ops a.tmps) = true) (s x : Operand)
    (ho : o.op = .call { callee := .builtin .append, args := #[s, x], argTypes := #[32, 32] })
    (hs : a.eval s = .slice none 0 0) (v : Value) (hx : a.eval x = v) (xs : List Wa) (hv : SeqV w v xs) (hl : xs.length * 32 ≤ 140737488355328)
    (h : ∀ v' w', OwnS w' w.heap.size v' xs → w.grownBy w' none → wpList Tryz.prog ops Q rest (a.put o.dst v') w') : wpList Tryz.prog ops Q (o :: rest) a w := by
  obtain ⟨v', w', hr, h2, h3⟩ := run_copyW w o.type v xs hv hl
  refine wpList_step fun K hK => ?_
  rw [if_pos hgd]
  unfold Oper.wp execOp
  simp only [ho, resolve, invoke, builtin, Sem.run_bind, Sem.run_pure, Result.andThen_ok, List.map_toArray, List.map_cons, List.map_nil, hs, hx, hr]
  exact hK _ _ (h v' w' h2 h3)
theorem step_copyW {w : World} {ops : Array Oper} {o : Oper} {a : Act} {K : Act → World → Prop} {Q : Exit → Act → World → Prop} {E : Prop} (hgd : Region.wanted o (yielded ops a.tmps) = true) (s x : Operand)
    (ho : o.op = .call { callee := .builtin .append, args := #[s, x], argTypes := #[32, 32] })
    (hs : a.eval s = .slice none 0 0) (v : Value) (hx : a.eval x = v) (xs : List Wa) (hv : SeqV w v xs) (hl : xs.length * 32 ≤ 140737488355328)
    (h : ∀ a' c' w', OwnS w' w.heap.size (.slice a' xs.length c') xs → w.grownBy w' none → K (a.put o.dst (.slice a' xs.length c')) w') :
    if Region.wanted o (yielded ops a.tmps) = true then Oper.wp Tryz.prog o a w K Q else E := by
  rw [if_pos hgd]
  obtain ⟨v', w', hr, h2, h3⟩ := run_copyW w o.type v xs hv hl
  obtain ⟨a', c', rfl, _⟩ := h2.slice
  unfold Oper.wp execOp
  simp only [ho, resolve, invoke, builtin, Sem.run_bind, Sem.run_pure, Result.andThen_ok, List.map_toArray, List.map_cons, List.map_nil, hs, hx, hr]
  exact h a' c' w' h2 h3

theorem own_seqF {W : World} {B : Nat} {v : Value} {fs : List DF} (h : OwnV W B v fs) : OwnS W B v fs := OwnS.of_row (by have := h.row; rw [← cellsF_L] at this; exact this)

set_option maxRecDepth 10000 in
set_option maxHeartbeats 4000000 in
theorem rcopyS_any (s : Sv) (v : Value) (w : World) (hv : SvV w v s) (hf : Fits s) :
    Calls Tryz.prog 18 #[v] w (GivesC w s) := by
  obtain ⟨ad, nd, cd, al, cl, an, cn, ai, ci, aw, cw, rfl, d1, l1, n1, s1, k1⟩ := hv.five
  have CD := fun W (hW : Below w.heap.size w W) => rcopy_any _ s.fs W (d1.next hW) hf.d
  have CL := fun W (hW : Below w.heap.size w W) => seq_log.2 (l1.next hW)
  have CT := fun W (hW : Below w.heap.size w W) => rcopyT_any s.tr _ _ W (n1.next hW) (s1.next hW) hf.n (by have := hf.si; omega)
  have CW := fun W (hW : Below w.heap.size w W) => k1.next hW
  have hll := hf.l
  have hlw := hf.wa
  have HD := hide CD
  have HL := hide CL
  have HT := hide CT
  have HW := hide CW
  clear CD CL CT CW hv d1 l1 n1 s1 k1 hf
  obtain ⟨up, fs, id, ep, ts, dn, ⟨tz, tns, tss⟩, ws⟩ := s
  simp only at *
  unfold GivesT at HT
  simp only at HT
  go_enter Tryz.func18, Tryz.ntmps18
  go_wp2_with fail
  have X0 := CB.start w up id ep dn tz (.slice ad nd cd) (.slice al ts.length cl) (.slice an tns.length cn) (.slice ai tss.length ci) (.slice aw ws.length cw)
  generalize (w.alloc (.cells #[.bool up, .slice ad nd cd, .int .i64 id, .int .i64 ep, .slice al ts.length cl, .int .i64 dn, .int .i64 tz, .slice an tns.length cn, .slice ai tss.length ci, .slice aw ws.length cw] 34)).alloc (.cells #[.bool false, .slice none 0 0, .int .i64 0, .int .i64 0, .slice none 0 0, .int .i64 0, .int .i64 0, .slice none 0 0, .slice none 0 0, .slice none 0 0] 34) = W0 at *
  have HX0 := hide X0
  obtain ⟨x0, x1, x2, x3, x4, x5, x6, x7, x8, x9⟩ := X0.s.cells
  clear X0
  refine (unhide HD _ (unhide HX0).below).mono ?_
  rintro e w1 ⟨v1, rfl, o1', hb1⟩
  have o1 := own_seqF o1'
  obtain ⟨a1, c1, rfl, _⟩ := o1.slice
  have z1 := (unhide HX0).lt
  have X1 := (unhide HX0).next hb1
  have Y1 := X1.put 1 (.slice a1 fs.length c1) rfl
  obtain ⟨y0, y1, y2, y3, y4, y5, y6, y7, y8, y9⟩ := X1.s.cells
  have g1 := X1.s.froz 1
  have O1 := hide (own_set (j := 1) (u := .slice a1 fs.length c1) o1 (by omega : w.heap.size < _))
  have b1 := hide (fun k hk => OwnS.low o1 k hk)
  have S1 := hide (show w.heap.size + 1 < W0.heap.size by omega)
  have Z1 := hide (show w.heap.size ≤ W0.heap.size by omega)
  have K1 := hide (show W0.heap.size ≤ (w1.setCell ⟨w.heap.size, 1, none⟩ (.slice a1 fs.length c1)).heap.size by have := hb1.size; simp [World.setCell] at *; omega)
  have L1 := hide (show w1.heap.size = (w1.setCell ⟨w.heap.size, 1, none⟩ (.slice a1 fs.length c1)).heap.size by simp [World.setCell])
  clear X1 o1 o1' hb1 z1 HX0 HD x0 x1 x2 x3 x4 x5 x6 x7 x8 x9
  have HX1 := hide Y1
  obtain ⟨x0, x1, x2, x3, x4, x5, x6, x7, x8, x9⟩ := Y1.s.cells
  clear Y1
  go_upto_region 2 with fail
  generalize w1.setCell ⟨w.heap.size, 1, none⟩ (.slice a1 fs.length c1) = V1 at *
  clear y0 y1 y2 y3 y4 y5 y6 y7 y8 y9 g1
  go_wp2_with (at_builtin; refine wpList_copyT (by kernel_rfl) _ _ rfl rfl (.slice al ts.length cl) rfl ts (unhide HL _ (unhide HX1).below) hll ?_)
  intro v2 w2 o2 hg2
  have hb2 := grown_below hg2
  obtain ⟨a2, c2, rfl, _⟩ := o2.slice
  have z2 := (unhide HX1).lt
  have X2 := (unhide HX1).next hb2
  have Y2 := X2.put 4 (.slice a2 ts.length c2) rfl
  obtain ⟨y0, y1, y2, y3, y4, y5, y6, y7, y8, y9⟩ := X2.s.cells
  have g2 := X2.s.froz 4
  have O2 := hide (own_set (j := 4) (u := .slice a2 ts.length c2) o2 (by omega : w.heap.size < _))
  have b2 := hide (fun k hk => OwnS.low o2 k hk)
  have P1 := hide (own_set (j := 4) (u := .slice a2 ts.length c2) ((unhide O1).next hb2) (Nat.lt_of_succ_lt (unhide S1)))
  have S2 := hide (show w.heap.size + 1 < V1.heap.size by omega)
  have K2 := hide (show V1.heap.size ≤ (w2.setCell ⟨w.heap.size, 4, none⟩ (.slice a2 ts.length c2)).heap.size by have := hb2.size; simp [World.setCell] at *; omega)
  have L2 := hide (show w2.heap.size = (w2.setCell ⟨w.heap.size, 4, none⟩ (.slice a2 ts.length c2)).heap.size by simp [World.setCell])
  clear X2 o2 hb2 hg2 z2 HX1 HL x0 x1 x2 x3 x4 x5 x6 x7 x8 x9 O1
  have O1 := P1
  clear P1
  have HX2 := hide Y2
  obtain ⟨x0, x1, x2, x3, x4, x5, x6, x7, x8, x9⟩ := Y2.s.cells
  clear Y2
  go_upto_region 3 with fail
  generalize w2.setCell ⟨w.heap.size, 4, none⟩ (.slice a2 ts.length c2) = V2 at *
  clear y0 y1 y2 y3 y4 y5 y6 y7 y8 y9 g2
  go_wp2_with fail
  refine (unhide HT _ (unhide HX2).below).mono ?_
  rintro e w3 ⟨v3, v4, rfl, o3, o4, hb3⟩
  obtain ⟨a3, c3, rfl, _⟩ := o3.slice
  obtain ⟨a4, c4, rfl, _⟩ := o4.slice
  have z3 := (unhide HX2).lt
  have X3 := (unhide HX2).next hb3
  have Y3 := ((X3.put 6 (.int .i64 tz) rfl).put 7 (.slice a3 tns.length c3) rfl).put 8 (.slice a4 tss.length c4) rfl
  obtain ⟨y0, y1, y2, y3, y4, y5, y6, y7, y8, y9⟩ := X3.s.cells
  have g6 := X3.s.froz 6
  have g7 := X3.s.froz 7
  have g8 := X3.s.froz 8
  have three : ∀ {α : Type} [Lay α] {B : Nat} {u : Value} {xs : List α}, OwnS w3 B u xs → w.heap.size < B → OwnS (((w3.setCell ⟨w.heap.size, 6, none⟩ (.int .i64 tz)).setCell ⟨w.heap.size, 7, none⟩ (.slice a3 tns.length c3)).setCell ⟨w.heap.size, 8, none⟩ (.slice a4 tss.length c4)) B u xs := fun h hk => own_set (own_set (own_set h hk) hk) hk
  have O3 := hide (three o3 (by omega))
  have O4 := hide (three o4 (by omega))
  have P1 := hide (three ((unhide O1).next hb3) (Nat.lt_of_succ_lt (unhide S1)))
  have P2 := hide (three ((unhide O2).next hb3) (Nat.lt_of_succ_lt (unhide S2)))
  have S3 := hide (show w.heap.size + 1 < V2.heap.size by omega)
  have K3 := hide (show V2.heap.size ≤ (((w3.setCell ⟨w.heap.size, 6, none⟩ (.int .i64 tz)).setCell ⟨w.heap.size, 7, none⟩ (.slice a3 tns.length c3)).setCell ⟨w.heap.size, 8, none⟩ (.slice a4 tss.length c4)).heap.size by have := hb3.size; simp [World.setCell] at *; omega)
  clear X3 o3 o4 hb3 z3 HX2 HT x0 x1 x2 x3 x4 x5 x6 x7 x8 x9 O1 O2 three
  have O1 := P1
  have O2 := P2
  clear P1 P2
  have HX3 := hide Y3
  obtain ⟨x0, x1, x2, x3, x4, x5, x6, x7, x8, x9⟩ := Y3.s.cells
  clear Y3
  go_upto_region 4 with fail
  generalize ((w3.setCell ⟨w.heap.size, 6, none⟩ (.int .i64 tz)).setCell ⟨w.heap.size, 7, none⟩ (.slice a3 tns.length c3)).setCell ⟨w.heap.size, 8, none⟩ (.slice a4 tss.length c4) = V3 at *
  clear y0 y1 y2 y3 y4 y5 y6 y7 y8 y9 g6 g7 g8
  go_wp2_with (at_builtin; refine wpList_copyW (by kernel_rfl) _ _ rfl rfl (.slice aw ws.length cw) rfl ws (unhide HW _ (unhide HX3).below) hlw ?_)
  intro v5 w5 o5 hg5
  have hb5 := grown_below hg5
  obtain ⟨a5, c5, rfl, _⟩ := o5.slice
  have z5 := (unhide HX3).lt
  have X5 := (unhide HX3).next hb5
  have Y5 := X5.put 9 (.slice a5 ws.length c5) rfl
  obtain ⟨y0, y1, y2, y3, y4, y5, y6, y7, y8, y9⟩ := X5.s.cells
  have g5 := X5.s.froz 9
  have O5 := hide (own_set (j := 9) (u := .slice a5 ws.length c5) o5 (by omega : w.heap.size < _))
  have P1 := hide (own_set (j := 9) (u := .slice a5 ws.length c5) ((unhide O1).next hb5) (Nat.lt_of_succ_lt (unhide S1)))
  have P2 := hide (own_set (j := 9) (u := .slice a5 ws.length c5) ((unhide O2).next hb5) (Nat.lt_of_succ_lt (unhide S2)))
  have P3 := hide (own_set (j := 9) (u := .slice a5 ws.length c5) ((unhide O3).next hb5) (Nat.lt_of_succ_lt (unhide S3)))
  have P4 := hide (own_set (j := 9) (u := .slice a5 ws.length c5) ((unhide O4).next hb5) (Nat.lt_of_succ_lt (unhide S3)))
  have S5 := hide (show w.heap.size + 1 < V3.heap.size by omega)
  have K5 := hide (show V3.heap.size ≤ (w5.setCell ⟨w.heap.size, 9, none⟩ (.slice a5 ws.length c5)).heap.size by have := hb5.size; simp [World.setCell] at *; omega)
  have L5 := hide (show w5.heap.size = (w5.setCell ⟨w.heap.size, 9, none⟩ (.slice a5 ws.length c5)).heap.size by simp [World.setCell])
  clear X5 o5 hb5 hg5 z5 HX3 HW x0 x1 x2 x3 x4 x5 x6 x7 x8 x9 O1 O2 O3 O4
  have O1 := P1
  have O2 := P2
  have O3 := P3
  have O4 := P4
  clear P1 P2 P3 P4
  have HX5 := hide Y5
  obtain ⟨x0, x1, x2, x3, x4, x5, x6, x7, x8, x9⟩ := Y5.s.cells
  obtain ⟨r0, r1, r2, r3, r4, r5, r6, r7, r8, r9⟩ := Y5.r.cells
  have rf0 := Y5.r.froz 0
  have rf1 := Y5.r.froz 1
  have rf2 := Y5.r.froz 2
  have rf3 := Y5.r.froz 3
  have rf4 := Y5.r.froz 4
  have rf5 := Y5.r.froz 5
  have rf6 := Y5.r.froz 6
  have rf7 := Y5.r.froz 7
  have rf8 := Y5.r.froz 8
  have rf9 := Y5.r.froz 9
  have Y5b := Y5.below
  clear Y5
  have HF := hide (put10_below Y5b (by omega : w.heap.size ≤ w.heap.size + 1) (.bool up) (.slice a1 fs.length c1) (.int .i64 id) (.int .i64 ep) (.slice a2 ts.length c2) (.int .i64 dn) (.int .i64 tz) (.slice a3 tns.length c3) (.slice a4 tss.length c4) (.slice a5 ws.length c5))
  have Q1 := hide (own_put10 (unhide O1) (unhide S1) (.bool up) (.slice a1 fs.length c1) (.int .i64 id) (.int .i64 ep) (.slice a2 ts.length c2) (.int .i64 dn) (.int .i64 tz) (.slice a3 tns.length c3) (.slice a4 tss.length c4) (.slice a5 ws.length c5))
  have Q2 := hide (own_put10 (unhide O2) (unhide S2) (.bool up) (.slice a1 fs.length c1) (.int .i64 id) (.int .i64 ep) (.slice a2 ts.length c2) (.int .i64 dn) (.int .i64 tz) (.slice a3 tns.length c3) (.slice a4 tss.length c4) (.slice a5 ws.length c5))
  have Q3 := hide (own_put10 (unhide O3) (unhide S3) (.bool up) (.slice a1 fs.length c1) (.int .i64 id) (.int .i64 ep) (.slice a2 ts.length c2) (.int .i64 dn) (.int .i64 tz) (.slice a3 tns.length c3) (.slice a4 tss.length c4) (.slice a5 ws.length c5))
  have Q4 := hide (own_put10 (unhide O4) (unhide S3) (.bool up) (.slice a1 fs.length c1) (.int .i64 id) (.int .i64 ep) (.slice a2 ts.length c2) (.int .i64 dn) (.int .i64 tz) (.slice a3 tns.length c3) (.slice a4 tss.length c4) (.slice a5 ws.length c5))
  have Q5 := hide (own_put10 (unhide O5) (unhide S5) (.bool up) (.slice a1 fs.length c1) (.int .i64 id) (.int .i64 ep) (.slice a2 ts.length c2) (.int .i64 dn) (.int .i64 tz) (.slice a3 tns.length c3) (.slice a4 tss.length c4) (.slice a5 ws.length c5))
  clear Y5b O1 O2 O3 O4 O5
  go_wp2_with fail
  refine bodyPost_ret (v := .agg #[.bool up, .slice a1 fs.length c1, .int .i64 id, .int .i64 ep, .slice a2 ts.length c2, .int .i64 dn, .int .i64 tz, .slice a3 tns.length c3, .slice a4 tss.length c4, .slice a5 ws.length c5]) (by simp [results, Tryz.results18, go_sem, r0, r1, r2, r3, r4, r5, r6, r7, r8, r9]) rfl ?_
  have k1 := unhide K1
  have k2 := unhide K2
  have k3 := unhide K3
  have z1 := unhide Z1
  exact ⟨a1, fs.length, c1, a2, c2, a3, c3, a4, c4, a5, c5, V1.heap.size, V2.heap.size, rfl, by omega, k2, (unhide Q1).lower z1, fun k hk => (unhide L1) ▸ unhide b1 k hk, unhide Q2, fun k hk => (unhide L2) ▸ unhide b2 k hk, unhide Q3, unhide Q4, (unhide Q5).lower k3, unhide HF⟩

end Go.Proofs.YtaoflcmeiaffjaaGreatDoor

namespace Go.Proofs.YtaoflcmeiaffjaaGreatDoor
open Go.RowKit

/-- the seven cells of a transaction -/
def TxnAt (W : World) (g : Nat) (t : WTxn) : Prop := W.heap[g]? = some (.cells #[.int .i64 t.z, .int .i64 t.o, .int .i64 t.s, .string ⟨t.p.toArray⟩, .string ⟨t.d.toArray⟩, .int .i64 t.v, .int .i64 t.w] 47 (0, 0))
theorem TxnAt.c0 {W : World} {g : Nat} {t : WTxn} (h : TxnAt W g t) : W.cell? ⟨g, 0, none⟩ = some (.int .i64 t.z) := by unfold TxnAt at h; simp [World.cell?, h]
theorem TxnAt.c1 {W : World} {g : Nat} {t : WTxn} (h : TxnAt W g t) : W.cell? ⟨g, 1, none⟩ = some (.int .i64 t.o) := by unfold TxnAt at h; simp [World.cell?, h]
theorem TxnAt.c2 {W : World} {g : Nat} {t : WTxn} (h : TxnAt W g t) : W.cell? ⟨g, 2, none⟩ = some (.int .i64 t.s) := by unfold TxnAt at h; simp [World.cell?, h]
theorem TxnAt.c3 {W : World} {g : Nat} {t : WTxn} (h : TxnAt W g t) : W.cell? ⟨g, 3, none⟩ = some (.string ⟨t.p.toArray⟩) := by unfold TxnAt at h; simp [World.cell?, h]
theorem TxnAt.c4 {W : World} {g : Nat} {t : WTxn} (h : TxnAt W g t) : W.cell? ⟨g, 4, none⟩ = some (.string ⟨t.d.toArray⟩) := by unfold TxnAt at h; simp [World.cell?, h]
theorem TxnAt.c5 {W : World} {g : Nat} {t : WTxn} (h : TxnAt W g t) : W.cell? ⟨g, 5, none⟩ = some (.int .i64 t.v) := by unfold TxnAt at h; simp [World.cell?, h]
theorem TxnAt.c6 {W : World} {g : Nat} {t : WTxn} (h : TxnAt W g t) : W.cell? ⟨g, 6, none⟩ = some (.int .i64 t.w) := by unfold TxnAt at h; simp [World.cell?, h]
theorem TxnAt.f {W : World} {g : Nat} {t : WTxn} (h : TxnAt W g t) (j : Nat) : W.frozen? ⟨g, j, none⟩ = false := by unfold TxnAt at h; simp [World.frozen?, h]
theorem TxnAt.kept {W V : World} {g B : Nat} {t : WTxn} (h : TxnAt W g t) (hb : Below B W V) (hg : g < B) : TxnAt V g t := (hb.block _ hg).trans h
theorem TxnAt.other {W V : World} {g k : Nat} {t : WTxn} (h : TxnAt W g t) (ho : Only k W V) (hg : g ≠ k) : TxnAt V g t := (ho.block _ hg).trans h
theorem only_set (g : Nat) (w : World) (j : Nat) (v : Value) : Only g w (w.setCell ⟨g, j, none⟩ v) := (Only.refl g w).setCell j v

theorem heap_new (w : World) (o : Obj) : (w.alloc o).heap[w.heap.size]? = some o := by
  show (w.heap.push o)[w.heap.size]? = _
  simp
/-- how far unfold has come: the result's cells, the cursor, the transaction -/
structure Unf (w W : World) (r : List UInt8) (b : Bool) (t : WTxn) : Prop where
  res : TxnAt W w.heap.size t0
  cur : Cur W (w.heap.size + 1) r b
  txn : TxnAt W (w.heap.size + 1 + 1) t
  size : w.heap.size + 3 ≤ W.heap.size
  below : Below w.heap.size w W
theorem Unf.took {w W V : World} {r r' : List UInt8} {b b' : Bool} {t : WTxn} (h : Unf w W r b t) (hc : Cur V (w.heap.size + 1) r' b') (ho : Only (w.heap.size + 1) W V) : Unf w V r' b' t :=
  ⟨h.res.other ho (by omega), hc, h.txn.other ho (by omega), by rw [ho.size]; exact h.size, ho.below h.below (by omega)⟩
theorem Unf.kept {w W V : World} {r : List UInt8} {b : Bool} {t : WTxn} (h : Unf w W r b t) (hb : Below W.heap.size W V) : Unf w V r b t :=
  ⟨h.res.kept hb (by have := h.size; omega), h.cur.kept hb (by have := h.size; omega), h.txn.kept hb (by have := h.size; omega), Nat.le_trans h.size hb.size, h.below.trans (hb.mono h.below.size)⟩
theorem Unf.put {w W : World} {r : List UInt8} {b : Bool} {t : WTxn} (h : Unf w W r b t) (j : Nat) (v : Value) {t' : WTxn} (ht : TxnAt (W.setCell ⟨w.heap.size + 1 + 1, j, none⟩ v) (w.heap.size + 1 + 1) t') : Unf w (W.setCell ⟨w.heap.size + 1 + 1, j, none⟩ v) r b t' :=
  ⟨h.res.other (only_set _ _ _ _) (by omega), h.cur.other (only_set _ _ _ _) (by omega), ht, by rw [(only_set _ W j v).size]; exact h.size, (only_set _ _ _ _).below h.below (by omega)⟩
theorem Unf.z {w W : World} {r : List UInt8} {b : Bool} {t : WTxn} (h : Unf w W r b t) (x : Int) : Unf w (W.setCell ⟨w.heap.size + 1 + 1, 0, none⟩ (.int .i64 x)) r b { t with z := x } := h.put 0 _ (cur_set _ h.txn)
theorem Unf.o {w W : World} {r : List UInt8} {b : Bool} {t : WTxn} (h : Unf w W r b t) (x : Int) : Unf w (W.setCell ⟨w.heap.size + 1 + 1, 1, none⟩ (.int .i64 x)) r b { t with o := x } := h.put 1 _ (cur_set _ h.txn)
theorem Unf.s {w W : World} {r : List UInt8} {b : Bool} {t : WTxn} (h : Unf w W r b t) (x : Int) : Unf w (W.setCell ⟨w.heap.size + 1 + 1, 2, none⟩ (.int .i64 x)) r b { t with s := x } := h.put 2 _ (cur_set _ h.txn)
theorem Unf.p {w W : World} {r : List UInt8} {b : Bool} {t : WTxn} (h : Unf w W r b t) (x : List UInt8) : Unf w (W.setCell ⟨w.heap.size + 1 + 1, 3, none⟩ (.string ⟨x.toArray⟩)) r b { t with p := x } := h.put 3 _ (cur_set _ h.txn)
theorem Unf.d {w W : World} {r : List UInt8} {b : Bool} {t : WTxn} (h : Unf w W r b t) (x : List UInt8) : Unf w (W.setCell ⟨w.heap.size + 1 + 1, 4, none⟩ (.string ⟨x.toArray⟩)) r b { t with d := x } := h.put 4 _ (cur_set _ h.txn)
theorem Unf.v {w W : World} {r : List UInt8} {b : Bool} {t : WTxn} (h : Unf w W r b t) (x : Int) : Unf w (W.setCell ⟨w.heap.size + 1 + 1, 5, none⟩ (.int .i64 x)) r b { t with v := x } := h.put 5 _ (cur_set _ h.txn)
theorem Unf.w {w W : World} {r : List UInt8} {b : Bool} {t : WTxn} (h : Unf w W r b t) (x : Int) : Unf w (W.setCell ⟨w.heap.size + 1 + 1, 6, none⟩ (.int .i64 x)) r b { t with w := x } := h.put 6 _ (cur_set _ h.txn)

theorem wrap_un {l : List UInt8} (h : l.length ≤ 7) : wrap64 ((un l : Nat) : Int) = (un l : Nat) := by
  have := un_small h; unfold wrap64; omega
theorem un_take_le (l : List UInt8) (k : Nat) (hk : k ≤ 7) : wrap64 ((un (l.take k) : Nat) : Int) = (un (l.take k) : Nat) := wrap_un (by rw [List.length_take]; omega)
/-- a transaction stored whole -/
def putTxn (W : World) (g : Nat) (t : WTxn) : World :=
  ((((((W.setCell ⟨g, 0, none⟩ (.int .i64 t.z)).setCell ⟨g, 1, none⟩ (.int .i64 t.o)).setCell ⟨g, 2, none⟩ (.int .i64 t.s)).setCell ⟨g, 3, none⟩ (.string ⟨t.p.toArray⟩)).setCell ⟨g, 4, none⟩ (.string ⟨t.d.toArray⟩)).setCell ⟨g, 5, none⟩ (.int .i64 t.v)).setCell ⟨g, 6, none⟩ (.int .i64 t.w)
theorem TxnAt.s0 {W : World} {g : Nat} {t : WTxn} (h : TxnAt W g t) (x : Int) : TxnAt (W.setCell ⟨g, 0, none⟩ (.int .i64 x)) g { t with z := x } := cur_set _ h
theorem TxnAt.s1 {W : World} {g : Nat} {t : WTxn} (h : TxnAt W g t) (x : Int) : TxnAt (W.setCell ⟨g, 1, none⟩ (.int .i64 x)) g { t with o := x } := cur_set _ h
theorem TxnAt.s2 {W : World} {g : Nat} {t : WTxn} (h : TxnAt W g t) (x : Int) : TxnAt (W.setCell ⟨g, 2, none⟩ (.int .i64 x)) g { t with s := x } := cur_set _ h
theorem TxnAt.s3 {W : World} {g : Nat} {t : WTxn} (h : TxnAt W g t) (x : List UInt8) : TxnAt (W.setCell ⟨g, 3, none⟩ (.string ⟨x.toArray⟩)) g { t with p := x } := cur_set _ h
theorem TxnAt.s4 {W : World} {g : Nat} {t : WTxn} (h : TxnAt W g t) (x : List UInt8) : TxnAt (W.setCell ⟨g, 4, none⟩ (.string ⟨x.toArray⟩)) g { t with d := x } := cur_set _ h
theorem TxnAt.s5 {W : World} {g : Nat} {t : WTxn} (h : TxnAt W g t) (x : Int) : TxnAt (W.setCell ⟨g, 5, none⟩ (.int .i64 x)) g { t with v := x } := cur_set _ h
theorem TxnAt.s6 {W : World} {g : Nat} {t : WTxn} (h : TxnAt W g t) (x : Int) : TxnAt (W.setCell ⟨g, 6, none⟩ (.int .i64 x)) g { t with w := x } := cur_set _ h
theorem TxnAt.store {W : World} {g : Nat} {t : WTxn} (h : TxnAt W g t) (t' : WTxn) : TxnAt (putTxn W g t') g t' :=
  ((((((h.s0 t'.z).s1 t'.o).s2 t'.s).s3 t'.p).s4 t'.d).s5 t'.v).s6 t'.w
theorem only_put (W : World) (g : Nat) (t : WTxn) : Only g W (putTxn W g t) :=
  (((((((Only.refl g W).setCell 0 _).setCell 1 _).setCell 2 _).setCell 3 _).setCell 4 _).setCell 5 _).setCell 6 _
/-- was a piece wanted that is not there? -/
def lackB (b : List UInt8) : Bool :=
  false || decide (b.length < 8) || decide ((b.drop 8).length < 1) || decide ((b.drop 9).length < 4) || decide ((b.drop 13).length < 4) || decide ((b.drop 17).length < 4) || decide ((b.drop 21).length < 1) || decide ((b.drop 22).length < plOf b) || decide ((b.drop (22 + plOf b)).length < 2) || decide ((b.drop (24 + plOf b)).length < dlOf b)
theorem lackB_iff {b : List UInt8} : lackB b = false ↔ 24 + plOf b + dlOf b ≤ b.length := by
  simp only [lackB, Bool.or_eq_false_iff, decide_eq_false_iff_not, List.length_drop, true_and]
  omega
theorem plOf_le (b : List UInt8) : plOf b < 256 := by
  have h := un_lt ((b.drop 21).take 1)
  have h2 : ((b.drop 21).take 1).length ≤ 1 := List.length_take_le _ _
  have h3 : 256 ^ ((b.drop 21).take 1).length ≤ 256 ^ 1 := Nat.pow_le_pow_right (by decide) h2
  unfold plOf
  omega
theorem dlOf_le (b : List UInt8) : dlOf b < 65536 := by
  have h := un_lt ((b.drop (22 + plOf b)).take 2)
  have h2 : ((b.drop (22 + plOf b)).take 2).length ≤ 2 := List.length_take_le _ _
  have h3 : 256 ^ ((b.drop (22 + plOf b)).take 2).length ≤ 256 ^ 2 := Nat.pow_le_pow_right (by decide) h2
  unfold dlOf
  omega

/-- what the walk has laid down when it asks whether the lengths fit -/
def tIn (b : List UInt8) : WTxn :=
  ⟨wrap64 (un (b.take 8)), un ((b.drop 8).take 1), un ((b.drop 9).take 4), (b.drop 22).take (plOf b), (b.drop (24 + plOf b)).take (dlOf b), un ((b.drop 13).take 4), un ((b.drop 17).take 4)⟩
theorem tIn_fit {b : List UInt8} (h : fitB b = true) : tIn b = tOf b := by
  obtain ⟨h1, h2⟩ := fitB_iff.1 h
  rw [tIn, tOf, List.take_of_length_le (l := b.drop (24 + plOf b)) (by rw [List.length_drop]; omega)]

set_option maxRecDepth 10000 in
set_option maxHeartbeats 2000000 in
theorem unfold_any (b : List UInt8) (w : World) :
    Calls Tryz.prog 167 #[.string ⟨b.toArray⟩] w fun e w' => e = .returned (.tuple #[txnV (unfT b), .int .i64 (unfE b)]) ∧ Below w.heap.size w w' := by
  have hpl := plOf_le b
  have hdl := dlOf_le b
  go_enter Tryz.func167, Tryz.ntmps167
  go_wp2_with fail
  refine (along_any b _).mono ?_
  rintro e wA ⟨rfl, rfl⟩
  go_wp2_with fail
  generalize hW : ((w.alloc _).alloc _).alloc _ = W
  have H : Hid (Unf w W b false t0) := hide (by
    rw [← hW]
    refine ⟨?_, ?_, ?_, by simp, (((Below.refl _ _).alloc (Nat.le_refl _) _).alloc (by simp) _).alloc (by simp; omega) _⟩
    · exact (Below.heap_alloc _ _ _ (by simp; omega)).trans ((Below.heap_alloc _ _ _ (by simp)).trans (heap_new _ _))
    · exact (Below.heap_alloc _ _ _ (by simp)).trans (by have := heap_new (w.alloc (.cells #[.int .i64 0, .int .i64 0, .int .i64 0, .string ⟨#[]⟩, .string ⟨#[]⟩, .int .i64 0, .int .i64 0] 47)) (.cells #[.string ⟨b.toArray⟩, .bool false] 204); rwa [World.size_alloc] at this)
    · have := heap_new ((w.alloc (.cells #[.int .i64 0, .int .i64 0, .int .i64 0, .string ⟨#[]⟩, .string ⟨#[]⟩, .int .i64 0, .int .i64 0] 47)).alloc (.cells #[.string ⟨b.toArray⟩, .bool false] 204)) (.cells #[.int .i64 0, .int .i64 0, .int .i64 0, .string ⟨#[]⟩, .string ⟨#[]⟩, .int .i64 0, .int .i64 0] 47)
      rwa [World.size_alloc, World.size_alloc] at this)
  clear hW
  refine (cnumber_any (w.heap.size + 1) 8 _ _ _ (by decide) (unhide H).cur).mono ?_
  rintro e w1 ⟨rfl, hc1, ho1⟩
  have H1 := hide ((unhide H).took hc1 ho1)
  clear hc1 ho1 H W
  generalize w1 = W at *
  obtain ⟨x0, h0⟩ : ∃ x, wrap64 (un (b.take 8) : Nat) = x := ⟨_, rfl⟩
  rw [h0]
  have E0 := hide h0
  clear h0
  have q1 := (unhide H1).txn.c0
  have q2 := (unhide H1).txn.f 0
  go_wp2_with fail
  have H := hide ((unhide H1).z x0)
  clear q1 q2 H1
  generalize W.setCell _ _ = W at *
  refine (cnumber_any (w.heap.size + 1) 1 _ _ _ (by decide) (unhide H).cur).mono ?_
  rintro e w1 ⟨rfl, hc1, ho1⟩
  have H1 := hide ((unhide H).took hc1 ho1)
  clear hc1 ho1 H W
  generalize w1 = W at *
  simp only [List.drop_drop, Nat.reduceAdd] at H1
  rw [un_take_le _ _ (by decide)]
  obtain ⟨x1, h1⟩ : ∃ x, un ((b.drop 8).take 1) = x := ⟨_, rfl⟩
  rw [h1]
  have E1 := hide h1
  clear h1
  have q1 := (unhide H1).txn.c1
  have q2 := (unhide H1).txn.f 1
  go_wp2_with fail
  have H := hide ((unhide H1).o x1)
  clear q1 q2 H1
  generalize W.setCell _ _ = W at *
  refine (cnumber_any (w.heap.size + 1) 4 _ _ _ (by decide) (unhide H).cur).mono ?_
  rintro e w1 ⟨rfl, hc1, ho1⟩
  have H1 := hide ((unhide H).took hc1 ho1)
  clear hc1 ho1 H W
  generalize w1 = W at *
  simp only [List.drop_drop, Nat.reduceAdd] at H1
  rw [un_take_le _ _ (by decide)]
  obtain ⟨x2, h2⟩ : ∃ x, un ((b.drop 9).take 4) = x := ⟨_, rfl⟩
  rw [h2]
  have E2 := hide h2
  clear h2
  have q1 := (unhide H1).txn.c2
  have q2 := (unhide H1).txn.f 2
  go_wp2_with fail
  have H := hide ((unhide H1).s x2)
  clear q1 q2 H1
  generalize W.setCell _ _ = W at *
  refine (cnumber_any (w.heap.size + 1) 4 _ _ _ (by decide) (unhide H).cur).mono ?_
  rintro e w1 ⟨rfl, hc1, ho1⟩
  have H1 := hide ((unhide H).took hc1 ho1)
  clear hc1 ho1 H W
  generalize w1 = W at *
  simp only [List.drop_drop, Nat.reduceAdd] at H1
  rw [un_take_le _ _ (by decide)]
  obtain ⟨x3, h3⟩ : ∃ x, un ((b.drop 13).take 4) = x := ⟨_, rfl⟩
  rw [h3]
  have E3 := hide h3
  clear h3
  have q1 := (unhide H1).txn.c5
  have q2 := (unhide H1).txn.f 5
  go_wp2_with fail
  have H := hide ((unhide H1).v x3)
  clear q1 q2 H1
  generalize W.setCell _ _ = W at *
  refine (cnumber_any (w.heap.size + 1) 4 _ _ _ (by decide) (unhide H).cur).mono ?_
  rintro e w1 ⟨rfl, hc1, ho1⟩
  have H1 := hide ((unhide H).took hc1 ho1)
  clear hc1 ho1 H W
  generalize w1 = W at *
  simp only [List.drop_drop, Nat.reduceAdd] at H1
  rw [un_take_le _ _ (by decide)]
  obtain ⟨x4, h4⟩ : ∃ x, un ((b.drop 17).take 4) = x := ⟨_, rfl⟩
  rw [h4]
  have E4 := hide h4
  clear h4
  have q1 := (unhide H1).txn.c6
  have q2 := (unhide H1).txn.f 6
  go_wp2_with fail
  have H := hide ((unhide H1).w x4)
  clear q1 q2 H1
  generalize W.setCell _ _ = W at *
  refine (cnumber_any (w.heap.size + 1) 1 _ _ _ (by decide) (unhide H).cur).mono ?_
  rintro e w1 ⟨rfl, hc1, ho1⟩
  have H1 := hide ((unhide H).took hc1 ho1)
  clear hc1 ho1 H W
  generalize w1 = W at *
  simp only [List.drop_drop, Nat.reduceAdd] at H1
  rw [un_take_le _ _ (by decide)]
  rw [show un ((b.drop 21).take 1) = plOf b from rfl]
  go_wp2_with fail
  refine (text_any (w.heap.size + 1) (plOf b) _ _ _ (by omega) (unhide H1).cur).mono ?_
  rintro e w2 ⟨rfl, hc2, ho2⟩
  have H2 := hide ((unhide H1).took hc2 ho2)
  clear hc2 ho2 H1 W
  generalize w2 = W at *
  obtain ⟨P, hP⟩ : ∃ x, (b.drop 22).take (plOf b) = x := ⟨_, rfl⟩
  have lP : P.length ≤ 65536 := by rw [← hP, List.length_take]; omega
  rw [hP]
  have EP := hide hP
  clear hP
  go_wp2_with fail
  refine (clone_any ⟨P.toArray⟩ _ (by rw [Lib.size_eq]; show P.length ≤ _; omega)).mono ?_
  rintro e w3 ⟨rfl, hb3⟩
  have H1 := hide ((unhide H2).kept hb3)
  clear hb3 H2 W
  generalize w3 = W at *
  simp only [List.drop_drop] at H1
  have q1 := (unhide H1).txn.c3
  have q2 := (unhide H1).txn.f 3
  go_wp2_with fail
  have H := hide ((unhide H1).p P)
  clear q1 q2 H1
  generalize W.setCell _ _ = W at *
  refine (cnumber_any (w.heap.size + 1) 2 _ _ _ (by decide) (unhide H).cur).mono ?_
  rintro e w1 ⟨rfl, hc1, ho1⟩
  have H1 := hide ((unhide H).took hc1 ho1)
  clear hc1 ho1 H W
  generalize w1 = W at *
  simp only [List.drop_drop] at H1
  rw [un_take_le _ _ (by decide)]
  rw [show un ((b.drop (22 + plOf b)).take 2) = dlOf b from rfl]
  go_wp2_with fail
  refine (text_any (w.heap.size + 1) (dlOf b) _ _ _ (by omega) (unhide H1).cur).mono ?_
  rintro e w2 ⟨rfl, hc2, ho2⟩
  have H2 := hide ((unhide H1).took hc2 ho2)
  clear hc2 ho2 H1 W
  generalize w2 = W at *
  obtain ⟨D, hD⟩ : ∃ x, (b.drop (22 + plOf b + 2)).take (dlOf b) = x := ⟨_, rfl⟩
  have lD : D.length ≤ 65536 := by rw [← hD, List.length_take]; omega
  rw [hD]
  have ED := hide hD
  clear hD
  go_wp2_with fail
  refine (clone_any ⟨D.toArray⟩ _ (by rw [Lib.size_eq]; show D.length ≤ _; omega)).mono ?_
  rintro e w3 ⟨rfl, hb3⟩
  have H1 := hide ((unhide H2).kept hb3)
  clear hb3 H2 W
  generalize w3 = W at *
  simp only [List.drop_drop] at H1
  have hT : tIn b = ⟨x0, x1, x2, P, D, x3, x4⟩ := by
    rw [tIn, unhide E0, unhide E1, unhide E2, unhide E3, unhide E4, unhide EP, show 24 + plOf b = 22 + plOf b + 2 from by omega, unhide ED]
  have HT := hide hT
  have h24 : 22 + plOf b + 2 = 24 + plOf b := by omega
  have HL : Hid (Unf w W (b.drop (24 + plOf b + dlOf b)) (lackB b) ⟨x0, x1, x2, P, [], x3, x4⟩) := hide (by
    have h := unhide H1
    rw [h24] at h
    exact h)
  clear hT h24 H1 E0 E1 E2 E3 E4 EP ED
  have q0 : W.cell? ⟨w.heap.size + 1 + 1, 0, none⟩ = some (.int .i64 x0) := (unhide HL).txn.c0
  have q1 : W.cell? ⟨w.heap.size + 1 + 1, 1, none⟩ = some (.int .i64 x1) := (unhide HL).txn.c1
  have q2 : W.cell? ⟨w.heap.size + 1 + 1, 2, none⟩ = some (.int .i64 x2) := (unhide HL).txn.c2
  have q3 : W.cell? ⟨w.heap.size + 1 + 1, 3, none⟩ = some (.string ⟨P.toArray⟩) := (unhide HL).txn.c3
  have q4 : W.cell? ⟨w.heap.size + 1 + 1, 4, none⟩ = some (.string ⟨#[]⟩) := (unhide HL).txn.c4
  have q5 : W.cell? ⟨w.heap.size + 1 + 1, 5, none⟩ = some (.int .i64 x3) := (unhide HL).txn.c5
  have q6 : W.cell? ⟨w.heap.size + 1 + 1, 6, none⟩ = some (.int .i64 x4) := (unhide HL).txn.c6
  have qf := (unhide HL).txn.f 4
  have r0 : W.cell? ⟨w.heap.size, 0, none⟩ = some (.int .i64 0) := (unhide HL).res.c0
  have r1 : W.cell? ⟨w.heap.size, 1, none⟩ = some (.int .i64 0) := (unhide HL).res.c1
  have r2 : W.cell? ⟨w.heap.size, 2, none⟩ = some (.int .i64 0) := (unhide HL).res.c2
  have r3 : W.cell? ⟨w.heap.size, 3, none⟩ = some (.string ⟨#[]⟩) := (unhide HL).res.c3
  have r4 : W.cell? ⟨w.heap.size, 4, none⟩ = some (.string ⟨#[]⟩) := (unhide HL).res.c4
  have r5 : W.cell? ⟨w.heap.size, 5, none⟩ = some (.int .i64 0) := (unhide HL).res.c5
  have r6 : W.cell? ⟨w.heap.size, 6, none⟩ = some (.int .i64 0) := (unhide HL).res.c6
  have rf := (unhide HL).res.f
  have CSh := hide (short_any _ _ _ _ ((unhide HL).d D).cur)
  have CLf := hide (left_any _ _ _ _ ((unhide HL).d D).cur)
  cases hfit : fitB b
  · have HU := hide (unf_bad hfit)
    cases hl : lackB b
    · have hR : b.drop (24 + plOf b + dlOf b) ≠ [] := fun hh => by
        have h1 := lackB_iff.1 hl
        have h2 := congrArg List.length hh
        rw [List.length_drop, List.length_nil] at h2
        have h3 : fitB b = true := fitB_iff.2 ⟨by omega, by omega⟩
        rw [hfit] at h3
        exact absurd h3 (by decide)
      rw [hl] at CSh
      obtain ⟨R, hRR⟩ : ∃ R, b.drop (24 + plOf b + dlOf b) = R := ⟨_, rfl⟩
      rw [hRR] at CLf hR
      have hR' : (0 : Int) < (R.length : Int) := by have := List.length_pos_iff.2 hR; omega
      obtain ⟨m, hm⟩ : ∃ m, R.length = m := ⟨_, rfl⟩
      rw [hm] at CLf hR'
      clear hRR hl hfit hm hR
      go_wp2_with fail
      refine (unhide CSh).mono ?_
      rintro e wS ⟨rfl, rfl⟩
      go_wp2_with fail
      refine (unhide CLf).mono ?_
      rintro e wL ⟨rfl, rfl⟩
      clear CSh CLf
      go_wp2_with fail
      change bodyPost _ _ _ _ _ (putTxn (W.setCell ⟨w.heap.size + 1 + 1, 4, none⟩ (.string ⟨D.toArray⟩)) w.heap.size t0)
      have HV := hide ((unhide HL).d D)
      generalize W.setCell ⟨w.heap.size + 1 + 1, 4, none⟩ (.string ⟨D.toArray⟩) = V at HV ⊢
      have HP := hide ((unhide HV).res.store t0)
      have hB : Below w.heap.size w (putTxn V w.heap.size t0) := (only_put _ _ _).below (unhide HV).below (Nat.le_refl _)
      generalize putTxn V w.heap.size t0 = V2 at HP hB ⊢
      have s0 := (unhide HP).c0
      have s1 := (unhide HP).c1
      have s2 := (unhide HP).c2
      have s3 := (unhide HP).c3
      have s4 := (unhide HP).c4
      have s5 := (unhide HP).c5
      have s6 := (unhide HP).c6
      exact bodyPost_ret (v := .tuple #[txnV t0, .int .i64 2]) (by simp [results, Tryz.results167, go_sem, s0, s1, s2, s3, s4, s5, s6, txnV]) rfl ⟨by rw [(unhide HU).1, (unhide HU).2], hB⟩
    · rw [hl] at CSh
      clear hl hfit CLf
      go_wp2_with fail
      refine (unhide CSh).mono ?_
      rintro e wS ⟨rfl, rfl⟩
      clear CSh
      go_wp2_with fail
      change bodyPost _ _ _ _ _ (putTxn (W.setCell ⟨w.heap.size + 1 + 1, 4, none⟩ (.string ⟨D.toArray⟩)) w.heap.size t0)
      have HV := hide ((unhide HL).d D)
      generalize W.setCell ⟨w.heap.size + 1 + 1, 4, none⟩ (.string ⟨D.toArray⟩) = V at HV ⊢
      have HP := hide ((unhide HV).res.store t0)
      have hB : Below w.heap.size w (putTxn V w.heap.size t0) := (only_put _ _ _).below (unhide HV).below (Nat.le_refl _)
      generalize putTxn V w.heap.size t0 = V2 at HP hB ⊢
      have s0 := (unhide HP).c0
      have s1 := (unhide HP).c1
      have s2 := (unhide HP).c2
      have s3 := (unhide HP).c3
      have s4 := (unhide HP).c4
      have s5 := (unhide HP).c5
      have s6 := (unhide HP).c6
      exact bodyPost_ret (v := .tuple #[txnV t0, .int .i64 2]) (by simp [results, Tryz.results167, go_sem, s0, s1, s2, s3, s4, s5, s6, txnV]) rfl ⟨by rw [(unhide HU).1, (unhide HU).2], hB⟩
  · have hl : lackB b = false := lackB_iff.2 (by have := fitB_iff.1 hfit; omega)
    have hR : b.drop (24 + plOf b + dlOf b) = [] := List.drop_of_length_le (by have := fitB_iff.1 hfit; omega)
    rw [hl] at CSh
    rw [hR] at CLf
    rw [tIn_fit hfit] at HT
    have Hfit := hide hfit
    clear hl hR hfit
    cases hg : (gdE (tOf b) == 0)
    · have hg' : gdE (tOf b) ≠ 0 := by simpa using hg
      have HU := hide (unf_no (unhide Hfit) hg')
      obtain ⟨E, hE⟩ : ∃ E, gdE (tOf b) = E := ⟨_, rfl⟩
      have hne : (E != 0) = true := by rw [← hE]; simp [bne, hg]
      rw [unhide HT] at hE
      rw [unhide HT] at HU
      have HE := hide hE
      clear hE hg hg'
      go_wp2_with fail
      refine (unhide CSh).mono ?_
      rintro e wS ⟨rfl, rfl⟩
      go_wp2_with fail
      refine (unhide CLf).mono ?_
      rintro e wL ⟨rfl, rfl⟩
      clear CSh CLf
      go_wp2_with fail
      refine (wgood_any ⟨x0, x1, x2, P, D, x3, x4⟩ _ (by show D.length ≤ _; omega)).mono ?_
      rintro e w4 ⟨rfl, hb4⟩
      rw [unhide HE]
      have HV0 := hide ((unhide HL).d D)
      have HV := hide ((unhide HV0).kept hb4)
      clear hb4 HV0 HL q0 q1 q2 q3 q4 q5 q6 qf r0 r1 r2 r3 r4 r5 r6 rf
      generalize w4 = V at *
      have r0 : V.cell? ⟨w.heap.size, 0, none⟩ = some (.int .i64 0) := (unhide HV).res.c0
      have r1 : V.cell? ⟨w.heap.size, 1, none⟩ = some (.int .i64 0) := (unhide HV).res.c1
      have r2 : V.cell? ⟨w.heap.size, 2, none⟩ = some (.int .i64 0) := (unhide HV).res.c2
      have r3 : V.cell? ⟨w.heap.size, 3, none⟩ = some (.string ⟨#[]⟩) := (unhide HV).res.c3
      have r4 : V.cell? ⟨w.heap.size, 4, none⟩ = some (.string ⟨#[]⟩) := (unhide HV).res.c4
      have r5 : V.cell? ⟨w.heap.size, 5, none⟩ = some (.int .i64 0) := (unhide HV).res.c5
      have r6 : V.cell? ⟨w.heap.size, 6, none⟩ = some (.int .i64 0) := (unhide HV).res.c6
      have rf := (unhide HV).res.f
      go_wp2_with fail
      change bodyPost _ _ _ _ _ (putTxn V w.heap.size t0)
      have HP := hide ((unhide HV).res.store t0)
      have hB : Below w.heap.size w (putTxn V w.heap.size t0) := (only_put _ _ _).below (unhide HV).below (Nat.le_refl _)
      generalize putTxn V w.heap.size t0 = V2 at HP hB ⊢
      have s0 := (unhide HP).c0
      have s1 := (unhide HP).c1
      have s2 := (unhide HP).c2
      have s3 := (unhide HP).c3
      have s4 := (unhide HP).c4
      have s5 := (unhide HP).c5
      have s6 := (unhide HP).c6
      exact bodyPost_ret (v := .tuple #[txnV t0, .int .i64 E]) (by simp [results, Tryz.results167, go_sem, s0, s1, s2, s3, s4, s5, s6, txnV]) rfl ⟨by rw [(unhide HU).1, (unhide HU).2, unhide HE], hB⟩
    · have hg' : gdE (tOf b) = 0 := by simpa using hg
      have HU := hide (unf_ok (unhide Hfit) hg')
      rw [unhide HT] at hg' HU
      have HE := hide hg'
      clear hg hg'
      go_wp2_with fail
      refine (unhide CSh).mono ?_
      rintro e wS ⟨rfl, rfl⟩
      go_wp2_with fail
      refine (unhide CLf).mono ?_
      rintro e wL ⟨rfl, rfl⟩
      clear CSh CLf
      go_wp2_with fail
      refine (wgood_any ⟨x0, x1, x2, P, D, x3, x4⟩ _ (by show D.length ≤ _; omega)).mono ?_
      rintro e w4 ⟨rfl, hb4⟩
      rw [unhide HE]
      have HV0 := hide ((unhide HL).d D)
      have HV := hide ((unhide HV0).kept hb4)
      clear hb4 HV0 HL q0 q1 q2 q3 q4 q5 q6 qf r0 r1 r2 r3 r4 r5 r6 rf
      generalize w4 = V at *
      have q0 : V.cell? ⟨w.heap.size + 1 + 1, 0, none⟩ = some (.int .i64 x0) := (unhide HV).txn.c0
      have q1 : V.cell? ⟨w.heap.size + 1 + 1, 1, none⟩ = some (.int .i64 x1) := (unhide HV).txn.c1
      have q2 : V.cell? ⟨w.heap.size + 1 + 1, 2, none⟩ = some (.int .i64 x2) := (unhide HV).txn.c2
      have q3 : V.cell? ⟨w.heap.size + 1 + 1, 3, none⟩ = some (.string ⟨P.toArray⟩) := (unhide HV).txn.c3
      have q4 : V.cell? ⟨w.heap.size + 1 + 1, 4, none⟩ = some (.string ⟨D.toArray⟩) := (unhide HV).txn.c4
      have q5 : V.cell? ⟨w.heap.size + 1 + 1, 5, none⟩ = some (.int .i64 x3) := (unhide HV).txn.c5
      have q6 : V.cell? ⟨w.heap.size + 1 + 1, 6, none⟩ = some (.int .i64 x4) := (unhide HV).txn.c6
      have r0 : V.cell? ⟨w.heap.size, 0, none⟩ = some (.int .i64 0) := (unhide HV).res.c0
      have r1 : V.cell? ⟨w.heap.size, 1, none⟩ = some (.int .i64 0) := (unhide HV).res.c1
      have r2 : V.cell? ⟨w.heap.size, 2, none⟩ = some (.int .i64 0) := (unhide HV).res.c2
      have r3 : V.cell? ⟨w.heap.size, 3, none⟩ = some (.string ⟨#[]⟩) := (unhide HV).res.c3
      have r4 : V.cell? ⟨w.heap.size, 4, none⟩ = some (.string ⟨#[]⟩) := (unhide HV).res.c4
      have r5 : V.cell? ⟨w.heap.size, 5, none⟩ = some (.int .i64 0) := (unhide HV).res.c5
      have r6 : V.cell? ⟨w.heap.size, 6, none⟩ = some (.int .i64 0) := (unhide HV).res.c6
      have rf := (unhide HV).res.f
      go_wp2_with fail
      change bodyPost _ _ _ _ _ (putTxn V w.heap.size ⟨x0, x1, x2, P, D, x3, x4⟩)
      have HP := hide ((unhide HV).res.store ⟨x0, x1, x2, P, D, x3, x4⟩)
      have hB : Below w.heap.size w (putTxn V w.heap.size ⟨x0, x1, x2, P, D, x3, x4⟩) := (only_put _ _ _).below (unhide HV).below (Nat.le_refl _)
      generalize putTxn V w.heap.size ⟨x0, x1, x2, P, D, x3, x4⟩ = V2 at HP hB ⊢
      have s0 := (unhide HP).c0
      have s1 := (unhide HP).c1
      have s2 := (unhide HP).c2
      have s3 := (unhide HP).c3
      have s4 := (unhide HP).c4
      have s5 := (unhide HP).c5
      have s6 := (unhide HP).c6
      exact bodyPost_ret (v := .tuple #[txnV ⟨x0, x1, x2, P, D, x3, x4⟩, .int .i64 0]) (by simp [results, Tryz.results167, go_sem, s0, s1, s2, s3, s4, s5, s6, txnV]) rfl ⟨by rw [(unhide HU).1, (unhide HU).2], hB⟩

end Go.Proofs.YtaoflcmeiaffjaaGreatDoor

namespace Go.Proofs.YtaoflcmeiaffjaaGreatDoor
open Go.RowKit

theorem lastZ_more {ts : List WTxn} {k : Nat} {t : WTxn} (h : ts[k]? = some t) : lastZ (ts.take (k + 1)) = t.z := by rw [take_more1 h, lastZ_snoc]
set_option maxRecDepth 10000 in
set_option maxHeartbeats 1000000 in
theorem rlast_any (v : Value) (ts : List WTxn) (w : World) (hv : LogV w v ts) :
    Calls Tryz.prog 53 #[v] w fun e w' => e = .returned (.int .i64 (lastZ ts)) ∧ Below w.heap.size w w' := by
  have hlen : ts.length ≤ 9223372036854775807 := by
    rcases hv with ⟨a, cap, rfl, rfl, _⟩ | ⟨b, off, cap, rfl, h1, h2, _⟩
    · simp
    · simp only [maxLen] at h2; omega
  have HV := hide hv
  obtain ⟨a, c, rfl⟩ := log_slice hv
  clear hv
  go_enter Tryz.func53, Tryz.ntmps53
  go_wp2_with fail
  go_loopg [3, 8] ts.length (fun kx s3 s8 wr => ∃ (k : Nat) (z : Int), s3 = .int .i64 z ∧ s8 = .int .i64 k ∧ k ≤ ts.length ∧ ts.length - k ≤ kx ∧ Hid (lastZ (ts.take k) = z) ∧ Hid (Below w.heap.size w wr))
  case atStart => exact ⟨0, 0, rfl, rfl, Nat.zero_le _, by omega, hide rfl, hide (Below.refl _ _)⟩
  case round =>
    obtain ⟨k, z, rfl, rfl, hk, hkx, HZ, HB⟩ := hrel
    by_cases hlt : k < ts.length
    · obtain ⟨t, ht⟩ : ∃ t, ts[k]? = some t := ⟨_, List.getElem?_eq_getElem hlt⟩
      obtain ⟨b, off, cap, he, hb, hr, _, _, _⟩ := log_row ((unhide HV).next (unhide HB)) ht
      simp only [Value.slice.injEq, true_and] at he
      obtain ⟨rfl, rfl⟩ := he
      have e0 := hr.z ht
      have e1 := hr.o ht
      have e2 := hr.s ht
      have e3 := hr.p ht
      have e4 := hr.d ht
      have e5 := hr.v ht
      have e6 := hr.w ht
      have hlti : (k : Int) < (ts.length : Int) := by omega
      have HL := hide (lastZ_more ht)
      have hk63 : k < 9223372036854775807 := by omega
      have HB2 := fun o => hide ((unhide HB).alloc (unhide HB).size o)
      clear hr ht hb
      go_wp2_with fail
      go_roundg (ts.length - (k + 1))
      case measure => omega
      case rel => exact ⟨k + 1, t.z, rfl, by simp, by omega, Nat.le_refl _, HL, HB2 _⟩
    · obtain rfl : k = ts.length := by omega
      have hki : ¬ ((ts.length : Int) < (ts.length : Int)) := by omega
      have hz : lastZ ts = z := by have := unhide HZ; rwa [List.take_length] at this
      have HZ2 := hide hz
      clear hz
      go_wp2_with fail
      go_ret
      rw [unhide HZ2]
      exact ⟨rfl, unhide HB⟩

/-- what aviaryref.Decode does -/
def RDecOk : Prop := ∀ (s : List UInt8) (w : World), s.length ≤ 1048576 →
    Calls Tryz.prog 128 #[.string ⟨s.toArray⟩] w fun e w' => e = .returned (.tuple #[txnV (decT s), .int .i64 (decN s), .int .i64 (decE s)]) ∧ Below w.heap.size w w'
/-- what stands at each round of aviaryref.Scan -/
structure RSc (w W : World) (g : Nat) (v : Value) (ts : List WTxn) : Prop where
  below : Below w.heap.size w W
  own : OwnL W (g + 1) v ts
  at_ : ∃ t, TxnAt W g t
  le : w.heap.size ≤ g
theorem RSc.next {w W V : World} {g : Nat} {v : Value} {ts : List WTxn} (h : RSc w W g v ts) (hb : Below W.heap.size W V) : RSc w V g v ts := by
  obtain ⟨t, ht⟩ := h.at_
  exact ⟨below_next2 h.below hb, h.own.next hb, ⟨t, ht.kept hb (by unfold TxnAt at ht; exact (Array.getElem?_eq_some_iff.1 ht).1)⟩, h.le⟩
theorem OwnL.other {W V : World} {B g : Nat} {v : Value} {ts : List WTxn} (h : OwnL W B v ts) (ho : Only g W V) (hg : g < B) : OwnL V B v ts := by
  obtain ⟨hl, h | ⟨q, cap, cur, e, hB, hq, hr⟩⟩ := h
  · exact ⟨hl, .inl h⟩
  · exact ⟨hl, .inr ⟨q, cap, cur, e, hB, (ho.block _ (by omega)).trans hq, hr⟩⟩
theorem RSc.put {w W : World} {g : Nat} {v : Value} {ts : List WTxn} (h : RSc w W g v ts) (t : WTxn) : RSc w (putTxn W g t) g v ts ∧ TxnAt (putTxn W g t) g t := by
  obtain ⟨t', ht⟩ := h.at_
  exact ⟨⟨(only_put W g t).below h.below h.le, h.own.other (only_put W g t) (Nat.lt_succ_self g), ⟨t, ht.store t⟩, h.le⟩, ht.store t⟩
end Go.Proofs.YtaoflcmeiaffjaaGreatDoor
