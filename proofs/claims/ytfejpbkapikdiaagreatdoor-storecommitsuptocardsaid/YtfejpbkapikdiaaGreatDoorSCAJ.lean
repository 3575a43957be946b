/-
  What store.Epoch and aviaryref.EpochOf answer: the walks.
  What wal.Last and wal.follows answer: the walks.
  What wire's cursor answers: the walks of text and number; a world in which one block alone has turned.
  A log on a disk, as plain lists: what is recovered, what is kept. No walk is here.
  What wire.Number answers, for numbers from 0 on and up to eight bytes: the walk.
  What wal.Append answers: the walks.
  What wal.Recover answers: the walks.
-/
import Derived.Test.YtfejpbkapikdiaaGreatDoorSCB
import Derived.Test.YtfejpbkapikdiaaGreatDoorSCG
import Derived.Test.YtfejpbkapikdiaaGreatDoorSCAI
import Derived.Test.YtfejpbkapikdiaaGreatDoorSCC
import Derived.Test.YtfejpbkapikdiaaGreatDoorRows
import Derived.WalkSpells
import Derived.WalkLawsBesides
import Derived.Deep.RegionHeld3
import Derived.Deep.RegionLaw
import Derived.Test.YtfejpbkapikdiaaGreatDoorSCA
import Derived.WalkKit
import Derived.Laws.MakeOwn
import Derived.Laws.IdiomStrings
import Derived.OwnWalk
import Derived.Test.YtfejpbkapikdiaaGreatDoorSCK
import Derived.Lib.QuietBelow
import Derived.BigQuiet
namespace Go.Proofs.YtfejpbkapikdiaaGreatDoor
open Go.RowKit

noncomputable def epochD (fs : List DF) : Int := zEpoch (zRead (readD fs epochN).1)
set_option maxRecDepth 10000 in
set_option maxHeartbeats 1000000 in
theorem sepoch_any (v : Value) (fs : List DF) (w : World) (hv : DiskV w v fs) (hs : Slim fs) :
    Calls Tryz.prog 53 #[.agg #[v]] w fun e w' => e = .returned (.int .i64 (epochD fs)) ∧ Below w.heap.size w w' := by
  have CR := fun W (h : DiskV W v fs) => read_any v fs epochN W h hs
  have hl := readD_len fs epochN
  unfold epochD
  generalize readD fs epochN = R at *
  obtain ⟨s, E⟩ := R
  simp only at CR hl ⊢
  simp only [show epochN.toArray = #[101, 112, 111, 99, 104] from rfl] at CR
  have CZ := fun W => zread_any s W (by omega)
  have CE := fun W => zepoch_any (zRead s) W
  generalize zRead s = z at *
  generalize zReadE s = ze at *
  have HV := hide hv
  obtain ⟨a, n, c, rfl⟩ := disk_slice hv
  clear hv hs hl
  go_enter Tryz.func53, Tryz.ntmps53
  go_wp2_with fail
  refine (CR _ ((unhide HV).next (allocB _ _))).mono ?_
  rintro e w1 ⟨rfl, hb1⟩
  have hB1 := nbox_then hb1
  clear hb1 CR
  go_wp2_with fail
  refine (CZ _).mono ?_
  rintro e w2 ⟨rfl, hb2⟩
  have hB2 := nnext hB1 hb2
  clear hb2 hB1 CZ
  go_wp2_with fail
  refine (CE _).mono ?_
  rintro e w3 ⟨rfl, rfl⟩
  go_wp2_with fail
  go_ret
  exact ⟨rfl, hB2⟩

end Go.Proofs.YtfejpbkapikdiaaGreatDoor

namespace Go.Proofs.YtfejpbkapikdiaaGreatDoor
open Go.RowKit

theorem below_next2 {a b c : World} (h : Below a.heap.size a b) (k : Below b.heap.size b c) : Below a.heap.size a c := h.trans (k.mono h.size)

end Go.Proofs.YtfejpbkapikdiaaGreatDoor

namespace Go.Proofs.YtfejpbkapikdiaaGreatDoor
open Go.RowKit

/-- of what there was, block g alone may have turned; nothing is new -/
structure Only (g : Nat) (w w' : World) : Prop where
  os : w'.os = w.os
  tape : w'.tape = w.tape
  output : w'.output = w.output
  size : w'.heap.size = w.heap.size
  block : ∀ k, k ≠ g → w'.heap[k]? = w.heap[k]?
theorem Only.refl (g : Nat) (w : World) : Only g w w := ⟨rfl, rfl, rfl, rfl, fun _ _ => rfl⟩
theorem Only.trans {g : Nat} {a b c : World} (h : Only g a b) (k : Only g b c) : Only g a c :=
  ⟨k.os.trans h.os, k.tape.trans h.tape, k.output.trans h.output, k.size.trans h.size, fun i hi => (k.block i hi).trans (h.block i hi)⟩
theorem Only.below {B g : Nat} {a w w' : World} (h : Only g w w') (hb : Below B a w) (hg : B ≤ g) : Below B a w' :=
  hb.trans ⟨h.os, h.tape, h.output, Nat.le_of_eq h.size.symm, fun k hk => h.block k (by omega)⟩
theorem Only.setCell {g : Nat} {a w : World} (h : Only g a w) (j : Nat) (v : Value) : Only g a (w.setCell ⟨g, j, none⟩ v) :=
  h.trans ⟨rfl, rfl, rfl, by simp [World.setCell], fun k hk => Below.heap_setCell _ _ _ _ hk⟩

/-- a cursor's two cells -/
def Cur (W : World) (g : Nat) (rest : List UInt8) (short : Bool) : Prop := W.heap[g]? = some (.cells #[.string ⟨rest.toArray⟩, .bool short] 192 (0, 0))
theorem Cur.c0 {W : World} {g : Nat} {r : List UInt8} {b : Bool} (h : Cur W g r b) : W.cell? ⟨g, 0, none⟩ = some (.string ⟨r.toArray⟩) := by unfold Cur at h; simp [World.cell?, h]
theorem Cur.c1 {W : World} {g : Nat} {r : List UInt8} {b : Bool} (h : Cur W g r b) : W.cell? ⟨g, 1, none⟩ = some (.bool b) := by unfold Cur at h; simp [World.cell?, h]
theorem Cur.f {W : World} {g : Nat} {r : List UInt8} {b : Bool} (h : Cur W g r b) (j : Nat) : W.frozen? ⟨g, j, none⟩ = false := by unfold Cur at h; simp [World.frozen?, h]
theorem cur_set {w : World} {g j : Nat} {cur : Array Value} {t : TypeId} {fz : Nat × Nat} (v : Value) (h : w.heap[g]? = some (.cells cur t fz)) :
    (w.setCell ⟨g, j, none⟩ v).heap[g]? = some (.cells (cur.setIfInBounds j v) t fz) := by
  obtain ⟨hlt, hk⟩ := Array.getElem?_eq_some_iff.1 h
  show (w.heap.modify g _)[g]? = _
  rw [Array.getElem?_eq_getElem (by rw [Array.size_modify]; exact hlt), Array.getElem_modify_self, hk]
  rfl
theorem Cur.s0 {W : World} {g : Nat} {r : List UInt8} {b : Bool} (h : Cur W g r b) (r' : List UInt8) : Cur (W.setCell ⟨g, 0, none⟩ (.string ⟨r'.toArray⟩)) g r' b := cur_set _ h
theorem Cur.s1 {W : World} {g : Nat} {r : List UInt8} {b : Bool} (h : Cur W g r b) (b' : Bool) : Cur (W.setCell ⟨g, 1, none⟩ (.bool b')) g r b' := cur_set _ h
theorem Cur.kept {W V : World} {g B : Nat} {r : List UInt8} {b : Bool} (h : Cur W g r b) (hb : Below B W V) (hg : g < B) : Cur V g r b := (hb.block _ hg).trans h
theorem Cur.other {W V : World} {g k : Nat} {r : List UInt8} {b : Bool} (h : Cur W g r b) (ho : Only k W V) (hg : g ≠ k) : Cur V g r b := (ho.block _ hg).trans h

/- numbers out of bytes, eight at most -/
end Go.Proofs.YtfejpbkapikdiaaGreatDoor

namespace Go.Proofs.YtfejpbkapikdiaaGreatDoor
open Go.RowKit

def logN : List UInt8 := [108, 111, 103]
theorem named_log : namedB logN = true := by decide
def logF (ts : List WTxn) : DF := ⟨logN, recsL ts, []⟩
structure RecYes (fs : List DF) (ts : List WTxn) (A B : List DF) : Prop where
  good : GoodD fs
  log : Logs ts
  old : (fs.length < 16 ∧ Gap fs A B logN ∧ ts = []) ∨ ∃ f r, There fs A f B logN ∧ Scan (f.s ++ f.t) ts r
theorem RecYes.short {fs A B : List DF} {ts : List WTxn} (h : RecYes fs ts A B) : (recsL ts).length ≤ 1048576 := by
  rcases h.old with ⟨_, _, rfl⟩ | ⟨f, r, T, S⟩
  · simp [recsL]
  · have h1 := S.len
    have h2 := fileOk_len (T.ok h.good)
    rw [List.length_append] at h1
    omega
theorem RecYes.few {fs A B : List DF} {ts : List WTxn} (h : RecYes fs ts A B) : ts.length ≤ 40000 := by
  have h1 := h.short
  have h2 := recsL_ge ts
  omega
theorem RecYes.there {fs A B : List DF} {ts : List WTxn} (h : RecYes fs ts A B) (us : List WTxn) : There (A ++ logF us :: B) A (logF us) B logN := by
  rcases h.old with ⟨_, G, _⟩ | ⟨f, r, T, _⟩
  · exact G.ins rfl
  · exact T.set rfl
theorem RecYes.after {fs A B : List DF} {ts : List WTxn} (h : RecYes fs ts A B) {us : List WTxn} (hu : (recsL us).length ≤ 1048576) : GoodD (A ++ logF us :: B) := by
  have hl : (logF us).s.length + (logF us).t.length ≤ 1048576 := by simp [logF]; exact hu
  rcases h.old with ⟨h16, G, _⟩ | ⟨f, r, T, _⟩
  · exact good_ins h.good G named_log h16 rfl hl
  · have g := h.good
    rw [T.eq] at g
    exact good_set g T.nm.symm hl
/- a disk with the log alone -/
theorem gap_none (name : List UInt8) : Gap [] [] [] name := ⟨rfl, by simp, by simp⟩
theorem good_none : GoodD [] := ⟨by simp, by simp, List.Pairwise.nil⟩
/- what is kept -/
end Go.Proofs.YtfejpbkapikdiaaGreatDoor

namespace Go.Proofs.YtfejpbkapikdiaaGreatDoor
open Go.RowKit
/- cells that hold bytes -/
def byteV (l : List UInt8) : List Value := l.map fun b => .int .u8 (b.toNat : Int)
def bytesAt (W : World) (g : Nat) (l : List UInt8) : Prop := W.heap[g]? = some (.cells (byteV l).toArray 5 (0, 0))
theorem bytesAt.cell {W : World} {g : Nat} {l : List UInt8} (h : bytesAt W g l) {j : Nat} (hj : j < l.length) : W.cell? ⟨g, j, none⟩ = some (.int .u8 (l[j].toNat : Int)) := by
  unfold bytesAt at h; simp [World.cell?, h, byteV, List.getElem?_eq_getElem hj]
theorem bytesAt.set {W : World} {g : Nat} {l : List UInt8} (h : bytesAt W g l) (j : Nat) (b : UInt8) : bytesAt (W.setCell ⟨g, j, none⟩ (.int .u8 (b.toNat : Int))) g (l.set j b) := by
  unfold bytesAt at h ⊢
  obtain ⟨hlt, hk⟩ := Array.getElem?_eq_some_iff.1 h
  show (W.heap.modify g _)[g]? = _
  rw [Array.getElem?_eq_getElem (by rw [Array.size_modify]; exact hlt), Array.getElem_modify_self, hk]
  simp [byteV, List.map_set]
theorem bytesAt.text {W : World} {g : Nat} {l : List UInt8} (h : bytesAt W g l) (cap : Nat) :
    (convert 148 9 (.slice (some ⟨g, 0, none⟩) l.length cap)).run Tryz.prog W = .ok (.string ⟨l.toArray⟩) W :=
  run_convert_bytes_back W 148 9 5 ⟨g, 0, none⟩ cap l Tryz.underlying148 Tryz.underlying5 Tryz.underlying9 (fun j hj => by
    rw [show (⟨g, 0, none⟩ : Addr).add j = ⟨g, j, none⟩ from by unfold Addr.add; split <;> simp_all]
    exact h.cell hj)
end Go.Proofs.YtfejpbkapikdiaaGreatDoor

namespace Go.Proofs.YtfejpbkapikdiaaGreatDoor
open Go.RowKit

/-- a store into a box that holds no text leaves a disk's files alone -/
theorem disk_box {W : World} {v : Value} {fs : List DF} (h : DiskV W v fs) {k : Nat} {a : Option Addr} {n c : Nat} (hb : BoxAt W k (.slice a n c)) (u : Value) : DiskV (W.setCell ⟨k, 0, none⟩ u) v fs := by
  rcases h with h | ⟨b, off, cap, rfl, h1, h2, h3, h0, h4⟩
  · exact .inl h
  · have hne : b ≠ k := by
      rintro rfl
      obtain ⟨f, r, rfl⟩ : ∃ f r, fs = f :: r := by
        cases fs with
        | nil => exact absurd rfl h0
        | cons f r => exact ⟨f, r, rfl⟩
      have e := h4.c0 (i := 0) (f := f) rfl
      unfold BoxAt at hb
      simp only [World.cell?, hb] at e
      cases off with
      | zero => simp at e
      | succ m => simp at e
    refine .inr ⟨b, off, cap, rfl, h1, h2, by simpa [World.setCell] using h3, h0, fun j x hj => ?_⟩
    rw [← h4 j x hj]
    exact World.cell?_of_block (Below.heap_setCell W ⟨k, 0, none⟩ u b hne)
theorem BoxAt.other {W : World} {k j : Nat} {v : Value} (h : BoxAt W k v) (hj : k ≠ j) (u : Value) : BoxAt (W.setCell ⟨j, 0, none⟩ u) k v := (Below.heap_setCell W ⟨j, 0, none⟩ u k hj).trans h
theorem BoxAt.lt {W : World} {k : Nat} {v : Value} (h : BoxAt W k v) : k < W.heap.size := by unfold BoxAt at h; exact (Array.getElem?_eq_some_iff.1 h).1

/-- blocks of a call that is handed a disk and a transaction: the disk's, the result's -/
structure ABox (w W : World) (v : Value) : Prop where
  below : Below w.heap.size w W
  d : BoxAt W w.heap.size v
  r : BoxAt W (w.heap.size + 1 + 1) (.slice none 0 0)
theorem ABox.next {w W V : World} {v : Value} (h : ABox w W v) (hb : Below W.heap.size W V) : ABox w V v := ⟨below_next2 h.below hb, h.d.next hb, h.r.next hb⟩
theorem ABox.start (w : World) (v : Value) (o : Obj) : ABox w (((w.alloc (.cells #[v] 24)).alloc o).alloc (.cells #[.slice none 0 0] 24)) v := by
  have b1 : Below (w.alloc (.cells #[v] 24)).heap.size (w.alloc (.cells #[v] 24)) ((w.alloc (.cells #[v] 24)).alloc o) := (Below.refl _ _).alloc (Nat.le_refl _) _
  have b2 : Below ((w.alloc (.cells #[v] 24)).alloc o).heap.size ((w.alloc (.cells #[v] 24)).alloc o) (((w.alloc (.cells #[v] 24)).alloc o).alloc (.cells #[.slice none 0 0] 24)) := (Below.refl _ _).alloc (Nat.le_refl _) _
  have b0 : Below w.heap.size w (w.alloc (.cells #[v] 24)) := (Below.refl _ _).alloc (Nat.le_refl _) _
  refine ⟨below_next2 (below_next2 b0 b1) b2, ((BoxAt.new w v).next b1).next b2, ?_⟩
  have h := BoxAt.new ((w.alloc (.cells #[v] 24)).alloc o) (.slice none 0 0)
  have hz : ((w.alloc (.cells #[v] 24)).alloc o).heap.size = w.heap.size + 1 + 1 := by simp
  rw [hz] at h
  exact h

end Go.Proofs.YtfejpbkapikdiaaGreatDoor

namespace Go.Proofs.YtfejpbkapikdiaaGreatDoor
open Go.RowKit

/-- blocks of a call that is handed a disk: the disk's, the result's -/
structure RBox (w W : World) (v : Value) : Prop where
  below : Below w.heap.size w W
  d : BoxAt W w.heap.size v
  r : BoxAt W (w.heap.size + 1) (.slice none 0 0)
theorem RBox.next {w W V : World} {v : Value} (h : RBox w W v) (hb : Below W.heap.size W V) : RBox w V v := ⟨below_next2 h.below hb, h.d.next hb, h.r.next hb⟩
theorem RBox.start (w : World) (v : Value) : RBox w ((w.alloc (.cells #[v] 24)).alloc (.cells #[.slice none 0 0] 24)) v := by
  have b1 : Below w.heap.size w (w.alloc (.cells #[v] 24)) := (Below.refl _ _).alloc (Nat.le_refl _) _
  have b2 : Below (w.alloc (.cells #[v] 24)).heap.size (w.alloc (.cells #[v] 24)) ((w.alloc (.cells #[v] 24)).alloc (.cells #[.slice none 0 0] 24)) := (Below.refl _ _).alloc (Nat.le_refl _) _
  refine ⟨below_next2 b1 b2, (BoxAt.new w v).next b2, ?_⟩
  have h := BoxAt.new (w.alloc (.cells #[v] 24)) (.slice none 0 0)
  have hz : (w.alloc (.cells #[v] 24)).heap.size = w.heap.size + 1 := by simp
  rw [hz] at h
  exact h
/-- a call on a disk says E, and hands back a log and a disk -/
def GivesW (f : FuncId) (args : Value → Array Value) (fs : List DF) (ts : List WTxn) (d : List DF) (E : Int) : Prop := ∀ v W, DiskV W v fs → Calls Tryz.prog f (args (.agg #[v])) W fun e w' => ∃ a1 k1 c1 a n c, e = .returned (.tuple #[.slice a1 k1 c1, .agg #[.slice a n c], .int .i64 E]) ∧ Hid (LogV w' (.slice a1 k1 c1) ts) ∧ Hid (DiskV w' (.slice a n c) d) ∧ Below W.heap.size W w'
/-- what reading the log says -/
def GivesS (f : FuncId) (fs : List DF) (s : List UInt8) (E : Int) : Prop := ∀ v W, DiskV W v fs → Calls Tryz.prog f #[.agg #[v], .string ⟨#[108, 111, 103]⟩] W fun e w' => e = .returned (.tuple #[.string ⟨s.toArray⟩, .int .i64 E]) ∧ Below W.heap.size W w'
set_option maxRecDepth 10000 in
set_option maxHeartbeats 1000000 in
theorem wrec_gap_any (fs d1 : List DF) (E : Int) (CR : GivesS 76 fs [] 7) (GW : GivesD 77 (fun x => #[x, .string ⟨logN.toArray⟩, .string ⟨(([] : List UInt8)).toArray⟩]) fs d1 E) : GivesW 52 (fun x => #[x]) fs [] d1 E := by
  intro v w hv
  simp only [show logN.toArray = #[108, 111, 103] from rfl] at GW
  have HV := hide hv
  obtain ⟨a, n, c, rfl⟩ := disk_slice hv
  clear hv
  go_enter Tryz.func52, Tryz.ntmps52
  go_wp2_with fail
  have X := hide (RBox.start w (.slice a n c))
  generalize (w.alloc (.cells #[.slice a n c] 24)).alloc (.cells #[.slice none 0 0] 24) = W0 at *
  refine (CR _ _ ((unhide HV).next (unhide X).below)).mono ?_
  rintro e w1 ⟨rfl, hb1⟩
  have X1 := (unhide X).next hb1
  have cd := X1.d.c
  have HX1 := hide X1
  clear hb1 X X1 CR
  go_wp2_with fail
  refine (GW _ _ ((unhide HV).next (unhide HX1).below)).mono ?_
  rintro e w2 ⟨a2, n2, c2, rfl, HD2, hb2⟩
  have hal := (Below.refl w2.heap.size w2).alloc (Nat.le_refl _) (.cells #[.slice a2 n2 c2] 24)
  have X2 := ((unhide HX1).next hb2).next hal
  have cr := X2.r.c
  have fr := X2.r.f
  have cy := (BoxAt.new w2 (.slice a2 n2 c2)).c
  have hz2 := ((unhide HX1).next hb2).r.lt
  have hnz : w.heap.size + 1 ≠ w2.heap.size := by omega
  have HF := hide (And.intro (X2.below.setCell (p := ⟨w.heap.size + 1, 0, none⟩) (by show w.heap.size ≤ w.heap.size + 1; omega) (.slice a2 n2 c2)) (disk_box ((unhide HD2).next hal) X2.r (.slice a2 n2 c2)))
  clear hb2 hal X2 HX1 HD2 GW cd HV
  go_wp2_with fail
  generalize w2.alloc (.cells #[.slice a2 n2 c2] 24) = W2 at *
  go_region
  go_wp2_with fail
  exact bodyPost_ret (v := .tuple #[.slice none 0 0, .agg #[.slice a2 n2 c2], .int .i64 E]) (by simp [results, Tryz.results52, go_sem, cr]) rfl ⟨_, _, _, _, _, _, rfl, hide (LogV.nil _), hide (unhide HF).2.drew, (unhide HF).1.drew⟩

end Go.Proofs.YtfejpbkapikdiaaGreatDoor
