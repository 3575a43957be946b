/-
  What wal.Append answers: the walks.
  What wal.Recover answers: the walks.
  What wal.Recover answers of every disk; what wal.upTo answers.
-/
import Derived.Test.YtpoblkionpgljaaDoorMF
import Derived.Test.YtpoblkionpgljaaDoorME
import Derived.Test.YtpoblkionpgljaaDoorMC
namespace Go.Proofs.YtpoblkionpgljaaDoor
open Go.RowKit

/-- a store into a box that holds no text leaves a disk's files alone -/
theorem disk_box {W : World} {v : Value} {fs : List DF} (h : DiskV W v fs) {k : Nat} {a : Option Addr} {n c : Nat} (hb : BoxAt W k (.slice a n c)) (u : Value) : DiskV (W.setCell ⟨k, 0, none⟩ u) v fs := by
  rcases h with h | ⟨b, off, cap, rfl, h1, h2, h3, h0, h4⟩
  · exact .inl h
  · have hne : b ≠ k := by
      rintro rfl
      obtain ⟨f, r, rfl⟩ : ∃ f r, fs = f :: r := by
        cases fs with
        | nil => exact absurd rfl h0
        | cons f r => exact ⟨f, r, rfl⟩
      have e := h4.c0 (i := 0) (f := f) rfl
      unfold BoxAt at hb
      simp only [World.cell?, hb] at e
      cases off with
      | zero => simp at e
      | succ m => simp at e
    refine .inr ⟨b, off, cap, rfl, h1, h2, by simpa [World.setCell] using h3, h0, fun j x hj => ?_⟩
    rw [← h4 j x hj]
    exact World.cell?_of_block (Below.heap_setCell W ⟨k, 0, none⟩ u b hne)
theorem log_box {W : World} {v : Value} {ts : List WTxn} (h : LogV W v ts) {k : Nat} {a : Option Addr} {n c : Nat} (hb : BoxAt W k (.slice a n c)) (u : Value) : LogV (W.setCell ⟨k, 0, none⟩ u) v ts := by
  rcases h with h | ⟨b, off, cap, rfl, h1, h2, h3, h0, h4⟩
  · exact .inl h
  · have hne : b ≠ k := by
      rintro rfl
      obtain ⟨f, r, rfl⟩ : ∃ f r, ts = f :: r := by
        cases ts with
        | nil => exact absurd rfl h0
        | cons f r => exact ⟨f, r, rfl⟩
      have e := h4.z (i := 0) (t := f) rfl
      unfold BoxAt at hb
      simp only [World.cell?, hb] at e
      cases off with
      | zero => simp at e
      | succ m => simp at e
    refine .inr ⟨b, off, cap, rfl, h1, h2, by simpa [World.setCell] using h3, h0, fun j x hj => ?_⟩
    rw [← h4 j x hj]
    exact World.cell?_of_block (Below.heap_setCell W ⟨k, 0, none⟩ u b hne)
theorem BoxAt.other {W : World} {k j : Nat} {v : Value} (h : BoxAt W k v) (hj : k ≠ j) (u : Value) : BoxAt (W.setCell ⟨j, 0, none⟩ u) k v := (Below.heap_setCell W ⟨j, 0, none⟩ u k hj).trans h
theorem BoxAt.lt {W : World} {k : Nat} {v : Value} (h : BoxAt W k v) : k < W.heap.size := by unfold BoxAt at h; exact (Array.getElem?_eq_some_iff.1 h).1

/-- blocks of a call that is handed a disk and a transaction: the disk's, the result's -/
structure ABox (w W : World) (v : Value) : Prop where
  below : Below w.heap.size w W
  d : BoxAt W w.heap.size v
  r : BoxAt W (w.heap.size + 1 + 1) (.slice none 0 0)
theorem ABox.next {w W V : World} {v : Value} (h : ABox w W v) (hb : Below W.heap.size W V) : ABox w V v := ⟨below_next2 h.below hb, h.d.next hb, h.r.next hb⟩
theorem ABox.setd {w W : World} {v : Value} (h : ABox w W v) (u : Value) : ABox w (W.setCell ⟨w.heap.size, 0, none⟩ u) u := ⟨h.below.setCell (Nat.le_refl _) u, h.d.set u, h.r.other (by omega) u⟩
theorem ABox.start (w : World) (v : Value) (o : Obj) : ABox w (((w.alloc (.cells #[v] 35)).alloc o).alloc (.cells #[.slice none 0 0] 35)) v := by
  have b1 : Below (w.alloc (.cells #[v] 35)).heap.size (w.alloc (.cells #[v] 35)) ((w.alloc (.cells #[v] 35)).alloc o) := (Below.refl _ _).alloc (Nat.le_refl _) _
  have b2 : Below ((w.alloc (.cells #[v] 35)).alloc o).heap.size ((w.alloc (.cells #[v] 35)).alloc o) (((w.alloc (.cells #[v] 35)).alloc o).alloc (.cells #[.slice none 0 0] 35)) := (Below.refl _ _).alloc (Nat.le_refl _) _
  have b0 : Below w.heap.size w (w.alloc (.cells #[v] 35)) := (Below.refl _ _).alloc (Nat.le_refl _) _
  refine ⟨below_next2 (below_next2 b0 b1) b2, ((BoxAt.new w v).next b1).next b2, ?_⟩
  have h := BoxAt.new ((w.alloc (.cells #[v] 35)).alloc o) (.slice none 0 0)
  have hz : ((w.alloc (.cells #[v] 35)).alloc o).heap.size = w.heap.size + 1 + 1 := by simp
  rw [hz] at h
  exact h

set_option maxRecDepth 10000 in
set_option maxHeartbeats 1000000 in
theorem wapp_no (fs : List DF) (t : WTxn) (safe : Bool) (hg : gdE t ≠ 0) (hd : t.d.length ≤ 140737488355328) : GivesD 14 (fun x => #[x, txnV t, .bool safe]) fs [] (gdE t) := by
  refine gives_no fun v w hv => ?_
  have C := fun W => encode_no t W hd hg
  have hne : (gdE t != 0) = true := by simpa using hg
  generalize gdE t = E at *
  obtain ⟨a, n, c, rfl⟩ := disk_slice hv
  obtain ⟨z, o, s, p, d, y, u⟩ := t
  unfold txnV at C ⊢
  clear hv hg hd
  go_enter Tryd.func14, Tryd.ntmps14
  go_wp2_with fail
  have X := hide (ABox.start w (.slice a n c) (.cells #[.int .i64 z, .int .i64 o, .int .i64 s, .string ⟨p.toArray⟩, .string ⟨d.toArray⟩, .int .i64 y, .int .i64 u] 29))
  generalize ((w.alloc (.cells #[.slice a n c] 35)).alloc (.cells #[.int .i64 z, .int .i64 o, .int .i64 s, .string ⟨p.toArray⟩, .string ⟨d.toArray⟩, .int .i64 y, .int .i64 u] 29)).alloc (.cells #[.slice none 0 0] 35) = W0 at *
  refine (C _).mono ?_
  rintro e w1 ⟨rfl, hb1⟩
  have X1 := (unhide X).next hb1
  have cr := X1.r.c
  have fr := X1.r.f
  have HB := hide (X1.below.setCell (p := ⟨w.heap.size + 1 + 1, 0, none⟩) (by show w.heap.size ≤ w.heap.size + 1 + 1; omega) (.slice none 0 0))
  clear hb1 X C X1
  go_wp2_with fail
  exact bodyPost_ret (v := .tuple #[.agg #[.slice none 0 0], .int .i64 E]) (by simp [results, Tryd.results14, go_sem, cr]) rfl ⟨rfl, unhide HB⟩

set_option maxRecDepth 10000 in
set_option maxHeartbeats 1000000 in
theorem wapp_err (fs d1 : List DF) (t : WTxn) (safe : Bool) (E : Int) (hg : gdE t = 0) (W1 : GivesD 39 (fun x => #[x, .string ⟨logN.toArray⟩, .string ⟨(recL t).toArray⟩]) fs d1 E) (hE : E ≠ 0) : GivesD 14 (fun x => #[x, txnV t, .bool safe]) fs [] E := by
  intro v w hv
  have C := fun W => encode_yes t W hg
  have CW := fun W (h : Below w.heap.size w W) => W1 v W (hv.next h)
  have hne : (E != 0) = true := by simpa using hE
  simp only [show logN.toArray = #[108, 111, 103] from rfl] at CW
  generalize recL t = rb at *
  obtain ⟨a, n, c, rfl⟩ := disk_slice hv
  obtain ⟨z, o, s, p, d, y, u⟩ := t
  unfold txnV at C ⊢
  clear hv hg W1 hE
  go_enter Tryd.func14, Tryd.ntmps14
  go_wp2_with fail
  have X := hide (ABox.start w (.slice a n c) (.cells #[.int .i64 z, .int .i64 o, .int .i64 s, .string ⟨p.toArray⟩, .string ⟨d.toArray⟩, .int .i64 y, .int .i64 u] 29))
  generalize ((w.alloc (.cells #[.slice a n c] 35)).alloc (.cells #[.int .i64 z, .int .i64 o, .int .i64 s, .string ⟨p.toArray⟩, .string ⟨d.toArray⟩, .int .i64 y, .int .i64 u] 29)).alloc (.cells #[.slice none 0 0] 35) = W0 at *
  refine (C _).mono ?_
  rintro e w1 ⟨rfl, hb1⟩
  have X1 := (unhide X).next hb1
  have cd := X1.d.c
  have HX1 := hide X1
  clear hb1 X C X1
  go_wp2_with fail
  refine (CW _ (unhide HX1).below).mono ?_
  rintro e w2 ⟨a2, n2, c2, rfl, HD2, hb2⟩
  have hal := (Below.refl w2.heap.size w2).alloc (Nat.le_refl _) (.cells #[.slice a2 n2 c2] 35)
  have X2 := ((unhide HX1).next hb2).next hal
  have HD3 := hide ((unhide HD2).next hal)
  have hz2 := ((unhide HX1).next hb2).r.lt
  have hnz : w.heap.size + 1 + 1 ≠ w2.heap.size := by omega
  have cr2 := X2.r.c
  have fr2 := X2.r.f
  have X1b := (unhide HX1).next hb2
  have hS := X1b.below.setCell (p := ⟨w.heap.size + 1 + 1, 0, none⟩) (by show w.heap.size ≤ w.heap.size + 1 + 1; omega) (.slice none 0 0)
  have hF1 := hS.alloc (by have := hS.size; exact this) (.cells #[.slice a2 n2 c2] 35)
  have cw := (((X1b.r.set (.slice none 0 0)).next ((Below.refl _ _).alloc (Nat.le_refl _) (.cells #[.slice a2 n2 c2] 35)))).c
  have HF := hide (And.intro hF1 True.intro)
  have HCw := hide cw
  clear hb2 hal X2 HX1 HD2 CW cd X1b hS hF1 cw
  go_wp2_with fail
  exact bodyPost_ret (v := .tuple #[.agg #[.slice none 0 0], .int .i64 E]) (by simp [results, Tryd.results14, go_sem, unhide HCw]) rfl ⟨_, _, _, rfl, hide (DiskV.nil _), (unhide HF).1⟩

set_option maxRecDepth 10000 in
set_option maxHeartbeats 1000000 in
theorem wapp_soft (fs d1 : List DF) (t : WTxn) (hg : gdE t = 0) (W1 : GivesD 39 (fun x => #[x, .string ⟨logN.toArray⟩, .string ⟨(recL t).toArray⟩]) fs d1 0) : GivesD 14 (fun x => #[x, txnV t, .bool false]) fs d1 0 := by
  intro v w hv
  have C := fun W => encode_yes t W hg
  have CW := fun W (h : Below w.heap.size w W) => W1 v W (hv.next h)
  simp only [show logN.toArray = #[108, 111, 103] from rfl] at CW
  generalize recL t = rb at *
  obtain ⟨a, n, c, rfl⟩ := disk_slice hv
  obtain ⟨z, o, s, p, d, y, u⟩ := t
  unfold txnV at C ⊢
  clear hv hg W1
  go_enter Tryd.func14, Tryd.ntmps14
  go_wp2_with fail
  have X := hide (ABox.start w (.slice a n c) (.cells #[.int .i64 z, .int .i64 o, .int .i64 s, .string ⟨p.toArray⟩, .string ⟨d.toArray⟩, .int .i64 y, .int .i64 u] 29))
  generalize ((w.alloc (.cells #[.slice a n c] 35)).alloc (.cells #[.int .i64 z, .int .i64 o, .int .i64 s, .string ⟨p.toArray⟩, .string ⟨d.toArray⟩, .int .i64 y, .int .i64 u] 29)).alloc (.cells #[.slice none 0 0] 35) = W0 at *
  refine (C _).mono ?_
  rintro e w1 ⟨rfl, hb1⟩
  have X1 := (unhide X).next hb1
  have cd := X1.d.c
  have HX1 := hide X1
  clear hb1 X C X1
  go_wp2_with fail
  refine (CW _ (unhide HX1).below).mono ?_
  rintro e w2 ⟨a2, n2, c2, rfl, HD2, hb2⟩
  have hal := (Below.refl w2.heap.size w2).alloc (Nat.le_refl _) (.cells #[.slice a2 n2 c2] 35)
  have X2 := ((unhide HX1).next hb2).next hal
  have HD3 := hide ((unhide HD2).next hal)
  have hz2 := ((unhide HX1).next hb2).r.lt
  have hnz : w.heap.size + 1 + 1 ≠ w2.heap.size := by omega
  have cr2 := X2.r.c
  have fr2 := X2.r.f
  have X1b := (unhide HX1).next hb2
  have hS := X1b.below.setCell (p := ⟨w.heap.size + 1 + 1, 0, none⟩) (by show w.heap.size ≤ w.heap.size + 1 + 1; omega) (.slice a2 n2 c2)
  have hF1 := hS.alloc (by have := hS.size; exact this) (.cells #[.slice a2 n2 c2] 35)
  have cw := (((X1b.r.set (.slice a2 n2 c2)).next ((Below.refl _ _).alloc (Nat.le_refl _) (.cells #[.slice a2 n2 c2] 35)))).c
  have HF := hide (And.intro hF1 ((disk_box (unhide HD2) X1b.r (.slice a2 n2 c2)).alloc (.cells #[.slice a2 n2 c2] 35)))
  have HCw := hide cw
  clear hb2 hal X2 HX1 HD2 CW cd X1b hS hF1 cw
  go_wp2_with fail
  exact bodyPost_ret (v := .tuple #[.agg #[.slice a2 n2 c2], .int .i64 0]) (by simp [results, Tryd.results14, go_sem, unhide HCw]) rfl ⟨_, _, _, rfl, hide (unhide HF).2, (unhide HF).1⟩

set_option maxRecDepth 10000 in
set_option maxHeartbeats 1000000 in
theorem wapp_safe (fs d1 d2 : List DF) (t : WTxn) (E2 : Int) (hg : gdE t = 0) (W1 : GivesD 39 (fun x => #[x, .string ⟨logN.toArray⟩, .string ⟨(recL t).toArray⟩]) fs d1 0) (S1 : GivesD 40 (fun x => #[x, .string ⟨logN.toArray⟩]) d1 d2 E2) : GivesD 14 (fun x => #[x, txnV t, .bool true]) fs d2 E2 := by
  intro v w hv
  have C := fun W => encode_yes t W hg
  have CW := fun W (h : Below w.heap.size w W) => W1 v W (hv.next h)
  have HCS := hide S1
  simp only [show logN.toArray = #[108, 111, 103] from rfl] at CW
  generalize recL t = rb at *
  simp only [show logN.toArray = #[108, 111, 103] from rfl] at HCS
  obtain ⟨a, n, c, rfl⟩ := disk_slice hv
  obtain ⟨z, o, s, p, d, y, u⟩ := t
  unfold txnV at C ⊢
  clear hv hg W1 S1
  go_enter Tryd.func14, Tryd.ntmps14
  go_wp2_with fail
  have X := hide (ABox.start w (.slice a n c) (.cells #[.int .i64 z, .int .i64 o, .int .i64 s, .string ⟨p.toArray⟩, .string ⟨d.toArray⟩, .int .i64 y, .int .i64 u] 29))
  generalize ((w.alloc (.cells #[.slice a n c] 35)).alloc (.cells #[.int .i64 z, .int .i64 o, .int .i64 s, .string ⟨p.toArray⟩, .string ⟨d.toArray⟩, .int .i64 y, .int .i64 u] 29)).alloc (.cells #[.slice none 0 0] 35) = W0 at *
  refine (C _).mono ?_
  rintro e w1 ⟨rfl, hb1⟩
  have X1 := (unhide X).next hb1
  have cd := X1.d.c
  have HX1 := hide X1
  clear hb1 X C X1
  go_wp2_with fail
  refine (CW _ (unhide HX1).below).mono ?_
  rintro e w2 ⟨a2, n2, c2, rfl, HD2, hb2⟩
  have hal := (Below.refl w2.heap.size w2).alloc (Nat.le_refl _) (.cells #[.slice a2 n2 c2] 35)
  have X2 := ((unhide HX1).next hb2).next hal
  have HD3 := hide ((unhide HD2).next hal)
  have hz2 := ((unhide HX1).next hb2).r.lt
  have hnz : w.heap.size + 1 + 1 ≠ w2.heap.size := by omega
  have cr2 := X2.r.c
  have fr2 := X2.r.f
  have HX2 := hide X2
  clear hb2 hal X2 HX1 HD2 CW cd
  go_wp2_with fail
  refine (unhide HCS _ _ (unhide HD3)).mono ?_
  rintro e w4 ⟨a4, n4, c4, rfl, HD4, hb4⟩
  have X4 := (unhide HX2).next hb4
  have cr4 := X4.r.c
  have fr4 := X4.r.f
  have HF := hide (And.intro (X4.below.setCell (p := ⟨w.heap.size + 1 + 1, 0, none⟩) (by show w.heap.size ≤ w.heap.size + 1 + 1; omega) (.slice a4 n4 c4)) (disk_box (unhide HD4) X4.r (.slice a4 n4 c4)))
  clear hb4 X4 HX2 HD3 HD4 HCS
  go_wp2_with fail
  exact bodyPost_ret (v := .tuple #[.agg #[.slice a4 n4 c4], .int .i64 E2]) (by simp [results, Tryd.results14, go_sem, cr4]) rfl ⟨_, _, _, rfl, hide (unhide HF).2, (unhide HF).1⟩
end Go.Proofs.YtpoblkionpgljaaDoor

namespace Go.Proofs.YtpoblkionpgljaaDoor
open Go.RowKit

/-- blocks of a call that is handed a disk: the disk's, the result's -/
structure RBox (w W : World) (v : Value) : Prop where
  below : Below w.heap.size w W
  d : BoxAt W w.heap.size v
  r : BoxAt W (w.heap.size + 1) (.slice none 0 0)
theorem RBox.next {w W V : World} {v : Value} (h : RBox w W v) (hb : Below W.heap.size W V) : RBox w V v := ⟨below_next2 h.below hb, h.d.next hb, h.r.next hb⟩
theorem RBox.setd {w W : World} {v : Value} (h : RBox w W v) (u : Value) : RBox w (W.setCell ⟨w.heap.size, 0, none⟩ u) u := ⟨h.below.setCell (Nat.le_refl _) u, h.d.set u, h.r.other (by omega) u⟩
theorem RBox.start (w : World) (v : Value) : RBox w ((w.alloc (.cells #[v] 35)).alloc (.cells #[.slice none 0 0] 35)) v := by
  have b1 : Below w.heap.size w (w.alloc (.cells #[v] 35)) := (Below.refl _ _).alloc (Nat.le_refl _) _
  have b2 : Below (w.alloc (.cells #[v] 35)).heap.size (w.alloc (.cells #[v] 35)) ((w.alloc (.cells #[v] 35)).alloc (.cells #[.slice none 0 0] 35)) := (Below.refl _ _).alloc (Nat.le_refl _) _
  refine ⟨below_next2 b1 b2, (BoxAt.new w v).next b2, ?_⟩
  have h := BoxAt.new (w.alloc (.cells #[v] 35)) (.slice none 0 0)
  have hz : (w.alloc (.cells #[v] 35)).heap.size = w.heap.size + 1 := by simp
  rw [hz] at h
  exact h
/-- a call on a disk says E, and hands back a log and a disk -/
def GivesR (f : FuncId) (args : Value → Array Value) (fs : List DF) (ts : List WTxn) (d : List DF) (E : Int) : Prop := ∀ v W, DiskV W v fs → Calls Tryd.prog f (args (.agg #[v])) W fun e w' => ∃ a1 k1 c1 a n c, e = .returned (.tuple #[.slice a1 k1 c1, .agg #[.slice a n c], .int .i64 E]) ∧ Hid (LogV w' (.slice a1 k1 c1) ts) ∧ Hid (DiskV w' (.slice a n c) d) ∧ Below W.heap.size W w'
/-- what reading the log says -/
def GivesS (f : FuncId) (fs : List DF) (s : List UInt8) (E : Int) : Prop := ∀ v W, DiskV W v fs → Calls Tryd.prog f #[.agg #[v], .string ⟨#[108, 111, 103]⟩] W fun e w' => e = .returned (.tuple #[.string ⟨s.toArray⟩, .int .i64 E]) ∧ Below W.heap.size W w'
/-- what scanning bytes says -/
def GivesL (f : FuncId) (s : List UInt8) (ts : List WTxn) (n : Nat) : Prop := ∀ W, Calls Tryd.prog f #[.string ⟨s.toArray⟩] W fun e w' => ∃ v, e = .returned (.tuple #[v, .int .i64 n]) ∧ LogV w' v ts ∧ Below W.heap.size W w'

set_option maxRecDepth 10000 in
set_option maxHeartbeats 1000000 in
theorem wrec_bad (fs : List DF) (E : Int) (CR : GivesS 43 fs [] E) (h7 : E ≠ 7) (h0 : E ≠ 0) : GivesR 20 (fun x => #[x]) fs [] [] E := by
  intro v w hv
  have h7' : (E == 7) = false := by simpa using h7
  have h0' : (E != 0) = true := by simpa using h0
  clear h7 h0
  have HV := hide hv
  obtain ⟨a, n, c, rfl⟩ := disk_slice hv
  clear hv
  go_enter Tryd.func20, Tryd.ntmps20
  go_wp2_with fail
  have X := hide (RBox.start w (.slice a n c))
  generalize (w.alloc (.cells #[.slice a n c] 35)).alloc (.cells #[.slice none 0 0] 35) = W0 at *
  refine (CR _ _ ((unhide HV).next (unhide X).below)).mono ?_
  rintro e w1 ⟨rfl, hb1⟩
  have X1 := (unhide X).next hb1
  have cr := X1.r.c
  have fr := X1.r.f
  have HB := hide (X1.below.setCell (p := ⟨w.heap.size + 1, 0, none⟩) (by show w.heap.size ≤ w.heap.size + 1; omega) (.slice none 0 0))
  clear hb1 X X1 CR HV
  go_wp2_with fail
  exact bodyPost_ret (v := .tuple #[.slice none 0 0, .agg #[.slice none 0 0], .int .i64 E]) (by simp [results, Tryd.results20, go_sem, cr]) rfl ⟨_, _, _, _, _, _, rfl, hide (LogV.nil _), hide (DiskV.nil _), unhide HB⟩

set_option maxRecDepth 10000 in
set_option maxHeartbeats 1000000 in
theorem wrec_gap_any (fs d1 : List DF) (E : Int) (CR : GivesS 43 fs [] 7) (GW : GivesD 39 (fun x => #[x, .string ⟨logN.toArray⟩, .string ⟨(([] : List UInt8)).toArray⟩]) fs d1 E) : GivesR 20 (fun x => #[x]) fs [] d1 E := by
  intro v w hv
  simp only [show logN.toArray = #[108, 111, 103] from rfl] at GW
  have HV := hide hv
  obtain ⟨a, n, c, rfl⟩ := disk_slice hv
  clear hv
  go_enter Tryd.func20, Tryd.ntmps20
  go_wp2_with fail
  have X := hide (RBox.start w (.slice a n c))
  generalize (w.alloc (.cells #[.slice a n c] 35)).alloc (.cells #[.slice none 0 0] 35) = W0 at *
  refine (CR _ _ ((unhide HV).next (unhide X).below)).mono ?_
  rintro e w1 ⟨rfl, hb1⟩
  have X1 := (unhide X).next hb1
  have cd := X1.d.c
  have HX1 := hide X1
  clear hb1 X X1 CR
  go_wp2_with fail
  refine (GW _ _ ((unhide HV).next (unhide HX1).below)).mono ?_
  rintro e w2 ⟨a2, n2, c2, rfl, HD2, hb2⟩
  have hal := (Below.refl w2.heap.size w2).alloc (Nat.le_refl _) (.cells #[.slice a2 n2 c2] 35)
  have X2 := ((unhide HX1).next hb2).next hal
  have cr := X2.r.c
  have fr := X2.r.f
  have cy := (BoxAt.new w2 (.slice a2 n2 c2)).c
  have hz2 := ((unhide HX1).next hb2).r.lt
  have hnz : w.heap.size + 1 ≠ w2.heap.size := by omega
  have HF := hide (And.intro (X2.below.setCell (p := ⟨w.heap.size + 1, 0, none⟩) (by show w.heap.size ≤ w.heap.size + 1; omega) (.slice a2 n2 c2)) (disk_box ((unhide HD2).next hal) X2.r (.slice a2 n2 c2)))
  clear hb2 hal X2 HX1 HD2 GW cd HV
  go_wp2_with fail
  generalize w2.alloc (.cells #[.slice a2 n2 c2] 35) = W2 at *
  go_region
  go_wp2_with fail
  exact bodyPost_ret (v := .tuple #[.slice none 0 0, .agg #[.slice a2 n2 c2], .int .i64 E]) (by simp [results, Tryd.results20, go_sem, cr]) rfl ⟨_, _, _, _, _, _, rfl, hide (LogV.nil _), hide (unhide HF).2.drew, (unhide HF).1.drew⟩

set_option maxRecDepth 10000 in
set_option maxHeartbeats 1000000 in
theorem wrec_there (fs d1 : List DF) (s : List UInt8) (ts : List WTxn) (N : Nat) (CR : GivesS 43 fs s 0) (CS : GivesL 9 s ts N) (GC : GivesD 44 (fun x => #[x, .string ⟨logN.toArray⟩, .int .i64 N]) fs d1 0) : GivesR 20 (fun x => #[x]) fs ts d1 0 := by
  intro v w hv
  simp only [show logN.toArray = #[108, 111, 103] from rfl] at GC
  have HV := hide hv
  obtain ⟨a, n, c, rfl⟩ := disk_slice hv
  clear hv
  go_enter Tryd.func20, Tryd.ntmps20
  go_wp2_with fail
  have X := hide (RBox.start w (.slice a n c))
  generalize (w.alloc (.cells #[.slice a n c] 35)).alloc (.cells #[.slice none 0 0] 35) = W0 at *
  refine (CR _ _ ((unhide HV).next (unhide X).below)).mono ?_
  rintro e w1 ⟨rfl, hb1⟩
  have X1 := (unhide X).next hb1
  have HX1 := hide X1
  clear hb1 X X1 CR
  go_wp2_with fail
  refine (CS _).mono ?_
  rintro e w2 ⟨v2, rfl, hl2, hb2⟩
  have X2 := (unhide HX1).next hb2
  have HL2 := hide hl2
  obtain ⟨al, cl, rfl⟩ := log_slice hl2
  have cd2 := X2.d.c
  have HX2 := hide X2
  clear hb2 hl2 X2 HX1 CS
  go_wp2_with fail
  refine (GC _ _ ((unhide HV).next (unhide HX2).below)).mono ?_
  rintro e w3 ⟨a3, n3, c3, rfl, HD3, hb3⟩
  have hal := (Below.refl w3.heap.size w3).alloc (Nat.le_refl _) (.cells #[.slice a3 n3 c3] 35)
  have X3 := ((unhide HX2).next hb3).next hal
  have cr := X3.r.c
  have fr := X3.r.f
  have cy := (BoxAt.new w3 (.slice a3 n3 c3)).c
  have hz2 := ((unhide HX2).next hb3).r.lt
  have hnz : w.heap.size + 1 ≠ w3.heap.size := by omega
  have HF := hide (And.intro (X3.below.setCell (p := ⟨w.heap.size + 1, 0, none⟩) (by show w.heap.size ≤ w.heap.size + 1; omega) (.slice a3 n3 c3)) (And.intro (disk_box ((unhide HD3).next hal) X3.r (.slice a3 n3 c3)) (log_box (((unhide HL2).next hb3).next hal) X3.r (.slice a3 n3 c3))))
  clear hb3 hal X3 HX2 HD3 HL2 GC cd2 HV
  go_wp2_with fail
  generalize w3.alloc (.cells #[.slice a3 n3 c3] 35) = W3 at *
  go_region
  go_wp2_with fail
  exact bodyPost_ret (v := .tuple #[.slice al ts.length cl, .agg #[.slice a3 n3 c3], .int .i64 0]) (by simp [results, Tryd.results20, go_sem, cr]) rfl ⟨_, _, _, _, _, _, rfl, hide (unhide HF).2.2.drew, hide (unhide HF).2.1.drew, (unhide HF).1.drew⟩
end Go.Proofs.YtpoblkionpgljaaDoor

namespace Go.Proofs.YtpoblkionpgljaaDoor
open Go.RowKit

theorem scan_any {s r : List UInt8} {ts : List WTxn} (S : Scan s ts r) (hs : s.length ≤ 1048576) : GivesL 9 s ts (recsL ts).length := fun W =>
  (scan_of (fun s w h => decode_any s w h) s r ts W S hs).mono fun _ _ ⟨v, he, ho, hb⟩ => ⟨v, he, ho.log, hb⟩
theorem recover_no {fs : List DF} {E : Int} (hs : Slim fs) (h : RecNo fs E) : GivesR 20 (fun x => #[x]) fs [] [] E := by
  rcases h with ⟨h, rfl⟩ | ⟨g, h16, ⟨A, B, G⟩, rfl⟩
  · exact wrec_bad fs 3 (fun v W hv => read_no v fs logN 3 W hv hs (.inl ⟨h, rfl⟩)) (by decide) (by decide)
  · exact wrec_gap_any fs [] 6 (fun v W hv => read_no v fs logN 7 W hv hs (.inr ⟨g, ⟨A, B, G⟩, rfl⟩))
      (gives_no fun v W hv => write_no v fs logN [] 6 W hv hs (by decide) (by decide) (.inr (.inr (.inl ⟨g, named_log, h16, ⟨A, B, G⟩, rfl⟩))))
theorem recover_yes {fs A B : List DF} {ts : List WTxn} (h : RecYes fs ts A B) : GivesR 20 (fun x => #[x]) fs ts (A ++ logF ts :: B) 0 := by
  have hs := good_slim h.good
  rcases h.old with ⟨h16, G, rfl⟩ | ⟨f, r, T, S⟩
  · exact wrec_gap_any fs _ 0 (fun v W hv => read_no v fs logN 7 W hv hs (.inr ⟨h.good, ⟨A, B, G⟩, rfl⟩))
      (gives_own fun v W hv => write_new v fs A B logN [] W hv hs h.good named_log h16 G (by decide))
  · have hf := fileOk_len (T.ok h.good)
    have hl := S.len
    rw [List.length_append] at hl
    refine wrec_there fs _ (f.s ++ f.t) ts (recsL ts).length (fun v W hv => read_there v fs A B f logN W hv hs h.good T) (scan_any S (by rw [List.length_append]; omega)) (gives_own fun v W hv => ?_)
    have := cut_there v fs A B f logN (recsL ts).length W hv hs h.good T (by omega)
    rw [S.eq, List.take_left, T.nm] at this
    exact this

theorem keepL_at {z : Int} : ∀ {ts : List WTxn} {k : Nat} {t : WTxn}, ts[k]? = some t → (k < (keepL z ts).length → t.z ≤ z) ∧ (k = (keepL z ts).length → ¬ t.z ≤ z)
  | [], k, t, h => by simp at h
  | x :: l, 0, t, h => by
    simp at h
    subst h
    unfold keepL
    by_cases hx : x.z ≤ z
    · rw [List.takeWhile_cons_of_pos (by simpa using hx)]; simp [hx]
    · rw [List.takeWhile_cons_of_neg (by simpa using hx)]; simp; omega
  | x :: l, k + 1, t, h => by
    have ih := keepL_at (z := z) (ts := l) (k := k) (t := t) (by simpa using h)
    unfold keepL at ih ⊢
    by_cases hx : x.z ≤ z
    · rw [List.takeWhile_cons_of_pos (by simpa using hx)]; simpa using ih
    · rw [List.takeWhile_cons_of_neg (by simpa using hx)]; simp
theorem keepL_is (z : Int) (ts : List WTxn) : ts.take (keepL z ts).length = keepL z ts ∧ (keepL z ts).length ≤ ts.length := by
  obtain ⟨b, e⟩ := keepL_split z ts
  generalize keepL z ts = a at *
  subst e
  simp
theorem recs_take_le (ts : List WTxn) (k : Nat) : (recsL (ts.take k)).length ≤ (recsL ts).length := by
  have : recsL ts = recsL (ts.take k) ++ recsL (ts.drop k) := by rw [← recsL_append, List.take_append_drop]
  rw [this]; simp

theorem ret_n {i j : Nat} (h : i = j) : Ending.returned (.int .i64 (i : Int)) = .returned (.int .i64 (j : Int)) := by rw [h]

set_option maxRecDepth 10000 in
set_option maxHeartbeats 1000000 in
theorem upTo_any (v : Value) (ts : List WTxn) (z : Int) (w : World) (hv : LogV w v ts) (hL : ∀ t ∈ ts, gdE t = 0) (hs : (recsL ts).length ≤ 1048576) :
    Calls Tryd.prog 47 #[v, .int .i64 z] w fun e w' => e = .returned (.int .i64 ((recsL (keepL z ts)).length : Nat)) ∧ Below w.heap.size w w' := by
  have hlen := recsL_ge ts
  have HV := hide hv
  have HG := hide hL
  have HK := hide (keepL_is z ts)
  have HA := hide (fun k t h => keepL_at (z := z) (ts := ts) (k := k) (t := t) h)
  have hK := (keepL_is z ts).2
  generalize keepL z ts = K at *
  obtain ⟨a, c, rfl⟩ := log_slice hv
  clear hv hL
  go_enter Tryd.func47, Tryd.ntmps47
  go_wp2_with fail
  go_loopg [5, 12] ts.length (fun kx s5 s12 wr => ∃ (k N : Nat), s5 = .int .i64 N ∧ s12 = .int .i64 k ∧ k ≤ K.length ∧ ts.length - k ≤ kx ∧ Hid ((recsL (ts.take k)).length = N) ∧ Hid (Below w.heap.size w wr))
  case atStart => exact ⟨0, 0, rfl, rfl, Nat.zero_le _, by omega, hide rfl, hide (Below.refl _ _)⟩
  case round =>
    obtain ⟨k, N, rfl, rfl, hk, hkx, HN, HB⟩ := hrel
    by_cases hlt : k < ts.length
    · obtain ⟨t, ht⟩ : ∃ t, ts[k]? = some t := ⟨_, List.getElem?_eq_getElem hlt⟩
      obtain ⟨b, off, cap, he, hb, hr, _, _, _⟩ := log_row ((unhide HV).next (unhide HB)) ht
      simp only [Value.slice.injEq, true_and] at he
      obtain ⟨rfl, rfl⟩ := he
      have e0 := hr.z ht
      have e1 := hr.o ht
      have e2 := hr.s ht
      have e3 := hr.p ht
      have e4 := hr.d ht
      have e5 := hr.v ht
      have e6 := hr.w ht
      have hlti : (k : Int) < (ts.length : Int) := by omega
      have hg := unhide HG t (List.mem_of_getElem? ht)
      have C := fun W => encode_yes t W hg
      have hat := unhide HA k t ht
      have HL := hide (take_more1 ht)
      have hN1 := recs_take_le ts (k + 1)
      rw [take_more1 ht, recsL_snoc, List.length_append, unhide HN] at hN1
      clear hr ht hb hg
      obtain ⟨R, hR⟩ : ∃ R, recL t = R := ⟨_, rfl⟩
      rw [hR] at C hN1
      have HR := hide hR
      have hzR : (ByteArray.mk R.toArray).size = R.length := Lib.size_eq ⟨R.toArray⟩
      clear hR
      have HB2 := fun o => hide ((unhide HB).alloc (unhide HB).size o)
      obtain ⟨z1, o1, s1, p1, d1, y1, u1⟩ := t
      unfold txnV at C
      simp only at e0 e1 e2 e3 e4 e5 e6
      by_cases hlK : k < K.length
      · have hz' : ¬ z < z1 := by have hz : z1 ≤ z := hat.1 hlK; omega
        clear hat
        go_wp2_with fail
        refine (C _).mono ?_
        rintro e w1 ⟨rfl, hb1⟩
        have HB3 := hide (below_next2 (unhide (HB2 _)) hb1)
        clear C hb1 HB2 e0 e1 e2 e3 e4 e5 e6
        go_wp2_with fail
        go_roundg (ts.length - (k + 1))
        case measure => omega
        case rel => exact ⟨k + 1, N + R.length, by simp, by simp, by omega, Nat.le_refl _, hide (by rw [unhide HL, recsL_snoc, List.length_append, unhide HN, unhide HR]), HB3⟩
      · have hz' : z < z1 := hat.2 (by omega)
        have hN2 : (recsL K).length = N := by rw [← (unhide HK).1, show K.length = k from by omega]; exact unhide HN
        have HN2 := hide hN2
        clear hat hN2 C
        go_wp2_with fail
        go_ret
        exact ⟨ret_n (unhide HN2).symm, unhide (HB2 _)⟩
    · have hki : ¬ ((k : Int) < (ts.length : Int)) := by omega
      have hN2 : (recsL K).length = N := by rw [← (unhide HK).1, show K.length = k from by omega]; exact unhide HN
      have HN2 := hide hN2
      clear hN2
      go_wp2_with fail
      go_ret
      exact ⟨ret_n (unhide HN2).symm, unhide HB⟩
end Go.Proofs.YtpoblkionpgljaaDoor
