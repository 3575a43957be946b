/-
  What disk.Cut says of a number out of its bounds; what Sync, Cut and Remove come to, each as one of two ways.
-/
import Derived.Test.YtbadhnmljlmefaaDQ
namespace Go.Proofs.Ytbadhnmljlmefaa
open Go.RowKit

set_option maxHeartbeats 1000000 in
theorem cut_out (v : Value) (fs A B : List DF) (f : DF) (name : List UInt8) (n : Int) (w : World) (hv : DiskV w v fs) (hs : Slim fs) (g : GoodD fs) (T : There fs A f B name) (hn : n < 0 ∨ ((f.s.length + f.t.length : Nat) : Int) < n) :
    Calls Try.prog 17 #[.agg #[v], .string ⟨name.toArray⟩, .int .i64 n] w fun e w' => e = .returned (.tuple #[.agg #[.slice none 0 0], .int .i64 3]) ∧ Below w.heap.size w w' := by
  have C := fun W (hW : Below w.heap.size w W) => locate_there _ fs A B f name W (hv.next hW) hs g T
  obtain ⟨b, off, cap, rfl, hb, hr, hk, hlt⟩ := there_row hv T
  have hfl := fileOk_len (T.ok g)
  have HR := hide hr
  have HK := hide hk
  have HT := hide T.eq
  have hb0 : b ≠ w.heap.size := by omega
  have hlti : (A.length : Int) < (fs.length : Int) := by omega
  have CS := fun W => dsize_any f W (by omega)
  obtain ⟨L, hL⟩ : ∃ L, f.s.length + f.t.length = L := ⟨_, rfl⟩
  rw [hL] at CS hfl hn
  clear hv hs g T hr hk hL HT
  by_cases h0 : n < 0
  · clear CS
    go_enter Try.func17, Try.ntmps17
    go_wp2_with fail
    have X := Boxes.start w (.slice (some ⟨b, off, none⟩) fs.length cap) 24 24
    generalize (w.alloc (.cells #[.slice (some ⟨b, off, none⟩) fs.length cap] 24)).alloc (.cells #[.slice none 0 0] 24) = w0 at *
    refine (C _ X.below).mono ?_
    rintro e w1 ⟨rfl, hb1⟩
    have X1 := X.next hb1
    have HX := hide X1
    have cd := X1.cd
    have r := (unhide HR).kept X1.below hb
    have e0 := r.c0 (unhide HK)
    have e1 := r.c1 (unhide HK)
    have e2 := r.c2 (unhide HK)
    clear C hb1 r X X1
    have cr := (unhide HX).cr
    have fr := (unhide HX).fr
    go_wp2_with fail
    exact bodyPost_ret (v := .tuple #[.agg #[.slice none 0 0], .int .i64 3]) (by simp [results, Try.results17, go_sem, cr]) rfl ⟨rfl, (unhide HX).below.setCell (by simp) _⟩
  · have hn1 : (L : Int) < n := by omega
    have h00 : ¬ n < 0 := h0
    go_enter Try.func17, Try.ntmps17
    go_wp2_with fail
    have X := Boxes.start w (.slice (some ⟨b, off, none⟩) fs.length cap) 24 24
    generalize (w.alloc (.cells #[.slice (some ⟨b, off, none⟩) fs.length cap] 24)).alloc (.cells #[.slice none 0 0] 24) = w0 at *
    refine (C _ X.below).mono ?_
    rintro e w1 ⟨rfl, hb1⟩
    have X1 := X.next hb1
    have HX := hide X1
    have cd := X1.cd
    have r := (unhide HR).kept X1.below hb
    have e0 := r.c0 (unhide HK)
    have e1 := r.c1 (unhide HK)
    have e2 := r.c2 (unhide HK)
    clear C hb1 r X X1
    go_wp2_with fail
    refine (CS _).mono ?_
    rintro e wx ⟨rfl, hbx⟩
    have X1 := (unhide HX).next hbx
    clear HX
    have HX := hide X1
    have cdx := X1.cd
    clear hbx X1
    have cr := (unhide HX).cr
    have fr := (unhide HX).fr
    go_wp2_with fail
    exact bodyPost_ret (v := .tuple #[.agg #[.slice none 0 0], .int .i64 3]) (by simp [results, Try.results17, go_sem, cr]) rfl ⟨rfl, (unhide HX).below.setCell (by simp) _⟩

/-- why a file is not cut -/
def CutNo (fs : List DF) (name : List UInt8) (n E : Int) : Prop := LocNo fs name E ∨ (GoodD fs ∧ (∃ A f B, There fs A f B name ∧ (n < 0 ∨ ((f.s.length + f.t.length : Nat) : Int) < n)) ∧ E = 3)
theorem locNo_ne {fs : List DF} {name : List UInt8} {E : Int} (h : LocNo fs name E) : (E != 0) = true := by rcases h with ⟨_, rfl⟩ | ⟨_, _, rfl⟩ <;> decide
theorem cutNo_ne {fs : List DF} {name : List UInt8} {n E : Int} (h : CutNo fs name n E) : (E != 0) = true := by
  rcases h with h | ⟨_, _, rfl⟩
  · exact locNo_ne h
  · decide
theorem cutNo_any (v : Value) (fs : List DF) (name : List UInt8) (n E : Int) (w : World) (hv : DiskV w v fs) (hs : Slim fs) (h : CutNo fs name n E) :
    Calls Try.prog 17 #[.agg #[v], .string ⟨name.toArray⟩, .int .i64 n] w fun e w' => e = .returned (.tuple #[.agg #[.slice none 0 0], .int .i64 E]) ∧ Below w.heap.size w w' := by
  rcases h with h | ⟨g, ⟨A, f, B, T, hn⟩, rfl⟩
  · exact cut_no v fs name n E w hv hs h
  · exact cut_out v fs A B f name n w hv hs g T hn
theorem cut_cases (fs : List DF) (name : List UInt8) (n : Int) : (∃ E, CutNo fs name n E) ∨ (GoodD fs ∧ ∃ A f B, There fs A f B name ∧ ∃ k : Nat, n = k ∧ k ≤ f.s.length + f.t.length) := by
  rcases loc_cases fs name with ⟨E, h⟩ | ⟨g, A, f, B, T⟩
  · exact .inl ⟨E, .inl h⟩
  · by_cases h : n < 0 ∨ ((f.s.length + f.t.length : Nat) : Int) < n
    · exact .inl ⟨3, .inr ⟨g, ⟨A, f, B, T, h⟩, rfl⟩⟩
    · exact .inr ⟨g, A, f, B, T, n.toNat, by omega, by omega⟩
end Go.Proofs.Ytbadhnmljlmefaa
