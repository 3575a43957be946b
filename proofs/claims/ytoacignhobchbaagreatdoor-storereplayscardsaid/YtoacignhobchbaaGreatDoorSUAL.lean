/-
  What store.Crash and aviaryref.CrashServer answer: the walks.
  A disk that Append gives lies in new memory; store.extended: the walks.
-/
import Derived.Test.YtoacignhobchbaaGreatDoorSUAJ
import Derived.Test.YtoacignhobchbaaGreatDoorSUX
import Derived.Test.YtoacignhobchbaaGreatDoorSUAI
import Derived.Test.YtoacignhobchbaaGreatDoorSUV
namespace Go.Proofs.YtoacignhobchbaaGreatDoor
open Go.RowKit

theorem CB.zero {w W : World} {up : Bool} {id ep dn z : Int} {vd vl vn vs vw : Value} (h : CB w W up vd id ep vl dn z vn vs vw) : Below w.heap.size w (put10 W (w.heap.size + 1) (.bool false) (.slice none 0 0) (.int .i64 0) (.int .i64 0) (.slice none 0 0) (.int .i64 0) (.int .i64 0) (.slice none 0 0) (.slice none 0 0) (.slice none 0 0)) := put10_below h.below (by omega) _ _ _ _ _ _ _ _ _ _

end Go.Proofs.YtoacignhobchbaaGreatDoor
namespace Go.Proofs.YtoacignhobchbaaGreatDoor
open Go.RowKit

/-- a row at or behind block B -/
def Fresh (B : Nat) (v : Value) : Prop := ∀ b off n c, v = .slice (some ⟨b, off, none⟩) n c → B ≤ b
theorem Fresh.lower {B C : Nat} {v : Value} (h : Fresh B v) (hc : C ≤ B) : Fresh C v := fun b off n c e => Nat.le_trans hc (h b off n c e)
theorem Fresh.away {B k : Nat} {v : Value} (h : Fresh B v) (hk : k < B) : Away v k := fun b off n c e => by have := h b off n c e; omega
theorem fresh_none (B n c : Nat) : Fresh B (.slice none n c) := fun b off n' c' e => by simp at e
theorem fresh_own {W : World} {B : Nat} {v : Value} {fs : List DF} (h : OwnV W B v fs) : Fresh B v := by
  intro b off n c e
  rcases h with ⟨rfl, _⟩ | ⟨g, cap, rfl, hB, _⟩
  · simp at e
  · simp only [Value.slice.injEq, Option.some.injEq, Addr.mk.injEq] at e
    omega
/-- as GivesD, and the disk lies in new memory -/
def GivesF (f : FuncId) (args : Value → Array Value) (fs d : List DF) (E : Int) : Prop := ∀ v W, DiskV W v fs → Calls Tryz.prog f (args (.agg #[v])) W fun e w' => ∃ a n c, e = .returned (.tuple #[.agg #[.slice a n c], .int .i64 E]) ∧ Hid (DiskV w' (.slice a n c) d ∧ Fresh W.heap.size (.slice a n c)) ∧ Below W.heap.size W w'
theorem GivesF.d {f : FuncId} {args : Value → Array Value} {fs d : List DF} {E : Int} (h : GivesF f args fs d E) : GivesD f args fs d E := fun v W hv => (h v W hv).mono fun _ _ ⟨a, n, c, he, hd, hb⟩ => ⟨a, n, c, he, (unhide hd).1, hb⟩
theorem givesF_own {f : FuncId} {args : Value → Array Value} {fs d : List DF} (h : ∀ v W, DiskV W v fs → Calls Tryz.prog f (args (.agg #[v])) W fun e w' => ∃ v', e = .returned (.tuple #[.agg #[v'], .int .i64 0]) ∧ OwnV w' W.heap.size v' d ∧ Below W.heap.size W w') : GivesF f args fs d 0 :=
  fun v W hv => (h v W hv).mono fun _ w' ⟨v', he, ho, hb⟩ => by
    obtain ⟨a, n, c, rfl⟩ := disk_slice ho.disk
    exact ⟨a, n, c, he, ⟨ho.disk, fresh_own ho⟩, hb⟩
set_option maxRecDepth 10000 in
set_option maxHeartbeats 1000000 in
theorem wappF_safe (fs d1 d2 : List DF) (t : WTxn) (E2 : Int) (hg : gdE t = 0) (W1 : GivesD 61 (fun x => #[x, .string ⟨logN.toArray⟩, .string ⟨(recL t).toArray⟩]) fs d1 0) (S1 : GivesF 105 (fun x => #[x, .string ⟨logN.toArray⟩]) d1 d2 E2) : GivesF 67 (fun x => #[x, txnV t, .bool true]) fs d2 E2 := by
  intro v w hv
  have C := fun W => encode_yes t W hg
  have CW := fun W (h : Below w.heap.size w W) => W1 v W (hv.next h)
  have HCS := hide S1
  simp only [show logN.toArray = #[108, 111, 103] from rfl] at CW
  generalize recL t = rb at *
  simp only [show logN.toArray = #[108, 111, 103] from rfl] at HCS
  obtain ⟨a, n, c, rfl⟩ := disk_slice hv
  obtain ⟨z, o, s, p, d, y, u⟩ := t
  unfold txnV at C ⊢
  clear hv hg W1 S1
  go_enter Tryz.func67, Tryz.ntmps67
  go_wp2_with fail
  have X := hide (ABox.start w (.slice a n c) (.cells #[.int .i64 z, .int .i64 o, .int .i64 s, .string ⟨p.toArray⟩, .string ⟨d.toArray⟩, .int .i64 y, .int .i64 u] 53))
  generalize ((w.alloc (.cells #[.slice a n c] 28)).alloc (.cells #[.int .i64 z, .int .i64 o, .int .i64 s, .string ⟨p.toArray⟩, .string ⟨d.toArray⟩, .int .i64 y, .int .i64 u] 53)).alloc (.cells #[.slice none 0 0] 28) = W0 at *
  refine (C _).mono ?_
  rintro e w1 ⟨rfl, hb1⟩
  have X1 := (unhide X).next hb1
  have cd := X1.d.c
  have HX1 := hide X1
  clear hb1 X C X1
  go_wp2_with fail
  refine (CW _ (unhide HX1).below).mono ?_
  rintro e w2 ⟨a2, n2, c2, rfl, HD2, hb2⟩
  have hal := (Below.refl w2.heap.size w2).alloc (Nat.le_refl _) (.cells #[.slice a2 n2 c2] 28)
  have X2 := ((unhide HX1).next hb2).next hal
  have HD3 := hide ((unhide HD2).next hal)
  have hz2 := ((unhide HX1).next hb2).r.lt
  have hnz : w.heap.size + 1 + 1 ≠ w2.heap.size := by omega
  have cr2 := X2.r.c
  have fr2 := X2.r.f
  have HX2 := hide X2
  clear hb2 hal X2 HX1 HD2 CW cd
  go_wp2_with fail
  refine (unhide HCS _ _ (unhide HD3)).mono ?_
  rintro e w4 ⟨a4, n4, c4, rfl, HF4, hb4⟩
  have HD4 := hide (unhide HF4).1
  have FR4 := hide ((unhide HF4).2.lower (unhide HX2).below.size)
  clear HF4
  have X4 := (unhide HX2).next hb4
  have cr4 := X4.r.c
  have fr4 := X4.r.f
  have HF := hide (And.intro (X4.below.setCell (p := ⟨w.heap.size + 1 + 1, 0, none⟩) (by show w.heap.size ≤ w.heap.size + 1 + 1; omega) (.slice a4 n4 c4)) (disk_box (unhide HD4) X4.r (.slice a4 n4 c4)))
  clear hb4 X4 HX2 HD3 HD4 HCS
  go_wp2_with fail
  exact bodyPost_ret (v := .tuple #[.agg #[.slice a4 n4 c4], .int .i64 E2]) (by simp [results, Tryz.results67, go_sem, cr4]) rfl ⟨_, _, _, rfl, hide ⟨(unhide HF).2, unhide FR4⟩, (unhide HF).1⟩

end Go.Proofs.YtoacignhobchbaaGreatDoor
