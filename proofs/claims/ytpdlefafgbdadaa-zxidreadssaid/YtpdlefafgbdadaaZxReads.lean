/-
  ZxidReads: the law's walk, out of the contracts of Read, the program's and the document's own.
-/
import Derived.Test.YtpdlefafgbdadaaZxRead
import Derived.Test.YtpdlefafgbdadaaZxRefRead
namespace Go.Proofs.Ytpdlefafgbdadaa
open Go.RowKit

theorem below_then {w w1 w2 : World} (h : Below w.heap.size w w1) (h' : Below w1.heap.size w1 w2) : Below w.heap.size w w2 := h.trans (h'.mono h.size)
theorem read_07 (W : World) : Calls Try.prog 12 #[.string ⟨#[48, 46, 55]⟩] W fun e w' => e = .returned (.tuple #[.int .i64 7, .int .i64 0]) ∧ Below W.heap.size W w' := by
  have h := zread_any [48, 46, 55] W (by decide)
  rw [show zRead [48, 46, 55] = 7 from by decide +kernel, show zReadE [48, 46, 55] = 0 from by decide +kernel] at h
  exact h

set_option maxHeartbeats 1000000 in
theorem zxidReads_walk (l : List UInt8) (w : World) (hl : l.length ≤ 140737488355328) :
    Calls Try.prog 4 #[.string ⟨l.toArray⟩] w fun e w' => e = .returned (.bool true) ∧ Below w.heap.size w w' := by
  obtain ⟨X, hX⟩ : ∃ X, zRead l = X := ⟨_, rfl⟩
  obtain ⟨E, hE⟩ : ∃ E, zReadE l = E := ⟨_, rfl⟩
  have HX := hide hX
  have HE := hide hE
  clear hX hE
  go_enter Try.func4, Try.ntmps4
  go_wp2_with fail
  refine (zread_any l _ hl).mono ?_
  rintro e w1 ⟨rfl, hb1⟩
  rw [unhide HX, unhide HE]
  go_wp2_with fail
  refine (rread_any l _ hl).mono ?_
  rintro e w2 ⟨rfl, hb2⟩
  replace hb2 := below_then hb1 hb2
  clear hb1
  rw [unhide HX, unhide HE]
  go_wp2_with fail
  refine (read_07 _).mono ?_
  rintro e w3 ⟨rfl, hb3⟩
  replace hb3 := below_then hb2 hb3
  clear hb2
  go_wp2_with fail
  go_ret
  exact ⟨rfl, hb3⟩

end Go.Proofs.Ytpdlefafgbdadaa
