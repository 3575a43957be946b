/-
  What aviarykeep.pick answers: the walk.
  What aviarykeep.stores, copied and sameDisk answer: the walks.
-/
import Derived.Test.YtpoblkionpgljaaDoorRows
import Derived.Test.YtpoblkionpgljaaDoorMA
import Derived.WalkKit
import Derived.WalkSpells
import Derived.WalkLawsBesides
import Derived.Test.YtpoblkionpgljaaDoorME
import Derived.Laws.StructEq
import Derived.Laws.AppendOwnNone
namespace Go.Proofs.YtpoblkionpgljaaDoor
open Go.RowKit

theorem ret_pick {a b : Int} (h : a = b) : Ending.returned (.int .i64 a) = .returned (.int .i64 b) := by rw [h]

theorem tmod_cases (k n : Int) (hn : 0 < n) : k.tmod n = k % n ∨ k.tmod n = k % n - n := by
  rw [Int.tmod_eq_emod]
  split
  · left; omega
  · right; omega

set_option maxHeartbeats 400000 in
theorem pick_any (k n : Int) (w : World) (hn : 0 < n) (hn1 : n ≤ 1048576) (hk : -9223372036854775808 ≤ k) (hk1 : k ≤ 9223372036854775807) :
    Calls Tryd.prog 29 #[.int .i64 k, .int .i64 n] w fun e w' => e = .returned (.int .i64 (k % n)) ∧ w' = w := by
  have hm1 := Int.emod_nonneg k (show n ≠ 0 by omega)
  have hm2 := Int.emod_lt_of_pos k hn
  by_cases h0 : 0 ≤ k
  · go_enter Tryd.func29, Tryd.ntmps29
    go_wp2
    go_ret
    exact ⟨rfl, rfl⟩
  · have HT := hide (tmod_cases k n hn)
    go_enter Tryd.func29, Tryd.ntmps29
    go_wp2
    all_goals go_ret
    all_goals refine ⟨ret_pick ?_, rfl⟩
    all_goals (have hT := unhide HT; clear HT; first | omega | (unfold wrap64; omega))

end Go.Proofs.YtpoblkionpgljaaDoor

namespace Go.Proofs.YtpoblkionpgljaaDoor
open Go.RowKit

def nameA : List UInt8 := [97]
theorem wrote_a : namedB nameA = true := by decide
theorem good_nil : GoodD [] := goodD_true.1 goodD_nil
theorem gap_nil (name : List UInt8) : Gap [] [] [] name := ⟨rfl, by simp, by simp⟩

set_option maxHeartbeats 1000000 in
theorem kcopied_some (a : Addr) (cap : Nat) (fs : List DF) (w : World) (hl : fs.length * 48 ≤ 140737488355328) (hc : ∀ j u, (cellsF fs)[j]? = some u → w.cell? (a.add j) = some u) :
    Calls Tryd.prog 27 #[.agg #[.slice (some a) fs.length cap]] w fun e w' => ∃ v', e = .returned (.agg #[v']) ∧ OwnV w' w.heap.size v' fs ∧ Below w.heap.size w w' := by
  obtain ⟨i0, hi0, hz0, hz1, hz2⟩ := info_file
  have HR := hide hc
  clear hc
  go_enter Tryd.func27, Tryd.ntmps27
  go_wp2_with (at_builtin; refine wpList_append_own _ rfl _ _ 33 rfl (w.heap.size + 2) 62 i0 _ 3 48 Tryd.underlying33 hi0 hz0 hz1 hz2 rfl (by decide) _ 0 [] rfl (World.ownsRow_nil _ _ _ _) a fs.length cap (cellsF fs) rfl (cellsF_length fs) ?qc2 (cellsF_one fs) ?qc4 ?qc5 ?qc6 ?_)
  case qc2 =>
    intro j u hj
    exact Lib.cell?_alloc_some _ (Lib.cell?_alloc_some _ (unhide HR j u hj))
  case qc4 => simp only [maxLen]; omega
  case qc5 => omega
  case qc6 => simp
  intro v' w1 hown hgrow _
  have X := (Boxes.start w (.slice (some a) fs.length cap) 35 35).grownO hgrow (fun k e => by cases e)
  have ho := OwnV.of_row (B := w.heap.size + 2) (by simpa using hown)
  have cr := X.cr
  have fr := X.fr
  have HB := hide X.below
  have HO := hide ho
  obtain ⟨a5, c5, rfl, _⟩ := own_slice ho
  clear X ho hown hgrow
  go_wp2
  refine bodyPost_ret (v := .agg #[.slice a5 fs.length c5]) (by simp [results, Tryd.results27, go_sem, cr]) rfl ⟨_, rfl, ?_, (unhide HB).setCell (by simp) _⟩
  rcases unhide HO with h | ⟨g, c, e, h1, h2⟩
  · exact .inl h
  · exact .inr ⟨g, c, e, by omega, h2.other (by show g ≠ w.heap.size + 1; omega) _⟩

set_option maxHeartbeats 400000 in
theorem kcopied_nil (cap : Nat) (w : World) :
    Calls Tryd.prog 27 #[.agg #[.slice none 0 cap]] w fun e w' => ∃ v', e = .returned (.agg #[v']) ∧ OwnV w' w.heap.size v' [] ∧ Below w.heap.size w w' := by
  have X := Boxes.start w (.slice none 0 cap) 35 35
  have cr := X.cr
  have HB := hide X.below
  clear X
  go_enter Tryd.func27, Tryd.ntmps27
  go_wp2_with fail
  exact bodyPost_ret (v := .agg #[.slice none 0 0]) (by simp [results, Tryd.results27, go_sem]) rfl ⟨_, rfl, .inl ⟨rfl, rfl⟩, unhide HB⟩

theorem kcopied_any (v : Value) (fs : List DF) (w : World) (hv : DiskV w v fs) (hl : fs.length * 48 ≤ 140737488355328) :
    Calls Tryd.prog 27 #[.agg #[v]] w fun e w' => ∃ v', e = .returned (.agg #[v']) ∧ OwnV w' w.heap.size v' fs ∧ Below w.heap.size w w' := by
  rcases hv with ⟨a, cap, rfl, rfl, _⟩ | ⟨b, off, cap, rfl, _, _, hb, _, hr⟩
  · cases a with
    | none => exact kcopied_nil cap w
    | some a => exact kcopied_some a cap [] w (by simp) (fun j u h => by simp [cellsF] at h)
  · exact kcopied_some ⟨b, off, none⟩ cap fs w hl (fun j u h => by rw [Addr.add_lit]; exact hr j u h)

theorem kdisk_len {w : World} {v : Value} {fs : List DF} (hv : DiskV w v fs) : (∃ a c, v = .slice a 0 c ∧ fs = []) ∨ ∃ b off c, v = .slice (some ⟨b, off, none⟩) fs.length c ∧ b < w.heap.size ∧ RowAt w b off (cellsF fs) ∧ fs ≠ [] := by
  rcases hv with ⟨a, cap, rfl, rfl, _⟩ | ⟨b, off, cap, rfl, _, _, hb, h0, hr⟩
  · exact .inl ⟨a, cap, rfl, rfl⟩
  · exact .inr ⟨b, off, cap, rfl, hb, hr, h0⟩

end Go.Proofs.YtpoblkionpgljaaDoor
