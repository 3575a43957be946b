/-
  What aviarykeep's logOf, laid and logs answer: the walks.
-/
import Derived.Test.YtpoblkionpgljabDoorMG
import Derived.Test.YtpoblkionpgljabDoorMC
import Derived.Test.YtpoblkionpgljabDoorMB
import Derived.Test.YtpoblkionpgljabDoorMF
namespace Go.Proofs.YtpoblkionpgljabDoor
open Go.RowKit

theorem recs_small {ts : List WTxn} (h : Logs ts) (hl : ts.length ≤ 100) : (recsL ts).length ≤ 48700 := by
  have := recsL_le ts h.good
  omega
/-- a transaction more at the end of a log that lies there, safe -/
theorem app_logF {m : List WTxn} {t : WTxn} (h : Logs (m ++ [t])) (hl : m.length ≤ 99) : GivesD 32 (fun x => #[x, txnV t, .bool true]) [logF m] [logF (m ++ [t])] 0 := by
  have hg := (Logs.at (a := m) (b := []) h).1
  have h1 := recs_small h.left (by omega)
  have h2 := recL_le hg
  have g0 : GoodD [logF m] := good_one (by simp; omega)
  have g1 : GoodD [⟨logN, recsL m, recL t⟩] := good_one (by omega)
  refine wapp_safe [logF m] [⟨logN, recsL m, recL t⟩] [logF (m ++ [t])] t 0 hg (gives_own fun v W hv => ?_) (gives_own fun v W hv => ?_)
  · have := write_there v [logF m] [] [] (logF m) logN (recL t) W hv (good_slim g0) g0 (there_one _ _) (by simp only [logF, List.length_nil]; omega)
    simpa [logF] using this
  · have := sync_there v [⟨logN, recsL m, recL t⟩] [] [] ⟨logN, recsL m, recL t⟩ logN W hv (good_slim g1) g1 (there_one _ _)
    simpa [logF, recsL_snoc] using this
theorem app_first {t : WTxn} (hg : gdE t = 0) : GivesD 32 (fun x => #[x, txnV t, .bool true]) [] [logF [t]] 0 := by
  have h2 := recL_le hg
  have g1 : GoodD [⟨logN, [], recL t⟩] := good_one (by simp; omega)
  refine wapp_safe [] [⟨logN, [], recL t⟩] [logF [t]] t 0 hg (gives_own fun v W hv => ?_) (gives_own fun v W hv => ?_)
  · exact write_new v [] [] [] logN (recL t) W hv (good_slim good_none) good_none named_log (by simp) (gap_none _) (by omega)
  · have := sync_there v [⟨logN, [], recL t⟩] [] [] ⟨logN, [], recL t⟩ logN W hv (good_slim g1) g1 (there_one _ _)
    simpa [logF, recsL] using this
theorem app_log {m : List WTxn} {t : WTxn} (h : Logs (m ++ [t])) (hl : m.length ≤ 99) : GivesD 32 (fun x => #[x, txnV t, .bool true]) (logD m) (logD (m ++ [t])) 0 := by
  rw [logD_some (ts := m ++ [t]) (by simp)]
  by_cases h0 : m.length = 0
  · obtain rfl := List.length_eq_zero_iff.1 h0
    exact app_first (Logs.at (a := []) (b := []) h).1
  · rw [logD_some h0]
    exact app_logF h hl
theorem app_soft {m : List WTxn} {t : WTxn} (h : Logs (m ++ [t])) (hl : m.length ≤ 99) : GivesD 32 (fun x => #[x, txnV t, .bool false]) (logD m) [⟨logN, recsL m, recL t⟩] 0 := by
  have hg := (Logs.at (a := m) (b := []) h).1
  have h1 := recs_small h.left (by omega)
  have h2 := recL_le hg
  refine wapp_soft (logD m) [⟨logN, recsL m, recL t⟩] t hg (gives_own fun v W hv => ?_)
  by_cases h0 : m.length = 0
  · obtain rfl := List.length_eq_zero_iff.1 h0
    exact write_new v [] [] [] logN (recL t) W hv (good_slim good_none) good_none named_log (by simp) (gap_none _) (by omega)
  · rw [logD_some h0] at hv
    have g0 : GoodD [logF m] := good_one (by simp; omega)
    have := write_there v [logF m] [] [] (logF m) logN (recL t) W hv (good_slim g0) g0 (there_one _ _) (by simp only [logF, List.length_nil]; omega)
    simpa [logF] using this

/-- a log that lies in a row of its own, and may stand on a disk -/
structure OutL (w W : World) (v : Value) (m : List WTxn) : Prop where
  own : OwnL W w.heap.size v m
  below : Below w.heap.size w W
  log : Logs m
theorem OutL.next {w W V : World} {v : Value} {m : List WTxn} (h : OutL w W v m) (hb : Below W.heap.size W V) : OutL w V v m := ⟨h.own.next hb, below_next2 h.below hb, h.log⟩

theorem OutL.more {w W V : World} {k c : Nat} {a : Option Addr} {m : List WTxn} {t : WTxn} {O : Obj} {v' : Value} (h : OutL w W (.slice a k c) m) (hk : m.length = k) (hg : gdE t = 0) (hf : follB m t = true)
    (hown : V.ownsRow w.heap.size 35 7 v' (k + 1) (cellsT m ++ tcells t)) (hgr : (W.alloc O).grownBy V (Value.slice a k c).ownBlock) :
    ∃ a' c', v' = .slice a' (k + 1) c' ∧ OutL w V (.slice a' (k + 1) c') (m ++ [t]) := by
  obtain ⟨a', c', rfl, h1, h2⟩ := app_done h.below h.own (Nat.le_refl _) hk hown hgr
  exact ⟨a', c', rfl, h1, h2, h.log.snoc hg hf⟩

end Go.Proofs.YtpoblkionpgljabDoor
