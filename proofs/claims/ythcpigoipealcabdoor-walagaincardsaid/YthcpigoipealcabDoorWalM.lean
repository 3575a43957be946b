/-
  What aviarykeep's logs answers: the walk.
-/
import Derived.Test.YthcpigoipealcabDoorWalL
namespace Go.Proofs.YthcpigoipealcabDoor
open Go.RowKit

theorem log_one (W : World) (t : WTxn) : LogV (W.alloc (.cells #[.int .i64 t.z, .int .i64 t.o, .int .i64 t.s, .string ⟨t.p.toArray⟩, .string ⟨t.d.toArray⟩, .int .i64 t.v, .int .i64 t.w] 35)) (.slice (some ⟨W.heap.size, 0, none⟩) 1 1) [t] := by
  refine .inr ⟨W.heap.size, 0, 1, rfl, by simp, by decide, by simp, by simp, fun j u hj => ?_⟩
  have := app_new W t j u (by simpa [cellsT] using hj)
  rw [Addr.add_lit] at this
  exact this
theorem logs_open : Logs [tOpen] := ⟨fun t ht => by simp at ht; rw [ht]; exact gd_open, by simp⟩
set_option maxRecDepth 10000 in
set_option maxHeartbeats 1000000 in
theorem logs_any (w : World) : Calls Tryd.prog 6 #[] w fun e w' => e = .returned (.bool true) ∧ Below w.heap.size w w' := by
  have CO := fun W => opening_txn W
  have CL := fun v W (h : LogV W v [tOpen]) => laid_any v [tOpen] W h logs_open (by decide)
  have CR := recover_yes (logD_rec logs_open (by have := recs_small logs_open (by decide); omega))
  unfold txnV tOpen at CO
  have HCL := hide CL
  have HCR := hide CR
  clear CL CR
  go_enter Tryd.func6, Tryd.ntmps6
  go_wp2_with fail
  refine (CO _).mono ?_
  rintro e w1 ⟨rfl, hb1⟩
  have hal := (Below.refl w1.heap.size w1).alloc (Nat.le_refl _) (.cells #[.int .i64 1, .int .i64 1, .int .i64 1, .string ⟨#[]⟩, .string ⟨#[]⟩, .int .i64 0, .int .i64 0] 35)
  have HB := hide (below_next2 hb1 hal)
  have HL := hide (log_one w1 tOpen)
  clear hb1 hal CO
  go_wp2_with fail
  generalize hW : w1.alloc (.cells #[.int .i64 1, .int .i64 1, .int .i64 1, .string ⟨#[]⟩, .string ⟨#[]⟩, .int .i64 0, .int .i64 0] 35) = W1 at *
  have HL1 : Hid (LogV W1 (.slice (some ⟨w1.heap.size, 0, none⟩) 1 1) [tOpen]) := by rw [← hW]; exact HL
  clear HL hW
  refine (unhide HCL _ _ (unhide HL1)).mono ?_
  rintro e w2 ⟨a2, n2, c2, rfl, HD2, hb2⟩
  have hal := (Below.refl w2.heap.size w2).alloc (Nat.le_refl _) (.cells #[.slice a2 n2 c2] 24)
  have HB2 := hide (below_next2 (below_next2 (unhide HB) hb2) hal)
  have HD3 := hide ((unhide HD2).next hal)
  clear hb2 hal HB HCL HL1 HD2
  go_wp2_with fail
  generalize w2.alloc (.cells #[.slice a2 n2 c2] 24) = W2 at *
  refine (unhide HCR _ _ (unhide HD3)).mono ?_
  rintro e w3 ⟨a4, k4, c4, a3, n3, c3, rfl, HL4, HD4, hb3⟩
  obtain ⟨a5, c5, he⟩ := log_slice (unhide HL4)
  simp only [Value.slice.injEq, List.length_cons, List.length_nil, Nat.zero_add] at he
  obtain ⟨rfl, rfl, rfl⟩ := he
  have hal := (Below.refl w3.heap.size w3).alloc (Nat.le_refl _) (.cells #[.slice a3 n3 c3] 24)
  have HB3 := hide (below_next2 (below_next2 (unhide HB2) hb3) hal)
  clear hb3 hal HB2 HCR HD3 HL4 HD4
  go_wp2_with fail
  go_ret
  exact ⟨rfl, unhide HB3⟩
end Go.Proofs.YthcpigoipealcabDoor
