/-
  What wal.Keep answers: the walks.
-/
import Derived.Test.YtpoblkionpgljaaDoorMG
namespace Go.Proofs.YtpoblkionpgljaaDoor
open Go.RowKit

set_option maxRecDepth 10000 in
set_option maxHeartbeats 1000000 in
theorem wkeep_no (fs : List DF) (z E : Int) (GR : GivesR 20 (fun x => #[x]) fs [] [] E) (hE : E ≠ 0) : GivesD 22 (fun x => #[x, .int .i64 z]) fs [] E := by
  intro v w hv
  have hne : (E != 0) = true := by simpa using hE
  have HV := hide hv
  obtain ⟨a, n, c, rfl⟩ := disk_slice hv
  clear hv hE
  go_enter Tryd.func22, Tryd.ntmps22
  go_wp2_with fail
  have X := hide (RBox.start w (.slice a n c))
  generalize (w.alloc (.cells #[.slice a n c] 35)).alloc (.cells #[.slice none 0 0] 35) = W0 at *
  refine (GR _ _ ((unhide HV).next (unhide X).below)).mono ?_
  rintro e w1 ⟨a1, k1, c1, a2, n2, c2, rfl, _, _, hb1⟩
  have X1 := (unhide X).next hb1
  have hz2 := X1.r.lt
  have hnz : w.heap.size + 1 ≠ w1.heap.size := by omega
  have hal := (Below.refl w1.heap.size w1).alloc (Nat.le_refl _) (.cells #[.slice a2 n2 c2] 35)
  have X2 := X1.next hal
  have cr := X2.r.c
  have fr := X2.r.f
  have hS := X1.below.setCell (p := ⟨w.heap.size + 1, 0, none⟩) (by show w.heap.size ≤ w.heap.size + 1; omega) (.slice none 0 0)
  have HF := hide (hS.alloc (by have := hS.size; exact this) (.cells #[.slice a2 n2 c2] 35))
  have HCw := hide ((X1.r.set (.slice none 0 0)).next ((Below.refl _ _).alloc (Nat.le_refl _) (.cells #[.slice a2 n2 c2] 35))).c
  clear hb1 X X1 X2 hal GR HV hS
  go_wp2_with fail
  exact bodyPost_ret (v := .tuple #[.agg #[.slice none 0 0], .int .i64 E]) (by simp [results, Tryd.results22, go_sem, unhide HCw]) rfl ⟨_, _, _, rfl, hide (DiskV.nil _), unhide HF⟩

set_option maxRecDepth 10000 in
set_option maxHeartbeats 2000000 in
theorem wkeep_yes (fs d1 d2 : List DF) (ts : List WTxn) (z : Int) (N : Nat) (GR : GivesR 20 (fun x => #[x]) fs ts d1 0) (CU : ∀ v W, LogV W v ts → Calls Tryd.prog 47 #[v, .int .i64 z] W fun e w' => e = .returned (.int .i64 N) ∧ Below W.heap.size W w')
    (GC : GivesD 44 (fun x => #[x, .string ⟨logN.toArray⟩, .int .i64 N]) d1 d2 0) : GivesD 22 (fun x => #[x, .int .i64 z]) fs d2 0 := by
  intro v w hv
  simp only [show logN.toArray = #[108, 111, 103] from rfl] at GC
  have HV := hide hv
  have HGC := hide GC
  have HCU := hide CU
  obtain ⟨a, n, c, rfl⟩ := disk_slice hv
  clear hv GC CU
  go_enter Tryd.func22, Tryd.ntmps22
  go_wp2_with fail
  have X := hide (RBox.start w (.slice a n c))
  generalize (w.alloc (.cells #[.slice a n c] 35)).alloc (.cells #[.slice none 0 0] 35) = W0 at *
  refine (GR _ _ ((unhide HV).next (unhide X).below)).mono ?_
  rintro e w1 ⟨a1, k1, c1, a2, n2, c2, rfl, HL1, HD1, hb1⟩
  have X1 := (unhide X).next hb1
  have hal := (Below.refl w1.heap.size w1).alloc (Nat.le_refl _) (.cells #[.slice a2 n2 c2] 35)
  have HX2 := hide (X1.next hal)
  have HY2 := hide (BoxAt.new w1 (.slice a2 n2 c2))
  have HL2 := hide ((unhide HL1).next hal)
  have HD2 := hide ((unhide HD1).next hal)
  clear hb1 X X1 hal GR HV HL1 HD1
  go_wp2_with fail
  generalize w1.alloc (.cells #[.slice a2 n2 c2] 35) = W1 at *
  have cy := (unhide HY2).c
  go_region_with (first
    | (go_at_call 47; refine (unhide HCU _ _ (unhide HL2).drew).mono ?_; rintro e w2 ⟨rfl, hb⟩; have hb' := below_drew hb; have HX3 := hide ((unhide HX2).next hb'); have HD3 := hide ((unhide HD2).next hb'); have cy3 := ((unhide HY2).next hb').c; clear hb hb')
    | (go_at_call 44; refine (unhide HGC _ _ (unhide HD3)).mono ?_; rintro e w3 ⟨a3, n3, c3, rfl, HD4, hb⟩; have X4 := (unhide HX3).next hb; have cr4 := X4.r.c; have fr4 := X4.r.f; have HF := hide (And.intro (X4.below.setCell (p := ⟨w.heap.size + 1, 0, none⟩) (by show w.heap.size ≤ w.heap.size + 1; omega) (.slice a3 n3 c3)) (disk_box (unhide HD4) X4.r (.slice a3 n3 c3))); clear hb X4 HX3 HD3 HD4))
  all_goals go_wp2_with fail
  all_goals exact bodyPost_ret (v := .tuple #[.agg #[.slice a3 n3 c3], .int .i64 0]) (by simp [results, Tryd.results22, go_sem, cr4]) rfl ⟨_, _, _, rfl, hide (unhide HF).2, (unhide HF).1⟩

theorem keep_no {fs : List DF} {E : Int} (hs : Slim fs) (h : RecNo fs E) (z : Int) : GivesD 22 (fun x => #[x, .int .i64 z]) fs [] E :=
  wkeep_no fs z E (recover_no hs h) (by simpa using recNo_ne h)
theorem keep_yes {fs A B : List DF} {ts : List WTxn} (h : RecYes fs ts A B) (z : Int) : GivesD 22 (fun x => #[x, .int .i64 z]) fs (A ++ logF (keepL z ts) :: B) 0 := by
  refine wkeep_yes fs _ _ ts z (recsL (keepL z ts)).length (recover_yes h) (fun v W hv => upTo_any v ts z W hv h.log.good h.short) (gives_own fun v W hv => ?_)
  have g := h.after h.short
  have hk := keepL_take z ts
  have := cut_there v _ A B (logF ts) logN (recsL (keepL z ts)).length W hv (good_slim g) g (h.there ts) (by simp only [logF, List.length_nil, Nat.add_zero]; exact hk.2)
  simp only [logF, List.append_nil, hk.1] at this ⊢
  exact this
end Go.Proofs.YtpoblkionpgljaaDoor
