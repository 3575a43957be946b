/-
  What aviaryref.Recover answers: the walks.
-/
import Derived.Test.YtpoblkionpgljaaDoorMG
namespace Go.Proofs.YtpoblkionpgljaaDoor
open Go.RowKit

set_option maxRecDepth 10000 in
set_option maxHeartbeats 1000000 in
theorem rrec_bad (fs : List DF) (E : Int) (CR : GivesS 45 fs [] E) (h7 : E ≠ 7) (h0 : E ≠ 0) : GivesR 21 (fun x => #[x]) fs [] [] E := by
  intro v w hv
  have h7' : (E == 7) = false := by simpa using h7
  have h0' : (E != 0) = true := by simpa using h0
  clear h7 h0
  have HV := hide hv
  obtain ⟨a, n, c, rfl⟩ := disk_slice hv
  clear hv
  go_enter Tryd.func21, Tryd.ntmps21
  go_wp2_with fail
  have X := hide (RBox.start w (.slice a n c))
  generalize (w.alloc (.cells #[.slice a n c] 35)).alloc (.cells #[.slice none 0 0] 35) = W0 at *
  refine (CR _ _ ((unhide HV).next (unhide X).below)).mono ?_
  rintro e w1 ⟨rfl, hb1⟩
  have X1 := (unhide X).next hb1
  have cr := X1.r.c
  have fr := X1.r.f
  have HB := hide (X1.below.setCell (p := ⟨w.heap.size + 1, 0, none⟩) (by show w.heap.size ≤ w.heap.size + 1; omega) (.slice none 0 0))
  clear hb1 X X1 CR HV
  go_wp2_with fail
  exact bodyPost_ret (v := .tuple #[.slice none 0 0, .agg #[.slice none 0 0], .int .i64 E]) (by simp [results, Tryd.results21, go_sem, cr]) rfl ⟨_, _, _, _, _, _, rfl, hide (LogV.nil _), hide (DiskV.nil _), unhide HB⟩

set_option maxRecDepth 10000 in
set_option maxHeartbeats 1000000 in
theorem rrec_gap_no (fs d1 : List DF) (E : Int) (CR : GivesS 45 fs [] 7) (GW : GivesD 41 (fun x => #[x, .string ⟨logN.toArray⟩, .string ⟨(([] : List UInt8)).toArray⟩]) fs d1 E) (hE : E ≠ 0) : GivesR 21 (fun x => #[x]) fs [] [] E := by
  intro v w hv
  have hne : (E != 0) = true := by simpa using hE
  clear hE
  simp only [show logN.toArray = #[108, 111, 103] from rfl] at GW
  have HV := hide hv
  obtain ⟨a, n, c, rfl⟩ := disk_slice hv
  clear hv
  go_enter Tryd.func21, Tryd.ntmps21
  go_wp2_with fail
  have X := hide (RBox.start w (.slice a n c))
  generalize (w.alloc (.cells #[.slice a n c] 35)).alloc (.cells #[.slice none 0 0] 35) = W0 at *
  refine (CR _ _ ((unhide HV).next (unhide X).below)).mono ?_
  rintro e w1 ⟨rfl, hb1⟩
  have X1 := (unhide X).next hb1
  have cd := X1.d.c
  have HX1 := hide X1
  clear hb1 X X1 CR
  go_wp2_with fail
  refine (GW _ _ ((unhide HV).next (unhide HX1).below)).mono ?_
  rintro e w2 ⟨a2, n2, c2, rfl, HD2, hb2⟩
  have X1b := (unhide HX1).next hb2
  have cd2 := X1b.d.c
  have fd2 := X1b.d.f
  have X2 := X1b.setd (.slice a2 n2 c2)
  have cr := X2.r.c
  have fr := X2.r.f
  have ce := X2.d.c
  have HF := hide (And.intro (X2.below.setCell (p := ⟨w.heap.size + 1, 0, none⟩) (by show w.heap.size ≤ w.heap.size + 1; omega) (.slice none 0 0)) (disk_box (disk_box (unhide HD2) X1b.d (.slice a2 n2 c2)) X2.r (.slice none 0 0)))
  clear hb2 X2 X1b HX1 HD2 GW cd HV
  go_wp2_with fail
  exact bodyPost_ret (v := .tuple #[.slice none 0 0, .agg #[.slice none 0 0], .int .i64 E]) (by simp [results, Tryd.results21, go_sem, cr]) rfl ⟨_, _, _, _, _, _, rfl, hide (LogV.nil _), hide (DiskV.nil _), (unhide HF).1⟩

set_option maxRecDepth 10000 in
set_option maxHeartbeats 1000000 in
theorem rrec_gap_yes (fs d1 : List DF) (CR : GivesS 45 fs [] 7) (GW : GivesD 41 (fun x => #[x, .string ⟨logN.toArray⟩, .string ⟨(([] : List UInt8)).toArray⟩]) fs d1 0) : GivesR 21 (fun x => #[x]) fs [] d1 0 := by
  intro v w hv
  simp only [show logN.toArray = #[108, 111, 103] from rfl] at GW
  have HV := hide hv
  obtain ⟨a, n, c, rfl⟩ := disk_slice hv
  clear hv
  go_enter Tryd.func21, Tryd.ntmps21
  go_wp2_with fail
  have X := hide (RBox.start w (.slice a n c))
  generalize (w.alloc (.cells #[.slice a n c] 35)).alloc (.cells #[.slice none 0 0] 35) = W0 at *
  refine (CR _ _ ((unhide HV).next (unhide X).below)).mono ?_
  rintro e w1 ⟨rfl, hb1⟩
  have X1 := (unhide X).next hb1
  have cd := X1.d.c
  have HX1 := hide X1
  clear hb1 X X1 CR
  go_wp2_with fail
  refine (GW _ _ ((unhide HV).next (unhide HX1).below)).mono ?_
  rintro e w2 ⟨a2, n2, c2, rfl, HD2, hb2⟩
  have X1b := (unhide HX1).next hb2
  have cd2 := X1b.d.c
  have fd2 := X1b.d.f
  have X2 := X1b.setd (.slice a2 n2 c2)
  have cr := X2.r.c
  have fr := X2.r.f
  have ce := X2.d.c
  have HF := hide (And.intro (X2.below.setCell (p := ⟨w.heap.size + 1, 0, none⟩) (by show w.heap.size ≤ w.heap.size + 1; omega) (.slice a2 n2 c2)) (disk_box (disk_box (unhide HD2) X1b.d (.slice a2 n2 c2)) X2.r (.slice a2 n2 c2)))
  clear hb2 X2 X1b HX1 HD2 GW cd HV
  go_wp2_with fail
  generalize w2.setCell ⟨w.heap.size, 0, none⟩ (.slice a2 n2 c2) = W2 at *
  clear cd2 fd2
  go_region
  go_wp2_with fail
  exact bodyPost_ret (v := .tuple #[.slice none 0 0, .agg #[.slice a2 n2 c2], .int .i64 0]) (by simp [results, Tryd.results21, go_sem, cr]) rfl ⟨_, _, _, _, _, _, rfl, hide (LogV.nil _), hide (unhide HF).2.drew, (unhide HF).1.drew⟩

set_option maxRecDepth 10000 in
set_option maxHeartbeats 1000000 in
theorem rrec_there (fs d1 : List DF) (s : List UInt8) (ts : List WTxn) (N : Nat) (CR : GivesS 45 fs s 0) (CS : GivesL 10 s ts N) (GC : GivesD 46 (fun x => #[x, .string ⟨logN.toArray⟩, .int .i64 N]) fs d1 0) : GivesR 21 (fun x => #[x]) fs ts d1 0 := by
  intro v w hv
  simp only [show logN.toArray = #[108, 111, 103] from rfl] at GC
  have HV := hide hv
  obtain ⟨a, n, c, rfl⟩ := disk_slice hv
  clear hv
  go_enter Tryd.func21, Tryd.ntmps21
  go_wp2_with fail
  have X := hide (RBox.start w (.slice a n c))
  generalize (w.alloc (.cells #[.slice a n c] 35)).alloc (.cells #[.slice none 0 0] 35) = W0 at *
  refine (CR _ _ ((unhide HV).next (unhide X).below)).mono ?_
  rintro e w1 ⟨rfl, hb1⟩
  have X1 := (unhide X).next hb1
  have HX1 := hide X1
  clear hb1 X X1 CR
  go_wp2_with fail
  refine (CS _).mono ?_
  rintro e w2 ⟨v2, rfl, hl2, hb2⟩
  have X2 := (unhide HX1).next hb2
  have HL2 := hide hl2
  obtain ⟨al, cl, rfl⟩ := log_slice hl2
  have cd2 := X2.d.c
  have HX2 := hide X2
  clear hb2 hl2 X2 HX1 CS
  go_wp2_with fail
  refine (GC _ _ ((unhide HV).next (unhide HX2).below)).mono ?_
  rintro e w3 ⟨a3, n3, c3, rfl, HD3, hb3⟩
  have X2b := (unhide HX2).next hb3
  have cd3 := X2b.d.c
  have fd3 := X2b.d.f
  have X3 := X2b.setd (.slice a3 n3 c3)
  have cr := X3.r.c
  have fr := X3.r.f
  have ce := X3.d.c
  have HF := hide (And.intro (X3.below.setCell (p := ⟨w.heap.size + 1, 0, none⟩) (by show w.heap.size ≤ w.heap.size + 1; omega) (.slice a3 n3 c3)) (And.intro (disk_box (disk_box (unhide HD3) X2b.d (.slice a3 n3 c3)) X3.r (.slice a3 n3 c3)) (log_box (log_box ((unhide HL2).next hb3) X2b.d (.slice a3 n3 c3)) X3.r (.slice a3 n3 c3))))
  clear hb3 X3 X2b HX2 HD3 HL2 GC cd2 HV
  go_wp2_with fail
  generalize w3.setCell ⟨w.heap.size, 0, none⟩ (.slice a3 n3 c3) = W3 at *
  clear cd3 fd3
  go_region
  go_wp2_with fail
  exact bodyPost_ret (v := .tuple #[.slice al ts.length cl, .agg #[.slice a3 n3 c3], .int .i64 0]) (by simp [results, Tryd.results21, go_sem, cr]) rfl ⟨_, _, _, _, _, _, rfl, hide (unhide HF).2.2.drew, hide (unhide HF).2.1.drew, (unhide HF).1.drew⟩
end Go.Proofs.YtpoblkionpgljaaDoor
