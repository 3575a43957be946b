/-
  What aviarykeep's laid and logs answer: the walks.
  What aviarykeep's logs answers: the walk.
-/
import Derived.Test.YtpoblkionpgljaaDoorCK
namespace Go.Proofs.YtpoblkionpgljaaDoor
open Go.RowKit

/-- what stands at each round of laid -/
structure LBox (w W : World) (v : Value) (fs : List DF) : Prop where
  below : Below w.heap.size w W
  r : BoxAt W w.heap.size (.slice none 0 0)
  d : BoxAt W (w.heap.size + 1) v
  disk : DiskV W v fs
theorem LBox.next {w W V : World} {v : Value} {fs : List DF} (h : LBox w W v fs) (hb : Below W.heap.size W V) : LBox w V v fs := ⟨below_next2 h.below hb, h.r.next hb, h.d.next hb, h.disk.next hb⟩
theorem LBox.start (w : World) : LBox w ((w.alloc (.cells #[.slice none 0 0] 35)).alloc (.cells #[.slice none 0 0] 35)) (.slice none 0 0) [] := by
  have h := RBox.start w (.slice none 0 0)
  exact ⟨h.below, h.d, h.r, DiskV.nil _⟩
theorem LBox.setd {w W : World} {a : Option Addr} {n c : Nat} {fs gs : List DF} (h : LBox w W (.slice a n c) fs) {u : Value} (hu : DiskV W u gs) : LBox w (W.setCell ⟨w.heap.size + 1, 0, none⟩ u) u gs :=
  ⟨h.below.setCell (by show w.heap.size ≤ w.heap.size + 1; omega) u, h.r.other (by omega) u, h.d.set u, disk_box hu h.d u⟩

theorem LBox.other {w W : World} {v : Value} {fs : List DF} (h : LBox w W v fs) {k : Nat} (hk : w.heap.size + 1 < k) (u : Value) (hd : DiskV (W.setCell ⟨k, 0, none⟩ u) v fs) : LBox w (W.setCell ⟨k, 0, none⟩ u) v fs :=
  ⟨h.below.setCell (by show w.heap.size ≤ k; omega) u, h.r.other (by omega) u, h.d.other (by omega) u, hd⟩

set_option maxRecDepth 10000 in
set_option maxHeartbeats 2000000 in
theorem laid_any (v : Value) (m : List WTxn) (w : World) (hv : LogV w v m) (hL : Logs m) (hl : m.length ≤ 99) :
    Calls Tryd.prog 25 #[v] w fun e w' => ∃ a n c, e = .returned (.tuple #[.agg #[.slice a n c], .bool true]) ∧ Hid (DiskV w' (.slice a n c) (logD m)) ∧ Below w.heap.size w w' := by
  have HV := hide hv
  have HL := hide hL
  obtain ⟨a, c, rfl⟩ := log_slice hv
  clear hv hL
  go_enter Tryd.func25, Tryd.ntmps25
  go_wp2_with fail
  have HX := hide (LBox.start w)
  generalize (w.alloc (.cells #[.slice none 0 0] 35)).alloc (.cells #[.slice none 0 0] 35) = W0 at *
  go_loopg [5] m.length (fun kx s wr => ∃ (k : Nat) (a1 : Option Addr) (n1 c1 : Nat), s = .int .i64 k ∧ k ≤ m.length ∧ m.length - k ≤ kx ∧ Hid (LBox w wr (.slice a1 n1 c1) (logD (m.take k))))
  case atStart => exact ⟨0, none, 0, 0, rfl, Nat.zero_le _, by omega, HX⟩
  case round =>
    obtain ⟨k, a1, n1, c1, rfl, hk, hkx, HB⟩ := hrel
    clear HX
    by_cases hlt : k < m.length
    · obtain ⟨t, ht⟩ : ∃ t, m[k]? = some t := ⟨_, List.getElem?_eq_getElem hlt⟩
      obtain ⟨b, off, cap, he, hb, hr, _, _, _⟩ := log_row ((unhide HV).next (unhide HB).below) ht
      simp only [Value.slice.injEq, true_and] at he
      obtain ⟨rfl, rfl⟩ := he
      have e0 := hr.z ht
      have e1 := hr.o ht
      have e2 := hr.s ht
      have e3 := hr.p ht
      have e4 := hr.d ht
      have e5 := hr.v ht
      have e6 := hr.w ht
      have cd := (unhide HB).d.c
      have hlti : (k : Int) < (m.length : Int) := by omega
      have hlg : Logs (m.take k ++ [t]) := by
        have h := unhide HL
        rw [← List.take_append_drop (k + 1) m, take_more1 ht] at h
        exact h.left
      have C := app_log hlg (by rw [List.length_take]; omega)
      have HT := hide (take_more1 ht)
      have HC := hide C
      have hqn : w.heap.size + 1 < wr.heap.size := (unhide HB).d.lt
      have hbn : b ≠ wr.heap.size := by omega
      have hqm : w.heap.size + 1 ≠ wr.heap.size := by omega
      clear hr ht C hlg
      generalize hM : m.take k = M at *
      clear hM
      obtain ⟨z, o, s1, p, d, y, u⟩ := t
      unfold txnV at HC
      simp only at e0 e1 e2 e3 e4 e5 e6
      go_wp2_with fail
      go_region_with (first | (go_at_call 14; first
        | (refine (unhide HC (.slice a1 n1 c1) (wr.alloc (.cells #[.slice none 0 0] 35)).drew ((unhide HB).disk.alloc (.cells #[.slice none 0 0] 35)).drew).mono ?_; rintro e w1 ⟨a2, n2, c2, rfl, HD, hb1⟩; have hb2 := below_drew hb1; have Y1 := hide ((BoxAt.new wr (.slice none 0 0)).next hb2); have cy := (unhide Y1).c; have fy := (unhide Y1).f; have LB := hide (((unhide HB).next ((Below.refl wr.heap.size wr).alloc (Nat.le_refl _) (.cells #[.slice none 0 0] 35))).next hb2); clear e0 e1 e2 e3 e4 e5 e6 cd hb1 hb2)
        | (refine (unhide HC (.slice a1 n1 c1) wr.drew (unhide HB).disk.drew).mono ?_; rintro e w1 ⟨a2, n2, c2, rfl, HD, hb1⟩; have hb2 := below_drew hb1; have LC := hide ((unhide HB).next hb2); clear e0 e1 e2 e3 e4 e5 e6 cd hb1 hb2)))
      all_goals first
        | (have hq : w.heap.size + 1 < wr.heap.size := (unhide HB).d.lt
           have X := (unhide LB).other (k := wr.heap.size) (by omega) (.slice a2 n2 c2) (disk_box (unhide LB).disk (unhide Y1) _)
           have cV := ((unhide Y1).set (.slice a2 n2 c2)).c
           have cd := X.d.c
           have fd := X.d.f
           have FIN := hide (X.setd (disk_box (unhide HD) (unhide Y1) (.slice a2 n2 c2)))
           clear X LB Y1 HD HC HB cy fy
           generalize w1.setCell ⟨wr.heap.size, 0, none⟩ (.slice a2 n2 c2) = V at *
           go_wp2_with fail
           go_roundg (m.length - (k + 1))
           case measure => omega
           case rel => exact ⟨k + 1, a2, n2, c2, by simp, by omega, Nat.le_refl _, by rw [unhide HT]; exact FIN⟩)
        | (have hal := (Below.refl w1.heap.size w1).alloc (Nat.le_refl _) (.cells #[.slice a2 n2 c2] 35)
           have X := (unhide LC).next hal
           have cV := (BoxAt.new w1 (.slice a2 n2 c2)).c
           have cd := X.d.c
           have fd := X.d.f
           have FIN := hide (X.setd ((unhide HD).next hal))
           clear X LC HD HC HB hal
           generalize w1.alloc (.cells #[.slice a2 n2 c2] 35) = V at *
           go_wp2_with fail
           go_roundg (m.length - (k + 1))
           case measure => omega
           case rel => exact ⟨k + 1, a2, n2, c2, by simp, by omega, Nat.le_refl _, by rw [unhide HT]; exact FIN⟩)
    · obtain rfl : k = m.length := by omega
      have hki : ¬ ((m.length : Int) < (m.length : Int)) := by omega
      have X := unhide HB
      rw [List.take_length] at X
      have cd := X.d.c
      have cr := X.r.c
      have fr := X.r.f
      have HF := hide (And.intro (X.below.setCell (p := ⟨w.heap.size, 0, none⟩) (Nat.le_refl _) (.slice a1 n1 c1)) (disk_box X.disk X.r (.slice a1 n1 c1)))
      clear X HB
      go_wp2_with fail
      exact bodyPost_ret (v := .tuple #[.agg #[.slice a1 n1 c1], .bool true]) (by simp [results, Tryd.results25, go_sem, cr]) rfl ⟨_, _, _, rfl, hide (unhide HF).2, (unhide HF).1⟩
end Go.Proofs.YtpoblkionpgljaaDoor

namespace Go.Proofs.YtpoblkionpgljaaDoor
open Go.RowKit

theorem log_one (W : World) (t : WTxn) : LogV (W.alloc (.cells #[.int .i64 t.z, .int .i64 t.o, .int .i64 t.s, .string ⟨t.p.toArray⟩, .string ⟨t.d.toArray⟩, .int .i64 t.v, .int .i64 t.w] 29)) (.slice (some ⟨W.heap.size, 0, none⟩) 1 1) [t] := by
  refine .inr ⟨W.heap.size, 0, 1, rfl, by simp, by decide, by simp, by simp, fun j u hj => ?_⟩
  have := app_new W t j u (by simpa [cellsT] using hj)
  rw [Addr.add_lit] at this
  exact this
theorem logs_open : Logs [tOpen] := ⟨fun t ht => by simp at ht; rw [ht]; exact gd_open, by simp⟩
set_option maxRecDepth 10000 in
set_option maxHeartbeats 1000000 in
theorem logs_any (w : World) : Calls Tryd.prog 26 #[] w fun e w' => e = .returned (.bool true) ∧ Below w.heap.size w w' := by
  have CO := fun W => opening_txn W
  have CL := fun v W (h : LogV W v [tOpen]) => laid_any v [tOpen] W h logs_open (by decide)
  have CR := recover_yes (logD_rec logs_open (by have := recs_small logs_open (by decide); omega))
  unfold txnV tOpen at CO
  have HCL := hide CL
  have HCR := hide CR
  clear CL CR
  go_enter Tryd.func26, Tryd.ntmps26
  go_wp2_with fail
  refine (CO _).mono ?_
  rintro e w1 ⟨rfl, hb1⟩
  have hal := (Below.refl w1.heap.size w1).alloc (Nat.le_refl _) (.cells #[.int .i64 1, .int .i64 1, .int .i64 1, .string ⟨#[]⟩, .string ⟨#[]⟩, .int .i64 0, .int .i64 0] 29)
  have HB := hide (below_next2 hb1 hal)
  have HL := hide (log_one w1 tOpen)
  clear hb1 hal CO
  go_wp2_with fail
  generalize hW : w1.alloc (.cells #[.int .i64 1, .int .i64 1, .int .i64 1, .string ⟨#[]⟩, .string ⟨#[]⟩, .int .i64 0, .int .i64 0] 29) = W1 at *
  have HL1 : Hid (LogV W1 (.slice (some ⟨w1.heap.size, 0, none⟩) 1 1) [tOpen]) := by rw [← hW]; exact HL
  clear HL hW
  refine (unhide HCL _ _ (unhide HL1)).mono ?_
  rintro e w2 ⟨a2, n2, c2, rfl, HD2, hb2⟩
  have hal := (Below.refl w2.heap.size w2).alloc (Nat.le_refl _) (.cells #[.slice a2 n2 c2] 35)
  have HB2 := hide (below_next2 (below_next2 (unhide HB) hb2) hal)
  have HD3 := hide ((unhide HD2).next hal)
  clear hb2 hal HB HCL HL1 HD2
  go_wp2_with fail
  generalize w2.alloc (.cells #[.slice a2 n2 c2] 35) = W2 at *
  refine (unhide HCR _ _ (unhide HD3)).mono ?_
  rintro e w3 ⟨a4, k4, c4, a3, n3, c3, rfl, HL4, HD4, hb3⟩
  obtain ⟨a5, c5, he⟩ := log_slice (unhide HL4)
  simp only [Value.slice.injEq, List.length_cons, List.length_nil, Nat.zero_add] at he
  obtain ⟨rfl, rfl, rfl⟩ := he
  have hal := (Below.refl w3.heap.size w3).alloc (Nat.le_refl _) (.cells #[.slice a3 n3 c3] 35)
  have HB3 := hide (below_next2 (below_next2 (unhide HB2) hb3) hal)
  clear hb3 hal HB2 HCR HD3 HL4 HD4
  go_wp2_with fail
  go_ret
  exact ⟨rfl, unhide HB3⟩
end Go.Proofs.YtpoblkionpgljaaDoor
