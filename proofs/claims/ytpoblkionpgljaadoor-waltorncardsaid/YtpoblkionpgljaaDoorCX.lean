/-
  aviarykeep.WalTorn returns true: the walk.
-/
import Derived.Test.YtpoblkionpgljaaDoorCN
import Derived.Test.YtpoblkionpgljaaDoorCW
namespace Go.Proofs.YtpoblkionpgljaaDoor
open Go.RowKit

theorem TAt.alloc {W : World} {g : Nat} {t : WTxn} (h : TAt W g t) (o : Obj) : TAt (W.alloc o) g t := h.next ((Below.refl _ _).alloc (Nat.le_refl _) o)
theorem TAt.seven {W : World} {g : Nat} {t : WTxn} (h : TAt W g t) : W.cell? ⟨g, 0, none⟩ = some (.int .i64 t.z) ∧ W.cell? ⟨g, 1, none⟩ = some (.int .i64 t.o) ∧ W.cell? ⟨g, 2, none⟩ = some (.int .i64 t.s) ∧ W.cell? ⟨g, 3, none⟩ = some (.string ⟨t.p.toArray⟩) ∧ W.cell? ⟨g, 4, none⟩ = some (.string ⟨t.d.toArray⟩) ∧ W.cell? ⟨g, 5, none⟩ = some (.int .i64 t.v) ∧ W.cell? ⟨g, 6, none⟩ = some (.int .i64 t.w) :=
  ⟨h.c0, h.c1, h.c2, h.c3, h.c4, h.c5, h.c6⟩
/-- what is carried along -/
structure Torn (w W : World) (q : Nat) (y t : WTxn) (v : Value) (m : List WTxn) : Prop where
  below : Below w.heap.size w W
  y : TAt W (w.heap.size + 1) y
  l : TAt W q t
  m : LogV W v m
theorem Torn.next {w W V : World} {q : Nat} {y t : WTxn} {v : Value} {m : List WTxn} (h : Torn w W q y t v m) (hb : Below W.heap.size W V) : Torn w V q y t v m := ⟨below_next2 h.below hb, h.y.next hb, h.l.next hb, h.m.next hb⟩
theorem TAt.other {W : World} {k j : Nat} {t : WTxn} {v : Value} (h : TAt W k t) (hx : BoxAt W j v) (u : Value) : TAt (W.setCell ⟨j, 0, none⟩ u) k t :=
  (Below.heap_setCell W ⟨j, 0, none⟩ u k (fun e => by
    have e' : k = j := e
    subst e'
    unfold TAt at h
    unfold BoxAt at hx
    rw [h] at hx
    simp at hx)).trans h
theorem Torn.set {w W : World} {q : Nat} {y t : WTxn} {v : Value} {m : List WTxn} (h : Torn w W q y t v m) {k : Nat} {a : Option Addr} {n c : Nat} (hx : BoxAt W k (.slice a n c)) (hk : w.heap.size ≤ k) (u : Value) : Torn w (W.setCell ⟨k, 0, none⟩ u) q y t v m :=
  ⟨h.below.setCell hk u, h.y.other hx u, h.l.other hx u, log_box h.m hx u⟩
/-- what a crash leaves of a log whose last record was not made safe, and what is recovered of it -/
theorem torn_rec {m : List WTxn} {t : WTxn} (h : Logs (m ++ [t])) (hl : m.length ≤ 99) (K : Nat) : ∃ G, ((K < (recL t).length ∧ G = m) ∨ ((recL t).length ≤ K ∧ G = m ++ [t])) ∧ RecYes [⟨logN, recsL m ++ (recL t).take K, []⟩] G [] [] := by
  have hg := (Logs.at (a := m) (b := []) h).1
  have h1 := recs_small h.left (by omega)
  have h2 := recL_le hg
  by_cases hK : K < (recL t).length
  · refine ⟨m, .inl ⟨hK, rfl⟩, rec_one (r := (recL t).take K) (by rw [List.length_append, List.length_take]; simp; omega) ?_⟩
    rw [List.append_nil]
    exact scan_torn h.left hg hK
  · have e : (recL t).take K = recL t := List.take_of_length_le (by omega)
    refine ⟨m ++ [t], .inr ⟨by omega, rfl⟩, rec_one (r := []) (by rw [e, List.length_append]; simp; omega) ?_⟩
    rw [e, List.append_nil, ← recsL_snoc]
    exact scan_recs h
theorem crash_torn {m : List WTxn} {t : WTxn} (h : Logs (m ++ [t])) (hl : m.length ≤ 99) (K : Nat) : GivesD 28 (fun x => #[x, .int .i64 K]) [⟨logN, recsL m, recL t⟩] [⟨logN, recsL m ++ (recL t).take K, []⟩] 0 :=
  gives_own fun v W hv => by
    have hg := (Logs.at (a := m) (b := []) h).1
    have h1 := recs_small h.left (by omega)
    have h2 := recL_le hg
    have g : GoodD [⟨logN, recsL m, recL t⟩] := good_one (by omega)
    have := crash_yes v [⟨logN, recsL m, recL t⟩] K W hv (good_slim g) g
    simpa [crashF] using this

set_option maxRecDepth 10000 in
set_option maxHeartbeats 8000000 in
theorem walTorn_walk (v : Value) (ts : List WTxn) (x y : WTxn) (keep : Int) (w : World) (hv : LogV w v ts) (hd : ∀ t ∈ ts, t.d.length ≤ 140737488355328) (hl : ts.length * 72 ≤ 140737488351232) (hx : x.d.length ≤ 140737488355328) (hy : y.d.length ≤ 140737488355328) (hk : -9223372036854775808 ≤ keep) (hk1 : keep ≤ 9223372036854775807) :
    Calls Tryd.prog 7 #[v, txnV x, txnV y, .int .i64 keep] w fun e w' => e = .returned (.bool true) ∧ Below w.heap.size w w' := by
  have CO := fun v W (h : LogV W v (ts ++ [x])) => logOf_any v (ts ++ [x]) W h (fun t ht => by
    rcases List.mem_append.1 ht with h1 | h1
    · exact hd t h1
    · simp at h1; rw [h1]; exact hx)
  have HCO := hide CO
  have HV := hide hv
  have HLn : Hid (ts.length * 72 ≤ 140737488355328) := hide (by omega)
  have HLn1 : Hid ((ts.length + 1) * 72 ≤ 140737488355328) := hide (by omega)
  have HY := hide hy
  obtain ⟨al, cl, rfl⟩ := log_slice hv
  clear hv hd hl hx hy CO
  obtain ⟨xz, xo, xs, xp, xd, xv, xw⟩ := x
  obtain ⟨yz, yo, ys, yp, yd, yv, yw⟩ := y
  unfold txnV
  go_enter Tryd.func7, Tryd.ntmps7
  go_wp2_with fail
  have b1 := (Below.refl w.heap.size w).alloc (Nat.le_refl _) (.cells #[.int .i64 xz, .int .i64 xo, .int .i64 xs, .string ⟨xp.toArray⟩, .string ⟨xd.toArray⟩, .int .i64 xv, .int .i64 xw] 29)
  have b2 := (Below.refl (w.alloc (.cells #[.int .i64 xz, .int .i64 xo, .int .i64 xs, .string ⟨xp.toArray⟩, .string ⟨xd.toArray⟩, .int .i64 xv, .int .i64 xw] 29)).heap.size (w.alloc (.cells #[.int .i64 xz, .int .i64 xo, .int .i64 xs, .string ⟨xp.toArray⟩, .string ⟨xd.toArray⟩, .int .i64 xv, .int .i64 xw] 29))).alloc (Nat.le_refl _) (.cells #[.int .i64 yz, .int .i64 yo, .int .i64 ys, .string ⟨yp.toArray⟩, .string ⟨yd.toArray⟩, .int .i64 yv, .int .i64 yw] 29)
  have HB0 := hide (below_next2 b1 b2)
  have HX0 := hide ((TAt.new w ⟨xz, xo, xs, xp, xd, xv, xw⟩).next b2)
  have hT0 := TAt.new (w.alloc (.cells #[.int .i64 xz, .int .i64 xo, .int .i64 xs, .string ⟨xp.toArray⟩, .string ⟨xd.toArray⟩, .int .i64 xv, .int .i64 xw] 29)) ⟨yz, yo, ys, yp, yd, yv, yw⟩
  have hz : (w.alloc (.cells #[.int .i64 xz, .int .i64 xo, .int .i64 xs, .string ⟨xp.toArray⟩, .string ⟨xd.toArray⟩, .int .i64 xv, .int .i64 xw] 29)).heap.size = w.heap.size + 1 := by simp
  rw [hz] at hT0
  have HY0 := hide hT0
  clear b1 b2 hT0 hz
  generalize hW0 : (w.alloc (.cells #[.int .i64 xz, .int .i64 xo, .int .i64 xs, .string ⟨xp.toArray⟩, .string ⟨xd.toArray⟩, .int .i64 xv, .int .i64 xw] 29)).alloc (.cells #[.int .i64 yz, .int .i64 yo, .int .i64 ys, .string ⟨yp.toArray⟩, .string ⟨yd.toArray⟩, .int .i64 yv, .int .i64 yw] 29) = W0 at *
  have HX0' : Hid (TAt W0 w.heap.size ⟨xz, xo, xs, xp, xd, xv, xw⟩) := HX0
  have HY0' : Hid (TAt W0 (w.heap.size + 1) ⟨yz, yo, ys, yp, yd, yv, yw⟩) := HY0
  have HV0 := hide ((unhide HV).next (unhide HB0))
  clear HX0 HY0 HV hW0
  have x0 := (unhide HX0').c0
  have x1 := (unhide HX0').c1
  have x2 := (unhide HX0').c2
  have x3 := (unhide HX0').c3
  have x4 := (unhide HX0').c4
  have x5 := (unhide HX0').c5
  have x6 := (unhide HX0').c6
  have hq0 := (unhide HX0').lt
  have hq2 : w.heap.size ≠ W0.heap.size := by omega
  go_cut [9] from 24 (fun t9 wx => ∃ a9 k9 c9, t9 = .slice a9 k9 c9 ∧ Hid (∃ m, m.length = k9 ∧ k9 ≤ 40 ∧ Logs m ∧ LogV wx (.slice a9 k9 c9) m ∧ Below W0.heap.size W0 wx))
  case first =>
    clear HY HY0'
    go_region_law (first
      | (refine step_copy_log (by kernel_rfl) _ _ (by rfl) (by rfl) (.slice al ts.length cl) (by rfl) ts (unhide HV0).drew (unhide HLn) ?_; intro a1 c1 w1 ho1 hg1; have HB1 := hide (((Below.refl W0.heap.size W0).drew).grown hg1 (Nat.le_refl _) (fun k e => by cases e)); have HO1 : Hid (OwnL w1 W0.heap.size (.slice a1 ts.length c1) ts) := hide ho1; have xU := (unhide HX0').next (unhide HB1); have xg0 := xU.c0; have xg1 := xU.c1; have xg2 := xU.c2; have xg3 := xU.c3; have xg4 := xU.c4; have xg5 := xU.c5; have xg6 := xU.c6; have xlt := xU.lt; have xne : w.heap.size ≠ w1.heap.size := (by omega); clear xU ho1 hg1)
      | (refine step_copy_log (by kernel_rfl) _ _ (by rfl) (by rfl) (.slice al ts.length cl) (by rfl) ts ((unhide HV0).alloc (.cells #[.int .i64 xz, .int .i64 xo, .int .i64 xs, .string ⟨xp.toArray⟩, .string ⟨xd.toArray⟩, .int .i64 xv, .int .i64 xw] 29)).drew (unhide HLn) ?_; intro a1 c1 w1 ho1 hg1; have HB1a := hide (((Below.refl (W0.alloc (.cells #[.int .i64 xz, .int .i64 xo, .int .i64 xs, .string ⟨xp.toArray⟩, .string ⟨xd.toArray⟩, .int .i64 xv, .int .i64 xw] 29)).heap.size (W0.alloc (.cells #[.int .i64 xz, .int .i64 xo, .int .i64 xs, .string ⟨xp.toArray⟩, .string ⟨xd.toArray⟩, .int .i64 xv, .int .i64 xw] 29))).drew).grown hg1 (Nat.le_refl _) (fun k e => by cases e)); have HB1 := hide (below_next2 ((Below.refl W0.heap.size W0).alloc (Nat.le_refl _) (.cells #[.int .i64 xz, .int .i64 xo, .int .i64 xs, .string ⟨xp.toArray⟩, .string ⟨xd.toArray⟩, .int .i64 xv, .int .i64 xw] 29)) (unhide HB1a)); have HO1 : Hid (OwnL w1 W0.heap.size (.slice a1 ts.length c1) ts) := hide (OwnL.mono ho1 (by simp)); have HE1 := hide ((TAt.new W0 ⟨xz, xo, xs, xp, xd, xv, xw⟩).next (unhide HB1a)); clear ho1 hg1)
      | (refine step_app_one (by kernel_rfl) _ _ (by rfl) W0.heap.size a1 c1 ts (by rfl) ((unhide HO1).next ((Below.refl _ _).alloc (Nat.le_refl _) (.cells #[.int .i64 xz, .int .i64 xo, .int .i64 xs, .string ⟨xp.toArray⟩, .string ⟨xd.toArray⟩, .int .i64 xv, .int .i64 xw] 29))) w1.heap.size (by rfl) ⟨xz, xo, xs, xp, xd, xv, xw⟩ (app_new w1 ⟨xz, xo, xs, xp, xd, xv, xw⟩) (unhide HLn1) (by have := (unhide HB1).size; simp; omega) ?_; intro a2 c2 w2 ho2 hg2; have HB2 := hide (((unhide HB1).alloc (unhide HB1).size (.cells #[.int .i64 xz, .int .i64 xo, .int .i64 xs, .string ⟨xp.toArray⟩, .string ⟨xd.toArray⟩, .int .i64 xv, .int .i64 xw] 29)).grown hg2 ((unhide HB1).alloc (unhide HB1).size (.cells #[.int .i64 xz, .int .i64 xo, .int .i64 xs, .string ⟨xp.toArray⟩, .string ⟨xd.toArray⟩, .int .i64 xv, .int .i64 xw] 29)).size (fun k e => (ownl_block (unhide HO1) k e).1)); have HO2 := hide ho2; clear ho2 hg2)
      | (refine step_app_one (by kernel_rfl) _ _ (by rfl) W0.heap.size a1 c1 ts (by rfl) (unhide HO1) W0.heap.size (by rfl) ⟨xz, xo, xs, xp, xd, xv, xw⟩ (tat_news (unhide HE1)) (unhide HLn1) (unhide HB1).size ?_; intro a2 c2 w2 ho2 hg2; have HB2 := hide ((unhide HB1).grown hg2 (unhide HB1).size (fun k e => (ownl_block (unhide HO1) k e).1)); have HO2 := hide ho2; clear ho2 hg2)
      | (go_simp; go_at_call 24; refine (unhide HCO _ _ (unhide HO2).log).mono ?_; rintro e w3 ⟨v3, rfl, m, hO, hm⟩; obtain ⟨a3, c3, rfl⟩ := ownl_slice hO.own; have HF := hide (And.intro hO hm); clear hO hm))
    all_goals go_wp2_with fail
    all_goals go_meet
    all_goals exact ⟨a3, _, c3, rfl, hide ⟨m, rfl, (unhide HF).2, (unhide HF).1.log, (unhide HF).1.own.log, below_next2 (unhide HB2) (unhide HF).1.below⟩⟩
  case rest =>
    obtain ⟨a9, k9, c9, rfl, hcut⟩ := hcut
    obtain ⟨m, hmk, hk40, hLm, hVm, hBm⟩ := unhide hcut
    have HB1 := hide (below_next2 (unhide HB0) hBm)
    have HY1 := hide ((unhide HY0').next hBm)
    have HVm := hide hVm
    clear hcut HB0 HX0' HY0' HV0 HCO HLn HLn1 x0 x1 x2 x3 x4 x5 x6 hq0 hq2 hVm hBm
    generalize wc = W1 at *
    by_cases h0 : k9 = 0
    · subst h0
      clear hmk hLm HVm HY1
      go_wp2_with fail
      refine (logs_any _).mono ?_
      rintro e w2 ⟨rfl, hb2⟩
      have HB2 := hide (below_next2 (unhide HB1) hb2)
      clear hb2 HB1
      go_wp2_with fail
      go_ret
      exact ⟨rfl, unhide HB2⟩
    · obtain ⟨m', t, rfl⟩ := snoc_of (l := m) (by omega)
      have hm'l : m'.length + 1 = k9 := by rw [← hmk]; simp
      obtain ⟨i, rfl⟩ : ∃ i, k9 = i + 1 := ⟨k9 - 1, by omega⟩
      have hmi : m'.length = i := by omega
      clear hmk h0 hm'l
      have ji0 : ((i : Int) + 1 == 0) = false := by simp; omega
      have jin : ¬ ((i : Int) + 1 = 0) := by omega
      have hi63 : i < 9223372036854775807 := by omega
      go_wp2_with fail
      refine (logs_any _).mono ?_
      rintro e w2 ⟨rfl, hb2⟩
      have HB2 := hide (below_next2 (unhide HB1) hb2)
      have HY2 := hide ((unhide HY1).next hb2)
      have hV2 := (unhide HVm).next hb2
      have hti : (m' ++ [t])[i]? = some t := by rw [← hmi]; simp
      obtain ⟨b, off, cap, he, hb, hr, _, hcap, hcm⟩ := log_row hV2 hti
      simp only [Value.slice.injEq, List.length_append, List.length_cons, List.length_nil, Nat.zero_add] at he
      obtain ⟨rfl, hdrop, rfl⟩ := he
      clear hdrop
      have e0 := hr.z hti
      have e1 := hr.o hti
      have e2 := hr.s hti
      have e3 := hr.p hti
      have e4 := hr.d hti
      have e5 := hr.v hti
      have e6 := hr.w hti
      rw [← hmi] at hV2
      have HF2 := hide hV2.front
      have hcap' : i + 1 ≤ c9 := by rw [← hmi]; simpa using hcap
      have hg := (Logs.at (a := m') (b := []) hLm).1
      have HLg := hide hLm
      have HGd := hide hg
      have Hmi := hide hmi
      have hii : (i : Int) < (i : Int) + 1 := by omega
      simp only [maxLen] at hcm
      clear hb2 HB1 HY1 HVm hV2 hti hr hcap hg hLm hb hmi
      obtain ⟨lz, lo, ls, lp, ld, lv, lw⟩ := t
      simp only at e0 e1 e2 e3 e4 e5 e6
      go_wp2_with fail
      have hal := (Below.refl w2.heap.size w2).alloc (Nat.le_refl _) (.cells #[.int .i64 lz, .int .i64 lo, .int .i64 ls, .string ⟨lp.toArray⟩, .string ⟨ld.toArray⟩, .int .i64 lv, .int .i64 lw] 29)
      have HS2 : Hid (Torn w (w2.alloc (.cells #[.int .i64 lz, .int .i64 lo, .int .i64 ls, .string ⟨lp.toArray⟩, .string ⟨ld.toArray⟩, .int .i64 lv, .int .i64 lw] 29)) w2.heap.size ⟨yz, yo, ys, yp, yd, yv, yw⟩ ⟨lz, lo, ls, lp, ld, lv, lw⟩ (.slice (some ⟨b, off, none⟩) i c9) m') := hide ⟨below_next2 (unhide HB2) hal, (unhide HY2).next hal, TAt.new w2 ⟨lz, lo, ls, lp, ld, lv, lw⟩, by have h := (unhide HF2).next hal; rw [unhide Hmi] at h; exact h⟩
      have hm40 : m'.length ≤ 40 := by rw [unhide Hmi]; omega
      have CL := fun v W (h : LogV W v m') => laid_any v m' W h (unhide HLg).left (by omega)
      have CA := app_soft (unhide HLg) (by omega)
      have CE := fun W => encode_yes ⟨lz, lo, ls, lp, ld, lv, lw⟩ W (unhide HGd)
      have CT := fun K => crash_torn (unhide HLg) (by omega) K
      have CG := fun K => torn_rec (unhide HLg) (by omega) K
      have hrl := recL_le (unhide HGd)
      unfold txnV at CA CE
      generalize recL ⟨lz, lo, ls, lp, ld, lv, lw⟩ = rb at *
      have HCL := hide CL
      have HCA := hide CA
      have HCT := hide CT
      have HCG := hide CG
      have HCE := hide CE
      clear hal HB2 HY2 HF2 e0 e1 e2 e3 e4 e5 e6 CL CA CT CG CE hcm hcap' hii hi63 ji0 jin hm40
      generalize hW2 : w2.alloc (.cells #[.int .i64 lz, .int .i64 lo, .int .i64 ls, .string ⟨lp.toArray⟩, .string ⟨ld.toArray⟩, .int .i64 lv, .int .i64 lw] 29) = W2 at *
      have HS3 : Hid (Torn w W2 w2.heap.size ⟨yz, yo, ys, yp, yd, yv, yw⟩ ⟨lz, lo, ls, lp, ld, lv, lw⟩ (.slice (some ⟨b, off, none⟩) i c9) m') := HS2
      clear HS2 hW2
      generalize w2.heap.size = ql at *
      refine (unhide HCL _ _ (unhide HS3).m).mono ?_
      rintro e w3 ⟨a3, n3, c3, rfl, HD3, hb3⟩
      have hal := (Below.refl w3.heap.size w3).alloc (Nat.le_refl _) (.cells #[.slice a3 n3 c3] 35)
      have HS4 := hide (((unhide HS3).next hb3).next hal)
      have HX4 := hide (BoxAt.new w3 (.slice a3 n3 c3))
      have HD4 := hide ((unhide HD3).next hal)
      have cx := (unhide HX4).c
      have l0 := (unhide HS4).l.c0
      have l1 := (unhide HS4).l.c1
      have l2 := (unhide HS4).l.c2
      have l3 := (unhide HS4).l.c3
      have l4 := (unhide HS4).l.c4
      have l5 := (unhide HS4).l.c5
      have l6 := (unhide HS4).l.c6
      clear hb3 hal HS3 HD3 HCL
      go_wp2_with fail
      generalize w3.alloc (.cells #[.slice a3 n3 c3] 35) = W3 at *
      refine (unhide HCA _ _ (unhide HD4)).mono ?_
      rintro e w4 ⟨a4, n4, c4, rfl, HD5, hb4⟩
      have hal := (Below.refl w4.heap.size w4).alloc (Nat.le_refl _) (.cells #[.slice a4 n4 c4] 35)
      have HS5 := hide (((unhide HS4).next hb4).next hal)
      have HX5 := hide (BoxAt.new w4 (.slice a4 n4 c4))
      have HD6 := hide ((unhide HD5).next hal)
      clear l0 l1 l2 l3 l4 l5 l6
      have l0 := (unhide HS5).l.c0
      have l1 := (unhide HS5).l.c1
      have l2 := (unhide HS5).l.c2
      have l3 := (unhide HS5).l.c3
      have l4 := (unhide HS5).l.c4
      have l5 := (unhide HS5).l.c5
      have l6 := (unhide HS5).l.c6
      clear hb4 hal HS4 HX4 HD4 HD5 HCA cx
      go_wp2_with fail
      generalize w4.alloc (.cells #[.slice a4 n4 c4] 35) = W4 at *
      refine (unhide HCE _).mono ?_
      rintro e w5 ⟨rfl, hb5⟩
      have HS6 := hide ((unhide HS5).next hb5)
      have HX6 := hide ((unhide HX5).next hb5)
      have HD7 := hide ((unhide HD6).next hb5)
      have hzb : (ByteArray.mk rb.toArray).size = rb.length := Lib.size_eq ⟨rb.toArray⟩
      clear hb5 HS5 HX5 HD6 HCE l0 l1 l2 l3 l4 l5 l6
      obtain ⟨Lr, hLr⟩ : ∃ Lr, rb.length = Lr := ⟨_, rfl⟩
      rw [hLr] at hzb hrl
      obtain ⟨K, hK⟩ := pick_nat keep (Lr + 2) (by omega)
      have CP := fun W => pick_any keep ((Lr : Int) + 2) W (by omega) (by omega) hk hk1
      rw [show (((Lr + 2 : Nat)) : Int) = (Lr : Int) + 2 from by omega] at hK
      rw [hK] at CP
      have hKl := Int.emod_lt_of_pos keep (show (0 : Int) < (Lr : Int) + 2 by omega)
      rw [hK] at hKl
      obtain ⟨G, hG, hRec⟩ := unhide HCG K
      have HCR := hide (recover_yes hRec)
      have HLG := hide hRec.log
      have HCT2 := hide (unhide HCT K)
      have HG := hide hG
      have HLr := hide hLr
      clear hRec hG hLr HCG HCT hK hk hk1
      go_wp2_with fail
      refine (CP _).mono ?_
      rintro e w6 ⟨rfl, rfl⟩
      have cx := (unhide HX6).c
      clear CP
      go_wp2_with fail
      refine (unhide HCT2 _ _ (unhide HD7)).mono ?_
      rintro e w7 ⟨a7, n7, c7, rfl, HD8, hb7⟩
      have hal := (Below.refl w7.heap.size w7).alloc (Nat.le_refl _) (.cells #[.slice a7 n7 c7] 35)
      have HS7 := hide (((unhide HS6).next hb7).next hal)
      have HX7 := hide (BoxAt.new w7 (.slice a7 n7 c7))
      have hq7 : w.heap.size ≤ w7.heap.size := (below_next2 (unhide HS6).below hb7).size
      have HD9 := hide ((unhide HD8).next hal)
      clear hb7 hal HS6 HX6 HD7 HD8 HCT2 cx
      go_wp2_with fail
      generalize w7.alloc (.cells #[.slice a7 n7 c7] 35) = W7 at *
      generalize w7.heap.size = qc at *
      refine (unhide HCR _ _ (unhide HD9)).mono ?_
      rintro e w8 ⟨ag, kg, cg, a8, n8, c8, rfl, HL8, HD10, hb8⟩
      obtain ⟨ag', cg', he⟩ := log_slice (unhide HL8)
      obtain rfl : kg = G.length := by simp only [Value.slice.injEq] at he; exact he.2.1
      clear he ag' cg'
      rw [List.nil_append] at HD10
      have X8 := (unhide HX7).next hb8
      have cx := X8.c
      have fx := X8.f
      have HS8 := hide (((unhide HS7).next hb8).set X8 hq7 (.slice a8 n8 c8))
      have HX8 := hide (X8.set (.slice a8 n8 c8))
      have HL9 := hide (log_box (unhide HL8) X8 (.slice a8 n8 c8))
      have HD11 := hide (disk_box (unhide HD10) X8 (.slice a8 n8 c8))
      clear hb8 X8 HS7 HX7 HD9 HL8 HD10 HCR
      go_upto_if 100 with fail
      generalize w8.setCell ⟨qc, 0, none⟩ (.slice a8 n8 c8) = W8 at *
      clear cx fx
      go_cut [21] from 24 (fun t21 wx => ∃ a21 c21, t21 = .slice a21 G.length c21 ∧ Hid (LogV wx (.slice a21 G.length c21) G ∧ Below W8.heap.size W8 wx))
      case first =>
        clear HX8 HL9 HD11 HLG
        rcases unhide HG with ⟨hKL, hGm⟩ | ⟨hKL, hGm⟩
        · rw [unhide HLr] at hKL
          have hKi : ¬ ((Lr : Int) ≤ (K : Int)) := by omega
          have hKj : (K : Int) < (Lr : Int) := by omega
          have HGl : Hid (G.length = i) := hide (by rw [hGm]; exact unhide Hmi)
          have HGm := hide hGm
          clear hGm HG hKL
          go_wp2_with fail
          go_meet
          exact ⟨some ⟨b, off, none⟩, c9, by rw [unhide HGl], hide ⟨by rw [unhide HGl, unhide HGm]; exact (unhide HS8).m, Below.refl _ _⟩⟩
        · rw [unhide HLr] at hKL
          have hKi : (Lr : Int) ≤ (K : Int) := by omega
          have HGl : Hid (G.length = m'.length + 1) := hide (by rw [hGm]; simp)
          have HGm := hide hGm
          clear hGm HG hKL
          have HLn : Hid (m'.length * 72 ≤ 140737488355328) := hide (by rw [unhide Hmi]; omega)
          have HLn1 : Hid ((m'.length + 1) * 72 ≤ 140737488355328) := hide (by rw [unhide Hmi]; omega)
          have HET := hide (unhide HS8).l
          have l0 := (unhide HET).c0
          have l1 := (unhide HET).c1
          have l2 := (unhide HET).c2
          have l3 := (unhide HET).c3
          have l4 := (unhide HET).c4
          have l5 := (unhide HET).c5
          have l6 := (unhide HET).c6
          have hql := (unhide HET).lt
          have hqn : ql ≠ W8.heap.size := by omega
          go_wp2_with fail
          go_region_law (first
      | (refine step_copy_log (by kernel_rfl) _ _ (by rfl) (by rfl) (.slice (some ⟨b, off, none⟩) i c9) (by rfl) m' ((unhide HS8).m).drew (unhide HLn) ?_; intro a1 c1 w1 ho1 hg1; have HB1 := hide (((Below.refl W8.heap.size W8).drew).grown hg1 (Nat.le_refl _) (fun k e => by cases e)); have HO1 : Hid (OwnL w1 W8.heap.size (.slice a1 m'.length c1) m') := hide ho1; have lU := (unhide HET).next (unhide HB1); have lg0 := lU.c0; have lg1 := lU.c1; have lg2 := lU.c2; have lg3 := lU.c3; have lg4 := lU.c4; have lg5 := lU.c5; have lg6 := lU.c6; have llt := lU.lt; have lne : ql ≠ w1.heap.size := (by omega); clear lU ho1 hg1)
      | (refine step_copy_log (by kernel_rfl) _ _ (by rfl) (by rfl) (.slice (some ⟨b, off, none⟩) i c9) (by rfl) m' (((unhide HS8).m).alloc (.cells #[.int .i64 lz, .int .i64 lo, .int .i64 ls, .string ⟨lp.toArray⟩, .string ⟨ld.toArray⟩, .int .i64 lv, .int .i64 lw] 29)).drew (unhide HLn) ?_; intro a1 c1 w1 ho1 hg1; have HB1a := hide (((Below.refl (W8.alloc (.cells #[.int .i64 lz, .int .i64 lo, .int .i64 ls, .string ⟨lp.toArray⟩, .string ⟨ld.toArray⟩, .int .i64 lv, .int .i64 lw] 29)).heap.size (W8.alloc (.cells #[.int .i64 lz, .int .i64 lo, .int .i64 ls, .string ⟨lp.toArray⟩, .string ⟨ld.toArray⟩, .int .i64 lv, .int .i64 lw] 29))).drew).grown hg1 (Nat.le_refl _) (fun k e => by cases e)); have HB1 := hide (below_next2 ((Below.refl W8.heap.size W8).alloc (Nat.le_refl _) (.cells #[.int .i64 lz, .int .i64 lo, .int .i64 ls, .string ⟨lp.toArray⟩, .string ⟨ld.toArray⟩, .int .i64 lv, .int .i64 lw] 29)) (unhide HB1a)); have HO1 : Hid (OwnL w1 W8.heap.size (.slice a1 m'.length c1) m') := hide (OwnL.mono ho1 (by simp)); have HE1 := hide ((TAt.new W8 ⟨lz, lo, ls, lp, ld, lv, lw⟩).next (unhide HB1a)); clear ho1 hg1)
      | (refine step_app_one (by kernel_rfl) _ _ (by rfl) W8.heap.size a1 c1 m' (by rfl) ((unhide HO1).next ((Below.refl _ _).alloc (Nat.le_refl _) (.cells #[.int .i64 lz, .int .i64 lo, .int .i64 ls, .string ⟨lp.toArray⟩, .string ⟨ld.toArray⟩, .int .i64 lv, .int .i64 lw] 29))) w1.heap.size (by rfl) ⟨lz, lo, ls, lp, ld, lv, lw⟩ (app_new w1 ⟨lz, lo, ls, lp, ld, lv, lw⟩) (unhide HLn1) (by have := (unhide HB1).size; simp; omega) ?_; intro a2 c2 w2 ho2 hg2; have HB2 := hide (((unhide HB1).alloc (unhide HB1).size (.cells #[.int .i64 lz, .int .i64 lo, .int .i64 ls, .string ⟨lp.toArray⟩, .string ⟨ld.toArray⟩, .int .i64 lv, .int .i64 lw] 29)).grown hg2 ((unhide HB1).alloc (unhide HB1).size (.cells #[.int .i64 lz, .int .i64 lo, .int .i64 ls, .string ⟨lp.toArray⟩, .string ⟨ld.toArray⟩, .int .i64 lv, .int .i64 lw] 29)).size (fun k e => (ownl_block (unhide HO1) k e).1)); have HO2 := hide ho2; clear ho2 hg2)
      | (refine step_app_one (by kernel_rfl) _ _ (by rfl) W8.heap.size a1 c1 m' (by rfl) (unhide HO1) W8.heap.size (by rfl) ⟨lz, lo, ls, lp, ld, lv, lw⟩ (tat_news (unhide HE1)) (unhide HLn1) (unhide HB1).size ?_; intro a2 c2 w2 ho2 hg2; have HB2 := hide ((unhide HB1).grown hg2 (unhide HB1).size (fun k e => (ownl_block (unhide HO1) k e).1)); have HO2 := hide ho2; clear ho2 hg2)
      | fail)
          all_goals go_wp2_with fail
          all_goals go_meet
          all_goals exact ⟨a2, c2, by rw [unhide HGl], hide ⟨by rw [unhide HGl, unhide HGm]; exact (unhide HO2).log, unhide HB2⟩⟩
      case rest =>
        obtain ⟨a21, c21, rfl, hcut⟩ := hcut
        have hb9 := (unhide hcut).2
        have HW9 := hide (unhide hcut).1
        have HS9 := hide ((unhide HS8).next hb9)
        have HX9 := hide ((unhide HX8).next hb9)
        have HL10 := hide ((unhide HL9).next hb9)
        have HD12 := hide ((unhide HD11).next hb9)
        have hGle : G.length ≤ 41 := by
          rcases unhide HG with ⟨_, h⟩ | ⟨_, h⟩
          · rw [h, unhide Hmi]; omega
          · rw [h, List.length_append, unhide Hmi]; simp; omega
        clear hcut hb9 HS8 HX8 HL9 HD11 HG
        generalize wc = W9 at *
        go_wp2_with fail
        refine (ksl_any _ _ G _ (by omega) (unhide HL10) (unhide HW9)).mono ?_
        rintro e w10 ⟨rfl, hb10⟩
        have HS10 := hide ((unhide HS9).next hb10)
        have HX10 := hide ((unhide HX9).next hb10)
        have HL11 := hide ((unhide HL10).next hb10)
        have HD13 := hide ((unhide HD12).next hb10)
        clear hb10 HS9 HX9 HL10 HD12 HW9
        have y0 := (unhide HS10).y.c0
        have y1 := (unhide HS10).y.c1
        have y2 := (unhide HS10).y.c2
        have y3 := (unhide HS10).y.c3
        have y4 := (unhide HS10).y.c4
        have y5 := (unhide HS10).y.c5
        have y6 := (unhide HS10).y.c6
        have k1 := fun d os => Calls.regrown_of (w := w10) (d := d) (os := os) (wgood_any ⟨yz, yo, ys, yp, yd, yv, yw⟩ _ (unhide HY))
        have k2 := fun d os => Calls.regrown_of (w := w10) (d := d) (os := os) (last_below _ _ _ ((unhide HL11).next (below_regrown w10 d os)))
        unfold txnV at k1
        go_wp2_with fail
        by_cases hgy : gdE ⟨yz, yo, ys, yp, yd, yv, yw⟩ = 0
        · have HGY := hide hgy
          rw [hgy] at k1
          obtain ⟨LZ, hLZ⟩ : ∃ LZ, lastZ G = LZ := ⟨_, rfl⟩
          rw [hLZ] at k2
          have HLZ := hide hLZ
          clear hgy hLZ
          by_cases hz : yz ≤ LZ
          · have f0 := fun d os => cell_regrown y0 d os
            have f1 := fun d os => cell_regrown y1 d os
            have f2 := fun d os => cell_regrown y2 d os
            have f3 := fun d os => cell_regrown y3 d os
            have f4 := fun d os => cell_regrown y4 d os
            have f5 := fun d os => cell_regrown y5 d os
            have f6 := fun d os => cell_regrown y6 d os
            clear y0 y1 y2 y3 y4 y5 y6
            refine wp_region_quiet_below (by kernel_rfl) (by kernel_rfl) ?_
            repeat (first | go_big_quiet_step (first | with_reducible exact k1 _ _ | with_reducible exact k2 _ _) | quiet_step (first | with_reducible exact k1 _ _ | with_reducible exact k2 _ _))
            refine wpQuiet_nil ?_
            intro _ hw'
            obtain ⟨⟨dq, osq⟩, hw''⟩ := hw'
            subst hw''
            have hbq := below_regrown w10 dq osq
            have HF := hide (below_next2 (unhide HS10).below hbq)
            clear k1 k2 hbq f0 f1 f2 f3 f4 f5 f6
            go_wp2_with fail
            go_ret
            exact ⟨rfl, unhide HF⟩
          · have f0 := fun d os => cell_regrown y0 d os
            have f1 := fun d os => cell_regrown y1 d os
            have f2 := fun d os => cell_regrown y2 d os
            have f3 := fun d os => cell_regrown y3 d os
            have f4 := fun d os => cell_regrown y4 d os
            have f5 := fun d os => cell_regrown y5 d os
            have f6 := fun d os => cell_regrown y6 d os
            clear y0 y1 y2 y3 y4 y5 y6
            refine wp_region_quiet_below (by kernel_rfl) (by kernel_rfl) ?_
            repeat (first | go_big_quiet_step (first | with_reducible exact k1 _ _ | with_reducible exact k2 _ _) | quiet_step (first | with_reducible exact k1 _ _ | with_reducible exact k2 _ _))
            refine wpQuiet_nil ?_
            intro _ hw'
            obtain ⟨⟨dq, osq⟩, hw''⟩ := hw'
            subst hw''
            have hbq := below_regrown w10 dq osq
            have HS11 := hide ((unhide HS10).next hbq)
            have HX11 := hide ((unhide HX10).next hbq)
            have HL12 := hide ((unhide HL11).next hbq)
            have HD14 := hide ((unhide HD13).next hbq)
            have hLGy : Logs (G ++ [(⟨yz, yo, ys, yp, yd, yv, yw⟩ : WTxn)]) := (unhide HLG).snoc (unhide HGY) (by
              by_cases hG0 : G.length = 0
              · simp [follB, hG0]
              · rw [follB_some hG0, unhide HLZ]
                show decide (LZ < yz) = true
                simp; omega)
            have CA := app_logF hLGy (by omega)
            have hsm := recs_small hLGy (by simp; omega)
            have CC := crash_log hLGy (by simp; omega) 0
            rw [logD_some (ts := G ++ [(⟨yz, yo, ys, yp, yd, yv, yw⟩ : WTxn)]) (by simp)] at CC
            have CR := recover_yes (rec_one (s := recsL (G ++ [(⟨yz, yo, ys, yp, yd, yv, yw⟩ : WTxn)])) (t := []) (r := []) (by simp; omega) (by rw [List.append_nil]; exact scan_recs hLGy))
            rw [List.nil_append] at CR
            have hGy1 : (G ++ [(⟨yz, yo, ys, yp, yd, yv, yw⟩ : WTxn)]).length = G.length + 1 := by simp
            have CS := fun v v' W h1 h2 => ksl_any v v' (G ++ [(⟨yz, yo, ys, yp, yd, yv, yw⟩ : WTxn)]) W (by omega) h1 h2
            have HCA := hide CA
            have HCC := hide CC
            have HCR := hide CR
            have HCS := hide CS
            have Hgy1 := hide hGy1
            unfold txnV at HCA
            have HLn : Hid (G.length * 72 ≤ 140737488355328) := hide (by omega)
            have HLn1 : Hid ((G.length + 1) * 72 ≤ 140737488355328) := hide (by omega)
            clear k1 k2 hbq f0 f1 f2 f3 f4 f5 f6 HS10 HX10 HL11 HD13 hLGy CA CC CR CS hsm hGy1
            generalize Sort.grow (redrawn w10 dq) osq = W11 at *
            have cx := (unhide HX11).c
            have y0 := (unhide HS11).y.c0
            have y1 := (unhide HS11).y.c1
            have y2 := (unhide HS11).y.c2
            have y3 := (unhide HS11).y.c3
            have y4 := (unhide HS11).y.c4
            have y5 := (unhide HS11).y.c5
            have y6 := (unhide HS11).y.c6
            go_wp2_with fail
            refine (unhide HCA _ _ (unhide HD14)).mono ?_
            rintro e w12 ⟨a12, n12, c12, rfl, HD15, hb12⟩
            have X12 := (unhide HX11).next hb12
            have cx12 := X12.c
            have fx12 := X12.f
            have HS12 := hide (((unhide HS11).next hb12).set X12 hq7 (.slice a12 n12 c12))
            have HX12 := hide (X12.set (.slice a12 n12 c12))
            have HL13 := hide (log_box ((unhide HL12).next hb12) X12 (.slice a12 n12 c12))
            have HD16 := hide (disk_box (unhide HD15) X12 (.slice a12 n12 c12))
            have cy12 := (unhide HX12).c
            clear hb12 X12 HS11 HX11 HL12 HD14 HD15 HCA cx y0 y1 y2 y3 y4 y5 y6
            go_wp2_with fail
            generalize w12.setCell ⟨qc, 0, none⟩ (.slice a12 n12 c12) = W12 at *
            clear cx12 fx12
            refine (unhide HCC _ _ (unhide HD16)).mono ?_
            rintro e w13 ⟨a13, n13, c13, rfl, HD17, hb13⟩
            have X13 := (unhide HX12).next hb13
            have cx13 := X13.c
            have fx13 := X13.f
            have HS13 := hide (((unhide HS12).next hb13).set X13 hq7 (.slice a13 n13 c13))
            have HX13 := hide (X13.set (.slice a13 n13 c13))
            have HL14 := hide (log_box ((unhide HL13).next hb13) X13 (.slice a13 n13 c13))
            have HD18 := hide (disk_box (unhide HD17) X13 (.slice a13 n13 c13))
            have cy13 := (unhide HX13).c
            clear hb13 X13 HS12 HX12 HL13 HD16 HD17 HCC cy12
            go_wp2_with fail
            generalize w13.setCell ⟨qc, 0, none⟩ (.slice a13 n13 c13) = W13 at *
            clear cx13 fx13
            refine (unhide HCR _ _ (unhide HD18)).mono ?_
            rintro e w14 ⟨am, km, cm, a14, n14, c14, rfl, HM14, _, hb14⟩
            obtain ⟨am', cm', he⟩ := log_slice (unhide HM14)
            obtain rfl : km = G.length + 1 := by simp only [Value.slice.injEq] at he; rw [← unhide Hgy1]; exact he.2.1
            clear he am' cm'
            have hal := (Below.refl w14.heap.size w14).alloc (Nat.le_refl _) (.cells #[.slice a14 n14 c14] 35)
            have HS14 := hide (((unhide HS13).next hb14).next hal)
            have HL15 := hide (((unhide HL14).next hb14).next hal)
            have HM15 := hide ((unhide HM14).next hal)
            clear hb14 hal HS13 HX13 HL14 HD18 HM14 HCR cy13
            go_wp2_with fail
            generalize w14.alloc (.cells #[.slice a14 n14 c14] 35) = W14 at *
            have HET := hide (unhide HS14).y
            have y0 := (unhide HET).c0
            have y1 := (unhide HET).c1
            have y2 := (unhide HET).c2
            have y3 := (unhide HET).c3
            have y4 := (unhide HET).c4
            have y5 := (unhide HET).c5
            have y6 := (unhide HET).c6
            have hql := (unhide HET).lt
            have hqn : w.heap.size + 1 ≠ W14.heap.size := by omega
            go_region_held3 (fun w' => w'.cell? ⟨w.heap.size + 1, 0, none⟩ = some (.int .i64 yz) ∧ w'.cell? ⟨w.heap.size + 1, 1, none⟩ = some (.int .i64 yo) ∧ w'.cell? ⟨w.heap.size + 1, 2, none⟩ = some (.int .i64 ys) ∧ w'.cell? ⟨w.heap.size + 1, 3, none⟩ = some (.string ⟨yp.toArray⟩) ∧ w'.cell? ⟨w.heap.size + 1, 4, none⟩ = some (.string ⟨yd.toArray⟩) ∧ w'.cell? ⟨w.heap.size + 1, 5, none⟩ = some (.int .i64 yv) ∧ w'.cell? ⟨w.heap.size + 1, 6, none⟩ = some (.int .i64 yw)) (first | exact (unhide HET).seven | exact ((unhide HET).alloc _).seven | exact (unhide yT1).seven | exact ((unhide yT1).alloc _).seven | exact (unhide yT2).seven | exact (unhide yT3).seven) (first
              | (refine step_copy_log (by kernel_rfl) _ _ (by rfl) (by rfl) (.slice ag G.length cg) (by rfl) G (unhide HL15).drew (unhide HLn) ?_; intro a1 c1 w1 ho1 hg1; have HB1 := hide (((Below.refl W14.heap.size W14).drew).grown hg1 (Nat.le_refl _) (fun k e => by cases e)); have HO1 : Hid (OwnL w1 W14.heap.size (.slice a1 G.length c1) G) := hide ho1; have yT1 := hide ((unhide HET).next (unhide HB1)); clear ho1 hg1)
              | (refine step_copy_log (by kernel_rfl) _ _ (by rfl) (by rfl) (.slice ag G.length cg) (by rfl) G ((unhide HL15).alloc (.cells #[.int .i64 yz, .int .i64 yo, .int .i64 ys, .string ⟨yp.toArray⟩, .string ⟨yd.toArray⟩, .int .i64 yv, .int .i64 yw] 29)).drew (unhide HLn) ?_; intro a1 c1 w1 ho1 hg1; have HB1a := hide (((Below.refl (W14.alloc (.cells #[.int .i64 yz, .int .i64 yo, .int .i64 ys, .string ⟨yp.toArray⟩, .string ⟨yd.toArray⟩, .int .i64 yv, .int .i64 yw] 29)).heap.size (W14.alloc (.cells #[.int .i64 yz, .int .i64 yo, .int .i64 ys, .string ⟨yp.toArray⟩, .string ⟨yd.toArray⟩, .int .i64 yv, .int .i64 yw] 29))).drew).grown hg1 (Nat.le_refl _) (fun k e => by cases e)); have HB1 := hide (below_next2 ((Below.refl W14.heap.size W14).alloc (Nat.le_refl _) (.cells #[.int .i64 yz, .int .i64 yo, .int .i64 ys, .string ⟨yp.toArray⟩, .string ⟨yd.toArray⟩, .int .i64 yv, .int .i64 yw] 29)) (unhide HB1a)); have HO1 : Hid (OwnL w1 W14.heap.size (.slice a1 G.length c1) G) := hide (OwnL.mono ho1 (by simp)); have HE1 := hide ((TAt.new W14 ⟨yz, yo, ys, yp, yd, yv, yw⟩).next (unhide HB1a)); have yT1 := hide ((unhide HET).next (unhide HB1)); clear ho1 hg1)
              | (refine step_app_one (by kernel_rfl) _ _ (by rfl) W14.heap.size a1 c1 G (by rfl) ((unhide HO1).next ((Below.refl _ _).alloc (Nat.le_refl _) (.cells #[.int .i64 yz, .int .i64 yo, .int .i64 ys, .string ⟨yp.toArray⟩, .string ⟨yd.toArray⟩, .int .i64 yv, .int .i64 yw] 29))) w1.heap.size (by rfl) ⟨yz, yo, ys, yp, yd, yv, yw⟩ (app_new w1 ⟨yz, yo, ys, yp, yd, yv, yw⟩) (unhide HLn1) (by have := (unhide HB1).size; simp; omega) ?_; intro a2 c2 w2 ho2 hg2; have HB2 := hide (((unhide HB1).alloc (unhide HB1).size (.cells #[.int .i64 yz, .int .i64 yo, .int .i64 ys, .string ⟨yp.toArray⟩, .string ⟨yd.toArray⟩, .int .i64 yv, .int .i64 yw] 29)).grown hg2 ((unhide HB1).alloc (unhide HB1).size (.cells #[.int .i64 yz, .int .i64 yo, .int .i64 ys, .string ⟨yp.toArray⟩, .string ⟨yd.toArray⟩, .int .i64 yv, .int .i64 yw] 29)).size (fun k e => (ownl_block (unhide HO1) k e).1)); have HO2 := hide ho2; have yT2 := hide ((unhide HET).next (unhide HB2)); clear ho2 hg2)
              | (refine step_app_one (by kernel_rfl) _ _ (by rfl) W14.heap.size a1 c1 G (by rfl) (unhide HO1) W14.heap.size (by rfl) ⟨yz, yo, ys, yp, yd, yv, yw⟩ (tat_news (unhide HE1)) (unhide HLn1) (unhide HB1).size ?_; intro a2 c2 w2 ho2 hg2; have HB2 := hide ((unhide HB1).grown hg2 (unhide HB1).size (fun k e => (ownl_block (unhide HO1) k e).1)); have HO2 := hide ho2; have yT2 := hide ((unhide HET).next (unhide HB2)); clear ho2 hg2)
              | (go_at_call 30; refine (unhide HCS _ _ _ ((unhide HM15).next (unhide HB2)) (unhide HO2).log).mono ?_; rintro e w15 ⟨rfl, hb15⟩; have HB3 := hide (below_next2 (unhide HB2) hb15); have HF := hide (below_next2 (unhide HS14).below (unhide HB3)); have yT3 := hide ((unhide HET).next (unhide HB3)); clear hb15))
            all_goals go_wp2_with fail
            all_goals go_ret
            all_goals exact ⟨rfl, unhide HF⟩
        · have hne : (gdE ⟨yz, yo, ys, yp, yd, yv, yw⟩ != 0) = true := by simpa using hgy
          generalize gdE ⟨yz, yo, ys, yp, yd, yv, yw⟩ = EY at *
          clear hgy
          have f0 := fun d os => cell_regrown y0 d os
          have f1 := fun d os => cell_regrown y1 d os
          have f2 := fun d os => cell_regrown y2 d os
          have f3 := fun d os => cell_regrown y3 d os
          have f4 := fun d os => cell_regrown y4 d os
          have f5 := fun d os => cell_regrown y5 d os
          have f6 := fun d os => cell_regrown y6 d os
          clear y0 y1 y2 y3 y4 y5 y6
          refine wp_region_quiet_below (by kernel_rfl) (by kernel_rfl) ?_
          repeat (first | go_big_quiet_step (with_reducible exact k1 _ _) | quiet_step (with_reducible exact k1 _ _))
          refine wpQuiet_nil ?_
          intro _ hw'
          obtain ⟨⟨dq, osq⟩, hw''⟩ := hw'
          subst hw''
          have hbq := below_regrown w10 dq osq
          have HF := hide (below_next2 (unhide HS10).below hbq)
          clear k1 k2 hbq f0 f1 f2 f3 f4 f5 f6
          go_wp2_with fail
          go_ret
          exact ⟨rfl, unhide HF⟩
end Go.Proofs.YtpoblkionpgljaaDoor
