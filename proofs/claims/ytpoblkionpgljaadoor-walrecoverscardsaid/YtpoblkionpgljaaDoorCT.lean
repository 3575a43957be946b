/-
  What aviaryref.Recover answers of every disk; what aviaryref.KeepLog answers.
-/
import Derived.Test.YtpoblkionpgljaaDoorCH
import Derived.Test.YtpoblkionpgljaaDoorMK
import Derived.Test.YtpoblkionpgljaaDoorMM
namespace Go.Proofs.YtpoblkionpgljaaDoor
open Go.RowKit

theorem rcut_there {fs A B : List DF} {f : DF} {name : List UInt8} (k : Nat) (hs : Slim fs) (g : GoodD fs) (T : There fs A f B name) (hk : k ≤ f.s.length + f.t.length) :
    GivesD 46 (fun x => #[x, .string ⟨name.toArray⟩, .int .i64 k]) fs (A ++ ⟨f.n, (f.s ++ f.t).take k, []⟩ :: B) 0 := fun v W hv => by
  have hfl := fileOk_len (T.ok g)
  refine rcut_walk v fs name k _ 0 W hv fun W' q hq hc hv' => ?_
  refine (rturn_there v fs A B f ⟨f.n, (f.s ++ f.t).take k, []⟩ name _ #[.pointer (some ⟨q, 0, none⟩)] 0 W' hv' hs g T enter_cut1 (fun V hV => rcut1_yes f q k V (Nat.lt_of_lt_of_le hq hV.size) ((hV.cell (p := ⟨q, 0, none⟩) hq).trans hc) hfl (by omega))).mono fun e w' ⟨v', he, _, hd, hb⟩ => ?_
  obtain ⟨a, n, c, rfl⟩ := disk_slice (hd rfl)
  exact ⟨a, n, c, he, hd rfl, hb⟩
theorem rrecover_no {fs : List DF} {E : Int} (hs : Slim fs) (hl : fs.length ≤ 140737488355328) (h : RecNo fs E) : GivesR 21 (fun x => #[x]) fs [] [] E := by
  rcases h with ⟨h, rfl⟩ | ⟨g, h16, ⟨A, B, G⟩, rfl⟩
  · exact rrec_bad fs 3 (fun v W hv => rread_no v fs logN 3 W hv hs hl (.inl ⟨h, rfl⟩)) (by decide) (by decide)
  · refine rrec_gap_no fs [] 6 (fun v W hv => rread_no v fs logN 7 W hv hs hl (.inr ⟨g, ⟨A, B, G⟩, rfl⟩)) (gives_no fun v W hv => ?_) (by decide)
    refine (rwrite_new v fs A B logN [] W hv hs g named_log G (by decide)).mono fun e w' ⟨v', E', he, h1, _, _, hb⟩ => ?_
    obtain ⟨rfl, rfl⟩ := h1 (by omega)
    exact ⟨he, hb⟩
theorem rrecover_yes {fs A B : List DF} {ts : List WTxn} (h : RecYes fs ts A B) : GivesR 21 (fun x => #[x]) fs ts (A ++ logF ts :: B) 0 := by
  have hs := good_slim h.good
  have hl : fs.length ≤ 140737488355328 := by have := h.good.few; omega
  rcases h.old with ⟨h16, G, rfl⟩ | ⟨f, r, T, S⟩
  · refine rrec_gap_yes fs _ (fun v W hv => rread_no v fs logN 7 W hv hs hl (.inr ⟨h.good, ⟨A, B, G⟩, rfl⟩)) (gives_disk fun v W hv => ?_)
    refine (rwrite_new v fs A B logN [] W hv hs h.good named_log G (by decide)).mono fun e w' ⟨v', E', he, _, _, h1, hb⟩ => ?_
    obtain ⟨rfl, h2⟩ := h1 h16 (by decide)
    exact ⟨v', he, h2, hb⟩
  · have hf := fileOk_len (T.ok h.good)
    have hl := S.len
    rw [List.length_append] at hl
    refine rrec_there fs _ (f.s ++ f.t) ts (recsL ts).length (fun v W hv => rread_there v fs A B f logN W hv hs h.good T) (rscan_any S (by rw [List.length_append]; omega)) ?_
    have := rcut_there (recsL ts).length hs h.good T (by omega)
    rw [S.eq, List.take_left, T.nm] at this
    exact this

set_option maxRecDepth 10000 in
set_option maxHeartbeats 1000000 in
theorem rkeep_no (fs : List DF) (z E : Int) (GR : GivesR 21 (fun x => #[x]) fs [] [] E) (hE : E ≠ 0) : GivesD 23 (fun x => #[x, .int .i64 z]) fs [] E := by
  intro v w hv
  have hne : (E != 0) = true := by simpa using hE
  have HV := hide hv
  obtain ⟨a, n, c, rfl⟩ := disk_slice hv
  clear hv hE
  go_enter Tryd.func23, Tryd.ntmps23
  go_wp2_with fail
  have X := hide (RBox.start w (.slice a n c))
  generalize (w.alloc (.cells #[.slice a n c] 35)).alloc (.cells #[.slice none 0 0] 35) = W0 at *
  refine (GR _ _ ((unhide HV).next (unhide X).below)).mono ?_
  rintro e w1 ⟨a1, k1, c1, a2, n2, c2, rfl, _, _, hb1⟩
  have X1 := (unhide X).next hb1
  have cd := X1.d.c
  have fd := X1.d.f
  have X2 := X1.setd (.slice a2 n2 c2)
  have cr := X2.r.c
  have fr := X2.r.f
  have HF := hide (X2.below.setCell (p := ⟨w.heap.size + 1, 0, none⟩) (by show w.heap.size ≤ w.heap.size + 1; omega) (.slice none 0 0))
  clear hb1 X X1 X2 GR HV
  go_wp2_with fail
  exact bodyPost_ret (v := .tuple #[.agg #[.slice none 0 0], .int .i64 E]) (by simp [results, Tryd.results23, go_sem, cr]) rfl ⟨_, _, _, rfl, hide (DiskV.nil _), unhide HF⟩

set_option maxRecDepth 10000 in
set_option maxHeartbeats 2000000 in
theorem rkeep_yes {fs A B : List DF} {ts : List WTxn} (h : RecYes fs ts A B) (z : Int) : GivesD 23 (fun x => #[x, .int .i64 z]) fs (A ++ logF (keepL z ts) :: B) 0 := by
  intro v w hv
  have GR := rrecover_yes h
  have g1 := h.after h.short
  have hD : (A ++ logF ts :: B)[A.length]? = some (logF ts) := by simp
  have hset : (A ++ logF ts :: B).set A.length (logF (keepL z ts)) = A ++ logF (keepL z ts) :: B := by simp
  have hDl : (A ++ logF ts :: B).length = (A ++ logF (keepL z ts) :: B).length := by simp
  have CF := fun v W (hW : DiskV W v (A ++ logF ts :: B)) => rfile_there v (A ++ logF ts :: B) A B (logF ts) logN W hW g1.few (h.there ts)
  have CY := fun v W (hW : DiskV W v (A ++ logF ts :: B)) => rcopy_any v (A ++ logF ts :: B) W hW (by have := g1.few; omega)
  simp only [show logN.toArray = #[108, 111, 103] from rfl] at CF
  have hAl : A.length < (A ++ logF ts :: B).length := by simp
  have hfew := g1.few
  have hlen := recsL_ge ts
  have hsh := h.short
  have HKF := hide (keepL_filter (z := z) h.log)
  have HG := hide h.log.good
  generalize A ++ logF ts :: B = D1 at *
  generalize A ++ logF (keepL z ts) :: B = D2 at *
  have HSet := hide hset
  have HD := hide hD
  have HDl := hide hDl
  have HCF := hide CF
  have HCY := hide CY
  have HV := hide hv
  obtain ⟨a, n, c, rfl⟩ := disk_slice hv
  clear hv h g1 hset hD hDl CF CY
  go_enter Tryd.func23, Tryd.ntmps23
  go_wp2_with fail
  have X := hide (RBox.start w (.slice a n c))
  generalize (w.alloc (.cells #[.slice a n c] 35)).alloc (.cells #[.slice none 0 0] 35) = W0 at *
  refine (GR _ _ ((unhide HV).next (unhide X).below)).mono ?_
  rintro e w1 ⟨al, kl, cl, a2, n2, c2, rfl, HL1, HD1, hb1⟩
  obtain ⟨al', cl', he⟩ := log_slice (unhide HL1)
  obtain rfl : kl = ts.length := by simp only [Value.slice.injEq] at he; exact he.2.1
  clear he al' cl'
  have X1 := (unhide X).next hb1
  have cd := X1.d.c
  have fd := X1.d.f
  have HX2 := hide (X1.setd (.slice a2 n2 c2))
  have HD2 := hide (disk_box (unhide HD1) X1.d (.slice a2 n2 c2))
  have HL2 := hide (log_box (unhide HL1) X1.d (.slice a2 n2 c2))
  clear hb1 X X1 GR HV HL1 HD1
  go_wp2_with fail
  generalize w1.setCell ⟨w.heap.size, 0, none⟩ (.slice a2 n2 c2) = W2 at *
  clear cd fd
  go_loopg [8, 26] ts.length (fun kx s8 s26 wr => ∃ (k : Nat) (T : List UInt8), s8 = .string ⟨T.toArray⟩ ∧ s26 = .int .i64 k ∧ k ≤ ts.length ∧ ts.length - k ≤ kx ∧ Hid (recsL ((ts.take k).filter (fun t => decide (t.z ≤ z))) = T ∧ T.length ≤ (recsL (ts.take k)).length) ∧ Hid (Below W2.heap.size W2 wr))
  case atStart => exact ⟨0, [], rfl, rfl, Nat.zero_le _, by omega, hide ⟨rfl, by simp⟩, hide (Below.refl _ _)⟩
  case round =>
    obtain ⟨k, T, rfl, rfl, hk, hkx, HT, HB⟩ := hrel
    by_cases hlt : k < ts.length
    · obtain ⟨t, ht⟩ : ∃ t, ts[k]? = some t := ⟨_, List.getElem?_eq_getElem hlt⟩
      obtain ⟨b, off, cap, he, hb, hr, _, _, _⟩ := log_row ((unhide HL2).next (unhide HB)) ht
      simp only [Value.slice.injEq, true_and] at he
      obtain ⟨rfl, rfl⟩ := he
      have hg := unhide HG t (List.mem_of_getElem? ht)
      have C := fun W => rencode_yes t W hg
      have hTl := recs_take_le ts (k + 1)
      rw [take_more1 ht, recsL_snoc, List.length_append] at hTl
      have hT2 := (unhide HT).2
      have e0 := hr.z ht
      have e1 := hr.o ht
      have e2 := hr.s ht
      have e3 := hr.p ht
      have e4 := hr.d ht
      have e5 := hr.v ht
      have e6 := hr.w ht
      have hlti : (k : Int) < (ts.length : Int) := by omega
      have HB2 := fun o => hide ((unhide HB).alloc (unhide HB).size o)
      have HTk := hide (take_more1 ht)
      by_cases hz : t.z ≤ z
      · have HM := hide (show (ts.take (k + 1)).filter (fun t => decide (t.z ≤ z)) = (ts.take k).filter (fun t => decide (t.z ≤ z)) ++ [t] by rw [take_more1 ht, List.filter_append]; simp [hz])
        obtain ⟨R, hR⟩ : ∃ R, recL t = R := ⟨_, rfl⟩
        rw [hR] at C hTl
        have HRR := hide hR
        have hcl : ¬ 9223372036854775807 < T.length + R.length := by omega
        clear hR hr ht hg hb
        obtain ⟨z1, o, s1, p, d, y, u⟩ := t
        unfold txnV at C
        simp only at e0 e1 e2 e3 e4 e5 e6 hz
        go_wp2_with fail
        refine (C _).mono ?_
        rintro e w7 ⟨rfl, hb7⟩
        have HB7 := hide (below_next2 (unhide (HB2 _)) hb7)
        clear C e0 e1 e2 e3 e4 e5 e6 hb7 HB2
        go_wp2_with fail
        go_roundg (ts.length - (k + 1))
        case measure => omega
        case rel => exact ⟨k + 1, T ++ R, by rw [cat_one], by simp, by omega, Nat.le_refl _, hide ⟨by rw [unhide HM, recsL_snoc, (unhide HT).1, unhide HRR], by rw [unhide HTk, recsL_snoc, List.length_append, List.length_append, unhide HRR]; omega⟩, HB7⟩
      · have HM := hide (show (ts.take (k + 1)).filter (fun t => decide (t.z ≤ z)) = (ts.take k).filter (fun t => decide (t.z ≤ z)) by rw [take_more1 ht, List.filter_append]; simp; omega)
        clear hr ht hg hb C
        obtain ⟨z1, o, s1, p, d, y, u⟩ := t
        simp only at e0 e1 e2 e3 e4 e5 e6 hz
        go_wp2_with fail
        go_roundg (ts.length - (k + 1))
        case measure => omega
        case rel => exact ⟨k + 1, T, rfl, by simp, by omega, Nat.le_refl _, hide ⟨by rw [unhide HM, (unhide HT).1], by rw [unhide HTk, recsL_snoc, List.length_append]; omega⟩, HB2 _⟩
    · obtain rfl : k = ts.length := by omega
      have hki : ¬ ((ts.length : Int) < (ts.length : Int)) := by omega
      have hTK : recsL (keepL z ts) = T := by have := (unhide HT).1; rw [List.take_length, unhide HKF] at this; exact this
      have HTK := hide hTK
      have X3 := (unhide HX2).next (unhide HB)
      have cd3 := X3.d.c
      have HX3 := hide X3
      have HD3 := hide ((unhide HD2).next (unhide HB))
      clear hTK X3 HX2 HD2 HL2 HT HG HKF
      go_wp2_with fail
      refine (unhide HCF _ _ (unhide HD3)).mono ?_
      rintro e w4 ⟨rfl, hb4⟩
      have X4 := (unhide HX3).next hb4
      have cd4 := X4.d.c
      have HX4 := hide X4
      have HD4 := hide ((unhide HD3).next hb4)
      clear hb4 X4 HX3 HD3 HCF cd3
      go_wp2_with fail
      refine (unhide HCY _ _ (unhide HD4)).mono ?_
      rintro e w5 ⟨v5, rfl, ho5, hb5⟩
      obtain ⟨q, cq, rfl, hq, O5⟩ := own_some ho5 (k := A.length) hAl
      have X5 := (unhide HX4).next hb5
      have hx4 := (unhide HX4).r.lt
      have hq0 : q ≠ w.heap.size := by omega
      have hq1 : q ≠ w.heap.size + 1 := by omega
      have cd5 := X5.d.c
      have fd5 := X5.d.f
      have X6 := X5.setd (.slice (some ⟨q, 0, none⟩) D1.length cq)
      have O6 := O5.other (a := ⟨w.heap.size, 0, none⟩) hq0 (.slice (some ⟨q, 0, none⟩) D1.length cq)
      have cd6 := X6.d.c
      have cr6 := X6.r.c
      have fr6 := X6.r.f
      have e0 := O6.c0 (unhide HD)
      have e1 := O6.c1 (unhide HD)
      have e2 := O6.c2 (unhide HD)
      have f0 := O6.frozen (A.length * 3)
      have f1 := O6.frozen (A.length * 3 + 1)
      have f2 := O6.frozen (A.length * 3 + 2)
      have hAi : (A.length : Int) < (D1.length : Int) := by omega
      have O7 := own_put3 O6 (unhide HD) ⟨logN, T, []⟩
      have hTF : (⟨logN, T, []⟩ : DF) = logF (keepL z ts) := by rw [logF, unhide HTK]
      rw [hTF, unhide HSet] at O7
      simp only [logF, unhide HTK] at O7
      have O8 := O7.other (a := ⟨w.heap.size + 1, 0, none⟩) hq1 (.slice (some ⟨q, 0, none⟩) D1.length cq)
      have hB := ((((X6.below.setCell (p := ⟨q, A.length * 3, none⟩) (by show w.heap.size ≤ q; omega) (.string ⟨logN.toArray⟩)).setCell (p := ⟨q, A.length * 3 + 1, none⟩) (by show w.heap.size ≤ q; omega) (.string ⟨T.toArray⟩)).setCell (p := ⟨q, A.length * 3 + 2, none⟩) (by show w.heap.size ≤ q; omega) (.string ⟨([] : List UInt8).toArray⟩)).setCell (p := ⟨w.heap.size + 1, 0, none⟩) (by show w.heap.size ≤ w.heap.size + 1; omega) (.slice (some ⟨q, 0, none⟩) D1.length cq))
      have HO8 := hide O8
      have HBB := hide hB
      clear hb5 X5 HX4 HD4 HCY ho5 O5 O6 O7 O8 X6 cd4 hTF hB
      go_wp2_with fail
      exact bodyPost_ret (v := .tuple #[.agg #[.slice (some ⟨q, 0, none⟩) D1.length cq], .int .i64 0]) (by simp [results, Tryd.results23, go_sem, cr6]) rfl
        ⟨_, _, _, rfl, hide (OwnV.disk (B := 0) (.inr ⟨q, cq, by rw [unhide HDl], Nat.zero_le _, unhide HO8⟩)), unhide HBB⟩
end Go.Proofs.YtpoblkionpgljaaDoor
