/-
  That disk.Write and aviaryref.Write answer alike, and what disk is left.
  What aviaryref.Recover answers of every disk; what aviaryref.KeepLog answers.
  What wal.Keep answers: the walks.
  That wal and aviaryref recover and keep alike; aviarylaw.WalRecovers returns true: the walk.
  What aviaryref.Append answers: the walks.
  What aviaryref.Remove answers; that Sync, Cut and Remove answer alike: the walks.
  What zxid.Text answers, for every number: the walk.
  What aviaryref.ZxidText answers, for every number: the walk.
  What store.Remember and aviaryref.Remember answer: the walks.
  That the program and the document's own answer remember, append, keep, recover and crash alike, and that what comes of it is a good disk.
-/
import Derived.Test.YtaoflcmeiaffjaaGreatDoorSW
import Derived.Test.YtaoflcmeiaffjaaGreatDoorSP
import Derived.Test.YtaoflcmeiaffjaaGreatDoorSV
import Derived.Test.YtaoflcmeiaffjaaGreatDoorSQ
import Derived.Test.YtaoflcmeiaffjaaGreatDoorSI
import Derived.Test.YtaoflcmeiaffjaaGreatDoorSH
import Derived.Test.YtaoflcmeiaffjaaGreatDoorSC
import Derived.Test.YtaoflcmeiaffjaaGreatDoorShelf
import Derived.Lib.ItoaMem
import Derived.WalkSmall
import Derived.Test.YtaoflcmeiaffjaaGreatDoorSM
namespace Go.Proofs.YtaoflcmeiaffjaaGreatDoor
open Go.RowKit

theorem both_write2 (fs : List DF) (name x : List UInt8) (hs : Slim fs) (hl : fs.length ≤ 140737488355328) (hnm : name.length ≤ 140737488355328) (hx : x.length ≤ 140737488355328) :
    ∃ E d, d.length ≤ 1000000 ∧ (E ≠ 0 → d = []) ∧ (E = 0 → GoodD d) ∧ GivesD 34 (fun y => #[y, .string ⟨name.toArray⟩, .string ⟨x.toArray⟩]) fs d E ∧ GivesD 39 (fun y => #[y, .string ⟨name.toArray⟩, .string ⟨x.toArray⟩]) fs d E := by
  rcases write_cases fs name x with ⟨E, h0, h⟩ | ⟨g, A, f, B, T, hfit⟩ | ⟨g, hn, hl16, ⟨A, B, G⟩, hfit⟩
  · refine ⟨E, [], by simp, fun _ => rfl, fun h => absurd h h0, dgives_no fun v W hv => write_no v fs name x E W hv hs hnm hx h, dgives_no fun v W hv => ?_⟩
    rcases h with h | h | ⟨g, hn, h16, ⟨A, B, G⟩, rfl⟩ | ⟨g, hn, ⟨A, f, B, T, hlong⟩, rfl⟩ | ⟨g, hn, hl16, ⟨A, B, G⟩, hlong, rfl⟩
    · exact rwrite_no1 v fs name x E W hv hs hl hnm (.inl h)
    · exact rwrite_no1 v fs name x E W hv hs hl hnm (.inr h)
    · refine (rwrite_new v fs A B name x W hv hs g hn G hx).mono fun e w' ⟨v', E', he, h1, _, _, hb⟩ => ?_
      obtain ⟨rfl, rfl⟩ := h1 (by omega)
      exact ⟨he, hb⟩
    · refine (rwrite_there v fs A B f name x W hv hs g T hx).mono fun e w' ⟨v', E', he, h1, _, hb⟩ => ?_
      obtain ⟨rfl, rfl⟩ := h1 hlong
      exact ⟨he, hb⟩
    · refine (rwrite_new v fs A B name x W hv hs g hn G hx).mono fun e w' ⟨v', E', he, _, h1, _, hb⟩ => ?_
      obtain ⟨rfl, rfl⟩ := h1 hl16 hlong
      exact ⟨he, hb⟩
  · have g' : GoodD (A ++ ⟨f.n, f.s, f.t ++ x⟩ :: B) := good_set (f := f) (by rw [← T.eq]; exact g) rfl (by simp; omega)
    refine ⟨0, A ++ ⟨f.n, f.s, f.t ++ x⟩ :: B, by have := g'.few; omega, fun h => absurd rfl h, fun _ => g', gives_own fun v W hv => write_there v fs A B f name x W hv hs g T hfit, gives_disk fun v W hv => ?_⟩
    refine (rwrite_there v fs A B f name x W hv hs g T hx).mono fun e w' ⟨v', E', he, _, h1, hb⟩ => ?_
    obtain ⟨rfl, h2⟩ := h1 hfit
    exact ⟨v', he, h2, hb⟩
  · have g' : GoodD (A ++ ⟨name, [], x⟩ :: B) := good_ins g G hn hl16 rfl (by simpa using hfit)
    refine ⟨0, A ++ ⟨name, [], x⟩ :: B, by have := g'.few; omega, fun h => absurd rfl h, fun _ => g', gives_own fun v W hv => write_new v fs A B name x W hv hs g hn hl16 G hfit, gives_disk fun v W hv => ?_⟩
    refine (rwrite_new v fs A B name x W hv hs g hn G hx).mono fun e w' ⟨v', E', he, _, _, h1, hb⟩ => ?_
    obtain ⟨rfl, h2⟩ := h1 hl16 hfit
    exact ⟨v', he, h2, hb⟩
end Go.Proofs.YtaoflcmeiaffjaaGreatDoor

namespace Go.Proofs.YtaoflcmeiaffjaaGreatDoor
open Go.RowKit

theorem rcut_there {fs A B : List DF} {f : DF} {name : List UInt8} (k : Nat) (hs : Slim fs) (g : GoodD fs) (T : There fs A f B name) (hk : k ≤ f.s.length + f.t.length) :
    GivesD 71 (fun x => #[x, .string ⟨name.toArray⟩, .int .i64 k]) fs (A ++ ⟨f.n, (f.s ++ f.t).take k, []⟩ :: B) 0 := fun v W hv => by
  have hfl := fileOk_len (T.ok g)
  refine rcut_walk v fs name k _ 0 W hv fun W' q hq hc hv' => ?_
  refine (rturn_there v fs A B f ⟨f.n, (f.s ++ f.t).take k, []⟩ name _ #[.pointer (some ⟨q, 0, none⟩)] 0 W' hv' hs g T enter_cut1 (fun V hV => rcut1_yes f q k V (Nat.lt_of_lt_of_le hq hV.size) ((hV.cell (p := ⟨q, 0, none⟩) hq).trans hc) hfl (by omega))).mono fun e w' ⟨v', he, _, hd, hb⟩ => ?_
  obtain ⟨a, n, c, rfl⟩ := disk_slice (hd rfl)
  exact ⟨a, n, c, he, hd rfl, hb⟩
theorem rrecover_no {fs : List DF} {E : Int} (hs : Slim fs) (hl : fs.length ≤ 140737488355328) (h : RecNo fs E) : GivesW 29 (fun x => #[x]) fs [] [] E := by
  rcases h with ⟨h, rfl⟩ | ⟨g, h16, ⟨A, B, G⟩, rfl⟩
  · exact rrec_bad fs 3 (fun v W hv => rread_no v fs logN 3 W hv hs hl (.inl ⟨h, rfl⟩)) (by decide) (by decide)
  · refine rrec_gap_no fs [] 6 (fun v W hv => rread_no v fs logN 7 W hv hs hl (.inr ⟨g, ⟨A, B, G⟩, rfl⟩)) (dgives_no fun v W hv => ?_) (by decide)
    refine (rwrite_new v fs A B logN [] W hv hs g named_log G (by decide)).mono fun e w' ⟨v', E', he, h1, _, _, hb⟩ => ?_
    obtain ⟨rfl, rfl⟩ := h1 (by omega)
    exact ⟨he, hb⟩
theorem rrecover_yes {fs A B : List DF} {ts : List WTxn} (h : RecYes fs ts A B) : GivesW 29 (fun x => #[x]) fs ts (A ++ logF ts :: B) 0 := by
  have hs := good_slim h.good
  have hl : fs.length ≤ 140737488355328 := by have := h.good.few; omega
  rcases h.old with ⟨h16, G, rfl⟩ | ⟨f, r, T, S⟩
  · refine rrec_gap_yes fs _ (fun v W hv => rread_no v fs logN 7 W hv hs hl (.inr ⟨h.good, ⟨A, B, G⟩, rfl⟩)) (gives_disk fun v W hv => ?_)
    refine (rwrite_new v fs A B logN [] W hv hs h.good named_log G (by decide)).mono fun e w' ⟨v', E', he, _, _, h1, hb⟩ => ?_
    obtain ⟨rfl, h2⟩ := h1 h16 (by decide)
    exact ⟨v', he, h2, hb⟩
  · have hf := fileOk_len (T.ok h.good)
    have hl := S.len
    rw [List.length_append] at hl
    refine rrec_there fs _ (f.s ++ f.t) ts (recsL ts).length (fun v W hv => rread_there v fs A B f logN W hv hs h.good T) (rscan_any S (by rw [List.length_append]; omega)) ?_
    have := rcut_there (recsL ts).length hs h.good T (by omega)
    rw [S.eq, List.take_left, T.nm] at this
    exact this

set_option maxRecDepth 10000 in
set_option maxHeartbeats 1000000 in
theorem rkeep_no (fs : List DF) (z E : Int) (GR : GivesW 29 (fun x => #[x]) fs [] [] E) (hE : E ≠ 0) : GivesD 67 (fun x => #[x, .int .i64 z]) fs [] E := by
  intro v w hv
  have hne : (E != 0) = true := by simpa using hE
  have HV := hide hv
  obtain ⟨a, n, c, rfl⟩ := disk_slice hv
  clear hv hE
  go_enter Tryz.func67, Tryz.ntmps67
  go_wp2_with fail
  have X := hide (RBox.start w (.slice a n c))
  generalize (w.alloc (.cells #[.slice a n c] 24)).alloc (.cells #[.slice none 0 0] 24) = W0 at *
  refine (GR _ _ ((unhide HV).next (unhide X).below)).mono ?_
  rintro e w1 ⟨a1, k1, c1, a2, n2, c2, rfl, _, _, hb1⟩
  have X1 := (unhide X).next hb1
  have cd := X1.d.c
  have fd := X1.d.f
  have X2 := X1.setd (.slice a2 n2 c2)
  have cr := X2.r.c
  have fr := X2.r.f
  have HF := hide (X2.below.setCell (p := ⟨w.heap.size + 1, 0, none⟩) (by show w.heap.size ≤ w.heap.size + 1; omega) (.slice none 0 0))
  clear hb1 X X1 X2 GR HV
  go_wp2_with fail
  exact bodyPost_ret (v := .tuple #[.agg #[.slice none 0 0], .int .i64 E]) (by simp [results, Tryz.results67, go_sem, cr]) rfl ⟨_, _, _, rfl, hide (DiskV.nil _), unhide HF⟩

set_option maxRecDepth 10000 in
set_option maxHeartbeats 2000000 in
theorem rkeep_yes {fs A B : List DF} {ts : List WTxn} (h : RecYes fs ts A B) (z : Int) : GivesD 67 (fun x => #[x, .int .i64 z]) fs (A ++ logF (keepL z ts) :: B) 0 := by
  intro v w hv
  have GR := rrecover_yes h
  have g1 := h.after h.short
  have hD : (A ++ logF ts :: B)[A.length]? = some (logF ts) := by simp
  have hset : (A ++ logF ts :: B).set A.length (logF (keepL z ts)) = A ++ logF (keepL z ts) :: B := by simp
  have hDl : (A ++ logF ts :: B).length = (A ++ logF (keepL z ts) :: B).length := by simp
  have CF := fun v W (hW : DiskV W v (A ++ logF ts :: B)) => rfile_there v (A ++ logF ts :: B) A B (logF ts) logN W hW g1.few (h.there ts)
  have CY := fun v W (hW : DiskV W v (A ++ logF ts :: B)) => rcopy_any v (A ++ logF ts :: B) W hW (by have := g1.few; omega)
  simp only [show logN.toArray = #[108, 111, 103] from rfl] at CF
  have hAl : A.length < (A ++ logF ts :: B).length := by simp
  have hfew := g1.few
  have hlen := recsL_ge ts
  have hsh := h.short
  have HKF := hide (keepL_filter (z := z) h.log)
  have HG := hide h.log.good
  generalize A ++ logF ts :: B = D1 at *
  generalize A ++ logF (keepL z ts) :: B = D2 at *
  have HSet := hide hset
  have HD := hide hD
  have HDl := hide hDl
  have HCF := hide CF
  have HCY := hide CY
  have HV := hide hv
  obtain ⟨a, n, c, rfl⟩ := disk_slice hv
  clear hv h g1 hset hD hDl CF CY
  go_enter Tryz.func67, Tryz.ntmps67
  go_wp2_with fail
  have X := hide (RBox.start w (.slice a n c))
  generalize (w.alloc (.cells #[.slice a n c] 24)).alloc (.cells #[.slice none 0 0] 24) = W0 at *
  refine (GR _ _ ((unhide HV).next (unhide X).below)).mono ?_
  rintro e w1 ⟨al, kl, cl, a2, n2, c2, rfl, HL1, HD1, hb1⟩
  obtain ⟨al', cl', he⟩ := log_slice (unhide HL1)
  obtain rfl : kl = ts.length := by simp only [Value.slice.injEq] at he; exact he.2.1
  clear he al' cl'
  have X1 := (unhide X).next hb1
  have cd := X1.d.c
  have fd := X1.d.f
  have HX2 := hide (X1.setd (.slice a2 n2 c2))
  have HD2 := hide (disk_box (unhide HD1) X1.d (.slice a2 n2 c2))
  have HL2 := hide (log_box (unhide HL1) X1.d (.slice a2 n2 c2))
  clear hb1 X X1 GR HV HL1 HD1
  go_wp2_with fail
  generalize w1.setCell ⟨w.heap.size, 0, none⟩ (.slice a2 n2 c2) = W2 at *
  clear cd fd
  go_loopg [8, 26] ts.length (fun kx s8 s26 wr => ∃ (k : Nat) (T : List UInt8), s8 = .string ⟨T.toArray⟩ ∧ s26 = .int .i64 k ∧ k ≤ ts.length ∧ ts.length - k ≤ kx ∧ Hid (recsL ((ts.take k).filter (fun t => decide (t.z ≤ z))) = T ∧ T.length ≤ (recsL (ts.take k)).length) ∧ Hid (Below W2.heap.size W2 wr))
  case atStart => exact ⟨0, [], rfl, rfl, Nat.zero_le _, by omega, hide ⟨rfl, by simp⟩, hide (Below.refl _ _)⟩
  case round =>
    obtain ⟨k, T, rfl, rfl, hk, hkx, HT, HB⟩ := hrel
    by_cases hlt : k < ts.length
    · obtain ⟨t, ht⟩ : ∃ t, ts[k]? = some t := ⟨_, List.getElem?_eq_getElem hlt⟩
      obtain ⟨b, off, cap, he, hb, hr, _, _, _⟩ := log_row ((unhide HL2).next (unhide HB)) ht
      simp only [Value.slice.injEq, true_and] at he
      obtain ⟨rfl, rfl⟩ := he
      have hg := unhide HG t (List.mem_of_getElem? ht)
      have C := fun W => rencode_yes t W hg
      have hTl := recs_take_le ts (k + 1)
      rw [take_more1 ht, recsL_snoc, List.length_append] at hTl
      have hT2 := (unhide HT).2
      have e0 := hr.z ht
      have e1 := hr.o ht
      have e2 := hr.s ht
      have e3 := hr.p ht
      have e4 := hr.d ht
      have e5 := hr.v ht
      have e6 := hr.w ht
      have hlti : (k : Int) < (ts.length : Int) := by omega
      have HB2 := fun o => hide ((unhide HB).alloc (unhide HB).size o)
      have HTk := hide (take_more1 ht)
      by_cases hz : t.z ≤ z
      · have HM := hide (show (ts.take (k + 1)).filter (fun t => decide (t.z ≤ z)) = (ts.take k).filter (fun t => decide (t.z ≤ z)) ++ [t] by rw [take_more1 ht, List.filter_append]; simp [hz])
        obtain ⟨R, hR⟩ : ∃ R, recL t = R := ⟨_, rfl⟩
        rw [hR] at C hTl
        have HRR := hide hR
        have hcl : ¬ 9223372036854775807 < T.length + R.length := by omega
        clear hR hr ht hg hb
        obtain ⟨z1, o, s1, p, d, y, u⟩ := t
        unfold txnV at C
        simp only at e0 e1 e2 e3 e4 e5 e6 hz
        go_wp2_with fail
        refine (C _).mono ?_
        rintro e w7 ⟨rfl, hb7⟩
        have HB7 := hide (below_next2 (unhide (HB2 _)) hb7)
        clear C e0 e1 e2 e3 e4 e5 e6 hb7 HB2
        go_wp2_with fail
        go_roundg (ts.length - (k + 1))
        case measure => omega
        case rel => exact ⟨k + 1, T ++ R, by rw [cat_one], by simp, by omega, Nat.le_refl _, hide ⟨by rw [unhide HM, recsL_snoc, (unhide HT).1, unhide HRR], by rw [unhide HTk, recsL_snoc, List.length_append, List.length_append, unhide HRR]; omega⟩, HB7⟩
      · have HM := hide (show (ts.take (k + 1)).filter (fun t => decide (t.z ≤ z)) = (ts.take k).filter (fun t => decide (t.z ≤ z)) by rw [take_more1 ht, List.filter_append]; simp; omega)
        clear hr ht hg hb C
        obtain ⟨z1, o, s1, p, d, y, u⟩ := t
        simp only at e0 e1 e2 e3 e4 e5 e6 hz
        go_wp2_with fail
        go_roundg (ts.length - (k + 1))
        case measure => omega
        case rel => exact ⟨k + 1, T, rfl, by simp, by omega, Nat.le_refl _, hide ⟨by rw [unhide HM, (unhide HT).1], by rw [unhide HTk, recsL_snoc, List.length_append]; omega⟩, HB2 _⟩
    · obtain rfl : k = ts.length := by omega
      have hki : ¬ ((ts.length : Int) < (ts.length : Int)) := by omega
      have hTK : recsL (keepL z ts) = T := by have := (unhide HT).1; rw [List.take_length, unhide HKF] at this; exact this
      have HTK := hide hTK
      have X3 := (unhide HX2).next (unhide HB)
      have cd3 := X3.d.c
      have HX3 := hide X3
      have HD3 := hide ((unhide HD2).next (unhide HB))
      clear hTK X3 HX2 HD2 HL2 HT HG HKF
      go_wp2_with fail
      refine (unhide HCF _ _ (unhide HD3)).mono ?_
      rintro e w4 ⟨rfl, hb4⟩
      have X4 := (unhide HX3).next hb4
      have cd4 := X4.d.c
      have HX4 := hide X4
      have HD4 := hide ((unhide HD3).next hb4)
      clear hb4 X4 HX3 HD3 HCF cd3
      go_wp2_with fail
      refine (unhide HCY _ _ (unhide HD4)).mono ?_
      rintro e w5 ⟨v5, rfl, ho5, hb5⟩
      obtain ⟨q, cq, rfl, hq, O5⟩ := own_some ho5 (k := A.length) hAl
      have X5 := (unhide HX4).next hb5
      have hx4 := (unhide HX4).r.lt
      have hq0 : q ≠ w.heap.size := by omega
      have hq1 : q ≠ w.heap.size + 1 := by omega
      have cd5 := X5.d.c
      have fd5 := X5.d.f
      have X6 := X5.setd (.slice (some ⟨q, 0, none⟩) D1.length cq)
      have O6 := O5.other (a := ⟨w.heap.size, 0, none⟩) hq0 (.slice (some ⟨q, 0, none⟩) D1.length cq)
      have cd6 := X6.d.c
      have cr6 := X6.r.c
      have fr6 := X6.r.f
      have e0 := O6.c0 (unhide HD)
      have e1 := O6.c1 (unhide HD)
      have e2 := O6.c2 (unhide HD)
      have f0 := O6.frozen (A.length * 3)
      have f1 := O6.frozen (A.length * 3 + 1)
      have f2 := O6.frozen (A.length * 3 + 2)
      have hAi : (A.length : Int) < (D1.length : Int) := by omega
      have O7 := own_put3 O6 (unhide HD) ⟨logN, T, []⟩
      have hTF : (⟨logN, T, []⟩ : DF) = logF (keepL z ts) := by rw [logF, unhide HTK]
      rw [hTF, unhide HSet] at O7
      simp only [logF, unhide HTK] at O7
      have O8 := O7.other (a := ⟨w.heap.size + 1, 0, none⟩) hq1 (.slice (some ⟨q, 0, none⟩) D1.length cq)
      have hB := ((((X6.below.setCell (p := ⟨q, A.length * 3, none⟩) (by show w.heap.size ≤ q; omega) (.string ⟨logN.toArray⟩)).setCell (p := ⟨q, A.length * 3 + 1, none⟩) (by show w.heap.size ≤ q; omega) (.string ⟨T.toArray⟩)).setCell (p := ⟨q, A.length * 3 + 2, none⟩) (by show w.heap.size ≤ q; omega) (.string ⟨([] : List UInt8).toArray⟩)).setCell (p := ⟨w.heap.size + 1, 0, none⟩) (by show w.heap.size ≤ w.heap.size + 1; omega) (.slice (some ⟨q, 0, none⟩) D1.length cq))
      have HO8 := hide O8
      have HBB := hide hB
      clear hb5 X5 HX4 HD4 HCY ho5 O5 O6 O7 O8 X6 cd4 hTF hB
      go_wp2_with fail
      exact bodyPost_ret (v := .tuple #[.agg #[.slice (some ⟨q, 0, none⟩) D1.length cq], .int .i64 0]) (by simp [results, Tryz.results67, go_sem, cr6]) rfl
        ⟨_, _, _, rfl, hide (OwnV.disk (B := 0) (.inr ⟨q, cq, by rw [unhide HDl], Nat.zero_le _, unhide HO8⟩)), unhide HBB⟩
end Go.Proofs.YtaoflcmeiaffjaaGreatDoor

namespace Go.Proofs.YtaoflcmeiaffjaaGreatDoor
open Go.RowKit

set_option maxRecDepth 10000 in
set_option maxHeartbeats 1000000 in
theorem wkeep_no (fs : List DF) (z E : Int) (GR : GivesW 27 (fun x => #[x]) fs [] [] E) (hE : E ≠ 0) : GivesD 65 (fun x => #[x, .int .i64 z]) fs [] E := by
  intro v w hv
  have hne : (E != 0) = true := by simpa using hE
  have HV := hide hv
  obtain ⟨a, n, c, rfl⟩ := disk_slice hv
  clear hv hE
  go_enter Tryz.func65, Tryz.ntmps65
  go_wp2_with fail
  have X := hide (RBox.start w (.slice a n c))
  generalize (w.alloc (.cells #[.slice a n c] 24)).alloc (.cells #[.slice none 0 0] 24) = W0 at *
  refine (GR _ _ ((unhide HV).next (unhide X).below)).mono ?_
  rintro e w1 ⟨a1, k1, c1, a2, n2, c2, rfl, _, _, hb1⟩
  have X1 := (unhide X).next hb1
  have hz2 := X1.r.lt
  have hnz : w.heap.size + 1 ≠ w1.heap.size := by omega
  have hal := (Below.refl w1.heap.size w1).alloc (Nat.le_refl _) (.cells #[.slice a2 n2 c2] 24)
  have X2 := X1.next hal
  have cr := X2.r.c
  have fr := X2.r.f
  have hS := X1.below.setCell (p := ⟨w.heap.size + 1, 0, none⟩) (by show w.heap.size ≤ w.heap.size + 1; omega) (.slice none 0 0)
  have HF := hide (hS.alloc (by have := hS.size; exact this) (.cells #[.slice a2 n2 c2] 24))
  have HCw := hide ((X1.r.set (.slice none 0 0)).next ((Below.refl _ _).alloc (Nat.le_refl _) (.cells #[.slice a2 n2 c2] 24))).c
  clear hb1 X X1 X2 hal GR HV hS
  go_wp2_with fail
  exact bodyPost_ret (v := .tuple #[.agg #[.slice none 0 0], .int .i64 E]) (by simp [results, Tryz.results65, go_sem, unhide HCw]) rfl ⟨_, _, _, rfl, hide (DiskV.nil _), unhide HF⟩

set_option maxRecDepth 10000 in
set_option maxHeartbeats 2000000 in
theorem wkeep_yes (fs d1 d2 : List DF) (ts : List WTxn) (z : Int) (N : Nat) (GR : GivesW 27 (fun x => #[x]) fs ts d1 0) (CU : ∀ v W, LogV W v ts → Calls Tryz.prog 125 #[v, .int .i64 z] W fun e w' => e = .returned (.int .i64 N) ∧ Below W.heap.size W w')
    (GC : GivesD 69 (fun x => #[x, .string ⟨logN.toArray⟩, .int .i64 N]) d1 d2 0) : GivesD 65 (fun x => #[x, .int .i64 z]) fs d2 0 := by
  intro v w hv
  simp only [show logN.toArray = #[108, 111, 103] from rfl] at GC
  have HV := hide hv
  have HGC := hide GC
  have HCU := hide CU
  obtain ⟨a, n, c, rfl⟩ := disk_slice hv
  clear hv GC CU
  go_enter Tryz.func65, Tryz.ntmps65
  go_wp2_with fail
  have X := hide (RBox.start w (.slice a n c))
  generalize (w.alloc (.cells #[.slice a n c] 24)).alloc (.cells #[.slice none 0 0] 24) = W0 at *
  refine (GR _ _ ((unhide HV).next (unhide X).below)).mono ?_
  rintro e w1 ⟨a1, k1, c1, a2, n2, c2, rfl, HL1, HD1, hb1⟩
  have X1 := (unhide X).next hb1
  have hal := (Below.refl w1.heap.size w1).alloc (Nat.le_refl _) (.cells #[.slice a2 n2 c2] 24)
  have HX2 := hide (X1.next hal)
  have HY2 := hide (BoxAt.new w1 (.slice a2 n2 c2))
  have HL2 := hide ((unhide HL1).next hal)
  have HD2 := hide ((unhide HD1).next hal)
  clear hb1 X X1 hal GR HV HL1 HD1
  go_wp2_with fail
  generalize w1.alloc (.cells #[.slice a2 n2 c2] 24) = W1 at *
  have cy := (unhide HY2).c
  go_region_with (first
    | (go_at_call 125; refine (unhide HCU _ _ (unhide HL2).drew).mono ?_; rintro e w2 ⟨rfl, hb⟩; have hb' := below_drew hb; have HX3 := hide ((unhide HX2).next hb'); have HD3 := hide ((unhide HD2).next hb'); have cy3 := ((unhide HY2).next hb').c; clear hb hb')
    | (go_at_call 69; refine (unhide HGC _ _ (unhide HD3)).mono ?_; rintro e w3 ⟨a3, n3, c3, rfl, HD4, hb⟩; have X4 := (unhide HX3).next hb; have cr4 := X4.r.c; have fr4 := X4.r.f; have HF := hide (And.intro (X4.below.setCell (p := ⟨w.heap.size + 1, 0, none⟩) (by show w.heap.size ≤ w.heap.size + 1; omega) (.slice a3 n3 c3)) (disk_box (unhide HD4) X4.r (.slice a3 n3 c3))); clear hb X4 HX3 HD3 HD4))
  all_goals go_wp2_with fail
  all_goals exact bodyPost_ret (v := .tuple #[.agg #[.slice a3 n3 c3], .int .i64 0]) (by simp [results, Tryz.results65, go_sem, cr4]) rfl ⟨_, _, _, rfl, hide (unhide HF).2, (unhide HF).1⟩

theorem keep_no {fs : List DF} {E : Int} (hs : Slim fs) (h : RecNo fs E) (z : Int) : GivesD 65 (fun x => #[x, .int .i64 z]) fs [] E :=
  wkeep_no fs z E (recover_no hs h) (by simpa using recNo_ne h)
theorem keep_yes {fs A B : List DF} {ts : List WTxn} (h : RecYes fs ts A B) (z : Int) : GivesD 65 (fun x => #[x, .int .i64 z]) fs (A ++ logF (keepL z ts) :: B) 0 := by
  refine wkeep_yes fs _ _ ts z (recsL (keepL z ts)).length (recover_yes h) (fun v W hv => upTo_any v ts z W hv h.log.good h.short) (gives_own fun v W hv => ?_)
  have g := h.after h.short
  have hk := keepL_take z ts
  have := cut_there v _ A B (logF ts) logN (recsL (keepL z ts)).length W hv (good_slim g) g (h.there ts) (by simp only [logF, List.length_nil, Nat.add_zero]; exact hk.2)
  simp only [logF, List.append_nil, hk.1] at this ⊢
  exact this
end Go.Proofs.YtaoflcmeiaffjaaGreatDoor

namespace Go.Proofs.YtaoflcmeiaffjaaGreatDoor
open Go.RowKit

theorem both_rec (fs : List DF) (hs : Slim fs) (hl : fs.length ≤ 140737488355328) : ∃ E ts d, d.length ≤ 1000000 ∧ ts.length ≤ 1000000 ∧ GivesW 27 (fun x => #[x]) fs ts d E ∧ GivesW 29 (fun x => #[x]) fs ts d E := by
  rcases rec_cases fs with ⟨E, h⟩ | ⟨ts, A, B, h⟩
  · exact ⟨E, [], [], by simp, by simp, recover_no hs h, rrecover_no hs hl h⟩
  · exact ⟨0, ts, _, by have := (h.after h.short).few; omega, by have := h.few; omega, recover_yes h, rrecover_yes h⟩
theorem both_keep (fs : List DF) (z : Int) (hs : Slim fs) (hl : fs.length ≤ 140737488355328) : ∃ E d, d.length ≤ 1000000 ∧ GivesD 65 (fun x => #[x, .int .i64 z]) fs d E ∧ GivesD 67 (fun x => #[x, .int .i64 z]) fs d E := by
  rcases rec_cases fs with ⟨E, h⟩ | ⟨ts, A, B, h⟩
  · exact ⟨E, [], by simp, keep_no hs h z, rkeep_no fs z E (rrecover_no hs hl h) (by simpa using recNo_ne h)⟩
  · exact ⟨0, _, by have := (h.after (us := keepL z ts) (Nat.le_trans (keepL_take z ts).2 h.short)).few; omega, keep_yes h z, rkeep_yes h z⟩
theorem last_open (v : Value) (w : World) (hv : LogV w v [tOpen]) :
    Calls Tryz.prog 96 #[v] w fun e w' => e = .returned (.int .i64 1) ∧ w' = w := last_any v [tOpen] w hv

end Go.Proofs.YtaoflcmeiaffjaaGreatDoor

namespace Go.Proofs.YtaoflcmeiaffjaaGreatDoor
open Go.RowKit

set_option maxRecDepth 10000 in
set_option maxHeartbeats 1000000 in
theorem rapp_no (fs : List DF) (t : WTxn) (safe : Bool) (hg : gdE t ≠ 0) (hzb : t.z ≤ 9223372036854775807) (hp : t.p.length ≤ 1048576) (hd : t.d.length ≤ 140737488355328) : GivesD 54 (fun x => #[x, txnV t, .bool safe]) fs [] (gdE t) := by
  refine dgives_no fun v w hv => ?_
  have C := fun W => rencode_no t W hzb hp hd hg
  have hne : (gdE t != 0) = true := by simpa using hg
  generalize gdE t = E at *
  obtain ⟨a, n, c, rfl⟩ := disk_slice hv
  obtain ⟨z, o, s, p, d, y, u⟩ := t
  unfold txnV at C ⊢
  clear hv hg hd hzb hp
  go_enter Tryz.func54, Tryz.ntmps54
  go_wp2_with fail
  have X := hide (ABox.start w (.slice a n c) (.cells #[.int .i64 z, .int .i64 o, .int .i64 s, .string ⟨p.toArray⟩, .string ⟨d.toArray⟩, .int .i64 y, .int .i64 u] 47))
  generalize ((w.alloc (.cells #[.slice a n c] 24)).alloc (.cells #[.int .i64 z, .int .i64 o, .int .i64 s, .string ⟨p.toArray⟩, .string ⟨d.toArray⟩, .int .i64 y, .int .i64 u] 47)).alloc (.cells #[.slice none 0 0] 24) = W0 at *
  refine (C _).mono ?_
  rintro e w1 ⟨rfl, hb1⟩
  have X1 := (unhide X).next hb1
  have cr := X1.r.c
  have fr := X1.r.f
  have HB := hide (X1.below.setCell (p := ⟨w.heap.size + 1 + 1, 0, none⟩) (by show w.heap.size ≤ w.heap.size + 1 + 1; omega) (.slice none 0 0))
  clear hb1 X C X1
  go_wp2_with fail
  exact bodyPost_ret (v := .tuple #[.agg #[.slice none 0 0], .int .i64 E]) (by simp [results, Tryz.results54, go_sem, cr]) rfl ⟨rfl, unhide HB⟩

set_option maxRecDepth 10000 in
set_option maxHeartbeats 1000000 in
theorem rapp_err (fs d1 : List DF) (t : WTxn) (safe : Bool) (E : Int) (hg : gdE t = 0) (W1 : GivesD 39 (fun x => #[x, .string ⟨logN.toArray⟩, .string ⟨(recL t).toArray⟩]) fs d1 E) (hE : E ≠ 0) : GivesD 54 (fun x => #[x, txnV t, .bool safe]) fs d1 E := by
  intro v w hv
  have C := fun W => rencode_yes t W hg
  have CW := fun W (h : Below w.heap.size w W) => W1 v W (hv.next h)
  have hne : (E != 0) = true := by simpa using hE
  simp only [show logN.toArray = #[108, 111, 103] from rfl] at CW
  generalize recL t = rb at *
  obtain ⟨a, n, c, rfl⟩ := disk_slice hv
  obtain ⟨z, o, s, p, d, y, u⟩ := t
  unfold txnV at C ⊢
  clear hv hg W1 hE
  go_enter Tryz.func54, Tryz.ntmps54
  go_wp2_with fail
  have X := hide (ABox.start w (.slice a n c) (.cells #[.int .i64 z, .int .i64 o, .int .i64 s, .string ⟨p.toArray⟩, .string ⟨d.toArray⟩, .int .i64 y, .int .i64 u] 47))
  generalize ((w.alloc (.cells #[.slice a n c] 24)).alloc (.cells #[.int .i64 z, .int .i64 o, .int .i64 s, .string ⟨p.toArray⟩, .string ⟨d.toArray⟩, .int .i64 y, .int .i64 u] 47)).alloc (.cells #[.slice none 0 0] 24) = W0 at *
  refine (C _).mono ?_
  rintro e w1 ⟨rfl, hb1⟩
  have X1 := (unhide X).next hb1
  have cd := X1.d.c
  have HX1 := hide X1
  clear hb1 X C X1
  go_wp2_with fail
  refine (CW _ (unhide HX1).below).mono ?_
  rintro e w2 ⟨a2, n2, c2, rfl, HD2, hb2⟩
  have X1b := (unhide HX1).next hb2
  have cd2 := X1b.d.c
  have fd2 := X1b.d.f
  have X2 := X1b.setd (.slice a2 n2 c2)
  have HD3 := hide (disk_box (unhide HD2) X1b.d (.slice a2 n2 c2))
  have cr2 := X2.r.c
  have fr2 := X2.r.f
  have ce2 := X2.d.c
  have HF := hide (And.intro (X2.below.setCell (p := ⟨w.heap.size + 1 + 1, 0, none⟩) (by show w.heap.size ≤ w.heap.size + 1 + 1; omega) (.slice a2 n2 c2)) (disk_box (unhide HD3) X2.r (.slice a2 n2 c2)))
  clear hb2 X2 X1b HX1 HD2 CW cd
  go_wp2_with fail
  exact bodyPost_ret (v := .tuple #[.agg #[.slice a2 n2 c2], .int .i64 E]) (by simp [results, Tryz.results54, go_sem, cr2]) rfl ⟨_, _, _, rfl, hide (unhide HF).2, (unhide HF).1⟩

set_option maxRecDepth 10000 in
set_option maxHeartbeats 1000000 in
theorem rapp_soft (fs d1 : List DF) (t : WTxn) (hg : gdE t = 0) (W1 : GivesD 39 (fun x => #[x, .string ⟨logN.toArray⟩, .string ⟨(recL t).toArray⟩]) fs d1 0) : GivesD 54 (fun x => #[x, txnV t, .bool false]) fs d1 0 := by
  intro v w hv
  have C := fun W => rencode_yes t W hg
  have CW := fun W (h : Below w.heap.size w W) => W1 v W (hv.next h)
  simp only [show logN.toArray = #[108, 111, 103] from rfl] at CW
  generalize recL t = rb at *
  obtain ⟨a, n, c, rfl⟩ := disk_slice hv
  obtain ⟨z, o, s, p, d, y, u⟩ := t
  unfold txnV at C ⊢
  clear hv hg W1
  go_enter Tryz.func54, Tryz.ntmps54
  go_wp2_with fail
  have X := hide (ABox.start w (.slice a n c) (.cells #[.int .i64 z, .int .i64 o, .int .i64 s, .string ⟨p.toArray⟩, .string ⟨d.toArray⟩, .int .i64 y, .int .i64 u] 47))
  generalize ((w.alloc (.cells #[.slice a n c] 24)).alloc (.cells #[.int .i64 z, .int .i64 o, .int .i64 s, .string ⟨p.toArray⟩, .string ⟨d.toArray⟩, .int .i64 y, .int .i64 u] 47)).alloc (.cells #[.slice none 0 0] 24) = W0 at *
  refine (C _).mono ?_
  rintro e w1 ⟨rfl, hb1⟩
  have X1 := (unhide X).next hb1
  have cd := X1.d.c
  have HX1 := hide X1
  clear hb1 X C X1
  go_wp2_with fail
  refine (CW _ (unhide HX1).below).mono ?_
  rintro e w2 ⟨a2, n2, c2, rfl, HD2, hb2⟩
  have X1b := (unhide HX1).next hb2
  have cd2 := X1b.d.c
  have fd2 := X1b.d.f
  have X2 := X1b.setd (.slice a2 n2 c2)
  have HD3 := hide (disk_box (unhide HD2) X1b.d (.slice a2 n2 c2))
  have cr2 := X2.r.c
  have fr2 := X2.r.f
  have ce2 := X2.d.c
  have HF := hide (And.intro (X2.below.setCell (p := ⟨w.heap.size + 1 + 1, 0, none⟩) (by show w.heap.size ≤ w.heap.size + 1 + 1; omega) (.slice a2 n2 c2)) (disk_box (unhide HD3) X2.r (.slice a2 n2 c2)))
  clear hb2 X2 X1b HX1 HD2 CW cd
  go_wp2_with fail
  exact bodyPost_ret (v := .tuple #[.agg #[.slice a2 n2 c2], .int .i64 0]) (by simp [results, Tryz.results54, go_sem, cr2]) rfl ⟨_, _, _, rfl, hide (unhide HF).2, (unhide HF).1⟩

set_option maxRecDepth 10000 in
set_option maxHeartbeats 1000000 in
theorem rapp_safe (fs d1 d2 : List DF) (t : WTxn) (E2 : Int) (hg : gdE t = 0) (W1 : GivesD 39 (fun x => #[x, .string ⟨logN.toArray⟩, .string ⟨(recL t).toArray⟩]) fs d1 0) (S1 : GivesD 40 (fun x => #[x, .string ⟨logN.toArray⟩]) d1 d2 E2) : GivesD 54 (fun x => #[x, txnV t, .bool true]) fs d2 E2 := by
  intro v w hv
  have C := fun W => rencode_yes t W hg
  have CW := fun W (h : Below w.heap.size w W) => W1 v W (hv.next h)
  have HCS := hide S1
  simp only [show logN.toArray = #[108, 111, 103] from rfl] at CW
  generalize recL t = rb at *
  simp only [show logN.toArray = #[108, 111, 103] from rfl] at HCS
  obtain ⟨a, n, c, rfl⟩ := disk_slice hv
  obtain ⟨z, o, s, p, d, y, u⟩ := t
  unfold txnV at C ⊢
  clear hv hg W1 S1
  go_enter Tryz.func54, Tryz.ntmps54
  go_wp2_with fail
  have X := hide (ABox.start w (.slice a n c) (.cells #[.int .i64 z, .int .i64 o, .int .i64 s, .string ⟨p.toArray⟩, .string ⟨d.toArray⟩, .int .i64 y, .int .i64 u] 47))
  generalize ((w.alloc (.cells #[.slice a n c] 24)).alloc (.cells #[.int .i64 z, .int .i64 o, .int .i64 s, .string ⟨p.toArray⟩, .string ⟨d.toArray⟩, .int .i64 y, .int .i64 u] 47)).alloc (.cells #[.slice none 0 0] 24) = W0 at *
  refine (C _).mono ?_
  rintro e w1 ⟨rfl, hb1⟩
  have X1 := (unhide X).next hb1
  have cd := X1.d.c
  have HX1 := hide X1
  clear hb1 X C X1
  go_wp2_with fail
  refine (CW _ (unhide HX1).below).mono ?_
  rintro e w2 ⟨a2, n2, c2, rfl, HD2, hb2⟩
  have X1b := (unhide HX1).next hb2
  have cd2 := X1b.d.c
  have fd2 := X1b.d.f
  have X2 := X1b.setd (.slice a2 n2 c2)
  have HD3 := hide (disk_box (unhide HD2) X1b.d (.slice a2 n2 c2))
  have cr2 := X2.r.c
  have fr2 := X2.r.f
  have ce2 := X2.d.c
  have HX2 := hide X2
  clear hb2 X2 X1b HX1 HD2 CW cd
  go_wp2_with fail
  refine (unhide HCS _ _ (unhide HD3)).mono ?_
  rintro e w4 ⟨a4, n4, c4, rfl, HD4, hb4⟩
  have X4 := (unhide HX2).next hb4
  have cr4 := X4.r.c
  have fr4 := X4.r.f
  have HF := hide (And.intro (X4.below.setCell (p := ⟨w.heap.size + 1 + 1, 0, none⟩) (by show w.heap.size ≤ w.heap.size + 1 + 1; omega) (.slice a4 n4 c4)) (disk_box (unhide HD4) X4.r (.slice a4 n4 c4)))
  clear hb4 X4 HX2 HD3 HD4 HCS
  go_wp2_with fail
  exact bodyPost_ret (v := .tuple #[.agg #[.slice a4 n4 c4], .int .i64 E2]) (by simp [results, Tryz.results54, go_sem, cr4]) rfl ⟨_, _, _, rfl, hide (unhide HF).2, (unhide HF).1⟩
end Go.Proofs.YtaoflcmeiaffjaaGreatDoor

namespace Go.Proofs.YtaoflcmeiaffjaaGreatDoor
open Go.RowKit

/-- the files of other names -/
def restD (name : List UInt8) (fs : List DF) : List DF := fs.filter fun f => decide (f.n ≠ name)
theorem rest_succ (name : List UInt8) {fs : List DF} {k : Nat} {f : DF} (h : fs[k]? = some f) : restD name (fs.take (k + 1)) = if f.n = name then restD name (fs.take k) else restD name (fs.take k) ++ [f] := by
  obtain ⟨hk, rfl⟩ := List.getElem?_eq_some_iff.1 h
  rw [List.take_succ_eq_append_getElem hk, restD, List.filter_append]
  by_cases e : fs[k].n = name
  · rw [if_pos e]; simp [restD, e]
  · rw [if_neg e]; simp [restD, e]
def remE (name : List UInt8) (fs : List DF) : Int := if (restD name fs).length = fs.length then 7 else 0
def remD (name : List UInt8) (fs : List DF) : List DF := if (restD name fs).length = fs.length then [] else restD name fs
theorem rest_all {name : List UInt8} {l : List DF} (h : ∀ f ∈ l, f.n ≠ name) : restD name l = l := List.filter_eq_self.2 fun f hf => by simpa using h f hf
theorem There.rest {fs A B : List DF} {f : DF} {name : List UInt8} (T : There fs A f B name) : restD name fs = A ++ B := by
  have h1 : restD name A = A := rest_all fun a ha => bl_ne (T.lo a ha)
  have h2 : restD name B = B := rest_all fun b hb => (bl_ne (T.hi b hb)).symm
  rw [T.eq, restD, List.filter_append, List.filter_cons_of_neg (by simp [T.nm])]
  exact congr (congrArg _ h1) h2
theorem Gap.rest {fs A B : List DF} {name : List UInt8} (G : Gap fs A B name) : restD name fs = fs := rest_all fun f hf => by
  rw [G.eq] at hf
  rcases List.mem_append.1 hf with h | h
  · exact bl_ne (G.lo f h)
  · exact (bl_ne (G.hi f h)).symm

set_option maxRecDepth 10000 in
set_option maxHeartbeats 2000000 in
theorem rremove_yes (v : Value) (fs : List DF) (name : List UInt8) (w : World) (hv : DiskV w v fs) (hs : Slim fs) (g : GoodD fs) :
    Calls Tryz.prog 38 #[.agg #[v], .string ⟨name.toArray⟩] w fun e w' => ∃ v', e = .returned (.tuple #[.agg #[v'], .int .i64 (remE name fs)]) ∧ DiskV w' v' (remD name fs) ∧ Below w.heap.size w w' := by
  obtain ⟨i0, hi0, hz0, hz1, hz2⟩ := info_file
  have C := fun W (hW : Below w.heap.size w W) => rdgood_any _ fs W (hv.next hW) hs (by have := g.few; omega)
  rw [goodD_true.2 g] at C
  have hfew := g.few
  have HG := hide g
  obtain ⟨a, c, rfl, hrow⟩ : ∃ a c, v = .slice a fs.length c ∧ (0 < fs.length → ∃ b off, a = some ⟨b, off, none⟩ ∧ b < w.heap.size ∧ RowAt w b off (cellsF fs)) := by
    rcases hv with ⟨a, cap, rfl, rfl, _⟩ | ⟨b, off, cap, rfl, _, _, hb, _, hr⟩
    · exact ⟨a, cap, rfl, fun h => by simp at h⟩
    · exact ⟨_, cap, rfl, fun _ => ⟨b, off, rfl, hb, hr⟩⟩
  have HR := hide hrow
  clear hv hs g hrow
  go_enter Tryz.func38, Tryz.ntmps38
  go_wp2_with fail
  have X := Boxes.start w (.slice a fs.length c) 24 24
  refine (C _ X.below).mono ?_
  rintro e w1 ⟨rfl, hb1⟩
  have X1 := (X.next hb1).alloc (.cells #[.slice none 0 0] 24)
  have HX := hide X1
  have cd := X1.cd
  have hz := (X.next hb1).size
  have HO := hide (BoxAt.new w1 (.slice none 0 0))
  have hsz : (w1.alloc (.cells #[.slice none 0 0] 24)).heap.size = w1.heap.size + 1 := by simp
  have HZ := hide hsz
  clear C hb1 X X1 hsz
  go_wp2_with fail
  generalize w1.alloc (.cells #[.slice none 0 0] 24) = W1 at *
  go_loopg [16] fs.length (fun kx s wr => ∃ (k j : Nat) (a1 : Option Addr) (c1 : Nat), s = .int .i64 k ∧ j ≤ k ∧ k ≤ fs.length ∧ fs.length - k ≤ kx ∧ Hid (Boxes w wr (.slice a fs.length c) ∧ BoxAt wr w1.heap.size (.slice a1 j c1) ∧ OwnV wr (w1.heap.size + 1) (.slice a1 j c1) (restD name (fs.take k)) ∧ (restD name (fs.take k)).length = j))
  case atStart => exact ⟨0, 0, none, 0, rfl, Nat.le_refl _, Nat.zero_le _, by omega, hide ⟨unhide HX, unhide HO, .inl ⟨rfl, rfl⟩, rfl⟩⟩
  case round =>
    obtain ⟨k, j, a1, c1, rfl, hjk, hk, hkx, hI⟩ := hrel
    have co := (unhide hI).2.1.c
    have fo := (unhide hI).2.1.f
    have ho1 : w1.heap.size < wr.heap.size := by
      have := (unhide hI).2.1
      unfold BoxAt at this
      exact (Array.getElem?_eq_some_iff.1 this).1
    have cd1 := (unhide hI).1.cd
    by_cases hlt : k < fs.length
    · obtain ⟨b, off, rfl, hb, hr⟩ := unhide HR (by omega)
      obtain ⟨f, hf⟩ : ∃ f, fs[k]? = some f := ⟨_, List.getElem?_eq_getElem hlt⟩
      have r := hr.kept (unhide hI).1.below hb
      have e0 := r.c0 hf
      have e1 := r.c1 hf
      have e2 := r.c2 hf
      have hbw : b < wr.heap.size := Nat.lt_of_lt_of_le hb (unhide hI).1.below.size
      have hlti : (k : Int) < (fs.length : Int) := by omega
      have HM := hide (rest_succ name hf)
      clear r hr hf
      by_cases hn : f.n = name
      · have hal := (Below.refl wr.heap.size wr).alloc (Nat.le_refl _) (.cells #[.string ⟨f.n.toArray⟩, .string ⟨f.s.toArray⟩, .string ⟨f.t.toArray⟩] 72)
        have HI2 : Hid (Boxes w _ _ ∧ BoxAt _ w1.heap.size (.slice a1 j c1) ∧ OwnV _ (w1.heap.size + 1) (.slice a1 j c1) (restD name (fs.take (k + 1))) ∧ (restD name (fs.take (k + 1))).length = j) := hide ⟨(unhide hI).1.next hal, (unhide hI).2.1.next hal, by rw [unhide HM, if_pos hn]; exact (unhide hI).2.2.1.next hal, by rw [unhide HM, if_pos hn]; exact (unhide hI).2.2.2⟩
        clear hal HM
        rw [hn] at e0 HI2
        clear hn
        go_wp2_with fail
        go_roundg (fs.length - (k + 1))
        case measure => omega
        case rel => exact ⟨k + 1, j, a1, c1, rfl, by omega, by omega, Nat.le_refl _, HI2⟩
      · have hn2 : (f.n == name) = false := by simpa using hn
        obtain ⟨M, hM⟩ : ∃ M, restD name (fs.take k) = M := ⟨_, rfl⟩
        rw [hM] at hI HM
        have hlen : M.length = j := (unhide hI).2.2.2
        have hrw : ∀ O1 O2, ∀ W, W = (wr.alloc O1).alloc O2 → W.ownsRow (w1.heap.size + 1) 72 3 (.slice a1 j c1) j (cellsF M) := fun O1 O2 W e => by
          subst e
          have h := (((unhide hI).2.2.1.next ((Below.refl _ _).alloc (Nat.le_refl _) O1)).next ((Below.refl _ _).alloc (Nat.le_refl _) O2)).row
          rwa [hlen] at h
        have HRW := hide hrw
        have hst : ∀ O1 O2 v' w5, w5.ownsRow (w1.heap.size + 1) 72 3 v' (j + 1) (cellsF M ++ fcells f) → ((wr.alloc O1).alloc O2).grownBy w5 (Value.slice a1 j c1).ownBlock →
            ∃ a5 c5, v' = .slice a5 (j + 1) c5 ∧ Boxes w w5 (.slice (some ⟨b, off, none⟩) fs.length c) ∧ BoxAt w5 w1.heap.size (.slice a1 j c1) ∧ OwnV w5 (w1.heap.size + 1) (.slice a5 (j + 1) c5) (M ++ [f]) := fun O1 O2 v' w5 hown hgrow => by
          have e1 : (M ++ [f]).length = j + 1 := by rw [List.length_append, hlen]; rfl
          have ho : OwnV w5 (w1.heap.size + 1) v' (M ++ [f]) := OwnV.of_row (by rw [e1, cellsF_append]; simpa [cellsF] using hown)
          obtain ⟨a5, c5, rfl, _⟩ := own_slice ho
          have hal1 := (Below.refl wr.heap.size wr).alloc (Nat.le_refl _) O1
          have hal2 := (Below.refl (wr.alloc O1).heap.size (wr.alloc O1)).alloc (Nat.le_refl _) O2
          have hbl : ∀ q, (Value.slice a1 j c1).ownBlock = some q → w1.heap.size + 1 ≤ q := fun q e => (own_block (unhide hI).2.2.1 q e).1
          refine ⟨a5, c5, by rw [e1], (((unhide hI).1.next hal1).next hal2).grownO hgrow (fun q e => by have := hbl q e; omega), (((unhide hI).2.1.next hal1).next hal2).grown hgrow (fun e => by have := hbl _ e.symm; omega), by rw [e1] at ho; exact ho⟩
        have HST := hide (fun v' w5 O1 O2 h1 h2 => hst O1 O2 v' w5 h1 h2)
        have hc2 : ∀ O1 : Obj, ∀ i u, (fcells f)[i]? = some u → ((wr.alloc O1).alloc (.cells #[.string ⟨f.n.toArray⟩, .string ⟨f.s.toArray⟩, .string ⟨f.t.toArray⟩] 72)).cell? ((⟨wr.heap.size + 1, 0, none⟩ : Addr).add i) = some u := fun O1 i u hi => by
          rw [Addr.add_lit]
          exact (done_new (wr.alloc O1) f (wr.heap.size + 1) (by simp)).row i u hi
        have HC2 := hide hc2
        have HLEN := hide hlen
        have h4 : Hid (j + 1 ≤ maxLen) := by unfold Hid; simp only [maxLen]; omega
        have h5 : Hid ((j + 1) * 48 ≤ 140737488355328) := by unfold Hid; omega
        have h6 : Hid (∀ O1 O2, w1.heap.size + 1 ≤ ((wr.alloc O1).alloc O2).heap.size) := fun O1 O2 => by simp; omega
        have HN := hide hn
        clear hrw hst hc2 hM hlen hn
        go_wp2_with (at_builtin; refine wpList_append_own _ rfl _ _ 22 rfl (w1.heap.size + 1) 72 i0 _ 3 48 Tryz.underlying22 hi0 hz0 hz1 hz2 rfl (by decide) _ j (cellsF M) rfl (unhide HRW _ _ _ rfl) ⟨wr.heap.size + 1, 0, none⟩ 1 1 (fcells f) rfl rfl (unhide HC2 _) (fcells_one _) (unhide h4) (unhide h5) (unhide h6 _ _) ?_)
        intro v' w5 hown hgrow _
        have Z := unhide HST _ _ _ _ hown hgrow
        obtain ⟨a5, c5, rfl, hX5, hB5, hO5⟩ := Z
        have c5' := hB5.c
        have f5' := hB5.f
        have HZ5 := hide (And.intro (hX5.other hz 0 (.slice a5 (j + 1) c5)) (And.intro (hB5.set (.slice a5 (j + 1) c5)) (And.intro (ownv_other hO5 hB5 (.slice a5 (j + 1) c5)) (show (M ++ [f]).length = j + 1 by rw [List.length_append, unhide HLEN]; rfl))))
        clear hown hgrow hX5 hB5 hO5 HST HRW
        go_wp2_with fail
        go_roundg (fs.length - (k + 1))
        case measure => omega
        case rel => exact ⟨k + 1, j + 1, a5, c5, rfl, by omega, by omega, Nat.le_refl _, by rw [unhide HM, if_neg (unhide HN)]; exact HZ5⟩
    · obtain rfl : k = fs.length := by omega
      have hki : ¬ ((fs.length : Int) < (fs.length : Int)) := by omega
      have cr := (unhide hI).1.cr
      have fr := (unhide hI).1.fr
      have hrl : restD name (fs.take fs.length) = restD name fs := by rw [List.take_length]
      rw [hrl] at hI
      have hlen := (unhide hI).2.2.2
      have HLEN := hide hlen
      by_cases he : j = fs.length
      · have h1 : remE name fs = 7 := by rw [remE, if_pos (by rw [hlen, he])]
        have h2 : remD name fs = [] := by rw [remD, if_pos (by rw [hlen, he])]
        have H12 := hide (And.intro h1 h2)
        subst he
        clear hlen h1 h2
        go_wp2_with fail
        exact bodyPost_ret (v := .tuple #[.agg #[.slice none 0 0], .int .i64 7]) (by simp [results, Tryz.results38, go_sem, cr]) rfl ⟨_, by rw [(unhide H12).1], by rw [(unhide H12).2]; exact DiskV.nil _, (unhide hI).1.below.setCell (by simp) _⟩
      · have h1 : remE name fs = 0 := by rw [remE, if_neg (by rw [hlen]; exact he)]
        have h2 : remD name fs = restD name fs := by rw [remD, if_neg (by rw [hlen]; exact he)]
        have H12 := hide (And.intro h1 h2)
        clear h1 h2
        have hei : ¬ ((j : Int) = (fs.length : Int)) := by omega
        clear hlen
        go_wp2_with fail
        refine bodyPost_ret (v := .tuple #[.agg #[.slice a1 j c1], .int .i64 0]) (by simp [results, Tryz.results38, go_sem, cr]) rfl ⟨_, by rw [(unhide H12).1], ?_, (unhide hI).1.below.setCell (by simp) _⟩
        rw [(unhide H12).2]
        refine OwnV.disk (B := 0) ?_
        rcases (unhide hI).2.2.1 with h | ⟨q, cq, e, h1, h2⟩
        · exact .inl h
        · exact .inr ⟨q, cq, e, Nat.zero_le _, h2.other (by show q ≠ w.heap.size + 1; omega) _⟩

set_option maxRecDepth 10000 in
set_option maxHeartbeats 1000000 in
theorem rremove_bad (v : Value) (fs : List DF) (name : List UInt8) (w : World) (hv : DiskV w v fs) (hs : Slim fs) (hl : fs.length ≤ 140737488355328) (hg : goodD fs = false) :
    Calls Tryz.prog 38 #[.agg #[v], .string ⟨name.toArray⟩] w fun e w' => e = .returned (.tuple #[.agg #[.slice none 0 0], .int .i64 3]) ∧ Below w.heap.size w w' := by
  have CG := fun W (hW : Below w.heap.size w W) => rdgood_any v fs W (hv.next hW) hs hl
  obtain ⟨a, n, c, rfl⟩ := disk_slice hv
  rw [hg] at CG
  clear hv hs hg
  go_enter Tryz.func38, Tryz.ntmps38
  go_wp2_with fail
  have X := Boxes.start w (.slice a n c) 24 24
  refine (CG _ X.below).mono ?_
  rintro e w1 ⟨rfl, hb1⟩
  have X1 := X.next hb1
  have cr := X1.cr
  have fr := X1.fr
  have HB := hide X1.below
  clear CG hb1 X X1
  go_wp2_with fail
  exact bodyPost_ret (v := .tuple #[.agg #[.slice none 0 0], .int .i64 3]) (by simp [results, Tryz.results38, go_sem, cr]) rfl ⟨rfl, (unhide HB).setCell (by simp) _⟩

theorem both_remove (fs : List DF) (name : List UInt8) (hs : Slim fs) (hl : fs.length ≤ 140737488355328) : ∃ E d, d.length ≤ 1000000 ∧ GivesD 33 (fun x => #[x, .string ⟨name.toArray⟩]) fs d E ∧ GivesD 38 (fun x => #[x, .string ⟨name.toArray⟩]) fs d E := by
  rcases loc_cases fs name with ⟨E, h⟩ | ⟨g, A, f, B, T⟩
  · have h' := h
    rcases h with ⟨hg, rfl⟩ | ⟨g, ⟨A, B, G⟩, rfl⟩
    · exact ⟨3, [], by simp, dgives_no fun v W hv => remove_no v fs name 3 W hv hs h', dgives_no fun v W hv => rremove_bad v fs name W hv hs hl hg⟩
    · refine ⟨7, [], by simp, dgives_no fun v W hv => remove_no v fs name 7 W hv hs h', fun v W hv => ?_⟩
      have := rremove_yes v fs name W hv hs g
      simp only [remE, remD, G.rest, if_true] at this
      refine this.mono fun e w' ⟨v', he, hd, hb⟩ => ?_
      obtain ⟨a, n, c, rfl⟩ := disk_slice hd
      exact ⟨a, n, c, he, hd, hb⟩
  · have hne : ¬ ((A ++ B).length = fs.length) := by rw [T.eq]; simp
    refine ⟨0, A ++ B, by have := g.few; rw [T.eq] at this; simp at this ⊢; omega, gives_own fun v W hv => remove_there v fs A B f name W hv hs g T, gives_disk fun v W hv => ?_⟩
    have := rremove_yes v fs name W hv hs g
    simp only [remE, remD, T.rest, if_neg hne] at this
    exact this
end Go.Proofs.YtaoflcmeiaffjaaGreatDoor

namespace Go.Proofs.YtaoflcmeiaffjaaGreatDoor
open Go.RowKit

theorem zbelow_grow (w : World) (k : Nat) (os : Array Obj) : Below w.heap.size w (Sort.grow (w.drewN k) os) :=
  ⟨rfl, rfl, rfl, by simp [Sort.grow, World.drewN], fun i hi => by simp [Sort.grow, World.drewN, Array.getElem?_append_left hi]⟩
theorem zret_str2 {a b : ByteArray} {i j : Int} (h : a = b) (h' : i = j) : Ending.returned (.tuple #[.string a, .int .i64 i]) = .returned (.tuple #[.string b, .int .i64 j]) := by rw [h, h']
theorem zbelow_next {w w1 w2 : World} (h : Below w.heap.size w w1) (h' : Below w1.heap.size w1 w2) : Below w.heap.size w w2 := h.trans (h'.mono h.size)
theorem zcat_dot (d m : List UInt8) : (ByteArray.mk d.toArray) ++ (ByteArray.mk #[46]) ++ (ByteArray.mk m.toArray) = ⟨(d ++ 46 :: m).toArray⟩ := by
  apply ByteArray.ext
  simp [ByteArray.data_append]
theorem zgPow : Tryz.prog.globalNamed "internal/strconv.uint64pow10" = some 1 := by kernel_rfl
theorem ztab_lt {w : World} (htab : Lib.TabIs Tryz.prog w "internal/strconv.uint64pow10" .u64 Lib.pow10Tab) : 1 < w.heap.size := by
  have hc := htab.cell zgPow 0 (by decide)
  unfold World.cell? at hc
  cases ho : w.heap[1]? with
  | none => simp [ho] at hc
  | some o => exact (Array.getElem?_eq_some_iff.1 ho).1
theorem ztab_kept {w w' : World} (htab : Lib.TabIs Tryz.prog w "internal/strconv.uint64pow10" .u64 Lib.pow10Tab) (hb : Below w.heap.size w w') : Lib.TabIs Tryz.prog w' "internal/strconv.uint64pow10" .u64 Lib.pow10Tab :=
  var?_below hb zgPow (ztab_lt htab) htab

set_option maxRecDepth 10000 in
set_option maxHeartbeats 400000 in
theorem ztext_any (z : Int) (w : World) (htab : Lib.TabIs Tryz.prog w "internal/strconv.uint64pow10" .u64 Lib.pow10Tab) :
    Calls Tryz.prog 32 #[.int .i64 z] w fun e w' => e = .returned (.tuple #[.string ⟨(zText z).toArray⟩, .int .i64 (zTextE z)]) ∧ Below w.heap.size w w' := by
  cases hg : zGood z
  · have H := hide (zText_no hg)
    have Hg := hide hg
    clear hg htab
    go_enter Tryz.func32, Tryz.ntmps32
    go_wp2_with fail
    refine (zgood_any z _).mono ?_
    rintro e w1 ⟨rfl, rfl⟩
    rw [unhide Hg]
    go_wp2_with fail
    go_ret2
    exact ⟨zret_str2 (by rw [(unhide H).1]) (unhide H).2.symm, Below.refl _ _⟩
  have hz := zGood_iff.1 hg
  have H := hide (zText_yes hg)
  have Hg := hide hg
  have q0 : (z / 2147483648) = ((z / 2147483648).toNat : Int) := by omega
  have r0 : (z % 2147483648) = ((z % 2147483648).toNat : Int) := by omega
  obtain ⟨q, hq⟩ : ∃ q, (z / 2147483648).toNat = q := ⟨_, rfl⟩
  obtain ⟨r, hr⟩ : ∃ r, (z % 2147483648).toNat = r := ⟨_, rfl⟩
  have q1 : q < 2147483648 := by omega
  have r1 : r < 2147483648 := by omega
  rw [hq] at q0
  rw [hr] at r0
  rw [hq, hr] at H
  have Ez : Hid (zEpoch z = (q : Int)) := hide (by rw [zEpoch_yes hg]; exact q0)
  have Cz : Hid (zCount z = (r : Int)) := hide (by rw [zCount_yes hg]; exact r0)
  have Htab := hide htab
  have Hiq := hide (Lib.itoa_nonneg q)
  have Hir := hide (Lib.itoa_nonneg r)
  have lq := dec_len 9 q (by omega)
  have lr := dec_len 9 r (by omega)
  clear hg hz q0 r0 hq hr htab
  go_enter Tryz.func32, Tryz.ntmps32
  go_wp2_with fail
  refine (zgood_any z _).mono ?_
  rintro e w1 ⟨rfl, rfl⟩
  rw [unhide Hg]
  go_wp2_with fail
  refine (zepoch_any z _).mono ?_
  rintro e w2 ⟨rfl, rfl⟩
  rw [unhide Ez]
  go_wp2_with fail
  refine (Tryz.strconv_Itoa _ (by omega) (by omega) _ (unhide Htab)).mono ?_
  rintro e w3 ⟨rfl, k, os, hw3⟩
  have hb3 : Below w2.heap.size w2 w3 := by rw [hw3]; exact zbelow_grow w2 k os
  clear hw3
  rw [unhide Hiq]
  obtain ⟨D, hD⟩ : ∃ D, Lib.decDigits q = D := ⟨_, rfl⟩
  rw [hD] at lq H ⊢
  clear hD
  go_wp2_with fail
  refine (zcount_any z _).mono ?_
  rintro e w4 ⟨rfl, rfl⟩
  rw [unhide Cz]
  go_wp2_with fail
  refine (Tryz.strconv_Itoa _ (by omega) (by omega) _ (ztab_kept (unhide Htab) hb3)).mono ?_
  rintro e w5 ⟨rfl, k, os, hw5⟩
  have hb5 : Below w2.heap.size w2 w5 := zbelow_next hb3 (by rw [hw5]; exact zbelow_grow w4 k os)
  clear hw5
  rw [unhide Hir]
  obtain ⟨R, hR⟩ : ∃ R, Lib.decDigits r = R := ⟨_, rfl⟩
  rw [hR] at lr H ⊢
  clear hR Hiq Hir Ez Cz Hg hb3
  have zD : (ByteArray.mk D.toArray).size = D.length := Lib.size_eq ⟨D.toArray⟩
  have zR : (ByteArray.mk R.toArray).size = R.length := Lib.size_eq ⟨R.toArray⟩
  go_wp2_with fail
  go_ret2
  exact ⟨zret_str2 (by rw [(unhide H).1]; exact zcat_dot D R) (unhide H).2.symm, hb5⟩

end Go.Proofs.YtaoflcmeiaffjaaGreatDoor

namespace Go.Proofs.YtaoflcmeiaffjaaGreatDoor
open Go.RowKit
set_option maxRecDepth 10000 in

set_option maxHeartbeats 1000000 in
theorem rtext_any (z : Int) (hm : z ≤ 9223372036854775807) (w : World) :
    Calls Tryz.prog 37 #[.int .i64 z] w fun e w' => e = .returned (.tuple #[.string ⟨(zText z).toArray⟩, .int .i64 (zTextE z)]) ∧ Below w.heap.size w w' := by
  cases hg : zGood z
  · have H := hide (zText_no hg)
    have Hg := hide hg
    clear hg
    go_enter Tryz.func37, Tryz.ntmps37
    go_wp2_with fail
    refine (rgood_any z hm _).mono ?_
    rintro e w1 ⟨rfl, rfl⟩
    rw [unhide Hg]
    go_wp2_with fail
    go_ret2
    exact ⟨zret_str2 (by rw [(unhide H).1]) (unhide H).2.symm, Below.refl _ _⟩
  have hz := zGood_iff.1 hg
  have h0 := hz.1
  have H := hide (zText_yes hg)
  have Hg := hide hg
  have q0 : (z / 2147483648) = ((z / 2147483648).toNat : Int) := by omega
  have r0 : (z % 2147483648) = ((z % 2147483648).toNat : Int) := by omega
  obtain ⟨q, hq⟩ : ∃ q, (z / 2147483648).toNat = q := ⟨_, rfl⟩
  obtain ⟨r, hr⟩ : ∃ r, (z % 2147483648).toNat = r := ⟨_, rfl⟩
  have q1 : q < 2147483648 := by omega
  have r1 : r < 2147483648 := by omega
  rw [hq] at q0
  rw [hr] at r0
  rw [hq, hr] at H
  have Q0 := hide q0
  have R0 := hide r0
  have lq := dec_len 9 q (by omega)
  have lr := dec_len 9 r (by omega)
  clear hg hz q0 r0 hq hr
  go_enter Tryz.func37, Tryz.ntmps37
  go_wp2_with fail
  refine (rgood_any z hm _).mono ?_
  rintro e w1 ⟨rfl, rfl⟩
  rw [unhide Hg]
  go_wp2_with fail
  rw [show z / 2147483648 = (q : Int) from unhide Q0]
  refine (zdecimal_any q (by omega) _).mono ?_
  rintro e w2 ⟨rfl, hb2⟩
  obtain ⟨D, hD⟩ : ∃ D, Lib.decDigits q = D := ⟨_, rfl⟩
  rw [hD] at lq H ⊢
  clear hD
  go_wp2_with fail
  rw [show z % 2147483648 = (r : Int) from unhide R0]
  refine (zdecimal_any r (by omega) _).mono ?_
  rintro e w3 ⟨rfl, hb3⟩
  replace hb3 := zbelow_next hb2 hb3
  obtain ⟨R, hR⟩ : ∃ R, Lib.decDigits r = R := ⟨_, rfl⟩
  rw [hR] at lr H ⊢
  clear hR hb2
  have zD : (ByteArray.mk D.toArray).size = D.length := Lib.size_eq ⟨D.toArray⟩
  have zR : (ByteArray.mk R.toArray).size = R.length := Lib.size_eq ⟨R.toArray⟩
  go_wp2_with fail
  go_ret2
  exact ⟨zret_str2 (by rw [(unhide H).1]; exact zcat_dot D R) (unhide H).2.symm, hb3⟩

end Go.Proofs.YtaoflcmeiaffjaaGreatDoor

namespace Go.Proofs.YtaoflcmeiaffjaaGreatDoor
open Go.RowKit

/-- the table that numbers are written by lies as Go's library lays it -/
def TabP (W : World) : Prop := Lib.TabIs Tryz.prog W "internal/strconv.uint64pow10" .u64 Lib.pow10Tab
theorem TabP.next {w w' : World} (h : TabP w) (hb : Below w.heap.size w w') : TabP w' := ztab_kept h hb
/-- a call on a disk says E, and hands back a disk, where that table lies -/
def GivesE (f : FuncId) (args : Value → Array Value) (fs d : List DF) (E : Int) : Prop := ∀ v W, TabP W → DiskV W v fs → Calls Tryz.prog f (args (.agg #[v])) W fun e w' => ∃ a n c, e = .returned (.tuple #[.agg #[.slice a n c], .int .i64 E]) ∧ Hid (DiskV w' (.slice a n c) d) ∧ Below W.heap.size W w'
theorem zMake_top (e : Int) : zMake e 0 ≤ 9223372036854775807 := by
  unfold zMake
  split
  · rename_i h
    have := zIn_iff.1 (show zIn e = true by simp at h; exact h.1)
    omega
  · omega

set_option maxRecDepth 10000 in
set_option maxHeartbeats 2000000 in
theorem srem_no (fs : List DF) (ep : Int) (hM : zMakeE ep 0 ≠ 0) : GivesE 10 (fun x => #[x, .int .i64 ep]) fs [] (zMakeE ep 0) := by
  intro v w _ hv
  have CM := fun W => zmake_any ep 0 W
  have hne : (zMakeE ep 0 != 0) = true := by simpa using hM
  generalize zMakeE ep 0 = E at *
  generalize zMake ep 0 = z at *
  obtain ⟨a, n, c, rfl⟩ := disk_slice hv
  clear hv hM
  go_enter Tryz.func10, Tryz.ntmps10
  go_wp2_with fail
  have X := RBox.start w (.slice a n c)
  generalize (w.alloc (.cells #[.slice a n c] 24)).alloc (.cells #[.slice none 0 0] 24) = W0 at *
  have cr := X.r.c
  have fr := X.r.f
  have HB := hide (X.below.setCell (p := ⟨w.heap.size + 1, 0, none⟩) (by show w.heap.size ≤ w.heap.size + 1; omega) (.slice none 0 0))
  clear X
  refine (CM _).mono ?_
  rintro e w1 ⟨rfl, rfl⟩
  clear CM
  go_wp2_with fail
  exact bodyPost_ret (v := .tuple #[.agg #[.slice none 0 0], .int .i64 E]) (by simp [results, Tryz.results10, go_sem, cr]) rfl ⟨_, _, _, rfl, hide (DiskV.nil _), unhide HB⟩

set_option maxRecDepth 10000 in
set_option maxHeartbeats 2000000 in
theorem srem_yes_err (fs d1 d2 : List DF) (ep E2 : Int) (hM : zMakeE ep 0 = 0) (h2 : E2 ≠ 0) (R1 : GivesD 33 (fun x => #[x, .string ⟨epochN.toArray⟩]) fs d1 0) (W1 : GivesD 34 (fun x => #[x, .string ⟨epochN.toArray⟩, .string ⟨(zText (zMake ep 0)).toArray⟩]) d1 d2 E2) : GivesE 10 (fun x => #[x, .int .i64 ep]) fs [] E2 := by
  intro v w ht hv
  have CM := fun W => zmake_any ep 0 W
  rw [hM] at CM
  have CT := fun W (h : Below w.heap.size w W) => ztext_any (zMake ep 0) W (ht.next h)
  have h2' : (E2 != 0) = true := by simpa using h2
  simp only [show epochN.toArray = #[101, 112, 111, 99, 104] from rfl] at R1 W1
  generalize zTextE (zMake ep 0) = te at *
  generalize zText (zMake ep 0) = T at *
  generalize zMake ep 0 = z at *
  have HV := hide hv
  have HR := hide R1
  have HW := hide W1
  obtain ⟨a, n, c, rfl⟩ := disk_slice hv
  clear hv hM R1 W1 h2 ht
  go_enter Tryz.func10, Tryz.ntmps10
  go_wp2_with fail
  have X := RBox.start w (.slice a n c)
  generalize (w.alloc (.cells #[.slice a n c] 24)).alloc (.cells #[.slice none 0 0] 24) = W0 at *
  have HX := hide X
  clear X
  refine (CM _).mono ?_
  rintro e w1 ⟨rfl, rfl⟩
  clear CM
  go_wp2_with fail
  refine (CT _ (unhide HX).below).mono ?_
  rintro e w2 ⟨rfl, hb2⟩
  have X2 := (unhide HX).next hb2
  have cd := X2.d.c
  have HX2 := hide X2
  clear hb2 X2 HX CT
  go_wp2_with fail
  refine (unhide HR _ _ ((unhide HV).next (unhide HX2).below)).mono ?_
  rintro e w3 ⟨a3, n3, c3, rfl, HD3, hb3⟩
  have X3 := (unhide HX2).next hb3
  have cd3 := X3.d.c
  have fd3 := X3.d.f
  have hk3 := X3.d.lt
  have hnk : w.heap.size ≠ w3.heap.size := by omega
  have X4 := (X3.setd (.slice a3 n3 c3)).next (allocB _ (.cells #[.slice a3 n3 c3] 24))
  have D4 := (disk_box (unhide HD3) X3.d (.slice a3 n3 c3)).alloc (.cells #[.slice a3 n3 c3] 24)
  have cd4 := X4.d.c
  have HX4 := hide X4
  have HD4 := hide D4
  clear hb3 X3 X4 D4 HD3 HX2 HR cd HV
  go_wp2_with fail
  generalize (w3.setCell ⟨w.heap.size, 0, none⟩ (.slice a3 n3 c3)).alloc (.cells #[.slice a3 n3 c3] 24) = W4 at *
  clear cd3 fd3 hk3 hnk
  refine (unhide HW _ _ (unhide HD4)).mono ?_
  rintro e w5 ⟨a5, n5, c5, rfl, HD5, hb5⟩
  have X5 := (unhide HX4).next hb5
  have hz5 := X5.r.lt
  have hnz : w.heap.size + 1 ≠ w5.heap.size := by omega
  have hS := X5.below.setCell (p := ⟨w.heap.size + 1, 0, none⟩) (by show w.heap.size ≤ w.heap.size + 1; omega) (.slice none 0 0)
  have HF := hide (hS.alloc (by have := hS.size; exact this) (.cells #[.slice a5 n5 c5] 24))
  have cr6 := (X5.r.next (allocB _ (.cells #[.slice a5 n5 c5] 24))).c
  have fr6 := (X5.r.next (allocB _ (.cells #[.slice a5 n5 c5] 24))).f
  have HCw := hide ((X5.r.set (.slice none 0 0)).next (allocB _ (.cells #[.slice a5 n5 c5] 24))).c
  clear hb5 X5 HX4 HD4 HD5 HW cd4 hS
  go_wp2_with fail
  exact bodyPost_ret (v := .tuple #[.agg #[.slice none 0 0], .int .i64 E2]) (by simp [results, Tryz.results10, go_sem, unhide HCw]) rfl ⟨_, _, _, rfl, hide (DiskV.nil _), unhide HF⟩

set_option maxRecDepth 10000 in
set_option maxHeartbeats 2000000 in
theorem srem_yes_ok (fs d1 d2 d3 : List DF) (ep E3 : Int) (hM : zMakeE ep 0 = 0) (R1 : GivesD 33 (fun x => #[x, .string ⟨epochN.toArray⟩]) fs d1 0) (W1 : GivesD 34 (fun x => #[x, .string ⟨epochN.toArray⟩, .string ⟨(zText (zMake ep 0)).toArray⟩]) d1 d2 0) (S1 : GivesD 35 (fun x => #[x, .string ⟨epochN.toArray⟩]) d2 d3 E3) : GivesE 10 (fun x => #[x, .int .i64 ep]) fs d3 E3 := by
  intro v w ht hv
  have CM := fun W => zmake_any ep 0 W
  rw [hM] at CM
  have CT := fun W (h : Below w.heap.size w W) => ztext_any (zMake ep 0) W (ht.next h)
  simp only [show epochN.toArray = #[101, 112, 111, 99, 104] from rfl] at R1 W1 S1
  generalize zTextE (zMake ep 0) = te at *
  generalize zText (zMake ep 0) = T at *
  generalize zMake ep 0 = z at *
  have HV := hide hv
  have HR := hide R1
  have HW := hide W1
  have HS := hide S1
  obtain ⟨a, n, c, rfl⟩ := disk_slice hv
  clear hv hM R1 W1 S1 ht
  go_enter Tryz.func10, Tryz.ntmps10
  go_wp2_with fail
  have X := RBox.start w (.slice a n c)
  generalize (w.alloc (.cells #[.slice a n c] 24)).alloc (.cells #[.slice none 0 0] 24) = W0 at *
  have HX := hide X
  clear X
  refine (CM _).mono ?_
  rintro e w1 ⟨rfl, rfl⟩
  clear CM
  go_wp2_with fail
  refine (CT _ (unhide HX).below).mono ?_
  rintro e w2 ⟨rfl, hb2⟩
  have X2 := (unhide HX).next hb2
  have cd := X2.d.c
  have HX2 := hide X2
  clear hb2 X2 HX CT
  go_wp2_with fail
  refine (unhide HR _ _ ((unhide HV).next (unhide HX2).below)).mono ?_
  rintro e w3 ⟨a3, n3, c3, rfl, HD3, hb3⟩
  have X3 := (unhide HX2).next hb3
  have cd3 := X3.d.c
  have fd3 := X3.d.f
  have hk3 := X3.d.lt
  have hnk : w.heap.size ≠ w3.heap.size := by omega
  have X4 := (X3.setd (.slice a3 n3 c3)).next (allocB _ (.cells #[.slice a3 n3 c3] 24))
  have D4 := (disk_box (unhide HD3) X3.d (.slice a3 n3 c3)).alloc (.cells #[.slice a3 n3 c3] 24)
  have cd4 := X4.d.c
  have HX4 := hide X4
  have HD4 := hide D4
  clear hb3 X3 X4 D4 HD3 HX2 HR cd HV
  go_wp2_with fail
  generalize (w3.setCell ⟨w.heap.size, 0, none⟩ (.slice a3 n3 c3)).alloc (.cells #[.slice a3 n3 c3] 24) = W4 at *
  clear cd3 fd3 hk3 hnk
  refine (unhide HW _ _ (unhide HD4)).mono ?_
  rintro e w5 ⟨a5, n5, c5, rfl, HD5, hb5⟩
  have X5 := (unhide HX4).next hb5
  have X6 := X5.next (allocB _ (.cells #[.slice a5 n5 c5] 24))
  have D6 := (unhide HD5).alloc (.cells #[.slice a5 n5 c5] 24)
  have HX6 := hide X6
  have HD6 := hide D6
  clear hb5 X5 X6 D6 HD5 HX4 HD4 HW cd4
  go_wp2_with fail
  refine (unhide HS _ _ (unhide HD6)).mono ?_
  rintro e w7 ⟨a7, n7, c7, rfl, HD7, hb7⟩
  have X7 := (unhide HX6).next hb7
  have cr7 := X7.r.c
  have fr7 := X7.r.f
  have HF := hide (And.intro (X7.below.setCell (p := ⟨w.heap.size + 1, 0, none⟩) (by show w.heap.size ≤ w.heap.size + 1; omega) (.slice a7 n7 c7)) (disk_box (unhide HD7) X7.r (.slice a7 n7 c7)))
  clear hb7 X7 HX6 HD6 HD7 HS
  go_wp2_with fail
  exact bodyPost_ret (v := .tuple #[.agg #[.slice a7 n7 c7], .int .i64 E3]) (by simp [results, Tryz.results10, go_sem, cr7]) rfl ⟨_, _, _, rfl, hide (unhide HF).2, (unhide HF).1⟩

set_option maxRecDepth 10000 in
set_option maxHeartbeats 2000000 in
theorem srem_not_err (fs d1 d2 : List DF) (ep E1 E2 : Int) (hM : zMakeE ep 0 = 0) (h1 : E1 ≠ 0) (h2 : E2 ≠ 0) (R1 : GivesD 33 (fun x => #[x, .string ⟨epochN.toArray⟩]) fs d1 E1) (W1 : GivesD 34 (fun x => #[x, .string ⟨epochN.toArray⟩, .string ⟨(zText (zMake ep 0)).toArray⟩]) fs d2 E2) : GivesE 10 (fun x => #[x, .int .i64 ep]) fs [] E2 := by
  intro v w ht hv
  have CM := fun W => zmake_any ep 0 W
  rw [hM] at CM
  have CT := fun W (h : Below w.heap.size w W) => ztext_any (zMake ep 0) W (ht.next h)
  have h1' : (E1 == 0) = false := by simpa using h1
  have h2' : (E2 != 0) = true := by simpa using h2
  simp only [show epochN.toArray = #[101, 112, 111, 99, 104] from rfl] at R1 W1
  generalize zTextE (zMake ep 0) = te at *
  generalize zText (zMake ep 0) = T at *
  generalize zMake ep 0 = z at *
  have HV := hide hv
  have HR := hide R1
  have HW := hide W1
  obtain ⟨a, n, c, rfl⟩ := disk_slice hv
  clear hv hM R1 W1 h2 h1 ht
  go_enter Tryz.func10, Tryz.ntmps10
  go_wp2_with fail
  have X := RBox.start w (.slice a n c)
  generalize (w.alloc (.cells #[.slice a n c] 24)).alloc (.cells #[.slice none 0 0] 24) = W0 at *
  have HX := hide X
  clear X
  refine (CM _).mono ?_
  rintro e w1 ⟨rfl, rfl⟩
  clear CM
  go_wp2_with fail
  refine (CT _ (unhide HX).below).mono ?_
  rintro e w2 ⟨rfl, hb2⟩
  have X2 := (unhide HX).next hb2
  have cd := X2.d.c
  have HX2 := hide X2
  clear hb2 X2 HX CT
  go_wp2_with fail
  refine (unhide HR _ _ ((unhide HV).next (unhide HX2).below)).mono ?_
  rintro e w3 ⟨a3, n3, c3, rfl, HD3, hb3⟩
  have X3 := (unhide HX2).next hb3
  have cd3 := X3.d.c
  have fd3 := X3.d.f
  have hk3 := X3.d.lt
  have X4 := X3.next (allocB _ (.cells #[.slice a3 n3 c3] 24))
  have D4 := (unhide HV).next X4.below
  have cd4 := X4.d.c
  have HX4 := hide X4
  have HD4 := hide D4
  clear hb3 X3 X4 D4 HD3 HX2 HR cd cd3 fd3 hk3 HV
  go_wp2_with fail
  generalize w3.alloc (.cells #[.slice a3 n3 c3] 24) = W4 at *
  refine (unhide HW _ _ (unhide HD4)).mono ?_
  rintro e w5 ⟨a5, n5, c5, rfl, HD5, hb5⟩
  have X5 := (unhide HX4).next hb5
  have hz5 := X5.r.lt
  have hnz : w.heap.size + 1 ≠ w5.heap.size := by omega
  have hS := X5.below.setCell (p := ⟨w.heap.size + 1, 0, none⟩) (by show w.heap.size ≤ w.heap.size + 1; omega) (.slice none 0 0)
  have HF := hide (hS.alloc (by have := hS.size; exact this) (.cells #[.slice a5 n5 c5] 24))
  have cr6 := (X5.r.next (allocB _ (.cells #[.slice a5 n5 c5] 24))).c
  have fr6 := (X5.r.next (allocB _ (.cells #[.slice a5 n5 c5] 24))).f
  have HCw := hide ((X5.r.set (.slice none 0 0)).next (allocB _ (.cells #[.slice a5 n5 c5] 24))).c
  clear hb5 X5 HX4 HD4 HD5 HW cd4 hS
  go_wp2_with fail
  exact bodyPost_ret (v := .tuple #[.agg #[.slice none 0 0], .int .i64 E2]) (by simp [results, Tryz.results10, go_sem, unhide HCw]) rfl ⟨_, _, _, rfl, hide (DiskV.nil _), unhide HF⟩

set_option maxRecDepth 10000 in
set_option maxHeartbeats 2000000 in
theorem srem_not_ok (fs d1 d2 d3 : List DF) (ep E1 E3 : Int) (hM : zMakeE ep 0 = 0) (h1 : E1 ≠ 0) (R1 : GivesD 33 (fun x => #[x, .string ⟨epochN.toArray⟩]) fs d1 E1) (W1 : GivesD 34 (fun x => #[x, .string ⟨epochN.toArray⟩, .string ⟨(zText (zMake ep 0)).toArray⟩]) fs d2 0) (S1 : GivesD 35 (fun x => #[x, .string ⟨epochN.toArray⟩]) d2 d3 E3) : GivesE 10 (fun x => #[x, .int .i64 ep]) fs d3 E3 := by
  intro v w ht hv
  have CM := fun W => zmake_any ep 0 W
  rw [hM] at CM
  have CT := fun W (h : Below w.heap.size w W) => ztext_any (zMake ep 0) W (ht.next h)
  have h1' : (E1 == 0) = false := by simpa using h1
  simp only [show epochN.toArray = #[101, 112, 111, 99, 104] from rfl] at R1 W1 S1
  generalize zTextE (zMake ep 0) = te at *
  generalize zText (zMake ep 0) = T at *
  generalize zMake ep 0 = z at *
  have HV := hide hv
  have HR := hide R1
  have HW := hide W1
  have HS := hide S1
  obtain ⟨a, n, c, rfl⟩ := disk_slice hv
  clear hv hM R1 W1 S1 h1 ht
  go_enter Tryz.func10, Tryz.ntmps10
  go_wp2_with fail
  have X := RBox.start w (.slice a n c)
  generalize (w.alloc (.cells #[.slice a n c] 24)).alloc (.cells #[.slice none 0 0] 24) = W0 at *
  have HX := hide X
  clear X
  refine (CM _).mono ?_
  rintro e w1 ⟨rfl, rfl⟩
  clear CM
  go_wp2_with fail
  refine (CT _ (unhide HX).below).mono ?_
  rintro e w2 ⟨rfl, hb2⟩
  have X2 := (unhide HX).next hb2
  have cd := X2.d.c
  have HX2 := hide X2
  clear hb2 X2 HX CT
  go_wp2_with fail
  refine (unhide HR _ _ ((unhide HV).next (unhide HX2).below)).mono ?_
  rintro e w3 ⟨a3, n3, c3, rfl, HD3, hb3⟩
  have X3 := (unhide HX2).next hb3
  have cd3 := X3.d.c
  have fd3 := X3.d.f
  have hk3 := X3.d.lt
  have X4 := X3.next (allocB _ (.cells #[.slice a3 n3 c3] 24))
  have D4 := (unhide HV).next X4.below
  have cd4 := X4.d.c
  have HX4 := hide X4
  have HD4 := hide D4
  clear hb3 X3 X4 D4 HD3 HX2 HR cd cd3 fd3 hk3 HV
  go_wp2_with fail
  generalize w3.alloc (.cells #[.slice a3 n3 c3] 24) = W4 at *
  refine (unhide HW _ _ (unhide HD4)).mono ?_
  rintro e w5 ⟨a5, n5, c5, rfl, HD5, hb5⟩
  have X5 := (unhide HX4).next hb5
  have X6 := X5.next (allocB _ (.cells #[.slice a5 n5 c5] 24))
  have D6 := (unhide HD5).alloc (.cells #[.slice a5 n5 c5] 24)
  have HX6 := hide X6
  have HD6 := hide D6
  clear hb5 X5 X6 D6 HD5 HX4 HD4 HW cd4
  go_wp2_with fail
  refine (unhide HS _ _ (unhide HD6)).mono ?_
  rintro e w7 ⟨a7, n7, c7, rfl, HD7, hb7⟩
  have X7 := (unhide HX6).next hb7
  have cr7 := X7.r.c
  have fr7 := X7.r.f
  have HF := hide (And.intro (X7.below.setCell (p := ⟨w.heap.size + 1, 0, none⟩) (by show w.heap.size ≤ w.heap.size + 1; omega) (.slice a7 n7 c7)) (disk_box (unhide HD7) X7.r (.slice a7 n7 c7)))
  clear hb7 X7 HX6 HD6 HD7 HS
  go_wp2_with fail
  exact bodyPost_ret (v := .tuple #[.agg #[.slice a7 n7 c7], .int .i64 E3]) (by simp [results, Tryz.results10, go_sem, cr7]) rfl ⟨_, _, _, rfl, hide (unhide HF).2, (unhide HF).1⟩

set_option maxRecDepth 10000 in
set_option maxHeartbeats 2000000 in
theorem rrem_no (fs : List DF) (ep : Int) (hM : zMakeE ep 0 ≠ 0) : GivesE 11 (fun x => #[x, .int .i64 ep]) fs [] (zMakeE ep 0) := by
  intro v w _ hv
  have CM := fun W => rmake_any ep 0 W
  have hne : (zMakeE ep 0 != 0) = true := by simpa using hM
  generalize zMakeE ep 0 = E at *
  generalize zMake ep 0 = z at *
  obtain ⟨a, n, c, rfl⟩ := disk_slice hv
  clear hv hM
  go_enter Tryz.func11, Tryz.ntmps11
  go_wp2_with fail
  have X := RBox.start w (.slice a n c)
  generalize (w.alloc (.cells #[.slice a n c] 24)).alloc (.cells #[.slice none 0 0] 24) = W0 at *
  have cr := X.r.c
  have fr := X.r.f
  have HB := hide (X.below.setCell (p := ⟨w.heap.size + 1, 0, none⟩) (by show w.heap.size ≤ w.heap.size + 1; omega) (.slice none 0 0))
  clear X
  refine (CM _).mono ?_
  rintro e w1 ⟨rfl, rfl⟩
  clear CM
  go_wp2_with fail
  exact bodyPost_ret (v := .tuple #[.agg #[.slice none 0 0], .int .i64 E]) (by simp [results, Tryz.results11, go_sem, cr]) rfl ⟨_, _, _, rfl, hide (DiskV.nil _), unhide HB⟩

set_option maxRecDepth 10000 in
set_option maxHeartbeats 2000000 in
theorem rrem_yes_err (fs d1 d2 : List DF) (ep E2 : Int) (hM : zMakeE ep 0 = 0) (h2 : E2 ≠ 0) (R1 : GivesD 38 (fun x => #[x, .string ⟨epochN.toArray⟩]) fs d1 0) (W1 : GivesD 39 (fun x => #[x, .string ⟨epochN.toArray⟩, .string ⟨(zText (zMake ep 0)).toArray⟩]) d1 d2 E2) : GivesE 11 (fun x => #[x, .int .i64 ep]) fs [] E2 := by
  intro v w ht hv
  have CM := fun W => rmake_any ep 0 W
  rw [hM] at CM
  have CT := fun W (_ : Below w.heap.size w W) => rtext_any (zMake ep 0) (by have := zMake_top ep; omega) W
  have h2' : (E2 != 0) = true := by simpa using h2
  simp only [show epochN.toArray = #[101, 112, 111, 99, 104] from rfl] at R1 W1
  generalize zTextE (zMake ep 0) = te at *
  generalize zText (zMake ep 0) = T at *
  generalize zMake ep 0 = z at *
  have HV := hide hv
  have HR := hide R1
  have HW := hide W1
  obtain ⟨a, n, c, rfl⟩ := disk_slice hv
  clear hv hM R1 W1 h2 ht
  go_enter Tryz.func11, Tryz.ntmps11
  go_wp2_with fail
  have X := RBox.start w (.slice a n c)
  generalize (w.alloc (.cells #[.slice a n c] 24)).alloc (.cells #[.slice none 0 0] 24) = W0 at *
  have HX := hide X
  clear X
  refine (CM _).mono ?_
  rintro e w1 ⟨rfl, rfl⟩
  clear CM
  go_wp2_with fail
  refine (CT _ (unhide HX).below).mono ?_
  rintro e w2 ⟨rfl, hb2⟩
  have X2 := (unhide HX).next hb2
  have cd := X2.d.c
  have HX2 := hide X2
  clear hb2 X2 HX CT
  go_wp2_with fail
  refine (unhide HR _ _ ((unhide HV).next (unhide HX2).below)).mono ?_
  rintro e w3 ⟨a3, n3, c3, rfl, HD3, hb3⟩
  have X3 := (unhide HX2).next hb3
  have cd3 := X3.d.c
  have fd3 := X3.d.f
  have hk3 := X3.d.lt
  have hnk : w.heap.size ≠ w3.heap.size := by omega
  have X4 := (X3.setd (.slice a3 n3 c3)).next (allocB _ (.cells #[.slice a3 n3 c3] 24))
  have D4 := (disk_box (unhide HD3) X3.d (.slice a3 n3 c3)).alloc (.cells #[.slice a3 n3 c3] 24)
  have cd4 := X4.d.c
  have HX4 := hide X4
  have HD4 := hide D4
  clear hb3 X3 X4 D4 HD3 HX2 HR cd HV
  go_wp2_with fail
  generalize (w3.setCell ⟨w.heap.size, 0, none⟩ (.slice a3 n3 c3)).alloc (.cells #[.slice a3 n3 c3] 24) = W4 at *
  clear cd3 fd3 hk3 hnk
  refine (unhide HW _ _ (unhide HD4)).mono ?_
  rintro e w5 ⟨a5, n5, c5, rfl, HD5, hb5⟩
  have X5 := (unhide HX4).next hb5
  have cd5 := X5.d.c
  have fd5 := X5.d.f
  have X6 := X5.setd (.slice a5 n5 c5)
  have cr6 := X6.r.c
  have fr6 := X6.r.f
  have HF := hide (X6.below.setCell (p := ⟨w.heap.size + 1, 0, none⟩) (by show w.heap.size ≤ w.heap.size + 1; omega) (.slice none 0 0))
  have HCw := hide (X6.r.set (.slice none 0 0)).c
  clear hb5 X5 X6 HX4 HD4 HD5 HW cd4
  go_wp2_with fail
  exact bodyPost_ret (v := .tuple #[.agg #[.slice none 0 0], .int .i64 E2]) (by simp [results, Tryz.results11, go_sem, unhide HCw]) rfl ⟨_, _, _, rfl, hide (DiskV.nil _), unhide HF⟩

set_option maxRecDepth 10000 in
set_option maxHeartbeats 2000000 in
theorem rrem_yes_ok (fs d1 d2 d3 : List DF) (ep E3 : Int) (hM : zMakeE ep 0 = 0) (R1 : GivesD 38 (fun x => #[x, .string ⟨epochN.toArray⟩]) fs d1 0) (W1 : GivesD 39 (fun x => #[x, .string ⟨epochN.toArray⟩, .string ⟨(zText (zMake ep 0)).toArray⟩]) d1 d2 0) (S1 : GivesD 40 (fun x => #[x, .string ⟨epochN.toArray⟩]) d2 d3 E3) : GivesE 11 (fun x => #[x, .int .i64 ep]) fs d3 E3 := by
  intro v w ht hv
  have CM := fun W => rmake_any ep 0 W
  rw [hM] at CM
  have CT := fun W (_ : Below w.heap.size w W) => rtext_any (zMake ep 0) (by have := zMake_top ep; omega) W
  simp only [show epochN.toArray = #[101, 112, 111, 99, 104] from rfl] at R1 W1 S1
  generalize zTextE (zMake ep 0) = te at *
  generalize zText (zMake ep 0) = T at *
  generalize zMake ep 0 = z at *
  have HV := hide hv
  have HR := hide R1
  have HW := hide W1
  have HS := hide S1
  obtain ⟨a, n, c, rfl⟩ := disk_slice hv
  clear hv hM R1 W1 S1 ht
  go_enter Tryz.func11, Tryz.ntmps11
  go_wp2_with fail
  have X := RBox.start w (.slice a n c)
  generalize (w.alloc (.cells #[.slice a n c] 24)).alloc (.cells #[.slice none 0 0] 24) = W0 at *
  have HX := hide X
  clear X
  refine (CM _).mono ?_
  rintro e w1 ⟨rfl, rfl⟩
  clear CM
  go_wp2_with fail
  refine (CT _ (unhide HX).below).mono ?_
  rintro e w2 ⟨rfl, hb2⟩
  have X2 := (unhide HX).next hb2
  have cd := X2.d.c
  have HX2 := hide X2
  clear hb2 X2 HX CT
  go_wp2_with fail
  refine (unhide HR _ _ ((unhide HV).next (unhide HX2).below)).mono ?_
  rintro e w3 ⟨a3, n3, c3, rfl, HD3, hb3⟩
  have X3 := (unhide HX2).next hb3
  have cd3 := X3.d.c
  have fd3 := X3.d.f
  have hk3 := X3.d.lt
  have hnk : w.heap.size ≠ w3.heap.size := by omega
  have X4 := (X3.setd (.slice a3 n3 c3)).next (allocB _ (.cells #[.slice a3 n3 c3] 24))
  have D4 := (disk_box (unhide HD3) X3.d (.slice a3 n3 c3)).alloc (.cells #[.slice a3 n3 c3] 24)
  have cd4 := X4.d.c
  have HX4 := hide X4
  have HD4 := hide D4
  clear hb3 X3 X4 D4 HD3 HX2 HR cd HV
  go_wp2_with fail
  generalize (w3.setCell ⟨w.heap.size, 0, none⟩ (.slice a3 n3 c3)).alloc (.cells #[.slice a3 n3 c3] 24) = W4 at *
  clear cd3 fd3 hk3 hnk
  refine (unhide HW _ _ (unhide HD4)).mono ?_
  rintro e w5 ⟨a5, n5, c5, rfl, HD5, hb5⟩
  have X5 := (unhide HX4).next hb5
  have cd5 := X5.d.c
  have fd5 := X5.d.f
  have X6 := X5.setd (.slice a5 n5 c5)
  have D6 := disk_box (unhide HD5) X5.d (.slice a5 n5 c5)
  have cd6 := X6.d.c
  have HX6 := hide X6
  have HD6 := hide D6
  clear hb5 X5 X6 D6 HD5 HX4 HD4 HW cd4
  go_wp2_with fail
  refine (unhide HS _ _ (unhide HD6)).mono ?_
  rintro e w7 ⟨a7, n7, c7, rfl, HD7, hb7⟩
  have X7 := (unhide HX6).next hb7
  have cr7 := X7.r.c
  have fr7 := X7.r.f
  have HF := hide (And.intro (X7.below.setCell (p := ⟨w.heap.size + 1, 0, none⟩) (by show w.heap.size ≤ w.heap.size + 1; omega) (.slice a7 n7 c7)) (disk_box (unhide HD7) X7.r (.slice a7 n7 c7)))
  clear hb7 X7 HX6 HD6 HD7 HS
  go_wp2_with fail
  exact bodyPost_ret (v := .tuple #[.agg #[.slice a7 n7 c7], .int .i64 E3]) (by simp [results, Tryz.results11, go_sem, cr7]) rfl ⟨_, _, _, rfl, hide (unhide HF).2, (unhide HF).1⟩

set_option maxRecDepth 10000 in
set_option maxHeartbeats 2000000 in
theorem rrem_not_err (fs d1 d2 : List DF) (ep E1 E2 : Int) (hM : zMakeE ep 0 = 0) (h1 : E1 ≠ 0) (h2 : E2 ≠ 0) (R1 : GivesD 38 (fun x => #[x, .string ⟨epochN.toArray⟩]) fs d1 E1) (W1 : GivesD 39 (fun x => #[x, .string ⟨epochN.toArray⟩, .string ⟨(zText (zMake ep 0)).toArray⟩]) fs d2 E2) : GivesE 11 (fun x => #[x, .int .i64 ep]) fs [] E2 := by
  intro v w ht hv
  have CM := fun W => rmake_any ep 0 W
  rw [hM] at CM
  have CT := fun W (_ : Below w.heap.size w W) => rtext_any (zMake ep 0) (by have := zMake_top ep; omega) W
  have h1' : (E1 == 0) = false := by simpa using h1
  have h2' : (E2 != 0) = true := by simpa using h2
  simp only [show epochN.toArray = #[101, 112, 111, 99, 104] from rfl] at R1 W1
  generalize zTextE (zMake ep 0) = te at *
  generalize zText (zMake ep 0) = T at *
  generalize zMake ep 0 = z at *
  have HV := hide hv
  have HR := hide R1
  have HW := hide W1
  obtain ⟨a, n, c, rfl⟩ := disk_slice hv
  clear hv hM R1 W1 h2 h1 ht
  go_enter Tryz.func11, Tryz.ntmps11
  go_wp2_with fail
  have X := RBox.start w (.slice a n c)
  generalize (w.alloc (.cells #[.slice a n c] 24)).alloc (.cells #[.slice none 0 0] 24) = W0 at *
  have HX := hide X
  clear X
  refine (CM _).mono ?_
  rintro e w1 ⟨rfl, rfl⟩
  clear CM
  go_wp2_with fail
  refine (CT _ (unhide HX).below).mono ?_
  rintro e w2 ⟨rfl, hb2⟩
  have X2 := (unhide HX).next hb2
  have cd := X2.d.c
  have HX2 := hide X2
  clear hb2 X2 HX CT
  go_wp2_with fail
  refine (unhide HR _ _ ((unhide HV).next (unhide HX2).below)).mono ?_
  rintro e w3 ⟨a3, n3, c3, rfl, HD3, hb3⟩
  have X3 := (unhide HX2).next hb3
  have cd3 := X3.d.c
  have fd3 := X3.d.f
  have hk3 := X3.d.lt
  have X4 := X3.next (allocB _ (.cells #[.slice a3 n3 c3] 24))
  have D4 := (unhide HV).next X4.below
  have cd4 := X4.d.c
  have HX4 := hide X4
  have HD4 := hide D4
  clear hb3 X3 X4 D4 HD3 HX2 HR cd cd3 fd3 hk3 HV
  go_wp2_with fail
  generalize w3.alloc (.cells #[.slice a3 n3 c3] 24) = W4 at *
  refine (unhide HW _ _ (unhide HD4)).mono ?_
  rintro e w5 ⟨a5, n5, c5, rfl, HD5, hb5⟩
  have X5 := (unhide HX4).next hb5
  have cd5 := X5.d.c
  have fd5 := X5.d.f
  have X6 := X5.setd (.slice a5 n5 c5)
  have cr6 := X6.r.c
  have fr6 := X6.r.f
  have HF := hide (X6.below.setCell (p := ⟨w.heap.size + 1, 0, none⟩) (by show w.heap.size ≤ w.heap.size + 1; omega) (.slice none 0 0))
  have HCw := hide (X6.r.set (.slice none 0 0)).c
  clear hb5 X5 X6 HX4 HD4 HD5 HW cd4
  go_wp2_with fail
  exact bodyPost_ret (v := .tuple #[.agg #[.slice none 0 0], .int .i64 E2]) (by simp [results, Tryz.results11, go_sem, unhide HCw]) rfl ⟨_, _, _, rfl, hide (DiskV.nil _), unhide HF⟩

set_option maxRecDepth 10000 in
set_option maxHeartbeats 2000000 in
theorem rrem_not_ok (fs d1 d2 d3 : List DF) (ep E1 E3 : Int) (hM : zMakeE ep 0 = 0) (h1 : E1 ≠ 0) (R1 : GivesD 38 (fun x => #[x, .string ⟨epochN.toArray⟩]) fs d1 E1) (W1 : GivesD 39 (fun x => #[x, .string ⟨epochN.toArray⟩, .string ⟨(zText (zMake ep 0)).toArray⟩]) fs d2 0) (S1 : GivesD 40 (fun x => #[x, .string ⟨epochN.toArray⟩]) d2 d3 E3) : GivesE 11 (fun x => #[x, .int .i64 ep]) fs d3 E3 := by
  intro v w ht hv
  have CM := fun W => rmake_any ep 0 W
  rw [hM] at CM
  have CT := fun W (_ : Below w.heap.size w W) => rtext_any (zMake ep 0) (by have := zMake_top ep; omega) W
  have h1' : (E1 == 0) = false := by simpa using h1
  simp only [show epochN.toArray = #[101, 112, 111, 99, 104] from rfl] at R1 W1 S1
  generalize zTextE (zMake ep 0) = te at *
  generalize zText (zMake ep 0) = T at *
  generalize zMake ep 0 = z at *
  have HV := hide hv
  have HR := hide R1
  have HW := hide W1
  have HS := hide S1
  obtain ⟨a, n, c, rfl⟩ := disk_slice hv
  clear hv hM R1 W1 S1 h1 ht
  go_enter Tryz.func11, Tryz.ntmps11
  go_wp2_with fail
  have X := RBox.start w (.slice a n c)
  generalize (w.alloc (.cells #[.slice a n c] 24)).alloc (.cells #[.slice none 0 0] 24) = W0 at *
  have HX := hide X
  clear X
  refine (CM _).mono ?_
  rintro e w1 ⟨rfl, rfl⟩
  clear CM
  go_wp2_with fail
  refine (CT _ (unhide HX).below).mono ?_
  rintro e w2 ⟨rfl, hb2⟩
  have X2 := (unhide HX).next hb2
  have cd := X2.d.c
  have HX2 := hide X2
  clear hb2 X2 HX CT
  go_wp2_with fail
  refine (unhide HR _ _ ((unhide HV).next (unhide HX2).below)).mono ?_
  rintro e w3 ⟨a3, n3, c3, rfl, HD3, hb3⟩
  have X3 := (unhide HX2).next hb3
  have cd3 := X3.d.c
  have fd3 := X3.d.f
  have hk3 := X3.d.lt
  have X4 := X3.next (allocB _ (.cells #[.slice a3 n3 c3] 24))
  have D4 := (unhide HV).next X4.below
  have cd4 := X4.d.c
  have HX4 := hide X4
  have HD4 := hide D4
  clear hb3 X3 X4 D4 HD3 HX2 HR cd cd3 fd3 hk3 HV
  go_wp2_with fail
  generalize w3.alloc (.cells #[.slice a3 n3 c3] 24) = W4 at *
  refine (unhide HW _ _ (unhide HD4)).mono ?_
  rintro e w5 ⟨a5, n5, c5, rfl, HD5, hb5⟩
  have X5 := (unhide HX4).next hb5
  have cd5 := X5.d.c
  have fd5 := X5.d.f
  have X6 := X5.setd (.slice a5 n5 c5)
  have D6 := disk_box (unhide HD5) X5.d (.slice a5 n5 c5)
  have cd6 := X6.d.c
  have HX6 := hide X6
  have HD6 := hide D6
  clear hb5 X5 X6 D6 HD5 HX4 HD4 HW cd4
  go_wp2_with fail
  refine (unhide HS _ _ (unhide HD6)).mono ?_
  rintro e w7 ⟨a7, n7, c7, rfl, HD7, hb7⟩
  have X7 := (unhide HX6).next hb7
  have cr7 := X7.r.c
  have fr7 := X7.r.f
  have HF := hide (And.intro (X7.below.setCell (p := ⟨w.heap.size + 1, 0, none⟩) (by show w.heap.size ≤ w.heap.size + 1; omega) (.slice a7 n7 c7)) (disk_box (unhide HD7) X7.r (.slice a7 n7 c7)))
  clear hb7 X7 HX6 HD6 HD7 HS
  go_wp2_with fail
  exact bodyPost_ret (v := .tuple #[.agg #[.slice a7 n7 c7], .int .i64 E3]) (by simp [results, Tryz.results11, go_sem, cr7]) rfl ⟨_, _, _, rfl, hide (unhide HF).2, (unhide HF).1⟩
end Go.Proofs.YtaoflcmeiaffjaaGreatDoor

namespace Go.Proofs.YtaoflcmeiaffjaaGreatDoor
open Go.RowKit

theorem both_sync2 (fs : List DF) (name : List UInt8) (hs : Slim fs) (hl : fs.length ≤ 140737488355328) : ∃ E d, d.length ≤ 1000000 ∧ (E ≠ 0 → d = []) ∧ (E = 0 → GoodD d) ∧ GivesD 35 (fun x => #[x, .string ⟨name.toArray⟩]) fs d E ∧ GivesD 40 (fun x => #[x, .string ⟨name.toArray⟩]) fs d E := by
  rcases loc_cases fs name with ⟨E, h⟩ | ⟨g, A, f, B, T⟩
  · have h0 : E ≠ 0 := by rcases h with ⟨_, rfl⟩ | ⟨_, _, rfl⟩ <;> decide
    exact ⟨E, [], by simp, fun _ => rfl, fun h => absurd h h0, dgives_no fun v W hv => sync_no v fs name E W hv hs h, fun v W hv => rsync_walk v fs name [] E W hv fun W' hv' => turn_no (rturn_no v fs name _ _ E W' hv' hs hl h)⟩
  · have hfl := fileOk_len (T.ok g)
    have g' : GoodD (A ++ ⟨f.n, f.s ++ f.t, []⟩ :: B) := good_set (f := f) (by rw [← T.eq]; exact g) rfl (by simp; omega)
    refine ⟨0, A ++ ⟨f.n, f.s ++ f.t, []⟩ :: B, by have := g'.few; omega, fun h => absurd rfl h, fun _ => g', gives_own fun v W hv => sync_there v fs A B f name W hv hs g T, fun v W hv => rsync_walk v fs name _ 0 W hv fun W' hv' => ?_⟩
    refine (rturn_there v fs A B f ⟨f.n, f.s ++ f.t, []⟩ name _ #[] 0 W' hv' hs g T enter_sync1 (fun V _ => rsync1_any f V hfl)).mono fun e w' ⟨v', he, _, hd, hb⟩ => ?_
    obtain ⟨a, n, c, rfl⟩ := disk_slice (hd rfl)
    exact ⟨a, n, c, he, hd rfl, hb⟩
theorem both_remove2 (fs : List DF) (name : List UInt8) (hs : Slim fs) (hl : fs.length ≤ 140737488355328) : ∃ E d, (E = 0 → GoodD d) ∧ GivesD 33 (fun x => #[x, .string ⟨name.toArray⟩]) fs d E ∧ GivesD 38 (fun x => #[x, .string ⟨name.toArray⟩]) fs d E := by
  rcases loc_cases fs name with ⟨E, h⟩ | ⟨g, A, f, B, T⟩
  · have h0 : E ≠ 0 := by rcases h with ⟨_, rfl⟩ | ⟨_, _, rfl⟩ <;> decide
    obtain ⟨E', d, _, G1, G2⟩ := both_remove fs name hs hl
    have h' := h
    rcases h with ⟨hg, rfl⟩ | ⟨g, ⟨A, B, G⟩, rfl⟩
    · exact ⟨3, [], fun h => absurd h h0, dgives_no fun v W hv => remove_no v fs name 3 W hv hs h', dgives_no fun v W hv => rremove_bad v fs name W hv hs hl hg⟩
    · refine ⟨7, [], fun h => absurd h h0, dgives_no fun v W hv => remove_no v fs name 7 W hv hs h', fun v W hv => ?_⟩
      have := rremove_yes v fs name W hv hs g
      simp only [remE, remD, G.rest, if_true] at this
      refine this.mono fun e w' ⟨v', he, hd, hb⟩ => ?_
      obtain ⟨a, n, c, rfl⟩ := disk_slice hd
      exact ⟨a, n, c, he, hd, hb⟩
  · have hne : ¬ ((A ++ B).length = fs.length) := by rw [T.eq]; simp
    refine ⟨0, A ++ B, fun _ => good_del (f := f) (by rw [← T.eq]; exact g), gives_own fun v W hv => remove_there v fs A B f name W hv hs g T, gives_disk fun v W hv => ?_⟩
    have := rremove_yes v fs name W hv hs g
    simp only [remE, remD, T.rest, if_neg hne] at this
    exact this
theorem both_append2 (fs : List DF) (t : WTxn) (safe : Bool) (hs : Slim fs) (hl : fs.length ≤ 140737488355328) (hzb : t.z ≤ 9223372036854775807) (hp : t.p.length ≤ 1048576) (hd : t.d.length ≤ 140737488355328) :
    ∃ E d, d.length ≤ 1000000 ∧ (E ≠ 0 → d = []) ∧ (E = 0 → GoodD d) ∧ GivesD 97 (fun x => #[x, txnV t, .bool safe]) fs d E ∧ GivesD 54 (fun x => #[x, txnV t, .bool safe]) fs d E := by
  by_cases hg : gdE t = 0
  · have hr := recL_le hg
    obtain ⟨E, d1, hd1, h0, h1, W1, W2⟩ := both_write2 fs logN (recL t) hs hl (by decide) (by omega)
    by_cases hE : E = 0
    · subst hE
      cases safe with
      | false => exact ⟨0, d1, hd1, fun h => absurd rfl h, h1, wapp_soft fs d1 t hg W1, rapp_soft fs d1 t hg W2⟩
      | true =>
        obtain ⟨E2, d2, hd2, k0, k1, S1, S2⟩ := both_sync2 d1 logN (good_slim (h1 rfl)) (by omega)
        exact ⟨E2, d2, hd2, k0, k1, wapp_safe fs d1 d2 t E2 hg W1 S1, rapp_safe fs d1 d2 t E2 hg W2 S2⟩
    · obtain rfl := h0 hE
      exact ⟨E, [], by simp, fun _ => rfl, fun h => absurd h hE, wapp_err fs [] t safe E hg W1 hE, rapp_err fs [] t safe E hg W2 hE⟩
  · exact ⟨gdE t, [], by simp, fun _ => rfl, fun h => absurd h hg, wapp_no fs t safe hg hd, rapp_no fs t safe hg hzb hp hd⟩
theorem both_keep2 (fs : List DF) (z : Int) (hs : Slim fs) (hl : fs.length ≤ 140737488355328) : ∃ E d, (E = 0 → GoodD d) ∧ GivesD 65 (fun x => #[x, .int .i64 z]) fs d E ∧ GivesD 67 (fun x => #[x, .int .i64 z]) fs d E := by
  rcases rec_cases fs with ⟨E, h⟩ | ⟨ts, A, B, h⟩
  · exact ⟨E, [], fun h0 => absurd h0 (by simpa using recNo_ne h), keep_no hs h z, rkeep_no fs z E (rrecover_no hs hl h) (by simpa using recNo_ne h)⟩
  · exact ⟨0, _, fun _ => h.after (us := keepL z ts) (Nat.le_trans (keepL_take z ts).2 h.short), keep_yes h z, rkeep_yes h z⟩
theorem gives_e {f : FuncId} {args : Value → Array Value} {fs d : List DF} {E : Int} (h : GivesD f args fs d E) : GivesE f args fs d E := fun v W _ hv => h v W hv
theorem both_rem (fs : List DF) (ep : Int) (hs : Slim fs) (hl : fs.length ≤ 140737488355328) : ∃ E d, d.length ≤ 1000000 ∧ (E ≠ 0 → d = []) ∧ (E = 0 → GoodD d) ∧ GivesE 10 (fun x => #[x, .int .i64 ep]) fs d E ∧ GivesE 11 (fun x => #[x, .int .i64 ep]) fs d E := by
  by_cases hM : zMakeE ep 0 = 0
  · have hT : (zText (zMake ep 0)).length ≤ 140737488355328 := by have := zText_len (zMake ep 0); omega
    obtain ⟨E1, d1, h1, R1, R2⟩ := both_remove2 fs epochN hs hl
    by_cases e1 : E1 = 0
    · subst e1
      obtain ⟨E2, d2, hd2, h0, h2, W1, W2⟩ := both_write2 d1 epochN (zText (zMake ep 0)) (good_slim (h1 rfl)) (by have := (h1 rfl).few; omega) (by decide) hT
      by_cases e2 : E2 = 0
      · subst e2
        obtain ⟨E3, d3, hd3, k0, k1, S1, S2⟩ := both_sync2 d2 epochN (good_slim (h2 rfl)) (by omega)
        exact ⟨E3, d3, hd3, k0, k1, srem_yes_ok fs d1 d2 d3 ep E3 hM R1 W1 S1, rrem_yes_ok fs d1 d2 d3 ep E3 hM R2 W2 S2⟩
      · exact ⟨E2, [], by simp, fun _ => rfl, fun h => absurd h e2, srem_yes_err fs d1 d2 ep E2 hM e2 R1 W1, rrem_yes_err fs d1 d2 ep E2 hM e2 R2 W2⟩
    · obtain ⟨E2, d2, hd2, h0, h2, W1, W2⟩ := both_write2 fs epochN (zText (zMake ep 0)) hs hl (by decide) hT
      by_cases e2 : E2 = 0
      · subst e2
        obtain ⟨E3, d3, hd3, k0, k1, S1, S2⟩ := both_sync2 d2 epochN (good_slim (h2 rfl)) (by omega)
        exact ⟨E3, d3, hd3, k0, k1, srem_not_ok fs d1 d2 d3 ep E1 E3 hM e1 R1 W1 S1, rrem_not_ok fs d1 d2 d3 ep E1 E3 hM e1 R2 W2 S2⟩
      · exact ⟨E2, [], by simp, fun _ => rfl, fun h => absurd h e2, srem_not_err fs d1 d2 ep E1 E2 hM e1 e2 R1 W1, rrem_not_err fs d1 d2 ep E1 E2 hM e1 e2 R2 W2⟩
  · exact ⟨zMakeE ep 0, [], by simp, fun _ => rfl, fun h => absurd h hM, srem_no fs ep hM, rrem_no fs ep hM⟩

end Go.Proofs.YtaoflcmeiaffjaaGreatDoor
