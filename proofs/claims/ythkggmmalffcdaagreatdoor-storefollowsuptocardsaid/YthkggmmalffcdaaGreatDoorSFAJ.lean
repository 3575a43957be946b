/-
  What aviaryref.Decode answers, for every text; and WireDecodes' walk.
  aviarylaw.opened; aviarylaw.WalScans returns true: the walks.
  That disk.Write and aviaryref.Write answer alike, and what disk is left.
  What aviaryref.Recover answers of every disk; what aviaryref.KeepLog answers.
  What wal.Keep answers: the walks.
  What aviaryref.Remove answers; that Sync, Cut and Remove answer alike: the walks.
  That the program and the document's own answer remember, append, keep, recover and crash alike, and that what comes of it is a good disk.
  That store.Follow and aviaryref.Follow answer alike.
  That an empty disk comes up; aviarylaw.boots and aviarykeep.boots return true: the walks.
-/
import Derived.Test.YthkggmmalffcdaaGreatDoorSFAI
import Derived.Test.YthkggmmalffcdaaGreatDoorSFAG
import Derived.Test.YthkggmmalffcdaaGreatDoorSFAH
import Derived.Test.YthkggmmalffcdaaGreatDoorSFAF
import Derived.Test.YthkggmmalffcdaaGreatDoorSFH
import Derived.Test.YthkggmmalffcdaaGreatDoorSFAA
import Derived.Test.YthkggmmalffcdaaGreatDoorSFZ
import Derived.Test.YthkggmmalffcdaaGreatDoorSFG
import Derived.Test.YthkggmmalffcdaaGreatDoorSFQ
import Derived.Test.YthkggmmalffcdaaGreatDoorSFX
import Derived.Test.YthkggmmalffcdaaGreatDoorSFY
import Derived.Test.YthkggmmalffcdaaGreatDoorSFJ
namespace Go.Proofs.YthkggmmalffcdaaGreatDoor
open Go.RowKit

theorem rdecode_any (s : List UInt8) (w : World) :
    Calls Tryz.prog 166 #[.string ⟨s.toArray⟩] w fun e w' => e = .returned (.tuple #[txnV (decT s), .int .i64 (decN s), .int .i64 (decE s)]) ∧ Below w.heap.size w w' := by
  by_cases h3 : 3 ≤ s.length
  · by_cases hm : s[0] = 84
    · by_cases hl : lenOf s ≤ 1024
      · by_cases hn : lenOf s + 7 ≤ s.length
        · cases hs : sumB s
          · exact rdec_sum s w h3 hm hl hn hs
          · exact rdec_body s w h3 hm hl hn hs
        · exact rdec_short s w h3 hm hl (by omega)
      · exact rdec_long s w h3 hm (by omega)
    · exact rdec_mark s w h3 hm
  · exact rdec_tiny s w (by omega)

end Go.Proofs.YthkggmmalffcdaaGreatDoor

namespace Go.Proofs.YthkggmmalffcdaaGreatDoor
open Go.RowKit
theorem rscan_any {s r : List UInt8} {ts : List WTxn} (S : Scan s ts r) (hs : s.length ≤ 1048576) : GivesL 125 s ts (recsL ts).length := fun W =>
  rscan_of (fun s w _ => rdecode_any s w) s r ts W S hs

end Go.Proofs.YthkggmmalffcdaaGreatDoor

namespace Go.Proofs.YthkggmmalffcdaaGreatDoor
open Go.RowKit

theorem both_write2 (fs : List DF) (name x : List UInt8) (hs : Slim fs) (hl : fs.length ≤ 140737488355328) (hnm : name.length ≤ 140737488355328) (hx : x.length ≤ 140737488355328) :
    ∃ E d, d.length ≤ 1000000 ∧ (E ≠ 0 → d = []) ∧ (E = 0 → GoodD d) ∧ GivesD 71 (fun y => #[y, .string ⟨name.toArray⟩, .string ⟨x.toArray⟩]) fs d E ∧ GivesD 81 (fun y => #[y, .string ⟨name.toArray⟩, .string ⟨x.toArray⟩]) fs d E := by
  rcases write_cases fs name x with ⟨E, h0, h⟩ | ⟨g, A, f, B, T, hfit⟩ | ⟨g, hn, hl16, ⟨A, B, G⟩, hfit⟩
  · refine ⟨E, [], by simp, fun _ => rfl, fun h => absurd h h0, dgives_no fun v W hv => write_no v fs name x E W hv hs hnm hx h, dgives_no fun v W hv => ?_⟩
    rcases h with h | h | ⟨g, hn, h16, ⟨A, B, G⟩, rfl⟩ | ⟨g, hn, ⟨A, f, B, T, hlong⟩, rfl⟩ | ⟨g, hn, hl16, ⟨A, B, G⟩, hlong, rfl⟩
    · exact rwrite_no1 v fs name x E W hv hs hl hnm (.inl h)
    · exact rwrite_no1 v fs name x E W hv hs hl hnm (.inr h)
    · refine (rwrite_new v fs A B name x W hv hs g hn G hx).mono fun e w' ⟨v', E', he, h1, _, _, hb⟩ => ?_
      obtain ⟨rfl, rfl⟩ := h1 (by omega)
      exact ⟨he, hb⟩
    · refine (rwrite_there v fs A B f name x W hv hs g T hx).mono fun e w' ⟨v', E', he, h1, _, hb⟩ => ?_
      obtain ⟨rfl, rfl⟩ := h1 hlong
      exact ⟨he, hb⟩
    · refine (rwrite_new v fs A B name x W hv hs g hn G hx).mono fun e w' ⟨v', E', he, _, h1, _, hb⟩ => ?_
      obtain ⟨rfl, rfl⟩ := h1 hl16 hlong
      exact ⟨he, hb⟩
  · have g' : GoodD (A ++ ⟨f.n, f.s, f.t ++ x⟩ :: B) := good_set (f := f) (by rw [← T.eq]; exact g) rfl (by simp; omega)
    refine ⟨0, A ++ ⟨f.n, f.s, f.t ++ x⟩ :: B, by have := g'.few; omega, fun h => absurd rfl h, fun _ => g', gives_own fun v W hv => write_there v fs A B f name x W hv hs g T hfit, gives_disk fun v W hv => ?_⟩
    refine (rwrite_there v fs A B f name x W hv hs g T hx).mono fun e w' ⟨v', E', he, _, h1, hb⟩ => ?_
    obtain ⟨rfl, h2⟩ := h1 hfit
    exact ⟨v', he, h2, hb⟩
  · have g' : GoodD (A ++ ⟨name, [], x⟩ :: B) := good_ins g G hn hl16 rfl (by simpa using hfit)
    refine ⟨0, A ++ ⟨name, [], x⟩ :: B, by have := g'.few; omega, fun h => absurd rfl h, fun _ => g', gives_own fun v W hv => write_new v fs A B name x W hv hs g hn hl16 G hfit, gives_disk fun v W hv => ?_⟩
    refine (rwrite_new v fs A B name x W hv hs g hn G hx).mono fun e w' ⟨v', E', he, _, _, h1, hb⟩ => ?_
    obtain ⟨rfl, h2⟩ := h1 hl16 hfit
    exact ⟨v', he, h2, hb⟩
end Go.Proofs.YthkggmmalffcdaaGreatDoor

namespace Go.Proofs.YthkggmmalffcdaaGreatDoor
open Go.RowKit

theorem rcut_there {fs A B : List DF} {f : DF} {name : List UInt8} (k : Nat) (hs : Slim fs) (g : GoodD fs) (T : There fs A f B name) (hk : k ≤ f.s.length + f.t.length) :
    GivesD 126 (fun x => #[x, .string ⟨name.toArray⟩, .int .i64 k]) fs (A ++ ⟨f.n, (f.s ++ f.t).take k, []⟩ :: B) 0 := fun v W hv => by
  have hfl := fileOk_len (T.ok g)
  refine rcut_walk v fs name k _ 0 W hv fun W' q hq hc hv' => ?_
  refine (rturn_there v fs A B f ⟨f.n, (f.s ++ f.t).take k, []⟩ name _ #[.pointer (some ⟨q, 0, none⟩)] 0 W' hv' hs g T enter_cut1 (fun V hV => rcut1_yes f q k V (Nat.lt_of_lt_of_le hq hV.size) ((hV.cell (p := ⟨q, 0, none⟩) hq).trans hc) hfl (by omega))).mono fun e w' ⟨v', he, _, hd, hb⟩ => ?_
  obtain ⟨a, n, c, rfl⟩ := disk_slice (hd rfl)
  exact ⟨a, n, c, he, hd rfl, hb⟩
theorem rrecover_no {fs : List DF} {E : Int} (hs : Slim fs) (hl : fs.length ≤ 140737488355328) (h : RecNo fs E) : GivesW 75 (fun x => #[x]) fs [] [] E := by
  rcases h with ⟨h, rfl⟩ | ⟨g, h16, ⟨A, B, G⟩, rfl⟩
  · exact rrec_bad fs 3 (fun v W hv => rread_no v fs logN 3 W hv hs hl (.inl ⟨h, rfl⟩)) (by decide) (by decide)
  · refine rrec_gap_no fs [] 6 (fun v W hv => rread_no v fs logN 7 W hv hs hl (.inr ⟨g, ⟨A, B, G⟩, rfl⟩)) (dgives_no fun v W hv => ?_) (by decide)
    refine (rwrite_new v fs A B logN [] W hv hs g named_log G (by decide)).mono fun e w' ⟨v', E', he, h1, _, _, hb⟩ => ?_
    obtain ⟨rfl, rfl⟩ := h1 (by omega)
    exact ⟨he, hb⟩
theorem rrecover_yes {fs A B : List DF} {ts : List WTxn} (h : RecYes fs ts A B) : GivesW 75 (fun x => #[x]) fs ts (A ++ logF ts :: B) 0 := by
  have hs := good_slim h.good
  have hl : fs.length ≤ 140737488355328 := by have := h.good.few; omega
  rcases h.old with ⟨h16, G, rfl⟩ | ⟨f, r, T, S⟩
  · refine rrec_gap_yes fs _ (fun v W hv => rread_no v fs logN 7 W hv hs hl (.inr ⟨h.good, ⟨A, B, G⟩, rfl⟩)) (gives_disk fun v W hv => ?_)
    refine (rwrite_new v fs A B logN [] W hv hs h.good named_log G (by decide)).mono fun e w' ⟨v', E', he, _, _, h1, hb⟩ => ?_
    obtain ⟨rfl, h2⟩ := h1 h16 (by decide)
    exact ⟨v', he, h2, hb⟩
  · have hf := fileOk_len (T.ok h.good)
    have hl := S.len
    rw [List.length_append] at hl
    refine rrec_there fs _ (f.s ++ f.t) ts (recsL ts).length (fun v W hv => rread_there v fs A B f logN W hv hs h.good T) (rscan_any S (by rw [List.length_append]; omega)) ?_
    have := rcut_there (recsL ts).length hs h.good T (by omega)
    rw [S.eq, List.take_left, T.nm] at this
    exact this

set_option maxRecDepth 10000 in
set_option maxHeartbeats 1000000 in
theorem rkeep_no (fs : List DF) (z E : Int) (GR : GivesW 75 (fun x => #[x]) fs [] [] E) (hE : E ≠ 0) : GivesD 33 (fun x => #[x, .int .i64 z]) fs [] E := by
  intro v w hv
  have hne : (E != 0) = true := by simpa using hE
  have HV := hide hv
  obtain ⟨a, n, c, rfl⟩ := disk_slice hv
  clear hv hE
  go_enter Tryz.func33, Tryz.ntmps33
  go_wp2_with fail
  have X := hide (RBox.start w (.slice a n c))
  generalize (w.alloc (.cells #[.slice a n c] 24)).alloc (.cells #[.slice none 0 0] 24) = W0 at *
  refine (GR _ _ ((unhide HV).next (unhide X).below)).mono ?_
  rintro e w1 ⟨a1, k1, c1, a2, n2, c2, rfl, _, _, hb1⟩
  have X1 := (unhide X).next hb1
  have cd := X1.d.c
  have fd := X1.d.f
  have X2 := X1.setd (.slice a2 n2 c2)
  have cr := X2.r.c
  have fr := X2.r.f
  have HF := hide (X2.below.setCell (p := ⟨w.heap.size + 1, 0, none⟩) (by show w.heap.size ≤ w.heap.size + 1; omega) (.slice none 0 0))
  clear hb1 X X1 X2 GR HV
  go_wp2_with fail
  exact bodyPost_ret (v := .tuple #[.agg #[.slice none 0 0], .int .i64 E]) (by simp [results, Tryz.results33, go_sem, cr]) rfl ⟨_, _, _, rfl, hide (DiskV.nil _), unhide HF⟩

set_option maxRecDepth 10000 in
set_option maxHeartbeats 2000000 in
theorem rkeep_yes {fs A B : List DF} {ts : List WTxn} (h : RecYes fs ts A B) (z : Int) : GivesD 33 (fun x => #[x, .int .i64 z]) fs (A ++ logF (keepL z ts) :: B) 0 := by
  intro v w hv
  have GR := rrecover_yes h
  have g1 := h.after h.short
  have hD : (A ++ logF ts :: B)[A.length]? = some (logF ts) := by simp
  have hset : (A ++ logF ts :: B).set A.length (logF (keepL z ts)) = A ++ logF (keepL z ts) :: B := by simp
  have hDl : (A ++ logF ts :: B).length = (A ++ logF (keepL z ts) :: B).length := by simp
  have CF := fun v W (hW : DiskV W v (A ++ logF ts :: B)) => rfile_there v (A ++ logF ts :: B) A B (logF ts) logN W hW g1.few (h.there ts)
  have CY := fun v W (hW : DiskV W v (A ++ logF ts :: B)) => rcopy_any v (A ++ logF ts :: B) W hW (by have := g1.few; omega)
  simp only [show logN.toArray = #[108, 111, 103] from rfl] at CF
  have hAl : A.length < (A ++ logF ts :: B).length := by simp
  have hfew := g1.few
  have hlen := recsL_ge ts
  have hsh := h.short
  have HKF := hide (keepL_filter (z := z) h.log)
  have HG := hide h.log.good
  generalize A ++ logF ts :: B = D1 at *
  generalize A ++ logF (keepL z ts) :: B = D2 at *
  have HSet := hide hset
  have HD := hide hD
  have HDl := hide hDl
  have HCF := hide CF
  have HCY := hide CY
  have HV := hide hv
  obtain ⟨a, n, c, rfl⟩ := disk_slice hv
  clear hv h g1 hset hD hDl CF CY
  go_enter Tryz.func33, Tryz.ntmps33
  go_wp2_with fail
  have X := hide (RBox.start w (.slice a n c))
  generalize (w.alloc (.cells #[.slice a n c] 24)).alloc (.cells #[.slice none 0 0] 24) = W0 at *
  refine (GR _ _ ((unhide HV).next (unhide X).below)).mono ?_
  rintro e w1 ⟨al, kl, cl, a2, n2, c2, rfl, HL1, HD1, hb1⟩
  obtain ⟨al', cl', he⟩ := log_slice (unhide HL1)
  obtain rfl : kl = ts.length := by simp only [Value.slice.injEq] at he; exact he.2.1
  clear he al' cl'
  have X1 := (unhide X).next hb1
  have cd := X1.d.c
  have fd := X1.d.f
  have HX2 := hide (X1.setd (.slice a2 n2 c2))
  have HD2 := hide (disk_box (unhide HD1) X1.d (.slice a2 n2 c2))
  have HL2 := hide (log_box (unhide HL1) X1.d (.slice a2 n2 c2))
  clear hb1 X X1 GR HV HL1 HD1
  go_wp2_with fail
  generalize w1.setCell ⟨w.heap.size, 0, none⟩ (.slice a2 n2 c2) = W2 at *
  clear cd fd
  go_loopg [8, 26] ts.length (fun kx s8 s26 wr => ∃ (k : Nat) (T : List UInt8), s8 = .string ⟨T.toArray⟩ ∧ s26 = .int .i64 k ∧ k ≤ ts.length ∧ ts.length - k ≤ kx ∧ Hid (recsL ((ts.take k).filter (fun t => decide (t.z ≤ z))) = T ∧ T.length ≤ (recsL (ts.take k)).length) ∧ Hid (Below W2.heap.size W2 wr))
  case atStart => exact ⟨0, [], rfl, rfl, Nat.zero_le _, by omega, hide ⟨rfl, by simp⟩, hide (Below.refl _ _)⟩
  case round =>
    obtain ⟨k, T, rfl, rfl, hk, hkx, HT, HB⟩ := hrel
    by_cases hlt : k < ts.length
    · obtain ⟨t, ht⟩ : ∃ t, ts[k]? = some t := ⟨_, List.getElem?_eq_getElem hlt⟩
      obtain ⟨b, off, cap, he, hb, hr, _, _, _⟩ := log_row ((unhide HL2).next (unhide HB)) ht
      simp only [Value.slice.injEq, true_and] at he
      obtain ⟨rfl, rfl⟩ := he
      have hg := unhide HG t (List.mem_of_getElem? ht)
      have C := fun W => rencode_yes t W hg
      have hTl := recs_take_le ts (k + 1)
      rw [take_more1 ht, recsL_snoc, List.length_append] at hTl
      have hT2 := (unhide HT).2
      have e0 := hr.z ht
      have e1 := hr.o ht
      have e2 := hr.s ht
      have e3 := hr.p ht
      have e4 := hr.d ht
      have e5 := hr.v ht
      have e6 := hr.w ht
      have hlti : (k : Int) < (ts.length : Int) := by omega
      have HB2 := fun o => hide ((unhide HB).alloc (unhide HB).size o)
      have HTk := hide (take_more1 ht)
      by_cases hz : t.z ≤ z
      · have HM := hide (show (ts.take (k + 1)).filter (fun t => decide (t.z ≤ z)) = (ts.take k).filter (fun t => decide (t.z ≤ z)) ++ [t] by rw [take_more1 ht, List.filter_append]; simp [hz])
        obtain ⟨R, hR⟩ : ∃ R, recL t = R := ⟨_, rfl⟩
        rw [hR] at C hTl
        have HRR := hide hR
        have hcl : ¬ 9223372036854775807 < T.length + R.length := by omega
        clear hR hr ht hg hb
        obtain ⟨z1, o, s1, p, d, y, u⟩ := t
        unfold txnV at C
        simp only at e0 e1 e2 e3 e4 e5 e6 hz
        go_wp2_with fail
        refine (C _).mono ?_
        rintro e w7 ⟨rfl, hb7⟩
        have HB7 := hide (below_next2 (unhide (HB2 _)) hb7)
        clear C e0 e1 e2 e3 e4 e5 e6 hb7 HB2
        go_wp2_with fail
        go_roundg (ts.length - (k + 1))
        case measure => omega
        case rel => exact ⟨k + 1, T ++ R, by rw [cat_one], by simp, by omega, Nat.le_refl _, hide ⟨by rw [unhide HM, recsL_snoc, (unhide HT).1, unhide HRR], by rw [unhide HTk, recsL_snoc, List.length_append, List.length_append, unhide HRR]; omega⟩, HB7⟩
      · have HM := hide (show (ts.take (k + 1)).filter (fun t => decide (t.z ≤ z)) = (ts.take k).filter (fun t => decide (t.z ≤ z)) by rw [take_more1 ht, List.filter_append]; simp; omega)
        clear hr ht hg hb C
        obtain ⟨z1, o, s1, p, d, y, u⟩ := t
        simp only at e0 e1 e2 e3 e4 e5 e6 hz
        go_wp2_with fail
        go_roundg (ts.length - (k + 1))
        case measure => omega
        case rel => exact ⟨k + 1, T, rfl, by simp, by omega, Nat.le_refl _, hide ⟨by rw [unhide HM, (unhide HT).1], by rw [unhide HTk, recsL_snoc, List.length_append]; omega⟩, HB2 _⟩
    · obtain rfl : k = ts.length := by omega
      have hki : ¬ ((ts.length : Int) < (ts.length : Int)) := by omega
      have hTK : recsL (keepL z ts) = T := by have := (unhide HT).1; rw [List.take_length, unhide HKF] at this; exact this
      have HTK := hide hTK
      have X3 := (unhide HX2).next (unhide HB)
      have cd3 := X3.d.c
      have HX3 := hide X3
      have HD3 := hide ((unhide HD2).next (unhide HB))
      clear hTK X3 HX2 HD2 HL2 HT HG HKF
      go_wp2_with fail
      refine (unhide HCF _ _ (unhide HD3)).mono ?_
      rintro e w4 ⟨rfl, hb4⟩
      have X4 := (unhide HX3).next hb4
      have cd4 := X4.d.c
      have HX4 := hide X4
      have HD4 := hide ((unhide HD3).next hb4)
      clear hb4 X4 HX3 HD3 HCF cd3
      go_wp2_with fail
      refine (unhide HCY _ _ (unhide HD4)).mono ?_
      rintro e w5 ⟨v5, rfl, ho5, hb5⟩
      obtain ⟨q, cq, rfl, hq, O5⟩ := own_some ho5 (k := A.length) hAl
      have X5 := (unhide HX4).next hb5
      have hx4 := (unhide HX4).r.lt
      have hq0 : q ≠ w.heap.size := by omega
      have hq1 : q ≠ w.heap.size + 1 := by omega
      have cd5 := X5.d.c
      have fd5 := X5.d.f
      have X6 := X5.setd (.slice (some ⟨q, 0, none⟩) D1.length cq)
      have O6 := O5.other (a := ⟨w.heap.size, 0, none⟩) hq0 (.slice (some ⟨q, 0, none⟩) D1.length cq)
      have cd6 := X6.d.c
      have cr6 := X6.r.c
      have fr6 := X6.r.f
      have e0 := O6.c0 (unhide HD)
      have e1 := O6.c1 (unhide HD)
      have e2 := O6.c2 (unhide HD)
      have f0 := O6.frozen (A.length * 3)
      have f1 := O6.frozen (A.length * 3 + 1)
      have f2 := O6.frozen (A.length * 3 + 2)
      have hAi : (A.length : Int) < (D1.length : Int) := by omega
      have O7 := own_put3 O6 (unhide HD) ⟨logN, T, []⟩
      have hTF : (⟨logN, T, []⟩ : DF) = logF (keepL z ts) := by rw [logF, unhide HTK]
      rw [hTF, unhide HSet] at O7
      simp only [logF, unhide HTK] at O7
      have O8 := O7.other (a := ⟨w.heap.size + 1, 0, none⟩) hq1 (.slice (some ⟨q, 0, none⟩) D1.length cq)
      have hB := ((((X6.below.setCell (p := ⟨q, A.length * 3, none⟩) (by show w.heap.size ≤ q; omega) (.string ⟨logN.toArray⟩)).setCell (p := ⟨q, A.length * 3 + 1, none⟩) (by show w.heap.size ≤ q; omega) (.string ⟨T.toArray⟩)).setCell (p := ⟨q, A.length * 3 + 2, none⟩) (by show w.heap.size ≤ q; omega) (.string ⟨([] : List UInt8).toArray⟩)).setCell (p := ⟨w.heap.size + 1, 0, none⟩) (by show w.heap.size ≤ w.heap.size + 1; omega) (.slice (some ⟨q, 0, none⟩) D1.length cq))
      have HO8 := hide O8
      have HBB := hide hB
      clear hb5 X5 HX4 HD4 HCY ho5 O5 O6 O7 O8 X6 cd4 hTF hB
      go_wp2_with fail
      exact bodyPost_ret (v := .tuple #[.agg #[.slice (some ⟨q, 0, none⟩) D1.length cq], .int .i64 0]) (by simp [results, Tryz.results33, go_sem, cr6]) rfl
        ⟨_, _, _, rfl, hide (OwnV.disk (B := 0) (.inr ⟨q, cq, by rw [unhide HDl], Nat.zero_le _, unhide HO8⟩)), unhide HBB⟩
end Go.Proofs.YthkggmmalffcdaaGreatDoor

namespace Go.Proofs.YthkggmmalffcdaaGreatDoor
open Go.RowKit

set_option maxRecDepth 10000 in
set_option maxHeartbeats 1000000 in
theorem wkeep_no (fs : List DF) (z E : Int) (GR : GivesW 63 (fun x => #[x]) fs [] [] E) (hE : E ≠ 0) : GivesD 29 (fun x => #[x, .int .i64 z]) fs [] E := by
  intro v w hv
  have hne : (E != 0) = true := by simpa using hE
  have HV := hide hv
  obtain ⟨a, n, c, rfl⟩ := disk_slice hv
  clear hv hE
  go_enter Tryz.func29, Tryz.ntmps29
  go_wp2_with fail
  have X := hide (RBox.start w (.slice a n c))
  generalize (w.alloc (.cells #[.slice a n c] 24)).alloc (.cells #[.slice none 0 0] 24) = W0 at *
  refine (GR _ _ ((unhide HV).next (unhide X).below)).mono ?_
  rintro e w1 ⟨a1, k1, c1, a2, n2, c2, rfl, _, _, hb1⟩
  have X1 := (unhide X).next hb1
  have hz2 := X1.r.lt
  have hnz : w.heap.size + 1 ≠ w1.heap.size := by omega
  have hal := (Below.refl w1.heap.size w1).alloc (Nat.le_refl _) (.cells #[.slice a2 n2 c2] 24)
  have X2 := X1.next hal
  have cr := X2.r.c
  have fr := X2.r.f
  have hS := X1.below.setCell (p := ⟨w.heap.size + 1, 0, none⟩) (by show w.heap.size ≤ w.heap.size + 1; omega) (.slice none 0 0)
  have HF := hide (hS.alloc (by have := hS.size; exact this) (.cells #[.slice a2 n2 c2] 24))
  have HCw := hide ((X1.r.set (.slice none 0 0)).next ((Below.refl _ _).alloc (Nat.le_refl _) (.cells #[.slice a2 n2 c2] 24))).c
  clear hb1 X X1 X2 hal GR HV hS
  go_wp2_with fail
  exact bodyPost_ret (v := .tuple #[.agg #[.slice none 0 0], .int .i64 E]) (by simp [results, Tryz.results29, go_sem, unhide HCw]) rfl ⟨_, _, _, rfl, hide (DiskV.nil _), unhide HF⟩

set_option maxRecDepth 10000 in
set_option maxHeartbeats 2000000 in
theorem wkeep_yes (fs d1 d2 : List DF) (ts : List WTxn) (z : Int) (N : Nat) (GR : GivesW 63 (fun x => #[x]) fs ts d1 0) (CU : ∀ v W, LogV W v ts → Calls Tryz.prog 67 #[v, .int .i64 z] W fun e w' => e = .returned (.int .i64 N) ∧ Below W.heap.size W w')
    (GC : GivesD 66 (fun x => #[x, .string ⟨logN.toArray⟩, .int .i64 N]) d1 d2 0) : GivesD 29 (fun x => #[x, .int .i64 z]) fs d2 0 := by
  intro v w hv
  simp only [show logN.toArray = #[108, 111, 103] from rfl] at GC
  have HV := hide hv
  have HGC := hide GC
  have HCU := hide CU
  obtain ⟨a, n, c, rfl⟩ := disk_slice hv
  clear hv GC CU
  go_enter Tryz.func29, Tryz.ntmps29
  go_wp2_with fail
  have X := hide (RBox.start w (.slice a n c))
  generalize (w.alloc (.cells #[.slice a n c] 24)).alloc (.cells #[.slice none 0 0] 24) = W0 at *
  refine (GR _ _ ((unhide HV).next (unhide X).below)).mono ?_
  rintro e w1 ⟨a1, k1, c1, a2, n2, c2, rfl, HL1, HD1, hb1⟩
  have X1 := (unhide X).next hb1
  have hal := (Below.refl w1.heap.size w1).alloc (Nat.le_refl _) (.cells #[.slice a2 n2 c2] 24)
  have HX2 := hide (X1.next hal)
  have HY2 := hide (BoxAt.new w1 (.slice a2 n2 c2))
  have HL2 := hide ((unhide HL1).next hal)
  have HD2 := hide ((unhide HD1).next hal)
  clear hb1 X X1 hal GR HV HL1 HD1
  go_wp2_with fail
  generalize w1.alloc (.cells #[.slice a2 n2 c2] 24) = W1 at *
  have cy := (unhide HY2).c
  go_region_with (first
    | (go_at_call 67; refine (unhide HCU _ _ (unhide HL2).drew).mono ?_; rintro e w2 ⟨rfl, hb⟩; have hb' := below_drew hb; have HX3 := hide ((unhide HX2).next hb'); have HD3 := hide ((unhide HD2).next hb'); have cy3 := ((unhide HY2).next hb').c; clear hb hb')
    | (go_at_call 66; refine (unhide HGC _ _ (unhide HD3)).mono ?_; rintro e w3 ⟨a3, n3, c3, rfl, HD4, hb⟩; have X4 := (unhide HX3).next hb; have cr4 := X4.r.c; have fr4 := X4.r.f; have HF := hide (And.intro (X4.below.setCell (p := ⟨w.heap.size + 1, 0, none⟩) (by show w.heap.size ≤ w.heap.size + 1; omega) (.slice a3 n3 c3)) (disk_box (unhide HD4) X4.r (.slice a3 n3 c3))); clear hb X4 HX3 HD3 HD4))
  all_goals go_wp2_with fail
  all_goals exact bodyPost_ret (v := .tuple #[.agg #[.slice a3 n3 c3], .int .i64 0]) (by simp [results, Tryz.results29, go_sem, cr4]) rfl ⟨_, _, _, rfl, hide (unhide HF).2, (unhide HF).1⟩

theorem keep_no {fs : List DF} {E : Int} (hs : Slim fs) (h : RecNo fs E) (z : Int) : GivesD 29 (fun x => #[x, .int .i64 z]) fs [] E :=
  wkeep_no fs z E (recover_no hs h) (by simpa using recNo_ne h)
theorem keep_yes {fs A B : List DF} {ts : List WTxn} (h : RecYes fs ts A B) (z : Int) : GivesD 29 (fun x => #[x, .int .i64 z]) fs (A ++ logF (keepL z ts) :: B) 0 := by
  refine wkeep_yes fs _ _ ts z (recsL (keepL z ts)).length (recover_yes h) (fun v W hv => upTo_any v ts z W hv h.log.good h.short) (gives_own fun v W hv => ?_)
  have g := h.after h.short
  have hk := keepL_take z ts
  have := cut_there v _ A B (logF ts) logN (recsL (keepL z ts)).length W hv (good_slim g) g (h.there ts) (by simp only [logF, List.length_nil, Nat.add_zero]; exact hk.2)
  simp only [logF, List.append_nil, hk.1] at this ⊢
  exact this
end Go.Proofs.YthkggmmalffcdaaGreatDoor

namespace Go.Proofs.YthkggmmalffcdaaGreatDoor
open Go.RowKit

/-- the files of other names -/
def restD (name : List UInt8) (fs : List DF) : List DF := fs.filter fun f => decide (f.n ≠ name)
theorem rest_succ (name : List UInt8) {fs : List DF} {k : Nat} {f : DF} (h : fs[k]? = some f) : restD name (fs.take (k + 1)) = if f.n = name then restD name (fs.take k) else restD name (fs.take k) ++ [f] := by
  obtain ⟨hk, rfl⟩ := List.getElem?_eq_some_iff.1 h
  rw [List.take_succ_eq_append_getElem hk, restD, List.filter_append]
  by_cases e : fs[k].n = name
  · rw [if_pos e]; simp [restD, e]
  · rw [if_neg e]; simp [restD, e]
def remE (name : List UInt8) (fs : List DF) : Int := if (restD name fs).length = fs.length then 7 else 0
def remD (name : List UInt8) (fs : List DF) : List DF := if (restD name fs).length = fs.length then [] else restD name fs
theorem rest_all {name : List UInt8} {l : List DF} (h : ∀ f ∈ l, f.n ≠ name) : restD name l = l := List.filter_eq_self.2 fun f hf => by simpa using h f hf
theorem There.rest {fs A B : List DF} {f : DF} {name : List UInt8} (T : There fs A f B name) : restD name fs = A ++ B := by
  have h1 : restD name A = A := rest_all fun a ha => bl_ne (T.lo a ha)
  have h2 : restD name B = B := rest_all fun b hb => (bl_ne (T.hi b hb)).symm
  rw [T.eq, restD, List.filter_append, List.filter_cons_of_neg (by simp [T.nm])]
  exact congr (congrArg _ h1) h2
theorem Gap.rest {fs A B : List DF} {name : List UInt8} (G : Gap fs A B name) : restD name fs = fs := rest_all fun f hf => by
  rw [G.eq] at hf
  rcases List.mem_append.1 hf with h | h
  · exact bl_ne (G.lo f h)
  · exact (bl_ne (G.hi f h)).symm

set_option maxRecDepth 10000 in
set_option maxHeartbeats 2000000 in
theorem rremove_yes (v : Value) (fs : List DF) (name : List UInt8) (w : World) (hv : DiskV w v fs) (hs : Slim fs) (g : GoodD fs) :
    Calls Tryz.prog 80 #[.agg #[v], .string ⟨name.toArray⟩] w fun e w' => ∃ v', e = .returned (.tuple #[.agg #[v'], .int .i64 (remE name fs)]) ∧ DiskV w' v' (remD name fs) ∧ Below w.heap.size w w' := by
  obtain ⟨i0, hi0, hz0, hz1, hz2⟩ := info_file
  have C := fun W (hW : Below w.heap.size w W) => rdgood_any _ fs W (hv.next hW) hs (by have := g.few; omega)
  rw [goodD_true.2 g] at C
  have hfew := g.few
  have HG := hide g
  obtain ⟨a, c, rfl, hrow⟩ : ∃ a c, v = .slice a fs.length c ∧ (0 < fs.length → ∃ b off, a = some ⟨b, off, none⟩ ∧ b < w.heap.size ∧ RowAt w b off (cellsF fs)) := by
    rcases hv with ⟨a, cap, rfl, rfl, _⟩ | ⟨b, off, cap, rfl, _, _, hb, _, hr⟩
    · exact ⟨a, cap, rfl, fun h => by simp at h⟩
    · exact ⟨_, cap, rfl, fun _ => ⟨b, off, rfl, hb, hr⟩⟩
  have HR := hide hrow
  clear hv hs g hrow
  go_enter Tryz.func80, Tryz.ntmps80
  go_wp2_with fail
  have X := Boxes.start w (.slice a fs.length c) 24 24
  refine (C _ X.below).mono ?_
  rintro e w1 ⟨rfl, hb1⟩
  have X1 := (X.next hb1).alloc (.cells #[.slice none 0 0] 24)
  have HX := hide X1
  have cd := X1.cd
  have hz := (X.next hb1).size
  have HO := hide (BoxAt.new w1 (.slice none 0 0))
  have hsz : (w1.alloc (.cells #[.slice none 0 0] 24)).heap.size = w1.heap.size + 1 := by simp
  have HZ := hide hsz
  clear C hb1 X X1 hsz
  go_wp2_with fail
  generalize w1.alloc (.cells #[.slice none 0 0] 24) = W1 at *
  go_loopg [16] fs.length (fun kx s wr => ∃ (k j : Nat) (a1 : Option Addr) (c1 : Nat), s = .int .i64 k ∧ j ≤ k ∧ k ≤ fs.length ∧ fs.length - k ≤ kx ∧ Hid (Boxes w wr (.slice a fs.length c) ∧ BoxAt wr w1.heap.size (.slice a1 j c1) ∧ OwnV wr (w1.heap.size + 1) (.slice a1 j c1) (restD name (fs.take k)) ∧ (restD name (fs.take k)).length = j))
  case atStart => exact ⟨0, 0, none, 0, rfl, Nat.le_refl _, Nat.zero_le _, by omega, hide ⟨unhide HX, unhide HO, .inl ⟨rfl, rfl⟩, rfl⟩⟩
  case round =>
    obtain ⟨k, j, a1, c1, rfl, hjk, hk, hkx, hI⟩ := hrel
    have co := (unhide hI).2.1.c
    have fo := (unhide hI).2.1.f
    have ho1 : w1.heap.size < wr.heap.size := by
      have := (unhide hI).2.1
      unfold BoxAt at this
      exact (Array.getElem?_eq_some_iff.1 this).1
    have cd1 := (unhide hI).1.cd
    by_cases hlt : k < fs.length
    · obtain ⟨b, off, rfl, hb, hr⟩ := unhide HR (by omega)
      obtain ⟨f, hf⟩ : ∃ f, fs[k]? = some f := ⟨_, List.getElem?_eq_getElem hlt⟩
      have r := hr.kept (unhide hI).1.below hb
      have e0 := r.c0 hf
      have e1 := r.c1 hf
      have e2 := r.c2 hf
      have hbw : b < wr.heap.size := Nat.lt_of_lt_of_le hb (unhide hI).1.below.size
      have hlti : (k : Int) < (fs.length : Int) := by omega
      have HM := hide (rest_succ name hf)
      clear r hr hf
      by_cases hn : f.n = name
      · have hal := (Below.refl wr.heap.size wr).alloc (Nat.le_refl _) (.cells #[.string ⟨f.n.toArray⟩, .string ⟨f.s.toArray⟩, .string ⟨f.t.toArray⟩] 73)
        have HI2 : Hid (Boxes w _ _ ∧ BoxAt _ w1.heap.size (.slice a1 j c1) ∧ OwnV _ (w1.heap.size + 1) (.slice a1 j c1) (restD name (fs.take (k + 1))) ∧ (restD name (fs.take (k + 1))).length = j) := hide ⟨(unhide hI).1.next hal, (unhide hI).2.1.next hal, by rw [unhide HM, if_pos hn]; exact (unhide hI).2.2.1.next hal, by rw [unhide HM, if_pos hn]; exact (unhide hI).2.2.2⟩
        clear hal HM
        rw [hn] at e0 HI2
        clear hn
        go_wp2_with fail
        go_roundg (fs.length - (k + 1))
        case measure => omega
        case rel => exact ⟨k + 1, j, a1, c1, rfl, by omega, by omega, Nat.le_refl _, HI2⟩
      · have hn2 : (f.n == name) = false := by simpa using hn
        obtain ⟨M, hM⟩ : ∃ M, restD name (fs.take k) = M := ⟨_, rfl⟩
        rw [hM] at hI HM
        have hlen : M.length = j := (unhide hI).2.2.2
        have hrw : ∀ O1 O2, ∀ W, W = (wr.alloc O1).alloc O2 → W.ownsRow (w1.heap.size + 1) 73 3 (.slice a1 j c1) j (cellsF M) := fun O1 O2 W e => by
          subst e
          have h := (((unhide hI).2.2.1.next ((Below.refl _ _).alloc (Nat.le_refl _) O1)).next ((Below.refl _ _).alloc (Nat.le_refl _) O2)).row
          rwa [hlen] at h
        have HRW := hide hrw
        have hst : ∀ O1 O2 v' w5, w5.ownsRow (w1.heap.size + 1) 73 3 v' (j + 1) (cellsF M ++ fcells f) → ((wr.alloc O1).alloc O2).grownBy w5 (Value.slice a1 j c1).ownBlock →
            ∃ a5 c5, v' = .slice a5 (j + 1) c5 ∧ Boxes w w5 (.slice (some ⟨b, off, none⟩) fs.length c) ∧ BoxAt w5 w1.heap.size (.slice a1 j c1) ∧ OwnV w5 (w1.heap.size + 1) (.slice a5 (j + 1) c5) (M ++ [f]) := fun O1 O2 v' w5 hown hgrow => by
          have e1 : (M ++ [f]).length = j + 1 := by rw [List.length_append, hlen]; rfl
          have ho : OwnV w5 (w1.heap.size + 1) v' (M ++ [f]) := OwnV.of_row (by rw [e1, cellsF_append]; simpa [cellsF] using hown)
          obtain ⟨a5, c5, rfl, _⟩ := own_slice ho
          have hal1 := (Below.refl wr.heap.size wr).alloc (Nat.le_refl _) O1
          have hal2 := (Below.refl (wr.alloc O1).heap.size (wr.alloc O1)).alloc (Nat.le_refl _) O2
          have hbl : ∀ q, (Value.slice a1 j c1).ownBlock = some q → w1.heap.size + 1 ≤ q := fun q e => (own_block (unhide hI).2.2.1 q e).1
          refine ⟨a5, c5, by rw [e1], (((unhide hI).1.next hal1).next hal2).grownO hgrow (fun q e => by have := hbl q e; omega), (((unhide hI).2.1.next hal1).next hal2).grown hgrow (fun e => by have := hbl _ e.symm; omega), by rw [e1] at ho; exact ho⟩
        have HST := hide (fun v' w5 O1 O2 h1 h2 => hst O1 O2 v' w5 h1 h2)
        have hc2 : ∀ O1 : Obj, ∀ i u, (fcells f)[i]? = some u → ((wr.alloc O1).alloc (.cells #[.string ⟨f.n.toArray⟩, .string ⟨f.s.toArray⟩, .string ⟨f.t.toArray⟩] 73)).cell? ((⟨wr.heap.size + 1, 0, none⟩ : Addr).add i) = some u := fun O1 i u hi => by
          rw [Addr.add_lit]
          exact (done_new (wr.alloc O1) f (wr.heap.size + 1) (by simp)).row i u hi
        have HC2 := hide hc2
        have HLEN := hide hlen
        have h4 : Hid (j + 1 ≤ maxLen) := by unfold Hid; simp only [maxLen]; omega
        have h5 : Hid ((j + 1) * 48 ≤ 140737488355328) := by unfold Hid; omega
        have h6 : Hid (∀ O1 O2, w1.heap.size + 1 ≤ ((wr.alloc O1).alloc O2).heap.size) := fun O1 O2 => by simp; omega
        have HN := hide hn
        clear hrw hst hc2 hM hlen hn
        go_wp2_with (at_builtin; refine wpList_append_own _ rfl _ _ 22 rfl (w1.heap.size + 1) 73 i0 _ 3 48 Tryz.underlying22 hi0 hz0 hz1 hz2 rfl (by decide) _ j (cellsF M) rfl (unhide HRW _ _ _ rfl) ⟨wr.heap.size + 1, 0, none⟩ 1 1 (fcells f) rfl rfl (unhide HC2 _) (fcells_one _) (unhide h4) (unhide h5) (unhide h6 _ _) ?_)
        intro v' w5 hown hgrow _
        have Z := unhide HST _ _ _ _ hown hgrow
        obtain ⟨a5, c5, rfl, hX5, hB5, hO5⟩ := Z
        have c5' := hB5.c
        have f5' := hB5.f
        have HZ5 := hide (And.intro (hX5.other hz 0 (.slice a5 (j + 1) c5)) (And.intro (hB5.set (.slice a5 (j + 1) c5)) (And.intro (ownv_other hO5 hB5 (.slice a5 (j + 1) c5)) (show (M ++ [f]).length = j + 1 by rw [List.length_append, unhide HLEN]; rfl))))
        clear hown hgrow hX5 hB5 hO5 HST HRW
        go_wp2_with fail
        go_roundg (fs.length - (k + 1))
        case measure => omega
        case rel => exact ⟨k + 1, j + 1, a5, c5, rfl, by omega, by omega, Nat.le_refl _, by rw [unhide HM, if_neg (unhide HN)]; exact HZ5⟩
    · obtain rfl : k = fs.length := by omega
      have hki : ¬ ((fs.length : Int) < (fs.length : Int)) := by omega
      have cr := (unhide hI).1.cr
      have fr := (unhide hI).1.fr
      have hrl : restD name (fs.take fs.length) = restD name fs := by rw [List.take_length]
      rw [hrl] at hI
      have hlen := (unhide hI).2.2.2
      have HLEN := hide hlen
      by_cases he : j = fs.length
      · have h1 : remE name fs = 7 := by rw [remE, if_pos (by rw [hlen, he])]
        have h2 : remD name fs = [] := by rw [remD, if_pos (by rw [hlen, he])]
        have H12 := hide (And.intro h1 h2)
        subst he
        clear hlen h1 h2
        go_wp2_with fail
        exact bodyPost_ret (v := .tuple #[.agg #[.slice none 0 0], .int .i64 7]) (by simp [results, Tryz.results80, go_sem, cr]) rfl ⟨_, by rw [(unhide H12).1], by rw [(unhide H12).2]; exact DiskV.nil _, (unhide hI).1.below.setCell (by simp) _⟩
      · have h1 : remE name fs = 0 := by rw [remE, if_neg (by rw [hlen]; exact he)]
        have h2 : remD name fs = restD name fs := by rw [remD, if_neg (by rw [hlen]; exact he)]
        have H12 := hide (And.intro h1 h2)
        clear h1 h2
        have hei : ¬ ((j : Int) = (fs.length : Int)) := by omega
        clear hlen
        go_wp2_with fail
        refine bodyPost_ret (v := .tuple #[.agg #[.slice a1 j c1], .int .i64 0]) (by simp [results, Tryz.results80, go_sem, cr]) rfl ⟨_, by rw [(unhide H12).1], ?_, (unhide hI).1.below.setCell (by simp) _⟩
        rw [(unhide H12).2]
        refine OwnV.disk (B := 0) ?_
        rcases (unhide hI).2.2.1 with h | ⟨q, cq, e, h1, h2⟩
        · exact .inl h
        · exact .inr ⟨q, cq, e, Nat.zero_le _, h2.other (by show q ≠ w.heap.size + 1; omega) _⟩

set_option maxRecDepth 10000 in
set_option maxHeartbeats 1000000 in
theorem rremove_bad (v : Value) (fs : List DF) (name : List UInt8) (w : World) (hv : DiskV w v fs) (hs : Slim fs) (hl : fs.length ≤ 140737488355328) (hg : goodD fs = false) :
    Calls Tryz.prog 80 #[.agg #[v], .string ⟨name.toArray⟩] w fun e w' => e = .returned (.tuple #[.agg #[.slice none 0 0], .int .i64 3]) ∧ Below w.heap.size w w' := by
  have CG := fun W (hW : Below w.heap.size w W) => rdgood_any v fs W (hv.next hW) hs hl
  obtain ⟨a, n, c, rfl⟩ := disk_slice hv
  rw [hg] at CG
  clear hv hs hg
  go_enter Tryz.func80, Tryz.ntmps80
  go_wp2_with fail
  have X := Boxes.start w (.slice a n c) 24 24
  refine (CG _ X.below).mono ?_
  rintro e w1 ⟨rfl, hb1⟩
  have X1 := X.next hb1
  have cr := X1.cr
  have fr := X1.fr
  have HB := hide X1.below
  clear CG hb1 X X1
  go_wp2_with fail
  exact bodyPost_ret (v := .tuple #[.agg #[.slice none 0 0], .int .i64 3]) (by simp [results, Tryz.results80, go_sem, cr]) rfl ⟨rfl, (unhide HB).setCell (by simp) _⟩

theorem both_remove (fs : List DF) (name : List UInt8) (hs : Slim fs) (hl : fs.length ≤ 140737488355328) : ∃ E d, d.length ≤ 1000000 ∧ GivesD 70 (fun x => #[x, .string ⟨name.toArray⟩]) fs d E ∧ GivesD 80 (fun x => #[x, .string ⟨name.toArray⟩]) fs d E := by
  rcases loc_cases fs name with ⟨E, h⟩ | ⟨g, A, f, B, T⟩
  · have h' := h
    rcases h with ⟨hg, rfl⟩ | ⟨g, ⟨A, B, G⟩, rfl⟩
    · exact ⟨3, [], by simp, dgives_no fun v W hv => remove_no v fs name 3 W hv hs h', dgives_no fun v W hv => rremove_bad v fs name W hv hs hl hg⟩
    · refine ⟨7, [], by simp, dgives_no fun v W hv => remove_no v fs name 7 W hv hs h', fun v W hv => ?_⟩
      have := rremove_yes v fs name W hv hs g
      simp only [remE, remD, G.rest, if_true] at this
      refine this.mono fun e w' ⟨v', he, hd, hb⟩ => ?_
      obtain ⟨a, n, c, rfl⟩ := disk_slice hd
      exact ⟨a, n, c, he, hd, hb⟩
  · have hne : ¬ ((A ++ B).length = fs.length) := by rw [T.eq]; simp
    refine ⟨0, A ++ B, by have := g.few; rw [T.eq] at this; simp at this ⊢; omega, gives_own fun v W hv => remove_there v fs A B f name W hv hs g T, gives_disk fun v W hv => ?_⟩
    have := rremove_yes v fs name W hv hs g
    simp only [remE, remD, T.rest, if_neg hne] at this
    exact this
end Go.Proofs.YthkggmmalffcdaaGreatDoor

namespace Go.Proofs.YthkggmmalffcdaaGreatDoor
open Go.RowKit

theorem both_sync2 (fs : List DF) (name : List UInt8) (hs : Slim fs) (hl : fs.length ≤ 140737488355328) : ∃ E d, d.length ≤ 1000000 ∧ (E ≠ 0 → d = []) ∧ (E = 0 → GoodD d) ∧ GivesD 72 (fun x => #[x, .string ⟨name.toArray⟩]) fs d E ∧ GivesD 82 (fun x => #[x, .string ⟨name.toArray⟩]) fs d E := by
  rcases loc_cases fs name with ⟨E, h⟩ | ⟨g, A, f, B, T⟩
  · have h0 : E ≠ 0 := by rcases h with ⟨_, rfl⟩ | ⟨_, _, rfl⟩ <;> decide
    exact ⟨E, [], by simp, fun _ => rfl, fun h => absurd h h0, dgives_no fun v W hv => sync_no v fs name E W hv hs h, fun v W hv => rsync_walk v fs name [] E W hv fun W' hv' => turn_no (rturn_no v fs name _ _ E W' hv' hs hl h)⟩
  · have hfl := fileOk_len (T.ok g)
    have g' : GoodD (A ++ ⟨f.n, f.s ++ f.t, []⟩ :: B) := good_set (f := f) (by rw [← T.eq]; exact g) rfl (by simp; omega)
    refine ⟨0, A ++ ⟨f.n, f.s ++ f.t, []⟩ :: B, by have := g'.few; omega, fun h => absurd rfl h, fun _ => g', gives_own fun v W hv => sync_there v fs A B f name W hv hs g T, fun v W hv => rsync_walk v fs name _ 0 W hv fun W' hv' => ?_⟩
    refine (rturn_there v fs A B f ⟨f.n, f.s ++ f.t, []⟩ name _ #[] 0 W' hv' hs g T enter_sync1 (fun V _ => rsync1_any f V hfl)).mono fun e w' ⟨v', he, _, hd, hb⟩ => ?_
    obtain ⟨a, n, c, rfl⟩ := disk_slice (hd rfl)
    exact ⟨a, n, c, he, hd rfl, hb⟩
theorem both_remove2 (fs : List DF) (name : List UInt8) (hs : Slim fs) (hl : fs.length ≤ 140737488355328) : ∃ E d, (E = 0 → GoodD d) ∧ GivesD 70 (fun x => #[x, .string ⟨name.toArray⟩]) fs d E ∧ GivesD 80 (fun x => #[x, .string ⟨name.toArray⟩]) fs d E := by
  rcases loc_cases fs name with ⟨E, h⟩ | ⟨g, A, f, B, T⟩
  · have h0 : E ≠ 0 := by rcases h with ⟨_, rfl⟩ | ⟨_, _, rfl⟩ <;> decide
    obtain ⟨E', d, _, G1, G2⟩ := both_remove fs name hs hl
    have h' := h
    rcases h with ⟨hg, rfl⟩ | ⟨g, ⟨A, B, G⟩, rfl⟩
    · exact ⟨3, [], fun h => absurd h h0, dgives_no fun v W hv => remove_no v fs name 3 W hv hs h', dgives_no fun v W hv => rremove_bad v fs name W hv hs hl hg⟩
    · refine ⟨7, [], fun h => absurd h h0, dgives_no fun v W hv => remove_no v fs name 7 W hv hs h', fun v W hv => ?_⟩
      have := rremove_yes v fs name W hv hs g
      simp only [remE, remD, G.rest, if_true] at this
      refine this.mono fun e w' ⟨v', he, hd, hb⟩ => ?_
      obtain ⟨a, n, c, rfl⟩ := disk_slice hd
      exact ⟨a, n, c, he, hd, hb⟩
  · have hne : ¬ ((A ++ B).length = fs.length) := by rw [T.eq]; simp
    refine ⟨0, A ++ B, fun _ => good_del (f := f) (by rw [← T.eq]; exact g), gives_own fun v W hv => remove_there v fs A B f name W hv hs g T, gives_disk fun v W hv => ?_⟩
    have := rremove_yes v fs name W hv hs g
    simp only [remE, remD, T.rest, if_neg hne] at this
    exact this
theorem both_keep2 (fs : List DF) (z : Int) (hs : Slim fs) (hl : fs.length ≤ 140737488355328) : ∃ E d, (E = 0 → GoodD d) ∧ GivesD 29 (fun x => #[x, .int .i64 z]) fs d E ∧ GivesD 33 (fun x => #[x, .int .i64 z]) fs d E := by
  rcases rec_cases fs with ⟨E, h⟩ | ⟨ts, A, B, h⟩
  · exact ⟨E, [], fun h0 => absurd h0 (by simpa using recNo_ne h), keep_no hs h z, rkeep_no fs z E (rrecover_no hs hl h) (by simpa using recNo_ne h)⟩
  · exact ⟨0, _, fun _ => h.after (us := keepL z ts) (Nat.le_trans (keepL_take z ts).2 h.short), keep_yes h z, rkeep_yes h z⟩
theorem both_rem (fs : List DF) (ep : Int) (hs : Slim fs) (hl : fs.length ≤ 140737488355328) : ∃ E d, d.length ≤ 1000000 ∧ (E ≠ 0 → d = []) ∧ (E = 0 → GoodD d) ∧ GivesE 30 (fun x => #[x, .int .i64 ep]) fs d E ∧ GivesE 34 (fun x => #[x, .int .i64 ep]) fs d E := by
  by_cases hM : zMakeE ep 0 = 0
  · have hT : (zText (zMake ep 0)).length ≤ 140737488355328 := by have := zText_len (zMake ep 0); omega
    obtain ⟨E1, d1, h1, R1, R2⟩ := both_remove2 fs epochN hs hl
    by_cases e1 : E1 = 0
    · subst e1
      obtain ⟨E2, d2, hd2, h0, h2, W1, W2⟩ := both_write2 d1 epochN (zText (zMake ep 0)) (good_slim (h1 rfl)) (by have := (h1 rfl).few; omega) (by decide) hT
      by_cases e2 : E2 = 0
      · subst e2
        obtain ⟨E3, d3, hd3, k0, k1, S1, S2⟩ := both_sync2 d2 epochN (good_slim (h2 rfl)) (by omega)
        exact ⟨E3, d3, hd3, k0, k1, srem_yes_ok fs d1 d2 d3 ep E3 hM R1 W1 S1, rrem_yes_ok fs d1 d2 d3 ep E3 hM R2 W2 S2⟩
      · exact ⟨E2, [], by simp, fun _ => rfl, fun h => absurd h e2, srem_yes_err fs d1 d2 ep E2 hM e2 R1 W1, rrem_yes_err fs d1 d2 ep E2 hM e2 R2 W2⟩
    · obtain ⟨E2, d2, hd2, h0, h2, W1, W2⟩ := both_write2 fs epochN (zText (zMake ep 0)) hs hl (by decide) hT
      by_cases e2 : E2 = 0
      · subst e2
        obtain ⟨E3, d3, hd3, k0, k1, S1, S2⟩ := both_sync2 d2 epochN (good_slim (h2 rfl)) (by omega)
        exact ⟨E3, d3, hd3, k0, k1, srem_not_ok fs d1 d2 d3 ep E1 E3 hM e1 R1 W1 S1, rrem_not_ok fs d1 d2 d3 ep E1 E3 hM e1 R2 W2 S2⟩
      · exact ⟨E2, [], by simp, fun _ => rfl, fun h => absurd h e2, srem_not_err fs d1 d2 ep E1 E2 hM e1 e2 R1 W1, rrem_not_err fs d1 d2 ep E1 E2 hM e1 e2 R2 W2⟩
  · exact ⟨zMakeE ep 0, [], by simp, fun _ => rfl, fun h => absurd h hM, srem_no fs ep hM, rrem_no fs ep hM⟩

end Go.Proofs.YthkggmmalffcdaaGreatDoor

namespace Go.Proofs.YthkggmmalffcdaaGreatDoor
open Go.RowKit

/-- one more is taken, by both -/
def StepB (s : Sv) (x : WTxn) (s' : Sv) : Prop := TookX s x s' ∧ ∀ v W, SvV W v s → Calls Tryz.prog 35 #[v, txnV x, .bool true] W (GivesVF W s' 0)
/-- it is refused, by both -/
def StopB (s : Sv) (x : WTxn) (E : Int) : Prop :=
  (∀ W ad nd cd al cl an cn ai ci aw cw, DiskV W (.slice ad nd cd) s.fs → LogV W (.slice al s.ts.length cl) s.ts → Calls Tryz.prog 31 #[.agg #[.bool s.up, .slice ad nd cd, .int .i64 s.id, .int .i64 s.ep, .slice al s.ts.length cl, .int .i64 s.dn, .int .i64 s.tr.z, .slice an s.tr.ns.length cn, .slice ai s.tr.ss.length ci, .slice aw s.ws.length cw], txnV x, .bool true] W (GivesZ W E)) ∧
  ∀ v W, SvV W v s → Calls Tryz.prog 35 #[v, txnV x, .bool true] W (GivesZ W E)
/-- a transaction of a length that the document's own answer bears -/
def TxSmall (x : WTxn) : Prop := x.z ≤ 9223372036854775807 ∧ x.p.length ≤ 1048576 ∧ x.d.length ≤ 140737488355328
theorem fits_take {s : Sv} (hf : Fits s) {d : List DF} (g : GoodD d) {x : WTxn} (hx : TxSmall x) (hn : s.ts.length ≤ 1000000) : Fits ⟨s.up, d, s.id, s.ep, s.ts ++ [x], s.dn, s.tr, s.ws⟩ :=
  ⟨by have := g.few; simp only; omega, good_slim g, by simp only [List.length_append, List.length_cons, List.length_nil]; omega, fun y hy => by
    rcases List.mem_append.1 hy with h | h
    · exact hf.lf y h
    · simp only [List.mem_cons, List.not_mem_nil, or_false] at h
      subst h
      have := hx.2.1
      exact ⟨by omega, hx.2.2⟩, hf.n, hf.nf, hf.si, hf.wa, hf.wf⟩
theorem step_or (s : Sv) (x : WTxn) (hf : Fits s) (hx : TxSmall x) (hn : s.ts.length ≤ 1000000) :
    (∃ E, E ≠ 0 ∧ StopB s x E) ∨ ∃ d, GoodD d ∧ StepB s x ⟨s.up, d, s.id, s.ep, s.ts ++ [x], s.dn, s.tr, s.ws⟩ := by
  by_cases hz : x.z ≤ lastZ s.ts
  · refine .inl ⟨13, by decide, fun W ad nd cd al cl an cn ai ci aw cw d1 l1 => ext_order s.up s.id s.ep s.dn s.tr.z s.fs s.ts x true _ _ an ai aw _ cn _ ci _ cw W d1 l1 hz, fun v W hv => ?_⟩
    obtain ⟨ad, nd, cd, al, cl, an, cn, ai, ci, aw, cw, rfl, d1, l1, _⟩ := hv.five
    exact rtake_order s.up s.id s.ep s.dn s.tr.z s.fs s.ts x true _ _ an ai aw _ cn _ ci _ cw W d1 l1 hz
  · rcases both_append3 s.fs x true hf.df (by have := hf.d; omega) hx.1 hx.2.1 hx.2.2 with ⟨E, hE, d, G1, G2⟩ | ⟨d, g, G1, G2⟩
    · refine .inl ⟨E, hE, fun W ad nd cd al cl an cn ai ci aw cw d1 l1 => ext_err s.up s.id s.ep s.dn s.tr.z s.fs s.ts x true _ _ an ai aw _ cn _ ci _ cw W d1 l1 hz E d hE G1, fun v W hv => ?_⟩
      obtain ⟨ad, nd, cd, al, cl, an, cn, ai, ci, aw, cw, rfl, d1, l1, _⟩ := hv.five
      exact rtake_err s.up s.id s.ep s.dn s.tr.z s.fs s.ts x true _ _ an ai aw _ cn _ ci _ cw W d1 l1 hz E d hE G2
    · exact .inr ⟨d, g, ⟨hz, by have := hx.2.1; omega, hx.2.2, by omega, d, rfl, G1⟩, fun v W hv => rtakeF_ok s v x true d W hv hf hz (by omega) G2⟩
theorem chain_ex : ∀ (xs : List WTxn) (s0 : Sv), Fits s0 → (∀ x ∈ xs, TxSmall x) → s0.ts.length + xs.length ≤ 900000 → GoodD s0.fs →
    (∃ st : Nat → Sv, st 0 = s0 ∧ (∀ i x, xs[i]? = some x → StepB (st i) x (st (i + 1))) ∧ GoodD (st xs.length).fs ∧ (st xs.length).ts.length = s0.ts.length + xs.length ∧ (st xs.length).tr = s0.tr ∧ (st xs.length).ws = s0.ws) ∨
    ∃ (N : Nat) (st : Nat → Sv) (E : Int), N < xs.length ∧ E ≠ 0 ∧ st 0 = s0 ∧ (∀ i x, i < N → xs[i]? = some x → StepB (st i) x (st (i + 1))) ∧ ∀ x, xs[N]? = some x → StopB (st N) x E
  | [], s0, _, _, _, g0 => .inl ⟨fun _ => s0, rfl, by simp, g0, by simp, rfl, rfl⟩
  | x :: r, s0, hf, hx, hn, _ => by
    simp only [List.length_cons] at hn
    rcases step_or s0 x hf (hx x (by simp)) (by omega) with ⟨E, hE, h⟩ | ⟨d, g, h⟩
    · refine .inr ⟨0, fun _ => s0, E, by simp, hE, rfl, fun i y hi _ => by omega, fun y hy => ?_⟩
      simp at hy
      subst hy
      exact h
    · have hf1 := fits_take hf g (hx x (by simp)) (by omega)
      rcases chain_ex r ⟨s0.up, d, s0.id, s0.ep, s0.ts ++ [x], s0.dn, s0.tr, s0.ws⟩ hf1 (fun y hy => hx y (by simp [hy])) (by simp; omega) g with ⟨st, h0, hs, hg, hl, ht, hw⟩ | ⟨N, st, E, hN, hE, h0, hs, hstop⟩
      · refine .inl ⟨fun i => match i with | 0 => s0 | i + 1 => st i, rfl, fun i y hy => ?_, hg, by simp only [List.length_cons]; rw [hl]; simp; omega, ht, hw⟩
        cases i with
        | zero => simp at hy; subst hy; simp only; rw [h0]; exact h
        | succ i => exact hs i y (by simpa using hy)
      · refine .inr ⟨N + 1, fun i => match i with | 0 => s0 | i + 1 => st i, E, by simp; omega, hE, rfl, fun i y hi hy => ?_, fun y hy => hstop y (by simpa using hy)⟩
        cases i with
        | zero => simp at hy; subst hy; simp only; rw [h0]; exact h
        | succ i => exact hs i y (by omega) (by simpa using hy)
theorem folZ_ex (ts l : List WTxn) : ∃ z, FolZ l (comN ts l) z := by
  have h := (comN_le ts l).2
  by_cases h0 : comN ts l = 0
  · exact ⟨-1, .inl ⟨h0, rfl⟩⟩
  · exact ⟨_, .inr ⟨l[comN ts l - 1]'(by omega), by omega, List.getElem?_eq_getElem (by omega), rfl⟩⟩
theorem GivesZ.vf {w w' : World} {E : Int} {e : Ending} (h : GivesZ w E e w') : GivesVF w sv0 E e w' :=
  ⟨none, 0, 0, none, 0, 0, none, 0, 0, none, 0, 0, none, 0, 0, h.1, hide ⟨SvV.zero _, fresh_none _ _ _⟩, h.2⟩
theorem both_follow (s : Sv) (l : List WTxn) (epo : Int) (hf : Fits s) (hw : Few s) (hll : s.ts.length + l.length ≤ 900000) (hx : ∀ x ∈ l, TxSmall x) : ∃ E s', Few s' ∧
    (∀ v vl W, TabP W → SvV W v s → LogV W vl l → Calls Tryz.prog 11 #[v, vl, .int .i64 epo] W (GivesVF W s' E)) ∧ (∀ v vl W, TabP W → SvV W v s → LogV W vl l → Calls Tryz.prog 12 #[v, vl, .int .i64 epo] W (GivesV W s' E)) := by
  have few0 : Few sv0 := ⟨by decide, by decide, by decide, by decide, by decide⟩
  by_cases hk : (comN s.ts l : Int) < s.dn
  · exact ⟨13, sv0, few0, fun v vl W _ hv hl => (sfol_order s v vl l epo W hv hl hf (by omega) hk).mono fun _ _ h => h.vf, fun v vl W _ hv hl => (rfol_order s v vl l epo W hv hl hf (by omega) hk).mono fun _ _ h => gives_zero h.1 h.2⟩
  obtain ⟨z, hz⟩ := folZ_ex s.ts l
  obtain ⟨E, d2, g2, G1, G2⟩ := both_keep2 s.fs z hf.df (by have := hf.d; omega)
  by_cases hE : E = 0
  · subst hE
    have gd2 := g2 rfl
    obtain ⟨E3, d3, _, _, g3, R1, R2⟩ := both_rem d2 epo (good_slim gd2) (by have := gd2.few; omega)
    by_cases hE3 : E3 = 0
    · subst hE3
      have gd3 := g3 rfl
      have hkl := comN_le s.ts l
      rcases chain_ex (l.drop (comN s.ts l)) ⟨s.up, d3, s.id, epo, s.ts.take (comN s.ts l), s.dn, s.tr, s.ws⟩ (fits_follow hf gd3 epo _) (fun x hxm => hx x (List.mem_of_mem_drop hxm)) (by simp; omega) gd3 with ⟨st, h0, hs, hg, hl, ht, hws⟩ | ⟨N, st, E, hN, hE, h0, hs, hstop⟩
      · refine ⟨0, st (l.drop (comN s.ts l)).length, ⟨by have := hg.few; omega, by rw [hl]; simp; omega, by rw [ht]; exact hw.n, by rw [ht]; exact hw.si, by rw [hws]; exact hw.wa⟩, fun v vl W htb hv hvl => sfol_main s v vl l epo W hv hvl hf (by omega) htb hk z d2 d3 hz G1 R1 gd3 st h0 (fun i x hix => (hs i x hix).1), fun v vl W htb hv hvl => rfol_main s v vl l epo W hv hvl hf (by omega) htb hk z d2 d3 hz G2 R2 st h0 (fun i x hix => (hs i x hix).2)⟩
      · exact ⟨E, sv0, few0, fun v vl W htb hv hvl => (sfol_stop s v vl l epo W hv hvl hf (by omega) htb hk z d2 d3 hz G1 R1 gd3 st h0 N E hE (by simpa using hN) (fun x hix => (hstop x hix).1) (fun i x hi hix => (hs i x hi hix).1)).mono fun _ _ h => h.vf, fun v vl W htb hv hvl => (rfol_stop s v vl l epo W hv hvl hf (by omega) htb hk z d2 d3 hz G2 R2 st h0 N E hE (by simpa using hN) (fun x hix => (hstop x hix).2) (fun i x hi hix => (hs i x hi hix).2)).mono fun _ _ h => gives_zero h.1 h.2⟩
    · exact ⟨E3, sv0, few0, fun v vl W htb hv hl => (sfol_rem s v vl l epo W hv hl hf (by omega) htb hk z E3 d2 d3 hz hE3 G1 R1).mono fun _ _ h => h.vf, fun v vl W htb hv hl => (rfol_rem s v vl l epo W hv hl hf (by omega) htb hk z E3 d2 d3 hz hE3 G2 R2).mono fun _ _ h => gives_zero h.1 h.2⟩
  · exact ⟨E, sv0, few0, fun v vl W _ hv hl => (sfol_keep s v vl l epo W hv hl hf (by omega) hk z E d2 hz hE G1).mono fun _ _ h => h.vf, fun v vl W _ hv hl => (rfol_keep s v vl l epo W hv hl hf (by omega) hk z E d2 hz hE G2).mono fun _ _ h => gives_zero h.1 h.2⟩

end Go.Proofs.YthkggmmalffcdaaGreatDoor

namespace Go.Proofs.YthkggmmalffcdaaGreatDoor
open Go.RowKit
/-- what an empty disk comes up as -/
noncomputable def svUp (id : Int) : Sv := ⟨true, [logF []], id, epochD [], [], 0, trNew, []⟩
theorem rec_empty : GivesW 63 (fun x => #[x]) [] [] [logF []] 0 :=
  wrec_gap_any [] [logF []] 0 (fun v W hv => by
    have h := read_no v [] logN 7 W hv (good_slim good_none) (.inr ⟨good_none, ⟨[], [], gap_none _⟩, rfl⟩)
    exact h)
    (gives_own fun v W hv => write_new v [] [] [] logN [] W hv (good_slim good_none) good_none named_log (by decide) (gap_none _) (by decide))
theorem boot_none (id : Int) (h0 : 0 ≤ id) (h1 : id < 3) (w : World) : Calls Tryz.prog 27 #[.int .i64 id, .agg #[.slice none 0 0]] w (GivesV w (svUp id) 0) :=
  sboot_ok (.slice none 0 0) [] [logF []] [] id w (DiskV.nil w) (by intro f hf; simp at hf) h0 h1 rec_empty

set_option maxRecDepth 10000 in
set_option maxHeartbeats 1000000 in
theorem boots_any (w : World) : Calls Tryz.prog 10 #[] w fun e w' => e = .returned (.bool true) ∧ Below w.heap.size w w' := by
  have C := fun W => boot_none 1 (by omega) (by omega) W
  go_enter Tryz.func10, Tryz.ntmps10
  go_wp2_with fail
  refine (C _).mono ?_
  rintro e w1 ⟨v1, rfl, hv1, hb1⟩
  obtain ⟨ad, nd, cd, al, cl, an, cn, ai, ci, aw, cw, rfl, _, _, _, _, _⟩ := hv1.five
  simp only [show (svUp 1).up = true from rfl, show (svUp 1).id = 1 from rfl]
  generalize (svUp 1).ep = ep
  generalize (svUp 1).ts.length = nl
  generalize (svUp 1).dn = dn
  generalize (svUp 1).tr.z = tz
  generalize (svUp 1).tr.ns.length = nn
  generalize (svUp 1).tr.ss.length = ni
  generalize (svUp 1).ws.length = nw
  have hB := hide (nnext hb1 (allocB _ (.cells #[.bool true, .slice ad nd cd, .int .i64 1, .int .i64 ep, .slice al nl cl, .int .i64 dn, .int .i64 tz, .slice an nn cn, .slice ai ni ci, .slice aw nw cw] 34)))
  clear hv1 C hb1
  go_wp2_with fail
  go_ret
  exact ⟨rfl, unhide hB⟩

end Go.Proofs.YthkggmmalffcdaaGreatDoor
