/-
  aviaryref.Follow, where it refuses: the walks.
-/
import Derived.Test.YthkggmmalffcdaaGreatDoorSFQ
import Derived.Test.YthkggmmalffcdaaGreatDoorSFT
namespace Go.Proofs.YthkggmmalffcdaaGreatDoor
open Go.RowKit

set_option maxRecDepth 10000 in
set_option maxHeartbeats 4000000 in
theorem rfol_order (s : Sv) (v : Value) (vl : Value) (l : List WTxn) (epo : Int) (w : World) (hv : SvV w v s) (hvl : LogV w vl l) (hf : Fits s) (hll : l.length ≤ 1000000000) (hk : (comN s.ts l : Int) < s.dn) :
    Calls Tryz.prog 12 #[v, vl, .int .i64 epo] w (GivesZ w 13) := by
  obtain ⟨ad, nd, cd, al, cl, an, cn, ai, ci, aw, cw, rfl, d1, l1, n1, s1, k1⟩ := hv.five
  have CC := hide (fun W (hW : Below w.heap.size w W) => by have h := rcommon_any vl _ l s.ts W (hvl.next hW) (l1.next hW) (by omega) (by have := hf.l; omega); rw [comN_comm] at h; exact h)
  obtain ⟨lb, lc, rfl⟩ := log_slice hvl
  clear hv d1 l1 n1 s1 k1 hvl hf hll
  obtain ⟨up, fs, id, ep, ts, dn, ⟨tz, tns, tss⟩, ws⟩ := s
  simp only at *
  generalize comN ts l = k at *
  go_enter Tryz.func12, Tryz.ntmps12
  go_wp2_with fail
  have X0 := hide (CB.start w up id ep dn tz (.slice ad nd cd) (.slice al ts.length cl) (.slice an tns.length cn) (.slice ai tss.length ci) (.slice aw ws.length cw))
  generalize (w.alloc (.cells #[.bool up, .slice ad nd cd, .int .i64 id, .int .i64 ep, .slice al ts.length cl, .int .i64 dn, .int .i64 tz, .slice an tns.length cn, .slice ai tss.length ci, .slice aw ws.length cw] 34)).alloc (.cells #[.bool false, .slice none 0 0, .int .i64 0, .int .i64 0, .slice none 0 0, .int .i64 0, .int .i64 0, .slice none 0 0, .slice none 0 0, .slice none 0 0] 34) = W0 at *
  refine (unhide CC _ (unhide X0).below).mono ?_
  rintro e w1 ⟨rfl, hb1⟩
  have X1 := hide ((unhide X0).next hb1)
  have x5 := (unhide X1).s.cells.2.2.2.2.2.1
  clear hb1 X0 CC
  obtain ⟨r0, r1, r2, r3, r4, r5, r6, r7, r8, r9⟩ := (unhide X1).r.cells
  have rf0 := (unhide X1).r.froz 0
  have rf1 := (unhide X1).r.froz 1
  have rf2 := (unhide X1).r.froz 2
  have rf3 := (unhide X1).r.froz 3
  have rf4 := (unhide X1).r.froz 4
  have rf5 := (unhide X1).r.froz 5
  have rf6 := (unhide X1).r.froz 6
  have rf7 := (unhide X1).r.froz 7
  have rf8 := (unhide X1).r.froz 8
  have rf9 := (unhide X1).r.froz 9
  go_wp2_with fail
  exact bodyPost_ret (v := .tuple #[.agg #[.bool false, .slice none 0 0, .int .i64 0, .int .i64 0, .slice none 0 0, .int .i64 0, .int .i64 0, .slice none 0 0, .slice none 0 0, .slice none 0 0], .int .i64 13]) (by simp [results, Tryz.results12, go_sem, r0, r1, r2, r3, r4, r5, r6, r7, r8, r9]) rfl (givesZ_of rfl (unhide X1).zero)

set_option maxRecDepth 10000 in
set_option maxHeartbeats 4000000 in
theorem rfol_keep (s : Sv) (v : Value) (vl : Value) (l : List WTxn) (epo : Int) (w : World) (hv : SvV w v s) (hvl : LogV w vl l) (hf : Fits s) (hll : l.length ≤ 1000000000) (hk : ¬ (comN s.ts l : Int) < s.dn) (z E : Int) (d2 : List DF) (hz : FolZ l (comN s.ts l) z) (hE : E ≠ 0) (G : GivesD 33 (fun g => #[g, .int .i64 z]) s.fs d2 E) :
    Calls Tryz.prog 12 #[v, vl, .int .i64 epo] w (GivesZ w E) := by
  obtain ⟨ad, nd, cd, al, cl, an, cn, ai, ci, aw, cw, rfl, d1, l1, n1, s1, k1⟩ := hv.five
  have CC := hide (fun W (hW : Below w.heap.size w W) => by have h := rcommon_any vl _ l s.ts W (hvl.next hW) (l1.next hW) (by omega) (by have := hf.l; omega); rw [comN_comm] at h; exact h)
  have HG := hide (fun W (hW : Below w.heap.size w W) => G _ W (d1.next hW))
  have HLR := hide (fun (j : Nat) (x : WTxn) (hx : l[j]? = some x) W (hW : Below w.heap.size w W) => log_row (hvl.next hW) hx)
  obtain ⟨lb, lc, rfl⟩ := log_slice hvl
  have hne : (E != 0) = true := by simpa using hE
  clear hv d1 l1 n1 s1 k1 hvl hf G hE
  obtain ⟨up, fs, id, ep, ts, dn, ⟨tz, tns, tss⟩, ws⟩ := s
  simp only at *
  go_enter Tryz.func12, Tryz.ntmps12
  go_wp2_with fail
  have X0 := hide (CB.start w up id ep dn tz (.slice ad nd cd) (.slice al ts.length cl) (.slice an tns.length cn) (.slice ai tss.length ci) (.slice aw ws.length cw))
  generalize (w.alloc (.cells #[.bool up, .slice ad nd cd, .int .i64 id, .int .i64 ep, .slice al ts.length cl, .int .i64 dn, .int .i64 tz, .slice an tns.length cn, .slice ai tss.length ci, .slice aw ws.length cw] 34)).alloc (.cells #[.bool false, .slice none 0 0, .int .i64 0, .int .i64 0, .slice none 0 0, .int .i64 0, .int .i64 0, .slice none 0 0, .slice none 0 0, .slice none 0 0] 34) = W0 at *
  refine (unhide CC _ (unhide X0).below).mono ?_
  rintro e w1 ⟨rfl, hb1⟩
  have X1 := hide ((unhide X0).next hb1)
  have x5 := (unhide X1).s.cells.2.2.2.2.2.1
  clear hb1 X0 CC
  have x1 := (unhide X1).s.cells.2.1
  have hkl := (comN_le ts l).2
  generalize comN ts l = k at *
  have hnk : ¬ ((k : Int) < dn) := by omega
  go_upto_if 26 with fail
  go_cut [9] from 14 (fun t9 wx => t9 = .int .i64 z ∧ wx = w1)
  case first =>
    rcases hz with ⟨rfl, rfl⟩ | ⟨x, hk0, hx, rfl⟩
    · go_wp2_with fail
      go_meet
      exact ⟨rfl, rfl⟩
    · obtain ⟨m, rfl⟩ : ∃ m, k = m + 1 := ⟨k - 1, by omega⟩
      simp only [Nat.add_sub_cancel] at hx
      obtain ⟨b, o, c, he, hb, q, hm1, _⟩ := unhide HLR m x hx w1 (unhide X1).below
      simp only [Value.slice.injEq] at he
      obtain ⟨rfl, _, rfl⟩ := he
      have e0 := q.z hx
      generalize x.z = z at *
      have i1 : (m : Int) < (l.length : Int) := by omega
      have i2 : (0 : Int) < ((m + 1 : Nat) : Int) := by omega
      have i3 : IntKind.i64.wrap (((m + 1 : Nat) : Int) - 1) = (m : Int) := by rw [IntKind.wrap_i64]; omega
      have i4 : (((m + 1 : Nat) : Int) - 1) = (m : Int) := by omega
      clear q hx
      go_wp2_with fail
      go_meet
      exact ⟨rfl, rfl⟩
  case rest =>
    obtain ⟨rfl, rfl⟩ := hcut
    clear HLR
    go_wp2_with fail
    refine (unhide HG _ (unhide X1).below).mono ?_
    rintro e w2 ⟨a2, n2, c2, rfl, D2, hb2⟩
    have hal := allocB w2 (.cells #[.slice a2 n2 c2] 24)
    have X2 := hide (((unhide X1).next hb2).next hal)
    have A2 := hide (BoxAt.new w2 (.slice a2 n2 c2))
    have F2 := hide ((unhide D2).next hal)
    have Q2 := hide (show w.heap.size + 2 ≤ w2.heap.size from ((unhide X1).next hb2).lt)
    clear hb2 hal X1 D2 HG x1 x5
    go_upto_region 9 with fail
    generalize w2.heap.size = q2 at *
    generalize w2.alloc (.cells #[.slice a2 n2 c2] 24) = W2 at *
    obtain ⟨r0, r1, r2, r3, r4, r5, r6, r7, r8, r9⟩ := (unhide X2).r.cells
    have rf0 := (unhide X2).r.froz 0
    have rf1 := (unhide X2).r.froz 1
    have rf2 := (unhide X2).r.froz 2
    have rf3 := (unhide X2).r.froz 3
    have rf4 := (unhide X2).r.froz 4
    have rf5 := (unhide X2).r.froz 5
    have rf6 := (unhide X2).r.froz 6
    have rf7 := (unhide X2).r.froz 7
    have rf8 := (unhide X2).r.froz 8
    have rf9 := (unhide X2).r.froz 9
    go_wp2_with fail
    exact bodyPost_ret (v := .tuple #[.agg #[.bool false, .slice none 0 0, .int .i64 0, .int .i64 0, .slice none 0 0, .int .i64 0, .int .i64 0, .slice none 0 0, .slice none 0 0, .slice none 0 0], .int .i64 E]) (by simp [results, Tryz.results12, go_sem, r0, r1, r2, r3, r4, r5, r6, r7, r8, r9]) rfl (givesZ_of rfl (unhide X2).zero)

set_option maxRecDepth 10000 in
set_option maxHeartbeats 4000000 in
theorem rfol_rem (s : Sv) (v : Value) (vl : Value) (l : List WTxn) (epo : Int) (w : World) (hv : SvV w v s) (hvl : LogV w vl l) (hf : Fits s) (hll : l.length ≤ 1000000000) (ht : TabP w) (hk : ¬ (comN s.ts l : Int) < s.dn) (z E : Int) (d2 d3 : List DF) (hz : FolZ l (comN s.ts l) z) (hE : E ≠ 0) (G : GivesD 33 (fun g => #[g, .int .i64 z]) s.fs d2 0) (R : GivesE 34 (fun g => #[g, .int .i64 epo]) d2 d3 E) :
    Calls Tryz.prog 12 #[v, vl, .int .i64 epo] w (GivesZ w E) := by
  obtain ⟨ad, nd, cd, al, cl, an, cn, ai, ci, aw, cw, rfl, d1, l1, n1, s1, k1⟩ := hv.five
  have CC := hide (fun W (hW : Below w.heap.size w W) => by have h := rcommon_any vl _ l s.ts W (hvl.next hW) (l1.next hW) (by omega) (by have := hf.l; omega); rw [comN_comm] at h; exact h)
  have HG := hide (fun W (hW : Below w.heap.size w W) => G _ W (d1.next hW))
  have HLR := hide (fun (j : Nat) (x : WTxn) (hx : l[j]? = some x) W (hW : Below w.heap.size w W) => log_row (hvl.next hW) hx)
  obtain ⟨lb, lc, rfl⟩ := log_slice hvl
  have hne : (E != 0) = true := by simpa using hE
  have HR := hide R
  have HTab := hide (fun W (hW : Below w.heap.size w W) => ht.next hW)
  clear hv d1 l1 n1 s1 k1 hvl hf G hE R ht
  obtain ⟨up, fs, id, ep, ts, dn, ⟨tz, tns, tss⟩, ws⟩ := s
  simp only at *
  go_enter Tryz.func12, Tryz.ntmps12
  go_wp2_with fail
  have X0 := hide (CB.start w up id ep dn tz (.slice ad nd cd) (.slice al ts.length cl) (.slice an tns.length cn) (.slice ai tss.length ci) (.slice aw ws.length cw))
  generalize (w.alloc (.cells #[.bool up, .slice ad nd cd, .int .i64 id, .int .i64 ep, .slice al ts.length cl, .int .i64 dn, .int .i64 tz, .slice an tns.length cn, .slice ai tss.length ci, .slice aw ws.length cw] 34)).alloc (.cells #[.bool false, .slice none 0 0, .int .i64 0, .int .i64 0, .slice none 0 0, .int .i64 0, .int .i64 0, .slice none 0 0, .slice none 0 0, .slice none 0 0] 34) = W0 at *
  refine (unhide CC _ (unhide X0).below).mono ?_
  rintro e w1 ⟨rfl, hb1⟩
  have X1 := hide ((unhide X0).next hb1)
  have x5 := (unhide X1).s.cells.2.2.2.2.2.1
  clear hb1 X0 CC
  have x1 := (unhide X1).s.cells.2.1
  have hkl := (comN_le ts l).2
  generalize comN ts l = k at *
  have hnk : ¬ ((k : Int) < dn) := by omega
  go_upto_if 26 with fail
  go_cut [9] from 14 (fun t9 wx => t9 = .int .i64 z ∧ wx = w1)
  case first =>
    rcases hz with ⟨rfl, rfl⟩ | ⟨x, hk0, hx, rfl⟩
    · go_wp2_with fail
      go_meet
      exact ⟨rfl, rfl⟩
    · obtain ⟨m, rfl⟩ : ∃ m, k = m + 1 := ⟨k - 1, by omega⟩
      simp only [Nat.add_sub_cancel] at hx
      obtain ⟨b, o, c, he, hb, q, hm1, _⟩ := unhide HLR m x hx w1 (unhide X1).below
      simp only [Value.slice.injEq] at he
      obtain ⟨rfl, _, rfl⟩ := he
      have e0 := q.z hx
      generalize x.z = z at *
      have i1 : (m : Int) < (l.length : Int) := by omega
      have i2 : (0 : Int) < ((m + 1 : Nat) : Int) := by omega
      have i3 : IntKind.i64.wrap (((m + 1 : Nat) : Int) - 1) = (m : Int) := by rw [IntKind.wrap_i64]; omega
      have i4 : (((m + 1 : Nat) : Int) - 1) = (m : Int) := by omega
      clear q hx
      go_wp2_with fail
      go_meet
      exact ⟨rfl, rfl⟩
  case rest =>
    obtain ⟨rfl, rfl⟩ := hcut
    clear HLR
    go_wp2_with fail
    refine (unhide HG _ (unhide X1).below).mono ?_
    rintro e w2 ⟨a2, n2, c2, rfl, D2, hb2⟩
    have hal := allocB w2 (.cells #[.slice a2 n2 c2] 24)
    have X2 := hide (((unhide X1).next hb2).next hal)
    have A2 := hide (BoxAt.new w2 (.slice a2 n2 c2))
    have F2 := hide ((unhide D2).next hal)
    have Q2 := hide (show w.heap.size + 2 ≤ w2.heap.size from ((unhide X1).next hb2).lt)
    clear hb2 hal X1 D2 HG x1 x5
    have ca := (unhide A2).c
    have fa := (unhide A2).f
    go_wp2_with fail
    generalize w2.heap.size = q2 at *
    generalize w2.alloc (.cells #[.slice a2 n2 c2] 24) = W2 at *
    refine (unhide HR _ _ (unhide HTab _ (unhide X2).below) (unhide F2)).mono ?_
    rintro e w3 ⟨a3, n3, c3, rfl, D3, hb3⟩
    have X3 := (unhide X2).next hb3
    have A3 := (unhide A2).next hb3
    have ca3 := A3.c
    have fa3 := A3.f
    have Y3 := X3.dput q2 (.slice a3 n3 c3) (by have := unhide Q2; omega)
    have E3 := disk_box (unhide D3) A3 (.slice a3 n3 c3)
    have B3 := A3.set (.slice a3 n3 c3)
    have HX3 := hide Y3
    have HD3 := hide E3
    have HA3 := hide B3
    clear hb3 X2 A2 F2 D3 X3 A3 Y3 E3 B3 HR ca fa
    go_upto_region 12 with fail
    generalize w3.setCell ⟨q2, 0, none⟩ (.slice a3 n3 c3) = W3 at *
    clear ca3 fa3
    obtain ⟨r0, r1, r2, r3, r4, r5, r6, r7, r8, r9⟩ := (unhide HX3).r.cells
    have rf0 := (unhide HX3).r.froz 0
    have rf1 := (unhide HX3).r.froz 1
    have rf2 := (unhide HX3).r.froz 2
    have rf3 := (unhide HX3).r.froz 3
    have rf4 := (unhide HX3).r.froz 4
    have rf5 := (unhide HX3).r.froz 5
    have rf6 := (unhide HX3).r.froz 6
    have rf7 := (unhide HX3).r.froz 7
    have rf8 := (unhide HX3).r.froz 8
    have rf9 := (unhide HX3).r.froz 9
    go_wp2_with fail
    exact bodyPost_ret (v := .tuple #[.agg #[.bool false, .slice none 0 0, .int .i64 0, .int .i64 0, .slice none 0 0, .int .i64 0, .int .i64 0, .slice none 0 0, .slice none 0 0, .slice none 0 0], .int .i64 E]) (by simp [results, Tryz.results12, go_sem, r0, r1, r2, r3, r4, r5, r6, r7, r8, r9]) rfl (givesZ_of rfl (unhide HX3).zero)

end Go.Proofs.YthkggmmalffcdaaGreatDoor
