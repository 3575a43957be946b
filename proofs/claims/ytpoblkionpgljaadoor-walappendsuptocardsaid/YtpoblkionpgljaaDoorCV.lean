/-
  That wal.Append and aviaryref.Append answer alike; aviarylaw.WalAppends returns true: the walk.
-/
import Derived.Test.YtpoblkionpgljaaDoorCF
import Derived.Test.YtpoblkionpgljaaDoorMK
import Derived.Test.YtpoblkionpgljaaDoorMM
import Derived.Deep.CutRange
namespace Go.Proofs.YtpoblkionpgljaaDoor
open Go.RowKit

theorem both_append (fs : List DF) (t : WTxn) (safe : Bool) (hs : Slim fs) (hl : fs.length ≤ 140737488355328) (hzb : t.z ≤ 9223372036854775807) (hp : t.p.length ≤ 1048576) (hd : t.d.length ≤ 140737488355328) :
    ∃ E d, d.length ≤ 1000000 ∧ GivesD 14 (fun x => #[x, txnV t, .bool safe]) fs d E ∧ GivesD 16 (fun x => #[x, txnV t, .bool safe]) fs d E := by
  by_cases hg : gdE t = 0
  · have hr := recL_le hg
    obtain ⟨E, d1, hd1, h0, h1, W1, W2⟩ := both_write2 fs logN (recL t) hs hl (by decide) (by omega)
    by_cases hE : E = 0
    · subst hE
      cases safe with
      | false => exact ⟨0, d1, hd1, wapp_soft fs d1 t hg W1, rapp_soft fs d1 t hg W2⟩
      | true =>
        obtain ⟨E2, d2, hd2, S1, S2⟩ := both_sync d1 logN (good_slim (h1 rfl)) (by omega)
        exact ⟨E2, d2, hd2, wapp_safe fs d1 d2 t E2 hg W1 S1, rapp_safe fs d1 d2 t E2 hg W2 S2⟩
    · obtain rfl := h0 hE
      exact ⟨E, [], by simp, wapp_err fs [] t safe E hg W1 hE, rapp_err fs [] t safe E hg W2 hE⟩
  · exact ⟨gdE t, [], by simp, wapp_no fs t safe hg hd, rapp_no fs t safe hg hzb hp hd⟩

/-- a box that was made, and holds the disk d -/
def Boxed1 (W V : World) (q : Nat) (v : Value) (d : List DF) : Prop := Below W.heap.size W V ∧ BoxAt V q v ∧ DiskV V v d
theorem boxed1_new {W V : World} {v : Value} {d : List DF} (hb : Below W.heap.size W V) (hd : DiskV V v d) : Boxed1 W (V.alloc (.cells #[v] 35)) V.heap.size v d :=
  ⟨hb.alloc hb.size _, BoxAt.new V v, hd.alloc _⟩
theorem boxed1_put {W V : World} {v : Value} {d : List DF} {q : Nat} {a : Option Addr} {n c : Nat} (hb : Below W.heap.size W V) (hd : DiskV V v d) (hx : BoxAt V q (.slice a n c)) (hq : W.heap.size ≤ q) : Boxed1 W (V.setCell ⟨q, 0, none⟩ v) q v d :=
  ⟨hb.setCell hq v, hx.set v, disk_box hd hx v⟩
theorem last_open1 (v : Value) (w : World) (hv : LogV w v [tOpen]) :
    Calls Tryd.prog 18 #[v] w fun e w' => e = .returned (.int .i64 1) ∧ w' = w := last_any v [tOpen] w hv

set_option maxRecDepth 10000 in
set_option maxHeartbeats 4000000 in
theorem walAppends_walk (v : Value) (fs : List DF) (t : WTxn) (safe : Bool) (vl : Value) (ts : List WTxn) (w : World) (hv : DiskV w v fs) (hs : Slim fs) (hfl : fs.length * 48 ≤ 140737488355328)
    (hzb : t.z ≤ 9223372036854775807) (hp : t.p.length ≤ 1048576) (hd : t.d.length ≤ 140737488355328) (hvl : LogV w vl ts) (hl : ts.length * 72 ≤ 140737488355328) :
    Calls Tryd.prog 4 #[.agg #[v], txnV t, .bool safe, vl] w fun e w' => e = .returned (.bool true) ∧ Below w.heap.size w w' := by
  have CY : ∀ W, Below w.heap.size w W → Calls Tryd.prog 15 #[.agg #[v]] W fun e w' => ∃ a1 n1 c1, e = .returned (.agg #[.slice a1 n1 c1]) ∧ Hid (DiskV w' (.slice a1 n1 c1) fs) ∧ Below W.heap.size W w' := fun W hW =>
    (rcopy_any v fs W (hv.next hW) hfl).mono fun e w' ⟨v', he, ho, hb⟩ => by
      obtain ⟨a1, n1, c1, rfl⟩ := disk_slice ho.disk
      exact ⟨a1, n1, c1, he, ho.disk, hb⟩
  obtain ⟨E, d, hd1, G1, G2⟩ := both_append fs t safe hs (by omega) hzb hp hd
  have G2' := fun W (hW : Below w.heap.size w W) => G2 v W (hv.next hW)
  have CE := fun v1 v2 W (h : DiskV W v1 d) (h' : DiskV W v2 d) => rsame_any v1 v2 d W hd1 h h'
  have CL := fun v W (h : LogV W v ts) => last_any v ts W h
  have CR := fun v W (h : LogV W v ts) => rlast_any v ts W h
  obtain ⟨a, n, c, rfl⟩ := disk_slice hv
  obtain ⟨al, cl, rfl⟩ := log_slice hvl
  have HV := hide hvl
  have HCY := hide CY
  have HG1 := hide G1
  have HG2 := hide G2'
  have HCE := hide CE
  have HCL := hide CL
  have HCR := hide CR
  have HLn := hide hl
  generalize lastZ ts = LZ at *
  obtain ⟨z, o, s, p, d0, y, u⟩ := t
  unfold txnV at HG1 HG2 ⊢
  clear hv hs hfl hzb hp hd hvl hl CY G1 G2 G2' CE CL CR hd1
  go_enter Tryd.func4, Tryd.ntmps4
  go_wp2_with fail
  have b1 := (Below.refl w.heap.size w).alloc (Nat.le_refl _) (.cells #[.slice a n c] 35)
  have b2 := (Below.refl (w.alloc (.cells #[.slice a n c] 35)).heap.size (w.alloc (.cells #[.slice a n c] 35))).alloc (Nat.le_refl _) (.cells #[.int .i64 z, .int .i64 o, .int .i64 s, .string ⟨p.toArray⟩, .string ⟨d0.toArray⟩, .int .i64 y, .int .i64 u] 29)
  have HB0 := hide (below_next2 b1 b2)
  have HX0 := hide ((BoxAt.new w (.slice a n c)).next b2)
  have hT0 := TAt.new (w.alloc (.cells #[.slice a n c] 35)) ⟨z, o, s, p, d0, y, u⟩
  have hz : (w.alloc (.cells #[.slice a n c] 35)).heap.size = w.heap.size + 1 := by simp
  rw [hz] at hT0
  have HT0 := hide hT0
  clear b1 b2 hT0 hz
  generalize (w.alloc (.cells #[.slice a n c] 35)).alloc (.cells #[.int .i64 z, .int .i64 o, .int .i64 s, .string ⟨p.toArray⟩, .string ⟨d0.toArray⟩, .int .i64 y, .int .i64 u] 29) = W0 at *
  have HT0' : Hid (TAt W0 (w.heap.size + 1) ⟨z, o, s, p, d0, y, u⟩) := HT0
  clear HT0
  have cx := (unhide HX0).c
  have t0 := (unhide HT0').c0
  have t1 := (unhide HT0').c1
  have t2 := (unhide HT0').c2
  have t3 := (unhide HT0').c3
  have t4 := (unhide HT0').c4
  have t5 := (unhide HT0').c5
  have t6 := (unhide HT0').c6
  have hq0 := (unhide HX0).lt
  have hq1 := (unhide HT0').lt
  have hq2 : w.heap.size ≠ W0.heap.size := by omega
  have hq3 : w.heap.size + 1 ≠ W0.heap.size := by omega
  go_cut [9, 10] from 13 (fun t9 t10 wx => ∃ q a3 n3 c3, t9 = .pointer (some ⟨q, 0, none⟩) ∧ t10 = .int .i64 E ∧ Hid (Boxed1 W0 wx q (.slice a3 n3 c3) d))
  case first =>
    clear HG2 HCE HCL HCR HLn HV
    go_region_with (first
      | (go_at_call 15; first
        | (refine (unhide HCY (W0.alloc (.cells #[.slice none 0 0] 35)).drew ((unhide HB0).alloc (unhide HB0).size (.cells #[.slice none 0 0] 35)).drew).mono ?_; rintro e w1 ⟨a1, n1, c1, rfl, HD1, hb1⟩; have hb1' := below_drew hb1; have Y1 := hide ((BoxAt.new W0 (.slice none 0 0)).next hb1'); have cy1 := (unhide Y1).c; have fy1 := (unhide Y1).f; have HB1 := hide (below_next2 ((Below.refl W0.heap.size W0).alloc (Nat.le_refl _) (.cells #[.slice none 0 0] 35)) hb1'); have U1 := (unhide HT0').next (unhide HB1); have g0 := U1.c0; have g1 := U1.c1; have g2 := U1.c2; have g3 := U1.c3; have g4 := U1.c4; have g5 := U1.c5; have g6 := U1.c6; have hz1 := U1.lt; have hz2 : w.heap.size + 1 ≠ w1.heap.size := (by omega); clear U1 hb1 hb1')
        | (refine (unhide HCY W0.drew (unhide HB0).drew).mono ?_; rintro e w1 ⟨a1, n1, c1, rfl, HD1, hb1⟩; have HB1 := hide (below_drew hb1); have U1 := (unhide HT0').next (unhide HB1); have g0 := U1.c0; have g1 := U1.c1; have g2 := U1.c2; have g3 := U1.c3; have g4 := U1.c4; have g5 := U1.c5; have g6 := U1.c6; have hz1 := U1.lt; have hz2 : w.heap.size + 1 ≠ w1.heap.size := (by omega); clear U1 hb1))
      | (go_at_call 14; first
        | (refine (unhide HG1 (.slice a1 n1 c1) (w1.alloc (.cells #[.slice none 0 0] 35)) ((unhide HD1).alloc (.cells #[.slice none 0 0] 35))).mono ?_; rintro e w2 ⟨a2, n2, c2, rfl, HD2, hb2⟩; have Y2 := hide ((BoxAt.new w1 (.slice none 0 0)).next hb2); have cy2 := (unhide Y2).c; have fy2 := (unhide Y2).f; have HB2 := hide (below_next2 (below_next2 (unhide HB1) ((Below.refl w1.heap.size w1).alloc (Nat.le_refl _) (.cells #[.slice none 0 0] 35))) hb2); have hq21 := (unhide HB1).size; clear hb2)
        | (refine (unhide HG1 (.slice a1 n1 c1) w1 (unhide HD1)).mono ?_; rintro e w2 ⟨a2, n2, c2, rfl, HD2, hb2⟩; have HB2 := hide (below_next2 (unhide HB1) hb2); (try (have Y3 := hide ((unhide Y1).next hb2); have cy3 := (unhide Y3).c; have fy3 := (unhide Y3).f)); clear hb2)))
    all_goals go_wp2_with fail
    all_goals go_meet
    all_goals first
      | exact ⟨_, a2, n2, c2, rfl, rfl, hide (boxed1_new (unhide HB2) (unhide HD2))⟩
      | exact ⟨_, a2, n2, c2, rfl, rfl, hide (boxed1_put (unhide HB2) (unhide HD2) (unhide Y2) hq21)⟩
      | exact ⟨_, a2, n2, c2, rfl, rfl, hide (boxed1_put (unhide HB2) (unhide HD2) (unhide Y3) (Nat.le_refl _))⟩
  case rest =>
    obtain ⟨q, a3, n3, c3, rfl, rfl, hcut⟩ := hcut
    have HB3 := hide (below_next2 (unhide HB0) (unhide hcut).1)
    have X3 := (unhide HX0).next (unhide hcut).1
    have T3 := (unhide HT0').next (unhide hcut).1
    have cx3 := X3.c
    have s0 := T3.c0
    have s1 := T3.c1
    have s2 := T3.c2
    have s3 := T3.c3
    have s4 := T3.c4
    have s5 := T3.c5
    have s6 := T3.c6
    have HQ := hide (unhide hcut).2.1
    have HD3 := hide (unhide hcut).2.2
    clear hcut HB0 HX0 HT0' HCY HG1 cx t0 t1 t2 t3 t4 t5 t6 hq0 hq1 hq2 hq3 X3 T3
    go_wp2_with fail
    refine (unhide HG2 _ (unhide HB3)).mono ?_
    rintro e w4 ⟨a4, n4, c4, rfl, HD4, hb4⟩
    have hal := (Below.refl w4.heap.size w4).alloc (Nat.le_refl _) (.cells #[.slice a4 n4 c4] 35)
    have HB4 := hide (below_next2 (below_next2 (unhide HB3) hb4) hal)
    have cq := (((unhide HQ).next hb4).next hal).c
    have cr := (BoxAt.new w4 (.slice a4 n4 c4)).c
    have HD5 := hide (((unhide HD3).next hb4).next hal)
    have HD6 := hide ((unhide HD4).next hal)
    clear hb4 hal HB3 HQ HD3 HD4 HG2 cx3 s0 s1 s2 s3 s4 s5 s6
    go_wp2_with fail
    generalize w4.alloc (.cells #[.slice a4 n4 c4] 35) = W4 at *
    refine (unhide HCE _ _ _ (unhide HD5) (unhide HD6)).mono ?_
    rintro e w5 ⟨rfl, hb5⟩
    have HB5 := hide (below_next2 (unhide HB4) hb5)
    clear hb5 HB4 HD5 HD6 HCE cq cr
    have HV5 := hide ((unhide HV).next (unhide HB5))
    go_wp2_with (at_builtin; refine wpList_copy_log (by rfl) _ _ rfl rfl _ rfl ts (unhide HV5) (unhide HLn) ?_)
    intro v6 w6 ho6 hg6
    obtain ⟨a6, c6, rfl⟩ := ownl_slice ho6
    have hb6 : Below w5.heap.size w5 w6 := (Below.refl _ _).grown hg6 (Nat.le_refl _) (fun k e => by cases e)
    have HB6 := hide (below_next2 (unhide HB5) hb6)
    have HL6 := hide ho6.log
    have HV6 := hide ((unhide HV5).next hb6)
    clear ho6 hg6 hb6 HB5 HV5 HV
    go_wp2_with fail
    refine (unhide HCL _ _ (unhide HL6)).mono ?_
    rintro e w7 ⟨rfl, rfl⟩
    clear HL6 HCL
    go_wp2_with fail
    refine (unhide HCR _ _ (unhide HV6)).mono ?_
    rintro e w8 ⟨rfl, hb8⟩
    have HB8 := hide (below_next2 (unhide HB6) hb8)
    clear hb8 HB6 HV6 HCR
    go_wp2_with fail
    refine (opened_any _).mono ?_
    rintro e w10 ⟨g, rfl, HO, hb10⟩
    have HB10 := hide (below_next2 (unhide HB8) hb10)
    clear hb10 HB8
    go_wp2_with fail
    refine (last_open1 _ _ (unhide HO)).mono ?_
    rintro e w11 ⟨rfl, rfl⟩
    clear HO
    go_wp2_with fail
    go_ret
    exact ⟨rfl, unhide HB10⟩
end Go.Proofs.YtpoblkionpgljaaDoor
