/-
  aviarykeep.StoreReplays returns true: the walk.
  A list of requests as an argument: opened into a plain list; what its weights say of its lengths.
-/
import Derived.Test.YtoacignhobchbaaGreatDoorSUP
import Derived.Test.YtoacignhobchbaaGreatDoorSUBA
import Derived.Test.YtoacignhobchbaaGreatDoorSUAQ
import Derived.Test.YtoacignhobchbaaGreatDoorSUAT
import Derived.Test.YtoacignhobchbaaGreatDoorSUAU
namespace Go.Proofs.YtoacignhobchbaaGreatDoor
open Go.RowKit

theorem SvV.three {W : World} {s : Sv} {vd vl vn vs vw : Value} (h : SvV W (.agg #[.bool s.up, vd, .int .i64 s.id, .int .i64 s.ep, vl, .int .i64 s.dn, .int .i64 s.tr.z, vn, vs, vw]) s) : SeqV W vn s.tr.ns ∧ SeqV W vs s.tr.ss ∧ SeqV W vw s.ws := by
  obtain ⟨_, _, _, _, _, e, _, _, h3, h4, h5⟩ := h
  simp only [Value.agg.injEq, Array.mk.injEq, List.cons.injEq] at e
  obtain ⟨_, _, _, _, _, _, _, rfl, rfl, rfl, _⟩ := e
  exact ⟨h3, h4, h5⟩
/-- other watches stored into a server's box -/
theorem box_ws {W : World} {q : Nat} {s : Sv} {ws : List Wa} {ad al an ai aw bw : Option Addr} {nd cd nl cl nn cn ni ci nw cw mw dw : Nat} (hx : Box10 W q s.up (.slice ad nd cd) s.id s.ep (.slice al nl cl) s.dn s.tr.z (.slice an nn cn) (.slice ai ni ci) (.slice aw nw cw))
    (hs : SvV W (.agg #[.bool s.up, .slice ad nd cd, .int .i64 s.id, .int .i64 s.ep, .slice al nl cl, .int .i64 s.dn, .int .i64 s.tr.z, .slice an nn cn, .slice ai ni ci, .slice aw nw cw]) s) (hss : s.tr.ss = []) (ho : SeqV W (.slice bw mw dw) ws) :
    Box10 (W.setCell ⟨q, 9, none⟩ (.slice bw mw dw)) q s.up (.slice ad nd cd) s.id s.ep (.slice al nl cl) s.dn s.tr.z (.slice an nn cn) (.slice ai ni ci) (.slice bw mw dw) ∧
    SvV (W.setCell ⟨q, 9, none⟩ (.slice bw mw dw)) (.agg #[.bool s.up, .slice ad nd cd, .int .i64 s.id, .int .i64 s.ep, .slice al nl cl, .int .i64 s.dn, .int .i64 s.tr.z, .slice an nn cn, .slice ai ni ci, .slice bw mw dw]) ⟨s.up, s.fs, s.id, s.ep, s.ts, s.dn, s.tr, ws⟩ := by
  obtain ⟨_, _, _, _, _, e, h1, h2, h3, h4, _⟩ := hs
  simp only [Value.agg.injEq, Array.mk.injEq, List.cons.injEq] at e
  obtain ⟨_, rfl, _, _, rfl, _, _, rfl, rfl, rfl, _⟩ := e
  refine ⟨?_, _, _, _, _, _, rfl, disk_dumb h1 hx.dumb _, log_dumb h2 hx.dumb _, nodes_dumb h3 hx.dumb _, seq_empty hss h4, watches_dumb ho hx.dumb _⟩
  unfold Box10 at hx ⊢
  exact block_set (j := 9) _ hx
theorem notes_le {m : List WTxn} (h : Pld m) {ws : List Wa} (hw : WaS ws) {n : Nat} (hn : n ≤ m.length) : (csP (svW m ws) m n).2.length ≤ ws.length := by
  have hc := chn_at (pld_base h hw n) (pld_chn h ws hn) n (Nat.le_refl _)
  rw [csP_take _ _ (Nat.le_refl _)] at hc
  have := hc.1.2.2
  rw [show (svW m ws).ws = ws from rfl] at this
  omega

/-- a box stays when another one is stored into -/
theorem box_put10 {W : World} {k q : Nat} {up : Bool} {id ep dn z : Int} {vd vl vn vs vw : Value} (h : Box10 W k up vd id ep vl dn z vn vs vw) (hne : k ≠ q) (x0 x1 x2 x3 x4 x5 x6 x7 x8 x9 : Value) : Box10 (put10 W q x0 x1 x2 x3 x4 x5 x6 x7 x8 x9) k up vd id ep vl dn z vn vs vw := by
  unfold put10
  exact (Box10.other (Box10.other (Box10.other (Box10.other (Box10.other (Box10.other (Box10.other (Box10.other (Box10.other (Box10.other h hne) hne) hne) hne) hne) hne) hne) hne) hne) hne)
/-- a server that lay there before the box was made -/
theorem sv_put10 {W V : World} {k : Nat} {up : Bool} {id ep dn z : Int} {ad al an ai aw : Option Addr} {nd cd nl cl nn cn ni ci nw cw : Nat} {v : Value} {s : Sv} (hk : Dumb W k) (hV : SvV V v s) (hle : V.heap.size ≤ k) (h : SvV W v s) :
    SvV (put10 W k (.bool up) (.slice ad nd cd) (.int .i64 id) (.int .i64 ep) (.slice al nl cl) (.int .i64 dn) (.int .i64 z) (.slice an nn cn) (.slice ai ni ci) (.slice aw nw cw)) v s := by
  by_cases h0 : s.tr.ss = []
  · exact put10_sv0 hk h0 h
  · refine put10_sv hk (fun vd vl vn vs vw e => ?_) h
    subst e
    exact away_seq hV.three.2.1 h0 hle
theorem log_put10 {W : World} {k : Nat} {up : Bool} {id ep dn z : Int} {ad al an ai aw : Option Addr} {nd cd nl cl nn cn ni ci nw cw : Nat} {v : Value} {ts : List WTxn} (hk : Dumb W k) (h : LogV W v ts) :
    LogV (put10 W k (.bool up) (.slice ad nd cd) (.int .i64 id) (.int .i64 ep) (.slice al nl cl) (.int .i64 dn) (.int .i64 z) (.slice an nn cn) (.slice ai ni ci) (.slice aw nw cw)) v ts := by
  have one : ∀ {W : World} {j : Nat} {u : Value}, (∀ t, u ≠ .string t) → Dumb W k → LogV W v ts → Dumb (W.setCell ⟨k, j, none⟩ u) k ∧ LogV (W.setCell ⟨k, j, none⟩ u) v ts := fun hu hk h => ⟨hk.set hu, log_dumb h hk _⟩
  obtain ⟨k0, h0⟩ := one (j := 0) (u := .bool up) (by simp) hk h
  obtain ⟨k1, h1⟩ := one (j := 1) (u := .slice ad nd cd) (by simp) k0 h0
  obtain ⟨k2, h2⟩ := one (j := 2) (u := .int .i64 id) (by simp) k1 h1
  obtain ⟨k3, h3⟩ := one (j := 3) (u := .int .i64 ep) (by simp) k2 h2
  obtain ⟨k4, h4⟩ := one (j := 4) (u := .slice al nl cl) (by simp) k3 h3
  obtain ⟨k5, h5⟩ := one (j := 5) (u := .int .i64 dn) (by simp) k4 h4
  obtain ⟨k6, h6⟩ := one (j := 6) (u := .int .i64 z) (by simp) k5 h5
  obtain ⟨k7, h7⟩ := one (j := 7) (u := .slice an nn cn) (by simp) k6 h6
  obtain ⟨k8, h8⟩ := one (j := 8) (u := .slice ai ni ci) (by simp) k7 h7
  exact (one (j := 9) (u := .slice aw nw cw) (by simp) k8 h8).2

set_option maxRecDepth 20000 in
set_option maxHeartbeats 8000000 in
theorem storeReplays_walk (v vw : Value) (rs : List Rq) (ws : List Wa) (n : Int) (w : World) (hv : SeqV w v rs) (hr : ∀ r ∈ rs, r.p.length ≤ 140737488355328 ∧ r.d.length ≤ 140737488355328) (hvw : SeqV w vw ws) (hw : WaS ws) (ht : TabP w) (hn0 : -9223372036854775808 ≤ n) (hn1 : n ≤ 9223372036854775807) :
    Calls Tryz.prog 3 #[v, vw, .int .i64 n] w fun e w' => e = .returned (.bool true) ∧ Below w.heap.size w w' := by
  have C1 := played_any v rs w hv hr ht
  have HK := hide (fun W (hW : Below w.heap.size w W) => kept_any vw ws W (hvw.next hW) (by have := hw.wl; omega))
  have HW := hide hw
  have hwl : ws.length ≤ 4398046511000 := by have := hw.wl; omega
  obtain ⟨ra, rc, rfl⟩ := seq_slice hv
  obtain ⟨xa, xc, rfl⟩ := seq_slice hvw
  clear hv hr hvw hw ht
  go_enter Tryz.func3, Tryz.ntmps3
  go_wp2_with fail
  refine C1.mono ?_
  rintro e w1 ⟨a1, c1, m, rfl, HM, hb1⟩
  have HB1 := hide hb1
  have C2 := filled_any _ m w1 (unhide HM).1 (unhide HM).2.tkn
  have HLM1 := hide (unhide HM).1
  have HP : Hid (Pld m) := hide (unhide HM).2
  have hml : m.length ≤ 40 := (unhide HM).2.tkn.few
  clear C1 hb1 HM
  go_wp2_with fail
  refine C2.mono ?_
  rintro e w2 ⟨v2, rfl, hv2, hb2⟩
  obtain ⟨s, hs⟩ : ∃ s, s = svF m := ⟨_, rfl⟩
  rw [← hs] at hv2
  have HSS : Hid (s.tr.ss = [] ∧ (⟨s.up, s.fs, s.id, s.ep, s.ts, s.dn, s.tr, ws⟩ : Sv) = svW m ws) := hide (by rw [hs]; exact ⟨rfl, rfl⟩)
  obtain ⟨ad, nd, cd, al, cl, an, cn, ai, ci, aw, cw, rfl, q1, q2, q3, q4, q5⟩ := hv2.five
  have hal := allocB w2 (.cells #[.bool s.up, .slice ad nd cd, .int .i64 s.id, .int .i64 s.ep, .slice al s.ts.length cl, .int .i64 s.dn, .int .i64 s.tr.z, .slice an s.tr.ns.length cn, .slice ai s.tr.ss.length ci, .slice aw s.ws.length cw] 36)
  have HB2 := hide (nnext (nnext (unhide HB1) hb2) hal)
  have HLM2 := hide (((unhide HLM1).next hb2).next hal)
  have HX2 := hide (Box10.new w2 s.up s.id s.ep s.dn s.tr.z (.slice ad nd cd) (.slice al s.ts.length cl) (.slice an s.tr.ns.length cn) (.slice ai s.tr.ss.length ci) (.slice aw s.ws.length cw))
  have HSV2 := hide (hv2.next hal)
  have hqw : Hid (w.heap.size ≤ w2.heap.size) := hide (nnext (unhide HB1) hb2).size
  clear hv2 hb2 hal q1 q2 q3 q4 q5 HB1 HLM1 C2 hs
  go_upto_region 3 with fail
  generalize w2.heap.size = q at *
  generalize w2.alloc (.cells #[.bool s.up, .slice ad nd cd, .int .i64 s.id, .int .i64 s.ep, .slice al s.ts.length cl, .int .i64 s.dn, .int .i64 s.tr.z, .slice an s.tr.ns.length cn, .slice ai s.tr.ss.length ci, .slice aw s.ws.length cw] 36) = W2 at *
  go_wp2_with fail
  refine (kboots_any _).mono ?_
  rintro e w3 ⟨rfl, hb3⟩
  have HB3 := hide (nnext (unhide HB2) hb3)
  have HX3 := hide ((unhide HX2).next hb3)
  have HSV3 := hide ((unhide HSV2).next hb3)
  have HLM3 := hide ((unhide HLM2).next hb3)
  have C4 := unhide HK w3 (unhide HB3)
  clear hb3 HB2 HX2 HSV2 HLM2 HK
  go_wp2_with fail
  refine C4.mono ?_
  rintro e w4 ⟨v4, rfl, ho4, hb4⟩
  obtain ⟨bw, dw, rfl, _⟩ := ho4.slice
  have HX4 := (unhide HX3).next hb4
  have HY4 := hide (box_ws HX4 ((unhide HSV3).next hb4) (unhide HSS).1 ho4.seq)
  have HB4 : Hid (Below w.heap.size w (w4.setCell ⟨q, 9, none⟩ (.slice bw ws.length dw))) := hide ((nnext (unhide HB3) hb4).setCell (unhide hqw) _)
  have HLM4 := hide (log_dumb (j := 9) ((unhide HLM3).next hb4) HX4.dumb (.slice bw ws.length dw))
  have xf9 := HX4.froz 9
  have xc9 := HX4.cells.2.2.2.2.2.2.2.2.2
  have hq4 := HX4.lt
  rw [(unhide HSS).2] at HY4
  clear ho4 hb4 HX4 HB3 HX3 HSV3 HLM3 C4
  go_upto_region 6 with fail
  generalize w4.setCell ⟨q, 9, none⟩ (.slice bw ws.length dw) = W4 at *
  clear xf9 xc9 hq4
  have hwm : IntKind.i64.wrap ((m.length : Int) + 1) = (m.length : Int) + 1 := by rw [IntKind.wrap_i64]; omega
  have CP := pick_any n (m.length + 1)
  obtain ⟨nn, hnn⟩ : ∃ nn : Nat, n % ((m.length : Int) + 1) = nn := ⟨(n % ((m.length : Int) + 1)).toNat, by rw [Int.toNat_of_nonneg (Int.emod_nonneg _ (by omega))]⟩
  have hnl : nn ≤ m.length := by have := Int.emod_lt_of_pos n (show (0 : Int) < (m.length : Int) + 1 by omega); omega
  rw [hnn] at CP
  go_wp2_with fail
  refine (CP _ (by omega) (by omega) hn0 hn1).mono ?_
  rintro e w5 ⟨rfl, rfl⟩
  have CA := hide (fun v W (h : SvV W v (svW m ws)) => commit_n (unhide HP) (unhide HW) (Nat.le_refl _) v W h)
  have CB := hide (fun v W (h : SvV W v (svW m ws)) => commit_n (unhide HP) (unhide HW) hnl v W h)
  obtain ⟨N2, hN2, hC3⟩ := commit_rest (unhide HP) (unhide HW) hnl
  have CC := hide hC3
  have hNl := notes_le (unhide HP) (unhide HW) (Nat.le_refl m.length)
  rw [hN2] at CA hNl
  generalize (csP (svW m ws) m nn).2.length = N1 at *
  have hwN : IntKind.i64.wrap ((N1 : Int) + (N2 : Int)) = (N1 : Int) + (N2 : Int) := by rw [IntKind.wrap_i64]; omega
  have HTR : Hid ((svR m ws m.length).tr = trAt m m.length ∧ (svR m ws m.length).dn = m.length ∧ (svR m ws m.length).ws.length ≤ ws.length) := hide (by
    obtain ⟨e1, _, e3, _, _, e6⟩ := svR_at (unhide HP) (unhide HW) (Nat.le_refl m.length)
    exact ⟨e1, e6, e3⟩)
  have hgt : GoodT (trAt m m.length) := pld_good (unhide HP) (Nat.le_refl _)
  obtain ⟨A, hA⟩ : ∃ A, A = svR m ws m.length := ⟨_, rfl⟩
  obtain ⟨B, hB⟩ : ∃ B, B = svR m ws nn := ⟨_, rfl⟩
  obtain ⟨S, hS⟩ : ∃ S, S = svW m ws := ⟨_, rfl⟩
  rw [← hA] at CA CC HTR
  rw [← hB] at CB CC
  rw [← hS] at CA CB HY4
  have HSF : Hid (S.up = s.up ∧ S.id = s.id ∧ S.ep = s.ep ∧ S.dn = s.dn ∧ S.tr = s.tr) := hide (by rw [hS, ← (unhide HSS).2]; exact ⟨rfl, rfl, rfl, rfl, rfl⟩)
  have CS := hide (fun (vn vs un us : Value) W (hn : SeqV W vn A.tr.ns) (hs : SeqV W vs A.tr.ss) (gn : SeqV W un A.tr.ns) (gs : SeqV W us A.tr.ss) => ksameT_any A.tr vn vs un us W hn hs gn gs (by rw [(unhide HTR).1]; have := hgt.nod.few; omega) (by rw [(unhide HTR).1]; have := sasc_len hgt.ses; omega))
  have CW := hide (fun (va vb : Value) W (ha : SeqV W va A.ws) (hb : SeqV W vb A.ws) => ksameW_any va vb A.ws W ha hb (by have := (unhide HTR).2.2; omega))
  have hdn : A.dn = (m.length : Int) := (unhide HTR).2.1
  have HDN := hide hdn
  clear hnn hN2 hC3 hNl hA hB hS CP HSS HW hdn hgt
  obtain ⟨x0, x1, x2, x3, x4, x5, x6, x7, x8, x9⟩ := (unhide HY4).1.cells
  go_wp2_with fail
  refine (unhide CA _ _ (unhide HY4).2).mono ?_
  rintro e w6 ⟨gad, gnd, gcd, gal, gcl, gan, gcn, gai, gci, gaw, gcw, gaN, gcN, rfl, SG6, hb6⟩
  have hal := allocB w6 (.cells #[.bool A.up, .slice gad gnd gcd, .int .i64 A.id, .int .i64 A.ep, .slice gal A.ts.length gcl, .int .i64 A.dn, .int .i64 A.tr.z, .slice gan A.tr.ns.length gcn, .slice gai A.tr.ss.length gci, .slice gaw A.ws.length gcw] 36)
  have HB6 := hide (nnext (nnext (unhide HB4) hb6) hal)
  have HY6 := hide (And.intro (((unhide HY4).1.next hb6).next hal) (((unhide HY4).2.next hb6).next hal))
  have HLM6 := hide (((unhide HLM4).next hb6).next hal)
  have HA6 := hide (Box10.new w6 A.up A.id A.ep A.dn A.tr.z (.slice gad gnd gcd) (.slice gal A.ts.length gcl) (.slice gan A.tr.ns.length gcn) (.slice gai A.tr.ss.length gci) (.slice gaw A.ws.length gcw))
  have SG7 := hide ((unhide SG6).1.next hal)
  clear hb6 hal SG6 HB4 HY4 HLM4 CA x0 x1 x2 x3 x4 x5 x6 x7 x8 x9
  go_upto_region 8 with fail
  generalize w6.heap.size = ka at *
  generalize w6.alloc (.cells #[.bool A.up, .slice gad gnd gcd, .int .i64 A.id, .int .i64 A.ep, .slice gal A.ts.length gcl, .int .i64 A.dn, .int .i64 A.tr.z, .slice gan A.tr.ns.length gcn, .slice gai A.tr.ss.length gci, .slice gaw A.ws.length gcw] 36) = W6 at *
  obtain ⟨x0, x1, x2, x3, x4, x5, x6, x7, x8, x9⟩ := (unhide HY6).1.cells
  go_wp2_with fail
  refine (unhide CB _ _ (unhide HY6).2).mono ?_
  rintro e w7 ⟨had, hnd, hcd, hal, hcl, han, hcn, hai, hci, haw, hcw, haN, hcN, rfl, SH7, hb7⟩
  have hbl := allocB w7 (.cells #[.bool B.up, .slice had hnd hcd, .int .i64 B.id, .int .i64 B.ep, .slice hal B.ts.length hcl, .int .i64 B.dn, .int .i64 B.tr.z, .slice han B.tr.ns.length hcn, .slice hai B.tr.ss.length hci, .slice haw B.ws.length hcw] 36)
  have HB7 := hide (nnext (nnext (unhide HB6) hb7) hbl)
  have HLM7 := hide (((unhide HLM6).next hb7).next hbl)
  have HA7 := hide (((unhide HA6).next hb7).next hbl)
  have SG8 := hide (((unhide SG7).next hb7).next hbl)
  have HBx7 := hide (Box10.new w7 B.up B.id B.ep B.dn B.tr.z (.slice had hnd hcd) (.slice hal B.ts.length hcl) (.slice han B.tr.ns.length hcn) (.slice hai B.tr.ss.length hci) (.slice haw B.ws.length hcw))
  have SH8 := hide ((unhide SH7).1.next hbl)
  have SGk := hide (And.intro (unhide SG7) hb7.size)
  have hkb : Hid (w.heap.size ≤ w7.heap.size ∧ ka < w7.heap.size) := hide ⟨(nnext (unhide HB6) hb7).size, ((unhide HA6).next hb7).lt⟩
  clear hb7 hbl SH7 HB6 HY6 HLM6 HA6 SG7 CB x0 x1 x2 x3 x4 x5 x6 x7 x8 x9
  go_upto_region 9 with fail
  generalize w7.heap.size = kb at *
  generalize w7.alloc (.cells #[.bool B.up, .slice had hnd hcd, .int .i64 B.id, .int .i64 B.ep, .slice hal B.ts.length hcl, .int .i64 B.dn, .int .i64 B.tr.z, .slice han B.tr.ns.length hcn, .slice hai B.tr.ss.length hci, .slice haw B.ws.length hcw] 36) = W7 at *
  obtain ⟨x0, x1, x2, x3, x4, x5, x6, x7, x8, x9⟩ := (unhide HBx7).cells
  go_wp2_with fail
  refine (unhide CC _ _ (unhide SH8)).mono ?_
  rintro e w8 ⟨jad, jnd, jcd, jal, jcl, jan, jcn, jai, jci, jaw, jcw, jaN, jcN, rfl, SJ8, hb8⟩
  have HBx8 := (unhide HBx7).next hb8
  have HI8 := hide (inbox_over (nnext (unhide HB7) hb8) (unhide hkb).1 (unhide HBx7).lt (unhide SJ8).1 (unhide SJ8).2 HBx8)
  have HA8 := hide (box_put10 (q := kb) ((unhide HA7).next hb8) (show ka ≠ kb by have := (unhide hkb).2; omega) (.bool A.up) (.slice jad jnd jcd) (.int .i64 A.id) (.int .i64 A.ep) (.slice jal A.ts.length jcl) (.int .i64 A.dn) (.int .i64 A.tr.z) (.slice jan A.tr.ns.length jcn) (.slice jai A.tr.ss.length jci) (.slice jaw A.ws.length jcw))
  have SG9 := hide (sv_put10 (k := kb) (up := A.up) (id := A.id) (ep := A.ep) (dn := A.dn) (z := A.tr.z) (ad := jad) (nd := jnd) (cd := jcd) (al := jal) (nl := A.ts.length) (cl := jcl) (an := jan) (nn := A.tr.ns.length) (cn := jcn) (ai := jai) (ni := A.tr.ss.length) (ci := jci) (aw := jaw) (nw := A.ws.length) (cw := jcw) HBx8.dumb (unhide SGk).1 (unhide SGk).2 ((unhide SG8).next hb8))
  have HLM8 := hide (log_put10 (k := kb) (up := A.up) (id := A.id) (ep := A.ep) (dn := A.dn) (z := A.tr.z) (ad := jad) (nd := jnd) (cd := jcd) (al := jal) (nl := A.ts.length) (cl := jcl) (an := jan) (nn := A.tr.ns.length) (cn := jcn) (ai := jai) (ni := A.tr.ss.length) (ci := jci) (aw := jaw) (nw := A.ws.length) (cw := jcw) HBx8.dumb ((unhide HLM7).next hb8))
  unfold put10 at HI8 HA8 SG9 HLM8
  obtain ⟨u0, u1, u2, u3, u4, u5, u6, u7, u8, u9⟩ := HBx8.cells
  have hkl := HBx8.lt
  have uf0 := HBx8.froz 0
  have uf1 := HBx8.froz 1
  have uf2 := HBx8.froz 2
  have uf3 := HBx8.froz 3
  have uf4 := HBx8.froz 4
  have uf5 := HBx8.froz 5
  have uf6 := HBx8.froz 6
  have uf7 := HBx8.froz 7
  have uf8 := HBx8.froz 8
  have uf9 := HBx8.froz 9
  clear hb8 HBx8 SJ8 HBx7 SH8 HA7 SG8 SGk HLM7 HB7 CC x0 x1 x2 x3 x4 x5 x6 x7 x8 x9
  go_upto_region 10 with fail
  obtain ⟨W8, hW8⟩ : ∃ W8, ((((((((((w8.setCell ⟨kb, 0, none⟩ (.bool A.up)).setCell ⟨kb, 1, none⟩ (.slice jad jnd jcd)).setCell ⟨kb, 2, none⟩ (.int .i64 A.id)).setCell ⟨kb, 3, none⟩ (.int .i64 A.ep)).setCell ⟨kb, 4, none⟩ (.slice jal A.ts.length jcl)).setCell ⟨kb, 5, none⟩ (.int .i64 A.dn)).setCell ⟨kb, 6, none⟩ (.int .i64 A.tr.z)).setCell ⟨kb, 7, none⟩ (.slice jan A.tr.ns.length jcn)).setCell ⟨kb, 8, none⟩ (.slice jai A.tr.ss.length jci)).setCell ⟨kb, 9, none⟩ (.slice jaw A.ws.length jcw)) = W8 := ⟨_, rfl⟩
  rw [hW8] at HI8 HA8 SG9 HLM8
  rw [hW8]
  clear hW8 hkl u0 u1 u2 u3 u4 u5 u6 u7 u8 u9 uf0 uf1 uf2 uf3 uf4 uf5 uf6 uf7 uf8 uf9
  obtain ⟨kad, knd, kcd, kal, knl, kcl, kan, knn, kcn, kai, kni, kci, kaw, knw, kcw, BK, SK, hbK⟩ := unhide HI8
  have HBw := hide hbK
  have HSK := hide SK
  have HBK := hide BK
  clear BK SK hbK HI8
  rw [unhide HDN] at HA8
  obtain ⟨x0, x1, x2, x3, x4, x5, x6, x7, x8, x9⟩ := (unhide HA8).cells
  obtain ⟨y0, y1, y2, y3, y4, y5, y6, y7, y8, y9⟩ := (unhide HBK).cells
  go_wp2_with fail
  refine (unhide CS _ _ _ _ _ (unhide SG9).three.1 (unhide SG9).three.2.1 (unhide HSK).three.1 (unhide HSK).three.2.1).mono ?_
  rintro e w9 ⟨rfl, hb9⟩
  have HBw9 := hide (nnext (unhide HBw) hb9)
  have HA9 := hide ((unhide HA8).next hb9)
  have HBK9 := hide ((unhide HBK).next hb9)
  have SGa := hide ((unhide SG9).next hb9)
  have HSK9 := hide ((unhide HSK).next hb9)
  have HLM9 := hide ((unhide HLM8).next hb9)
  clear hb9 HBw HA8 HBK SG9 HSK HLM8 x0 x1 x2 x3 x4 x5 x6 x7 x8 x9 y0 y1 y2 y3 y4 y5 y6 y7 y8 y9
  obtain ⟨x0, x1, x2, x3, x4, x5, x6, x7, x8, x9⟩ := (unhide HA9).cells
  obtain ⟨y0, y1, y2, y3, y4, y5, y6, y7, y8, y9⟩ := (unhide HBK9).cells
  go_wp2_with fail
  refine (unhide CW _ _ _ (unhide SGa).three.2.2 (unhide HSK9).three.2.2).mono ?_
  rintro e w10 ⟨rfl, hb10⟩
  have HBw10 := hide (nnext (unhide HBw9) hb10)
  have HA10 := hide ((unhide HA9).next hb10)
  have SGb := hide ((unhide SGa).next hb10)
  have HLM10 := hide ((unhide HLM9).next hb10)
  clear hb10 HBw9 HA9 HBK9 SGa HSK9 HLM9 CW x0 x1 x2 x3 x4 x5 x6 x7 x8 x9 y0 y1 y2 y3 y4 y5 y6 y7 y8 y9
  obtain ⟨x0, x1, x2, x3, x4, x5, x6, x7, x8, x9⟩ := (unhide HA10).cells
  go_wp2_with fail
  refine (tnew_any _).mono ?_
  rintro e w11 ⟨vn1, vs1, rfl, n1, s1, hb1⟩
  obtain ⟨an1, cn1, rfl, _⟩ := n1.slice
  obtain ⟨ai1, ci1, rfl, _⟩ := s1.slice
  have P0 : Hid (PX w10 (w11.alloc (.cells #[.int .i64 trNew.z, .slice an1 trNew.ns.length cn1, .slice ai1 trNew.ss.length ci1] 34)) w11.heap.size trNew [] (.slice an1 trNew.ns.length cn1) (.slice ai1 trNew.ss.length ci1) (.slice none 0 0)) :=
    hide ⟨heap_alloc_new w11 _, n1.next (allocB _ _), s1.next (allocB _ _), .inl ⟨rfl, rfl⟩, hb1.size, nnext hb1 (allocB _ _)⟩
  clear n1 s1 hb1 x0 x1 x2 x3 x4 x5 x6 x7 x8 x9
  go_upto_region 13 with fail
  generalize w11.heap.size = qt at *
  generalize w11.alloc (.cells #[.int .i64 trNew.z, .slice an1 trNew.ns.length cn1, .slice ai1 trNew.ss.length ci1] 34) = W11 at *
  go_wp2_with fail
  go_loopg [19] m.length (fun kx s19 wr => ∃ (i : Nat) (C : Tr) (an : Option Addr) (cn : Nat) (ai : Option Addr) (ci : Nat), s19 = .int .i64 i ∧ i ≤ m.length ∧ m.length - i ≤ kx ∧ Hid (C = trAt m i) ∧ Hid (PX w10 wr qt C [] (.slice an C.ns.length cn) (.slice ai C.ss.length ci) (.slice none 0 0)))
  case atStart => exact ⟨0, trNew, an1, cn1, ai1, ci1, rfl, Nat.zero_le _, Nat.le_refl _, hide (trAt_zero m).symm, P0⟩
  case round =>
    obtain ⟨i, C, an, cn, ai, ci, rfl, hi, hgi, HC, HX⟩ := hrel
    clear P0
    by_cases hlt : i < m.length
    · obtain ⟨x, hx⟩ : ∃ x, m[i]? = some x := ⟨_, List.getElem?_eq_getElem hlt⟩
      obtain ⟨lb, lo, lc', he, hlb, hrow, _⟩ := log_row (unhide HLM10) hx
      simp only [Value.slice.injEq, true_and] at he
      obtain ⟨rfl, rfl⟩ := he
      have hr2 := hrow.kept (unhide HX).b hlb
      have hsz := (unhide HX).b.size
      have R0 : Hid (DepR wr qt C.z (.slice an C.ns.length cn) (.slice ai C.ss.length ci) lb (lo + i * 7) x) := hide ⟨(unhide HX).t, by omega, hr2.z hx, hr2.o hx, hr2.s hx, hr2.p hx, hr2.d hx, hr2.v hx, hr2.w hx⟩
      have gC : GoodT C := by rw [unhide HC]; exact pld_good (unhide HP) (by omega)
      have hE : appE C x = 0 := by rw [unhide HC]; exact (unhide HP).ok i x hx
      have HT1 : Hid (appT C x = trAt m (i + 1)) := hide (by rw [trAt_succ hx, unhide HC])
      have CX := hide (fun (W : World) (vn vs : Value) (hn : SeqV W vn C.ns) (hs : SeqV W vs C.ss) => apply_any C vn vs x W hn hs gC.wf (pld_sizes (unhide HP) x (List.mem_of_getElem? hx)).2)
      unfold GivesA txnV at CX
      rw [hE] at CX
      obtain ⟨T, hT⟩ : ∃ T, appT C x = T := ⟨_, rfl⟩
      obtain ⟨V, hV⟩ : ∃ V, appV C x = V := ⟨_, rfl⟩
      rw [hT, hV] at CX
      rw [hT] at HT1
      have hii : (i : Int) < (m.length : Int) := by omega
      have hqlt := (unhide HX).lt
      clear hT hV hE gC hx hrow hr2
      go_upto_region 16 with fail
      go_cut [20, 21, 22] from 112 to 130 (fun t20 t21 t22 wx => ∃ p bn dn bi di be de, t20 = .pointer (some ⟨p, 0, none⟩) ∧ t21 = .slice be V.length de ∧ t22 = .int .i64 0 ∧ Hid (AppX wr wx p T V (.slice bn T.ns.length dn) (.slice bi T.ss.length di) (.slice be V.length de)))
      case first =>
        clear HLM10 HA10 SGb CS
        go_region_held3 (fun w' => w'.cell? ⟨qt, 0, none⟩ = some (.int .i64 C.z) ∧ w'.cell? ⟨qt, 1, none⟩ = some (.slice an C.ns.length cn) ∧ w'.cell? ⟨qt, 2, none⟩ = some (.slice ai C.ss.length ci) ∧ w'.cell? ⟨lb, lo + i * 7, none⟩ = some (.int .i64 x.z) ∧ w'.cell? ⟨lb, lo + i * 7 + 1, none⟩ = some (.int .i64 x.o) ∧ w'.cell? ⟨lb, lo + i * 7 + 2, none⟩ = some (.int .i64 x.s) ∧ w'.cell? ⟨lb, lo + i * 7 + 3, none⟩ = some (.string ⟨x.p.toArray⟩) ∧ w'.cell? ⟨lb, lo + i * 7 + 4, none⟩ = some (.string ⟨x.d.toArray⟩) ∧ w'.cell? ⟨lb, lo + i * 7 + 5, none⟩ = some (.int .i64 x.v) ∧ w'.cell? ⟨lb, lo + i * 7 + 6, none⟩ = some (.int .i64 x.w)) (first | with_reducible exact (unhide R0).ten | with_reducible exact (unhide R0).drew.ten | with_reducible exact ((unhide R0).next (allocB _ _)).ten | with_reducible exact ((unhide R0).next (allocB _ _)).drew.ten | with_reducible exact ((unhide R0).drew.next (allocB _ _)).ten | with_reducible exact (unhide aR5).ten | with_reducible exact ((unhide aR5).next (allocB _ _)).ten | with_reducible exact ((unhide R0).next (unhide aP5).b).ten) (first
          | (go_at_call 13; refine (unhide CX _ _ _ ((unhide HX).n.seq.next (by first | with_reducible exact (Below.refl _ _).drew | with_reducible exact (allocB _ _).drew | with_reducible exact nnext (Below.refl _ _).drew (allocB _ _))) ((unhide HX).s.seq.next (by first | with_reducible exact (Below.refl _ _).drew | with_reducible exact (allocB _ _).drew | with_reducible exact nnext (Below.refl _ _).drew (allocB _ _)))).mono ?_; rintro e aw5 ⟨vn5, vs5, ve5, rfl, n5, s5, e5, hb5⟩; have aB5 : Hid (Below wr.heap.size wr aw5) := hide (nnext (by first | with_reducible exact (Below.refl _ _).drew | with_reducible exact (allocB _ _).drew | with_reducible exact nnext (Below.refl _ _).drew (allocB _ _)) hb5); have aR5 := hide ((unhide R0).next (unhide aB5)); have h5 := (unhide aB5).size; obtain ⟨bn, dn, rfl, _⟩ := n5.slice; obtain ⟨bi, di, rfl, _⟩ := s5.slice; obtain ⟨be, de, rfl, _⟩ := e5.slice; have aM5 := hide n5; have aM6 := hide s5; have aM7 := hide e5; (try (have aZ5 : Hid (aw5.heap[wr.heap.size]? = some (.cells #[.int .i64 0, .slice none 0 0, .slice none 0 0] 34 (0, 0))) := hide ((hb5.block _ (by simp)).trans (heap_alloc_new wr _)); have aP5 := hide (app_put (unhide aB5) (Nat.le_refl _) (by simp) (unhide aZ5) (unhide aM5) (unhide aM6) (unhide aM7)); obtain ⟨z0, z1, z2, z3, z4, z5⟩ := zcells (unhide aZ5))); clear n5 s5 e5 hb5))
        all_goals go_wp2_with fail
        all_goals go_meet
        all_goals first
          | exact ⟨wr.heap.size, bn, dn, bi, di, be, de, rfl, rfl, rfl, aP5⟩
          | exact ⟨aw5.heap.size, bn, dn, bi, di, be, de, rfl, rfl, rfl, hide (app_new (unhide aB5) (Nat.le_refl _) (unhide aM5) (unhide aM6) (unhide aM7))⟩
      case rest =>
        obtain ⟨p, bn, dn, bi, di, be, de, rfl, rfl, rfl, A1⟩ := hcut
        have X1 := (unhide HX).next (unhide A1).b
        have X2 := hide (X1.put ((unhide A1).n.lower hsz) ((unhide A1).s.lower hsz))
        obtain ⟨c0, c1, c2⟩ := (unhide A1).cells
        obtain ⟨⟨t0', t1', t2'⟩, tf0, tf1, tf2⟩ := X1.cells
        have hqp : qt ≠ p := by have := (unhide A1).qb; omega
        have hql2 := X1.lt
        clear R0 CX HX A1 X1
        go_wp2_with fail
        go_roundg (m.length - (i + 1))
        case measure => omega
        case rel => exact ⟨i + 1, T, bn, dn, bi, di, by simp, by omega, Nat.le_refl _, HT1, X2⟩
    · obtain rfl : i = m.length := by omega
      have hCA : C = A.tr := by rw [(unhide HTR).1]; exact unhide HC
      subst hCA
      obtain ⟨⟨t0', t1', t2'⟩, _⟩ := (unhide HX).cells
      obtain ⟨x0, x1, x2, x3, x4, x5, x6, x7, x8, x9⟩ := ((unhide HA10).next (unhide HX).b).cells
      go_wp2_with fail
      refine (unhide CS _ _ _ _ _ (unhide HX).n.seq (unhide HX).s.seq ((unhide SGb).next (unhide HX).b).three.1 ((unhide SGb).next (unhide HX).b).three.2.1).mono ?_
      rintro e w12 ⟨rfl, hb12⟩
      have HBz := hide (nnext (nnext (unhide HBw10) (unhide HX).b) hb12)
      clear hb12
      go_wp2_with fail
      go_ret
      exact ⟨rfl, unhide HBz⟩
end Go.Proofs.YtoacignhobchbaaGreatDoor

namespace Go.Proofs.YtoacignhobchbaaGreatDoor
open Go.ChangeShapes Go.WideShapes Go.ChangeAt Go.RowKit Go.ChangeMaps

theorem qcellsStr : Tryz.prog.cellsOf 9 = 1 := by kernel_rfl
theorem qcellsInt : Tryz.prog.cellsOf 3 = 1 := by kernel_rfl
theorem qcellsRq : Tryz.prog.cellsOf 58 = 6 := by kernel_rfl
theorem qbytesRq : Tryz.prog.bytesOf 58 = 64 := by kernel_rfl

section
variable {H : Type} {enc : TypeId × Value → H} {W : World} {base : Nat} {spare : Nat → Bool} {held : Bool}
set_option maxRecDepth 10000 in
theorem qopen_rq {n : Nat} {cs : List Value} {x : DataW H × List MemPlace} (hl : cs.length = 6) (h : DataW.trod enc Tryz.prog W base spare held n 58 cs = some x) :
    ∃ f : Rq, cs = qcells f ∧ True ∧ ∀ M, (∀ y ∈ DataW.weights Tryz.prog 58 x.1, y ≤ M) → f.p.length ≤ M ∧ f.d.length ≤ M := by
  match cs, hl with
  | [c0, c1, c2, c3, c4, c5], _ =>
    obtain ⟨xs, k, _, hx, _, hlen, hfs⟩ := DataW.trod_struct Tryz.underlying58 h
    match xs, hlen with
    | [y0, y1, y2, y3, y4, y5], _ =>
      obtain ⟨o, e0, rfl, _⟩ := DataW.trod_int Tryz.underlying3 (show DataW.trod enc Tryz.prog W base spare held k 3 [c0] = some y0 by simpa [qcellsInt] using hfs 0 _ rfl)
      obtain ⟨s, e1, rfl, _⟩ := DataW.trod_int Tryz.underlying3 (show DataW.trod enc Tryz.prog W base spare held k 3 [c1] = some y1 by simpa [qcellsInt] using hfs 1 _ rfl)
      obtain ⟨p', e2, rfl, _⟩ := DataW.trod_string Tryz.underlying9 (show DataW.trod enc Tryz.prog W base spare held k 9 [c2] = some y2 by simpa [qcellsInt, qcellsStr] using hfs 2 _ rfl)
      obtain ⟨d', e3, rfl, _⟩ := DataW.trod_string Tryz.underlying9 (show DataW.trod enc Tryz.prog W base spare held k 9 [c3] = some y3 by simpa [qcellsInt, qcellsStr] using hfs 3 _ rfl)
      obtain ⟨v', e4, rfl, _⟩ := DataW.trod_int Tryz.underlying3 (show DataW.trod enc Tryz.prog W base spare held k 3 [c4] = some y4 by simpa [qcellsInt, qcellsStr] using hfs 4 _ rfl)
      obtain ⟨u', e5, rfl, _⟩ := DataW.trod_int Tryz.underlying3 (show DataW.trod enc Tryz.prog W base spare held k 3 [c5] = some y5 by simpa [qcellsInt, qcellsStr] using hfs 5 _ rfl)
      simp only [List.cons.injEq, and_true] at e0 e1 e2 e3 e4 e5
      subst e0 e1 e2 e3 e4 e5
      obtain ⟨pl, rfl⟩ := zlist_of p'
      obtain ⟨dl, rfl⟩ := zlist_of d'
      subst hx
      refine ⟨⟨o, s, pl, dl, v', u'⟩, rfl, trivial, fun M hM => ?_⟩
      simp only [DataW.weights, Tryz.underlying58, List.map_cons, List.map_nil, DataW.weightsEach] at hM
      simpa using hM
set_option maxRecDepth 10000 in
theorem open_rqs {r : Reach} {b0 : Nat} {v : Value} {d : DataW H} {p : List MemPlace} (hv : Value.okWide Tryz.prog W r b0 22 v) (h : DataW.Trod enc Tryz.prog W base spare held 22 v d p) :
    ∃ rs : List Rq, SeqV W v rs ∧ ∀ M, (∀ x ∈ DataW.weights Tryz.prog 22 d, x ≤ M) → rs.length * 64 ≤ M ∧ ∀ x ∈ rs, x.p.length ≤ M ∧ x.d.length ≤ M := by
  obtain ⟨fuel, hf⟩ := h
  obtain ⟨sa, sl, sc, rfl⟩ := okWide_slice Tryz.underlying22 hv
  obtain ⟨rs, h1, _, h3⟩ := open_seqP (⟨0, 0, [], [], 0, 0⟩ : Rq) Tryz.underlying22 qcellsRq (by decide) qbytesRq (fun _ => True) (fun M x => x.p.length ≤ M ∧ x.d.length ≤ M) qopen_rq (y := (d, p)) (show DataW.trod enc Tryz.prog W base spare held fuel 22 [.slice sa sl sc] = some (d, p) by simpa [Value.cells] using hf)
  exact ⟨rs, h1, h3⟩
end
end Go.Proofs.YtoacignhobchbaaGreatDoor
