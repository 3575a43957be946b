/-
  store.Follow, where one is refused: the walk.
-/
import Derived.Test.YthkggmmalffcdaaGreatDoorSFW
namespace Go.Proofs.YthkggmmalffcdaaGreatDoor
open Go.RowKit

set_option maxRecDepth 20000 in
set_option maxHeartbeats 4000000 in
theorem sfol_stop (s : Sv) (v : Value) (vl : Value) (l : List WTxn) (epo : Int) (w : World) (hv : SvV w v s) (hvl : LogV w vl l) (hf : Fits s) (hll : l.length ≤ 1000000000) (ht : TabP w) (hk : ¬ (comN s.ts l : Int) < s.dn) (z : Int) (d2 d3 : List DF) (hz : FolZ l (comN s.ts l) z) (G : GivesD 29 (fun g => #[g, .int .i64 z]) s.fs d2 0) (R : GivesE 30 (fun g => #[g, .int .i64 epo]) d2 d3 0) (gd : GoodD d3) (st : Nat → Sv) (h0 : st 0 = ⟨s.up, d3, s.id, epo, s.ts.take (comN s.ts l), s.dn, s.tr, s.ws⟩) (N : Nat) (E : Int) (hE : E ≠ 0) (hN : N < l.length - comN s.ts l) (HE : ∀ x, (l.drop (comN s.ts l))[N]? = some x → ∀ W ad nd cd al cl an cn ai ci aw cw, DiskV W (.slice ad nd cd) (st N).fs → LogV W (.slice al (st N).ts.length cl) (st N).ts → Calls Tryz.prog 31 #[.agg #[.bool (st N).up, .slice ad nd cd, .int .i64 (st N).id, .int .i64 (st N).ep, .slice al (st N).ts.length cl, .int .i64 (st N).dn, .int .i64 (st N).tr.z, .slice an (st N).tr.ns.length cn, .slice ai (st N).tr.ss.length ci, .slice aw (st N).ws.length cw], txnV x, .bool true] W (GivesZ W E)) (HT : ∀ i x, i < N → (l.drop (comN s.ts l))[i]? = some x → TookX (st i) x (st (i + 1))) :
    Calls Tryz.prog 11 #[v, vl, .int .i64 epo] w (GivesZ w E) := by
  obtain ⟨ad, nd, cd, al, cl, an, cn, ai, ci, aw, cw, rfl, d1, l1, n1, s1, k1⟩ := hv.five
  have CC := hide (fun W (hW : Below w.heap.size w W) => common_any _ vl s.ts l W (l1.next hW) (hvl.next hW) (by have := hf.l; omega) (by omega))
  have HG := hide (fun W (hW : Below w.heap.size w W) => G _ W (d1.next hW))
  have HLR := hide (fun (j : Nat) (x : WTxn) (hx : l[j]? = some x) W (hW : Below w.heap.size w W) => log_row (hvl.next hW) hx)
  obtain ⟨lb, lc, rfl⟩ := log_slice hvl
  have HR := hide R
  have HTK := hide HT
  have HEK := hide HE
  have hne : (E != 0) = true := by simpa using hE
  have HLV := hide (fun W (hW : Below w.heap.size w W) => hvl.next hW)
  have HS0 := hide (And.intro (fun W (hW : Below w.heap.size w W) => l1.next hW) (And.intro (fun W (hW : Below w.heap.size w W) => n1.next hW) (And.intro (fun W (hW : Below w.heap.size w W) => s1.next hW) (fun W (hW : Below w.heap.size w W) => k1.next hW))))
  have HFit := hide (fits_follow hf gd epo (comN s.ts l))
  have HTab := hide (fun W (hW : Below w.heap.size w W) => ht.next hW)
  clear hv d1 l1 n1 s1 k1 hvl hf G R ht HT gd HE hE
  obtain ⟨up, fs, id, ep, ts, dn, ⟨tz, tns, tss⟩, ws⟩ := s
  simp only at *
  go_enter Tryz.func11, Tryz.ntmps11
  go_wp2_with fail
  have X0 := hide (CB.start w up id ep dn tz (.slice ad nd cd) (.slice al ts.length cl) (.slice an tns.length cn) (.slice ai tss.length ci) (.slice aw ws.length cw))
  generalize (w.alloc (.cells #[.bool up, .slice ad nd cd, .int .i64 id, .int .i64 ep, .slice al ts.length cl, .int .i64 dn, .int .i64 tz, .slice an tns.length cn, .slice ai tss.length ci, .slice aw ws.length cw] 34)).alloc (.cells #[.bool false, .slice none 0 0, .int .i64 0, .int .i64 0, .slice none 0 0, .int .i64 0, .int .i64 0, .slice none 0 0, .slice none 0 0, .slice none 0 0] 34) = W0 at *
  refine (unhide CC _ (unhide X0).below).mono ?_
  rintro e w1 ⟨rfl, hb1⟩
  have X1 := hide ((unhide X0).next hb1)
  have x5 := (unhide X1).s.cells.2.2.2.2.2.1
  clear hb1 X0 CC
  have x1 := (unhide X1).s.cells.2.1
  have hkl := (comN_le ts l).2
  have hkt := (comN_le ts l).1
  generalize comN ts l = k at *
  have hnk : ¬ ((k : Int) < dn) := by omega
  go_upto_if 27 with fail
  go_cut [9] from 15 (fun t9 wx => t9 = .int .i64 z ∧ wx = w1)
  case first =>
    rcases hz with ⟨rfl, rfl⟩ | ⟨x, hk0, hx, rfl⟩
    · go_wp2_with fail
      go_meet
      exact ⟨rfl, rfl⟩
    · obtain ⟨m, rfl⟩ : ∃ m, k = m + 1 := ⟨k - 1, by omega⟩
      simp only [Nat.add_sub_cancel] at hx
      obtain ⟨b, o, c, he, hb, q, hm1, _⟩ := unhide HLR m x hx w1 (unhide X1).below
      simp only [Value.slice.injEq] at he
      obtain ⟨rfl, _, rfl⟩ := he
      have e0 := q.z hx
      generalize x.z = z at *
      have i1 : (m : Int) < (l.length : Int) := by omega
      have i2 : (0 : Int) < ((m + 1 : Nat) : Int) := by omega
      have i3 : IntKind.i64.wrap (((m + 1 : Nat) : Int) - 1) = (m : Int) := by rw [IntKind.wrap_i64]; omega
      have i4 : (((m + 1 : Nat) : Int) - 1) = (m : Int) := by omega
      clear q hx
      go_wp2_with fail
      go_meet
      exact ⟨rfl, rfl⟩
  case rest =>
    obtain ⟨rfl, rfl⟩ := hcut
    clear HLR
    go_wp2_with fail
    refine (unhide HG _ (unhide X1).below).mono ?_
    rintro e w2 ⟨a2, n2, c2, rfl, D2, hb2⟩
    have hal := allocB w2 (.cells #[.slice a2 n2 c2] 24)
    have X2 := hide (((unhide X1).next hb2).next hal)
    have A2 := hide (BoxAt.new w2 (.slice a2 n2 c2))
    have F2 := hide ((unhide D2).next hal)
    have Q2 := hide (show w.heap.size + 2 ≤ w2.heap.size from ((unhide X1).next hb2).lt)
    clear hb2 hal X1 D2 HG x1 x5
    have ca := (unhide A2).c
    have fa := (unhide A2).f
    go_wp2_with fail
    generalize w2.heap.size = q2 at *
    generalize w2.alloc (.cells #[.slice a2 n2 c2] 24) = W2 at *
    refine (unhide HR _ _ (unhide HTab _ (unhide X2).below) (unhide F2)).mono ?_
    rintro e w3 ⟨a3, n3, c3, rfl, D3, hb3⟩
    have X3 := (unhide X2).next hb3
    have A3 := (unhide A2).next hb3
    have ca3 := A3.c
    have fa3 := A3.f
    have Y3 := X3.dput q2 (.slice a3 n3 c3) (by have := unhide Q2; omega)
    have E3 := disk_box (unhide D3) A3 (.slice a3 n3 c3)
    have B3 := A3.set (.slice a3 n3 c3)
    have HX3 := hide Y3
    have HD3 := hide E3
    have HA3 := hide B3
    clear hb3 X2 A2 F2 D3 X3 A3 Y3 E3 B3 HR ca fa
    go_upto_region 13 with fail
    generalize w3.setCell ⟨q2, 0, none⟩ (.slice a3 n3 c3) = W3 at *
    clear ca3 fa3
    have hcap : ts.length ≤ cl := log_cap (unhide HS0).1
    have ca5 := (unhide HA3).c
    have x4 := (unhide HX3).s.cells.2.2.2.2.1
    have x1 := (unhide HX3).s.cells.2.1
    have x3 := (unhide HX3).s.cells.2.2.2.1
    have xf1 := (unhide HX3).s.froz 1
    have xf3 := (unhide HX3).s.froz 3
    have xf4 := (unhide HX3).s.froz 4
    have hnq : q2 ≠ w.heap.size := by have := unhide Q2; omega
    have k0 : (0 : Int) ≤ (k : Int) := by omega
    have kk1 : (k : Int) ≤ (cl : Int) := by omega
    have k2 : k ≤ cl := by omega
    have RF4 := hide (sf_start (s := ⟨up, d3, id, epo, ts.take k, dn, ⟨tz, tns, tss⟩, ws⟩) (unhide HX3) (unhide HD3) (unhide HS0) hkt)
    go_cut [14] from 16 (fun _ wx => Hid (SF0 w wx ⟨up, d3, id, epo, ts.take k, dn, ⟨tz, tns, tss⟩, ws⟩ al cl an cn ai ci aw cw))
    case first =>
      go_region
      all_goals go_wp2_with fail
      all_goals go_meet
      all_goals exact hide ((unhide RF4).next (Below.refl _ _).drew)
    case rest =>
      have HRF := hcut
      clear hcut RF4 ca5 x4 x1 x3 xf1 xf3 xf4 HX3 HD3 HA3
      generalize ts.take k = tk at *
      obtain ⟨ad4, nd4, cd4, CB4, SV4⟩ := unhide HRF
      simp only at CB4 SV4
      obtain ⟨x0, x1, x2, x3, x4, x5, x6, x7, x8, x9⟩ := CB4.s.cells
      have CPY := hide (scopied_any (⟨up, d3, id, epo, tk, dn, ⟨tz, tns, tss⟩, ws⟩ : Sv) _ wc SV4 (unhide HFit))
      have HBR := hide (And.intro CB4.below CB4.r)
      clear SV4 CB4 HRF HFit HS0
      go_wp2_with fail
      refine (unhide CPY).mono ?_
      rintro e w5 ⟨bd, md, fd, bl, fl, bn, fn, bi, fi, bw, fw, B1, B2, rfl, h1, h2, od, hd1, ol, hl2, on, oi, ow, hb5⟩
      simp only at od ol hl2 on oi ow
      have LF5 := hide (lf_start (s := (⟨up, d3, id, epo, tk, dn, ⟨tz, tns, tss⟩, ws⟩ : Sv)) (unhide HBR).1 (unhide HBR).2 h1 h2 od ol hl2 on oi ow hb5)
      simp only at LF5
      clear h1 h2 od hd1 ol hl2 on oi ow hb5 HBR CPY x0 x1 x2 x3 x4 x5 x6 x7 x8 x9
      go_upto_region 15 with fail
      generalize w5.heap.size = q5 at *
      generalize w5.alloc (.cells #[.bool up, .slice bd md fd, .int .i64 id, .int .i64 epo, .slice bl tk.length fl, .int .i64 dn, .int .i64 tz, .slice bn tns.length fn, .slice bi tss.length fi, .slice bw ws.length fw] 34) = W5 at *
      go_cut [71, 72, 73] from 15 (fun t71 t72 t73 wx => ∃ la lcc, t71 = .slice la (l.length - k) lcc ∧ t72 = .int .i64 ((l.length - k : Nat) : Int) ∧ t73 = .int .i64 0 ∧ wx = W5 ∧ Hid (∀ W, Below w.heap.size w W → LogV W (.slice la (l.length - k) lcc) (l.drop k)))
      case first =>
        by_cases hlc : lc = k
        · subst hlc
          go_wp2_with fail
          all_goals go_meet
          all_goals exact ⟨_, _, rfl, rfl, rfl, rfl, hide fun W hW => ((unhide HLV W hW).drop hkl).1 rfl⟩
        · go_wp2_with fail
          all_goals go_meet
          all_goals exact ⟨_, _, rfl, rfl, rfl, rfl, hide fun W hW => ((unhide HLV W hW).drop hkl).2 hlc⟩
      case rest =>
        obtain ⟨la, lcc, rfl, rfl, rfl, rfl, HLD⟩ := hcut
        clear HLV hcap hnq k0 kk1 k2 hkt
        go_wp2_with fail
        go_loopg [73] N (fun kx s73 wr => ∃ i : Nat, s73 = .int .i64 i ∧ i ≤ N ∧ N - i ≤ kx ∧ Hid (LF w wr q5 (st i)))
        case atStart => exact ⟨0, rfl, Nat.zero_le _, by omega, hide (by rw [h0]; exact unhide LF5)⟩
        case round =>
          obtain ⟨i, rfl, hi, hgi, hR⟩ := hrel
          by_cases hlt : i < N
          · clear h0 LF5
            obtain ⟨x, hx⟩ : ∃ x, (l.drop k)[i]? = some x := ⟨_, List.getElem?_eq_getElem (by simp; omega)⟩
            obtain ⟨gad, gnd, gcd, gal, gcl, gan, gcn, gai, gci, gaw, gcw, hbw, hr, ha, hq, hd, ol, on, oi, ow, sep, n1, n2, n3⟩ := unhide hR
            obtain ⟨b, o, c, he, hb, q, hq9⟩ := log_row (unhide HLD wr hbw) hx
            simp only [Value.slice.injEq] at he
            obtain ⟨rfl, he2, rfl⟩ := he
            clear he2 hq9
            have e0 := q.z hx
            have e1 := q.o hx
            have e2 := q.s hx
            have e3 := q.p hx
            have e4 := q.d hx
            have e5 := q.v hx
            have e6 := q.w hx
            obtain ⟨tz', tp', td', tn', d1, hst, G⟩ := unhide HTK i x hlt hx
            obtain ⟨xz, xo, xs, xp, xd, xv, xw⟩ := x
            have hal := allocB wr (.cells #[.int .i64 xz, .int .i64 xo, .int .i64 xs, .string ⟨xp.toArray⟩, .string ⟨xd.toArray⟩, .int .i64 xv, .int .i64 xw] 48)
            have CT := hide (ext_ok (st i).up (st i).id (st i).ep (st i).dn (st i).tr.z (st i).fs (st i).ts (⟨xz, xo, xs, xp, xd, xv, xw⟩ : WTxn) true (.slice gad gnd gcd) (.slice gal (st i).ts.length gcl) gan gai gaw (st i).tr.ns.length gcn (st i).tr.ss.length gci (st i).ws.length gcw _ (hd.next hal) (seq_log.1 (ol.next hal).seq) tz' d1 (w.heap.size + 2) (by have := ha.lt; have := hal.size; omega) (ol.next hal) tn' tp' td' G)
            unfold txnV at CT
            simp only at e0 e1 e2 e3 e4 e5 e6 CT
            have LS := hide (fun V a n c a2 c2 (tn : List WTxn) (T : Touch _ _ V) (D : DiskV V (.slice a n c) d1) (L : OwnS V (w.heap.size + 2) (.slice a2 tn.length c2) tn) hl => lf_step (s := (st i)) (nnext hbw hal) (hr.next hal) (ha.next hal) hq (ol.next hal) (on.next hal) (oi.next hal) (ow.next hal) sep n1 n2 n3 T D L hl)
            obtain ⟨x0, x1, x2, x3, x4, x5, x6, x7, x8, x9⟩ := (ha.next hal).cells
            have hlti : (i : Int) < ((l.length - k : Nat) : Int) := by omega
            clear q hx hal hbw hr ha hd ol on oi ow sep n1 n2 n3 hR tz' tp' td' tn' G
            go_wp2_with fail
            generalize wr.alloc (.cells #[.int .i64 xz, .int .i64 xo, .int .i64 xs, .string ⟨xp.toArray⟩, .string ⟨xd.toArray⟩, .int .i64 xv, .int .i64 xw] 48) = W6 at *
            refine (unhide CT).mono ?_
            rintro e w7 ⟨a7, n7, c7, b7, f7, rfl, D7, L7, hl7, T7⟩
            obtain ⟨HA7, LF7⟩ := unhide LS w7 a7 n7 c7 b7 f7 ((st i).ts ++ [(⟨xz, xo, xs, xp, xd, xv, xw⟩ : WTxn)]) T7 D7 L7 hl7
            rw [← hst] at LF7
            generalize (st i).ts ++ [(⟨xz, xo, xs, xp, xd, xv, xw⟩ : WTxn)] = tn at *
            have HLF7 := hide LF7
            clear x0 x1 x2 x3 x4 x5 x6 x7 x8 x9
            obtain ⟨x0, x1, x2, x3, x4, x5, x6, x7, x8, x9⟩ := HA7.cells
            have xf0 := HA7.froz 0
            have xf1 := HA7.froz 1
            have xf2 := HA7.froz 2
            have xf3 := HA7.froz 3
            have xf4 := HA7.froz 4
            have xf5 := HA7.froz 5
            have xf6 := HA7.froz 6
            have xf7 := HA7.froz 7
            have xf8 := HA7.froz 8
            have xf9 := HA7.froz 9
            clear LF7 D7 L7 hl7 T7 HA7 LS CT hst e0 e1 e2 e3 e4 e5 e6
            unfold put10 at HLF7
            go_wp2_with fail
            go_roundg (N - (i + 1))
            case measure => omega
            case rel => exact ⟨i + 1, rfl, by omega, Nat.le_refl _, HLF7⟩
          · obtain rfl : i = N := by omega
            clear h0 LF5
            obtain ⟨x, hx⟩ : ∃ x, (l.drop k)[i]? = some x := ⟨_, List.getElem?_eq_getElem (by simp; omega)⟩
            obtain ⟨gad, gnd, gcd, gal, gcl, gan, gcn, gai, gci, gaw, gcw, hbw, hr, ha, hq, hd, ol, on, oi, ow, sep, n1, n2, n3⟩ := unhide hR
            obtain ⟨b, o, c, he, hb, q, hq9⟩ := log_row (unhide HLD wr hbw) hx
            simp only [Value.slice.injEq] at he
            obtain ⟨rfl, he2, rfl⟩ := he
            clear he2 hq9
            have e0 := q.z hx
            have e1 := q.o hx
            have e2 := q.s hx
            have e3 := q.p hx
            have e4 := q.d hx
            have e5 := q.v hx
            have e6 := q.w hx
            have HX := unhide HEK x hx
            obtain ⟨xz, xo, xs, xp, xd, xv, xw⟩ := x
            have hal := allocB wr (.cells #[.int .i64 xz, .int .i64 xo, .int .i64 xs, .string ⟨xp.toArray⟩, .string ⟨xd.toArray⟩, .int .i64 xv, .int .i64 xw] 48)
            have CT := hide (HX _ gad gnd gcd gal gcl gan gcn gai gci gaw gcw (hd.next hal) (seq_log.1 (ol.next hal).seq))
            unfold txnV at CT
            simp only at e0 e1 e2 e3 e4 e5 e6 CT
            have HA6 := hide (And.intro (ha.next hal) (And.intro (hr.next hal) (And.intro (nnext hbw hal) hq)))
            obtain ⟨x0, x1, x2, x3, x4, x5, x6, x7, x8, x9⟩ := (ha.next hal).cells
            have hlti : (i : Int) < ((l.length - k : Nat) : Int) := by omega
            clear q hx hal hbw hr ha hd ol on oi ow sep n1 n2 n3 hR HX
            go_wp2_with fail
            generalize wr.alloc (.cells #[.int .i64 xz, .int .i64 xo, .int .i64 xs, .string ⟨xp.toArray⟩, .string ⟨xd.toArray⟩, .int .i64 xv, .int .i64 xw] 48) = W6 at *
            refine (unhide CT).mono ?_
            rintro e w7 ⟨rfl, hb7⟩
            unfold svZ
            have A7 := (unhide HA6).1.next hb7
            have R7 := (unhide HA6).2.1.next hb7
            have HR7 : Hid (Box10 (put10 w7 q5 (.bool false) (.slice none 0 0) (.int .i64 0) (.int .i64 0) (.slice none 0 0) (.int .i64 0) (.int .i64 0) (.slice none 0 0) (.slice none 0 0) (.slice none 0 0)) (w.heap.size + 1) false (.slice none 0 0) 0 0 (.slice none 0 0) 0 0 (.slice none 0 0) (.slice none 0 0) (.slice none 0 0) ∧ Below w.heap.size w (put10 w7 q5 (.bool false) (.slice none 0 0) (.int .i64 0) (.int .i64 0) (.slice none 0 0) (.int .i64 0) (.int .i64 0) (.slice none 0 0) (.slice none 0 0) (.slice none 0 0))) := hide ⟨box10_far R7 (by have := (unhide HA6).2.2.2; omega) _ _ _ _ _ _ _ _ _ _, put10_below (nnext (unhide HA6).2.2.1 hb7) (by have := (unhide HA6).2.2.2; omega) _ _ _ _ _ _ _ _ _ _⟩
            clear x0 x1 x2 x3 x4 x5 x6 x7 x8 x9
            obtain ⟨x0, x1, x2, x3, x4, x5, x6, x7, x8, x9⟩ := A7.cells
            have xf0 := A7.froz 0
            have xf1 := A7.froz 1
            have xf2 := A7.froz 2
            have xf3 := A7.froz 3
            have xf4 := A7.froz 4
            have xf5 := A7.froz 5
            have xf6 := A7.froz 6
            have xf7 := A7.froz 7
            have xf8 := A7.froz 8
            have xf9 := A7.froz 9
            clear hb7 A7 R7 HA6 CT e0 e1 e2 e3 e4 e5 e6
            go_upto_region 20 with fail
            obtain ⟨P7, hP7⟩ : ∃ P, P = put10 w7 q5 (.bool false) (.slice none 0 0) (.int .i64 0) (.int .i64 0) (.slice none 0 0) (.int .i64 0) (.int .i64 0) (.slice none 0 0) (.slice none 0 0) (.slice none 0 0) := ⟨_, rfl⟩
            rw [← hP7] at HR7
            unfold put10 at hP7
            rw [← hP7]
            clear x0 x1 x2 x3 x4 x5 x6 x7 x8 x9 hP7
            obtain ⟨r0, r1, r2, r3, r4, r5, r6, r7, r8, r9⟩ := (unhide HR7).1.cells
            have rf0 := (unhide HR7).1.froz 0
            have rf1 := (unhide HR7).1.froz 1
            have rf2 := (unhide HR7).1.froz 2
            have rf3 := (unhide HR7).1.froz 3
            have rf4 := (unhide HR7).1.froz 4
            have rf5 := (unhide HR7).1.froz 5
            have rf6 := (unhide HR7).1.froz 6
            have rf7 := (unhide HR7).1.froz 7
            have rf8 := (unhide HR7).1.froz 8
            have rf9 := (unhide HR7).1.froz 9
            go_wp2_with fail
            exact bodyPost_ret (v := .tuple #[.agg #[.bool false, .slice none 0 0, .int .i64 0, .int .i64 0, .slice none 0 0, .int .i64 0, .int .i64 0, .slice none 0 0, .slice none 0 0, .slice none 0 0], .int .i64 E]) (by simp [results, Tryz.results11, go_sem, r0, r1, r2, r3, r4, r5, r6, r7, r8, r9]) rfl (givesZ_of rfl (put10_below (unhide HR7).2 (by omega) _ _ _ _ _ _ _ _ _ _))

end Go.Proofs.YthkggmmalffcdaaGreatDoor
