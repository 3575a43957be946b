/-
  aviaryref.Elect: the walk.
-/
import Derived.Test.YtijpnmponjjejaaZEB
import Derived.Deep.QuietTactic
namespace Go.Proofs.Ytijpnmponjjejaa
open Go.RowKit

/-- what stands at each round of the first loop -/
def RInv (w wr : World) (ps : List Pe) (k : Nat) : Prop := (∀ i q, i < k → (ps.map kk)[i]? = some q → errP ((ps.map kk).take i) q = 0) ∧ Below w.heap.size w wr

set_option maxRecDepth 10000 in
set_option maxHeartbeats 4000000 in
theorem relect_any (v : Value) (ps : List Pe) (w : World) (k n E : Int) (hv : SeqV w v ps) (hL : PLogs w ps) (hz : ∀ p ∈ ps, lastZ p.ts ≤ 9223372036854775807) (hA : EAns (ps.map kk) k n E) (hl : ps.length ≤ 140737488355328) :
    Calls Try.prog 11 #[v] w fun e w' => e = .returned (.tuple #[.int .i64 k, .int .i64 n, .int .i64 E]) ∧ Below w.heap.size w w' := by
  obtain ⟨A, hA, hR⟩ := hA
  have HV := hide hv
  have HL := hide hL
  have HZ := hide hz
  have HA := hide hA
  have HR := hide hR
  have HNO : Hid (∀ e : Int, A = e → e ≠ 0 → k = 0 ∧ n = 0 ∧ E = e) := hide (fun e h1 h2 => by
    subst h1
    rcases hR with ⟨_, h3, h4, h5⟩ | ⟨h3, _⟩
    · exact ⟨h3, h4, h5⟩
    · exact absurd h3 h2)
  obtain ⟨va, vc, rfl⟩ := seq_slice hv
  clear hv hL hA hz hR
  go_enter Try.func11, Try.ntmps11
  go_wp2_with fail
  go_loopg [16] ps.length (fun kx s16 wr => ∃ k : Nat, s16 = .int .i64 k ∧ k ≤ ps.length ∧ ps.length - k ≤ kx ∧ Hid (RInv w wr ps k))
  case atStart => exact ⟨0, rfl, Nat.zero_le _, Nat.le_refl _, hide ⟨fun i q h => by omega, Below.refl _ _⟩⟩
  case round =>
    obtain ⟨k1, rfl, hk, hg, hI⟩ := hrel
    by_cases hlt : k1 < ps.length
    · obtain ⟨p, hp⟩ : ∃ p, ps[k1]? = some p := ⟨_, List.getElem?_eq_getElem hlt⟩
      obtain ⟨b, off, cap, he, hb, q, _, hcap, _⟩ := row_of ((unhide HV).next (unhide hI).2) hp
      simp only [Value.slice.injEq] at he
      obtain ⟨rfl, _, rfl⟩ := he
      have d0 := q.pe0 hp
      have d1 := q.pe1 hp
      have d2 := q.pe2 hp
      have d3 := q.pe3 hp
      have hkk : (k1 : Int) < (ps.length : Int) := by omega
      have HX := hide (kk_get hp)
      have HE := hide (err_kk ps k1 p)
      have HAl := hide (allocB wr (.cells #[.int .i64 p.id, .int .i64 p.ep, .slice p.a p.ts.length p.c, .int .i64 p.dn] 29))
      have HP := hide (PBox.new wr p)
      have HROW := hide (fun W (hW : Below w.heap.size w W) (i : Nat) (y : Pe) (hy : ps[i]? = some y) => by
        obtain ⟨b', off', cap', he', hb', q', _⟩ := row_of ((unhide HV).next hW) hy
        simp only [Value.slice.injEq, Option.some.injEq, Addr.mk.injEq, and_true, true_and] at he'
        obtain ⟨⟨rfl, rfl⟩, _⟩ := he'
        exact q'.pe0 hy)
      clear q hp hb
      obtain ⟨id, ep, pa, pc, ts, dn⟩ := p
      simp only at *
      go_upto_region 4 with fail
      obtain ⟨W1, hW1⟩ : ∃ W1, W1 = wr.alloc (.cells #[.int .i64 id, .int .i64 ep, .slice pa ts.length pc, .int .i64 dn] 29) := ⟨_, rfl⟩
      obtain ⟨g, hg0⟩ : ∃ g, g = wr.heap.size := ⟨_, rfl⟩
      rw [← hW1, ← hg0] at HP
      rw [← hW1] at HAl
      rw [← hW1, ← hg0]
      have HB1 := hide (nnext (unhide hI).2 (unhide HAl))
      clear hW1 hg0 HAl d0 d1 d2 d3
      go_wp2_with fail
      go_loopg [7] k1 (fun kx s7 wr => ∃ j : Nat, s7 = .int .i64 j ∧ j ≤ k1 ∧ k1 - j ≤ kx ∧ Hid ((ps.take j).any (fun q => q.id == id) = false) ∧ Hid (Below W1.heap.size W1 wr))
      case atStart => exact ⟨0, rfl, Nat.zero_le _, Nat.le_refl _, hide (by simp), hide (Below.refl _ _)⟩
      case round =>
        obtain ⟨j, rfl, hj, hgj, HM, hB⟩ := hrel
        have P2 := (unhide HP).next (unhide hB)
        have c0 := P2.c0
        have c1 := P2.c1
        simp only at c0 c1
        have HB2 := hide (nnext (unhide HB1) (unhide hB))
        clear P2
        by_cases hjk : j < k1
        · obtain ⟨y, hy⟩ : ∃ y, ps[j]? = some y := ⟨_, List.getElem?_eq_getElem (by omega)⟩
          have f0 := unhide HROW _ (unhide HB2) j y hy
          have hjn : (j : Int) < (ps.length : Int) := by omega
          have hjk' : (j : Int) < (k1 : Int) := by omega
          have HT := hide (take_more2 hy)
          have HY : Hid (y ∈ ps.take k1) := hide (List.mem_of_getElem? (i := j) (by rw [List.getElem?_take_of_lt hjk]; exact hy))
          clear hy
          by_cases hyi : y.id = id
          · have HAny : Hid ((ps.take k1).any (fun q => q.id == id) = true) := hide (List.any_eq_true.2 ⟨y, unhide HY, by simp [hyi]⟩)
            have HE2 : Hid (A = 8) := hide (by
              have h := adm_at (unhide HA) (unhide hI).1 (unhide HX) (by rw [unhide HE, unhide HAny]; simp)
              rw [h, unhide HE, unhide HAny]; simp)
            go_wp2_with fail
            go_quiet (fail)
            go_wp2_with fail
            go_ret3
            obtain ⟨rfl, rfl, rfl⟩ := unhide HNO 8 (unhide HE2) (by decide)
            exact ⟨rfl, belowN (unhide HB2)⟩
          · have HM2 : Hid ((ps.take (j + 1)).any (fun q => q.id == id) = false) := hide (by rw [unhide HT, List.any_append, unhide HM]; simp [hyi])
            go_wp2_with fail
            go_quiet (fail)
            go_wp2_with fail
            go_roundg (k1 - (j + 1))
            case measure => omega
            case rel => exact ⟨j + 1, by simp, by omega, Nat.le_refl _, HM2, hide (belowN (unhide hB))⟩
        · obtain rfl : j = k1 := by omega
          have hjk' : ¬ ((j : Int) < (j : Int)) := by omega
          rw [unhide HM] at HE
          by_cases h1 : id < 0
          · have HE2 : Hid (A = 3) := hide (by
              have h := adm_at (unhide HA) (unhide hI).1 (unhide HX) (by rw [unhide HE]; simp [h1])
              rw [h, unhide HE]; simp [h1])
            go_wp2_with fail
            go_ret3
            obtain ⟨rfl, rfl, rfl⟩ := unhide HNO 3 (unhide HE2) (by decide)
            exact ⟨rfl, unhide HB2⟩
          · by_cases h2 : id > 2
            · have h2' : 3 ≤ id := by omega
              have HE2 : Hid (A = 3) := hide (by
                have h := adm_at (unhide HA) (unhide hI).1 (unhide HX) (by rw [unhide HE]; simp [h2'])
                rw [h, unhide HE]; simp [h2'])
              go_wp2_with fail
              go_ret3
              obtain ⟨rfl, rfl, rfl⟩ := unhide HNO 3 (unhide HE2) (by decide)
              exact ⟨rfl, unhide HB2⟩
            · by_cases h3 : ep < 0
              · have HE2 : Hid (A = 3) := hide (by
                  have h := adm_at (unhide HA) (unhide hI).1 (unhide HX) (by rw [unhide HE]; simp [h3])
                  rw [h, unhide HE]; simp [h3])
                go_wp2_with fail
                go_ret3
                obtain ⟨rfl, rfl, rfl⟩ := unhide HNO 3 (unhide HE2) (by decide)
                exact ⟨rfl, unhide HB2⟩
              · by_cases h4 : ep ≥ 2147483648
                · have h4' : 2147483647 < ep := by omega
                  have HE2 : Hid (A = 3) := hide (by
                    have h := adm_at (unhide HA) (unhide hI).1 (unhide HX) (by rw [unhide HE]; simp [h4'])
                    rw [h, unhide HE]; simp [h4'])
                  go_wp2_with fail
                  go_ret3
                  obtain ⟨rfl, rfl, rfl⟩ := unhide HNO 3 (unhide HE2) (by decide)
                  exact ⟨rfl, unhide HB2⟩
                · have HZ0 : Hid (errP ((ps.map kk).take j) (kk ⟨id, ep, pa, pc, ts, dn⟩) = 0) := hide (by rw [unhide HE]; simp; omega)
                  have HI2 : Hid (∀ i q, i < j + 1 → (ps.map kk)[i]? = some q → errP ((ps.map kk).take i) q = 0) := hide (fun i q hi hq => by
                    by_cases e : i = j
                    · subst e
                      rw [unhide HX] at hq
                      cases hq
                      exact unhide HZ0
                    · exact (unhide hI).1 i q (by omega) hq)
                  go_wp2_with fail
                  go_roundg (ps.length - (j + 1))
                  case measure => omega
                  case rel => exact ⟨j + 1, rfl, by omega, Nat.le_refl _, hide ⟨unhide HI2, unhide HB2⟩⟩
    · obtain rfl : k1 = ps.length := by omega
      have hki : ¬ ((ps.length : Int) < (ps.length : Int)) := by omega
      have HA0 : Hid (A = 0) := hide (adm_end (unhide HA) (by rw [List.length_map]; exact (unhide hI).1))
      have HNN := hide (adm_newN (ks := ps.map kk) (by rw [← unhide HA0]; exact unhide HA))
      have HR2 : Hid ((ps.length < 2 ∧ k = 0 ∧ n = 0 ∧ E = 14) ∨ (2 ≤ ps.length ∧ ((2147483647 < newN (ps.map kk) + 1 ∧ k = 0 ∧ n = 0 ∧ E = 6) ∨ (newN (ps.map kk) + 1 ≤ 2147483647 ∧ k = leadAt (ps.map kk) ps.length ∧ n = newN (ps.map kk) + 1 ∧ E = 0)))) := hide (by
        rcases unhide HR with ⟨h, _⟩ | ⟨_, h⟩
        · exact absurd (unhide HA0) h
        · rw [List.length_map] at h; exact h)
      have HB0 := hide (unhide hI).2
      clear HR HNO hI HA
      by_cases h2 : ps.length < 2
      · have h2' : (ps.length : Int) < 2 := by omega
        have HF : Hid (k = 0 ∧ n = 0 ∧ E = 14) := hide (by
          rcases unhide HR2 with ⟨_, h⟩ | ⟨h, _⟩
          · exact h
          · omega)
        go_wp2_with fail
        go_ret3
        obtain ⟨rfl, rfl, rfl⟩ := unhide HF
        exact ⟨rfl, unhide HB0⟩
      · have h2' : ¬ (ps.length : Int) < 2 := by omega
        have HR3 : Hid ((2147483647 < newN (ps.map kk) + 1 ∧ k = 0 ∧ n = 0 ∧ E = 6) ∨ (newN (ps.map kk) + 1 ≤ 2147483647 ∧ k = leadAt (ps.map kk) ps.length ∧ n = newN (ps.map kk) + 1 ∧ E = 0)) := hide (by
          rcases unhide HR2 with ⟨h, _⟩ | ⟨_, h⟩
          · omega
          · exact h)
        clear HR2
        go_wp2_with fail
        go_loopg [8, 9, 58] ps.length (fun kx s8 s9 s58 wr => ∃ (i L : Nat) (m : Int), s8 = .int .i64 L ∧ s9 = .int .i64 m ∧ s58 = .int .i64 i ∧ i ≤ ps.length ∧ ps.length - i ≤ kx ∧ Hid (leadAt (ps.map kk) i = L) ∧ Hid (newN ((ps.map kk).take i) = m) ∧ Hid (Below w.heap.size w wr))
        case atStart => exact ⟨0, 0, 0, rfl, rfl, rfl, Nat.zero_le _, Nat.le_refl _, hide rfl, hide rfl, HB0⟩
        case round =>
          obtain ⟨i, L, m, rfl, rfl, rfl, hi, hgi, HLd, HNm, hB⟩ := hrel
          by_cases hlt2 : i < ps.length
          · obtain ⟨p, hp⟩ : ∃ p, ps[i]? = some p := ⟨_, List.getElem?_eq_getElem hlt2⟩
            have hLl : L < ps.length := by have := leadAt_lt (ps.map kk) i; rw [unhide HLd] at this; omega
            obtain ⟨r, hr⟩ : ∃ r, ps[L]? = some r := ⟨_, List.getElem?_eq_getElem hLl⟩
            obtain ⟨b, off, cap, he, hb, q, _, hcap, _⟩ := row_of ((unhide HV).next (unhide hB)) hp
            simp only [Value.slice.injEq] at he
            obtain ⟨rfl, _, rfl⟩ := he
            have d0 := q.pe0 hp
            have d1 := q.pe1 hp
            have d2 := q.pe2 hp
            have d3 := q.pe3 hp
            have hii : (i : Int) < (ps.length : Int) := by omega
            have hLi : (L : Int) < (ps.length : Int) := by omega
            have HN : Hid (leadAt (ps.map kk) (i + 1) = if bet (kk p) (kk r) = true then i else L) := hide (by rw [leadAt_more (kk_get hp) (by rw [unhide HLd]; exact kk_get hr), unhide HLd])
            have HNw : Hid (newN ((ps.map kk).take (i + 1)) = max (max m p.ep) (zEpoch (lastZ p.ts))) := hide (by rw [take_more2 (kk_get hp), newN_snoc, unhide HNm]; rfl)
            have HBt : Hid (bet (kk p) (kk r) = (decide (lastZ r.ts < lastZ p.ts) || (decide (lastZ p.ts = lastZ r.ts) && decide (r.id < p.id)))) := hide rfl
            have HAl := hide (allocB wr (.cells #[.int .i64 p.id, .int .i64 p.ep, .slice p.a p.ts.length p.c, .int .i64 p.dn] 29))
            have HP := hide (PBox.new wr p)
            have HC1 := hide (fun W (hW : Below w.heap.size w W) => rlast_any p.log p.ts W ((unhide HL p (List.mem_of_getElem? hp)).next hW))
            have HC2 := hide (fun W (hW : Below w.heap.size w W) => rlast_any r.log r.ts W ((unhide HL r (List.mem_of_getElem? hr)).next hW))
            have HZp := hide (unhide HZ p (List.mem_of_getElem? hp))
            have HRW : Hid (∀ W, Below wr.heap.size wr W → W.cell? ⟨b, off + L * 4, none⟩ = some (.int .i64 r.id) ∧ W.cell? ⟨b, off + L * 4 + 2, none⟩ = some (.slice r.a r.ts.length r.c)) := hide (fun W hW => by
              have q' := q.kept hW hb
              exact ⟨q'.pe0 hr, q'.pe2 hr⟩)
            clear q hp hb hr
            generalize bet (kk p) (kk r) = B at *
            obtain ⟨id, ep, pa, pc, ts, dn⟩ := p
            obtain ⟨jd, eq, qa, qc, us, dm⟩ := r
            simp only [Pe.log] at *
            generalize lastZ ts = zp at *
            generalize lastZ us = zr at *
            go_upto_region 18 with fail
            obtain ⟨W1, hW1⟩ : ∃ W1, W1 = wr.alloc (.cells #[.int .i64 id, .int .i64 ep, .slice pa ts.length pc, .int .i64 dn] 29) := ⟨_, rfl⟩
            obtain ⟨g, hg0⟩ : ∃ g, g = wr.heap.size := ⟨_, rfl⟩
            rw [← hW1, ← hg0] at HP
            rw [← hW1] at HAl
            rw [← hW1, ← hg0]
            have HB1 := hide (nnext (unhide hB) (unhide HAl))
            have HRX := hide (fun W (hW : Below W1.heap.size W1 W) => unhide HRW W (nnext (unhide HAl) hW))
            have e2 := (unhide HP).c2
            simp only at e2
            have f2 := (unhide HRX W1 (Below.refl _ _)).2
            have hbw : b < W1.heap.size := World.block_lt_of_cell? _ _ f2
            have hpw := (unhide HP).lt
            clear hW1 hg0 HAl d0 d1 d2 d3 HRW
            have c1' := fun d os => Calls.regrown_of (w := W1) (d := d) (os := os) (unhide HC1 _ (nnext (unhide HB1) (below_regrown W1 d os)))
            have c2' := fun d os => Calls.regrown_of (w := W1) (d := d) (os := os) (unhide HC2 _ (nnext (unhide HB1) (below_regrown W1 d os)))
            have g2 := fun d os => cell_regrown e2 d os
            have r2 := fun d os => cell_regrown f2 d os
            clear e2 f2 HC1 HC2
            refine wp_region_quiet_below (by kernel_rfl) (by kernel_rfl) ?_
            repeat (first | go_big_quiet_step (first | with_reducible exact c1' _ _ | with_reducible exact c2' _ _) | quiet_step (first | with_reducible exact c1' _ _ | with_reducible exact c2' _ _))
            refine wpQuiet_nil ?_
            intro _ hw'
            obtain ⟨⟨dq, osq⟩, hw''⟩ := hw'
            subst hw''
            have HBq := hide (below_regrown W1 dq osq)
            clear c1' c2' g2 r2 hbw hpw
            generalize Go.Sort.grow (redrawn W1 dq) osq = W2 at *
            have HB2 := hide (nnext (unhide HB1) (unhide HBq))
            have P2 := (unhide HP).next (unhide HBq)
            have e0 := P2.c0
            have e1 := P2.c1
            simp only at e0 e1
            have f0 := (unhide HRX W2 (unhide HBq)).1
            have HP2 := hide P2
            clear P2 HP HRX HBq HB1
            clear HLd HNm
            by_cases z1 : zp > zr
            · have HN2 : Hid (leadAt (ps.map kk) (i + 1) = i) := hide (by rw [unhide HN, unhide HBt]; simp; omega)
              go_wp2_with fail
              go_quiet (fail)
              have e5 := e1
              have HB5 := hide (belowN (n := nq) (unhide HB2))
              by_cases c1 : ep > m
              · go_wp2_with fail
                refine (repoch_any _ (unhide HZp) _).mono ?_
                rintro e w6 ⟨rfl, rfl⟩
                by_cases c2 : zEpoch zp > ep
                · go_wp2_with fail
                  refine (repoch_any _ (unhide HZp) _).mono ?_
                  rintro e w6 ⟨rfl, rfl⟩
                  go_wp2_with fail
                  go_roundg (ps.length - (i + 1))
                  case measure => omega
                  case rel => exact ⟨i + 1, i, zEpoch zp, rfl, rfl, rfl, by omega, Nat.le_refl _, HN2, hide ((unhide HNw).trans (by omega)), HB5⟩
                · have c2' : ¬ zEpoch zp > ep := c2
                  go_wp2_with fail
                  go_roundg (ps.length - (i + 1))
                  case measure => omega
                  case rel => exact ⟨i + 1, i, ep, rfl, rfl, rfl, by omega, Nat.le_refl _, HN2, hide ((unhide HNw).trans (by omega)), HB5⟩
              · go_wp2_with fail
                refine (repoch_any _ (unhide HZp) _).mono ?_
                rintro e w6 ⟨rfl, rfl⟩
                by_cases c2 : zEpoch zp > m
                · go_wp2_with fail
                  refine (repoch_any _ (unhide HZp) _).mono ?_
                  rintro e w6 ⟨rfl, rfl⟩
                  go_wp2_with fail
                  go_roundg (ps.length - (i + 1))
                  case measure => omega
                  case rel => exact ⟨i + 1, i, zEpoch zp, rfl, rfl, rfl, by omega, Nat.le_refl _, HN2, hide ((unhide HNw).trans (by omega)), HB5⟩
                · have c2' : ¬ zEpoch zp > m := c2
                  go_wp2_with fail
                  go_roundg (ps.length - (i + 1))
                  case measure => omega
                  case rel => exact ⟨i + 1, i, m, rfl, rfl, rfl, by omega, Nat.le_refl _, HN2, hide ((unhide HNw).trans (by omega)), HB5⟩
            · have z1d : decide (zr < zp) = false := by simp; omega
              by_cases z2 : zp = zr
              · subst z2
                by_cases z3 : id > jd
                · have HN2 : Hid (leadAt (ps.map kk) (i + 1) = i) := hide (by rw [unhide HN, unhide HBt]; simp; omega)
                  go_wp2_with fail
                  go_quiet (fail)
                  have e5 := e1
                  have HB5 := hide (belowN (n := nq) (unhide HB2))
                  by_cases c1 : ep > m
                  · go_wp2_with fail
                    refine (repoch_any _ (unhide HZp) _).mono ?_
                    rintro e w6 ⟨rfl, rfl⟩
                    by_cases c2 : zEpoch zp > ep
                    · go_wp2_with fail
                      refine (repoch_any _ (unhide HZp) _).mono ?_
                      rintro e w6 ⟨rfl, rfl⟩
                      go_wp2_with fail
                      go_roundg (ps.length - (i + 1))
                      case measure => omega
                      case rel => exact ⟨i + 1, i, zEpoch zp, rfl, rfl, rfl, by omega, Nat.le_refl _, HN2, hide ((unhide HNw).trans (by omega)), HB5⟩
                    · have c2' : ¬ zEpoch zp > ep := c2
                      go_wp2_with fail
                      go_roundg (ps.length - (i + 1))
                      case measure => omega
                      case rel => exact ⟨i + 1, i, ep, rfl, rfl, rfl, by omega, Nat.le_refl _, HN2, hide ((unhide HNw).trans (by omega)), HB5⟩
                  · go_wp2_with fail
                    refine (repoch_any _ (unhide HZp) _).mono ?_
                    rintro e w6 ⟨rfl, rfl⟩
                    by_cases c2 : zEpoch zp > m
                    · go_wp2_with fail
                      refine (repoch_any _ (unhide HZp) _).mono ?_
                      rintro e w6 ⟨rfl, rfl⟩
                      go_wp2_with fail
                      go_roundg (ps.length - (i + 1))
                      case measure => omega
                      case rel => exact ⟨i + 1, i, zEpoch zp, rfl, rfl, rfl, by omega, Nat.le_refl _, HN2, hide ((unhide HNw).trans (by omega)), HB5⟩
                    · have c2' : ¬ zEpoch zp > m := c2
                      go_wp2_with fail
                      go_roundg (ps.length - (i + 1))
                      case measure => omega
                      case rel => exact ⟨i + 1, i, m, rfl, rfl, rfl, by omega, Nat.le_refl _, HN2, hide ((unhide HNw).trans (by omega)), HB5⟩
                · have z3d : decide (jd < id) = false := by simp; omega
                  have HN2 : Hid (leadAt (ps.map kk) (i + 1) = L) := hide (by rw [unhide HN, unhide HBt]; simp; omega)
                  go_wp2_with fail
                  go_quiet (fail)
                  have e5 := e1
                  have HB5 := hide (belowN (n := nq) (unhide HB2))
                  by_cases c1 : ep > m
                  · go_wp2_with fail
                    refine (repoch_any _ (unhide HZp) _).mono ?_
                    rintro e w6 ⟨rfl, rfl⟩
                    by_cases c2 : zEpoch zp > ep
                    · go_wp2_with fail
                      refine (repoch_any _ (unhide HZp) _).mono ?_
                      rintro e w6 ⟨rfl, rfl⟩
                      go_wp2_with fail
                      go_roundg (ps.length - (i + 1))
                      case measure => omega
                      case rel => exact ⟨i + 1, L, zEpoch zp, rfl, rfl, rfl, by omega, Nat.le_refl _, HN2, hide ((unhide HNw).trans (by omega)), HB5⟩
                    · have c2' : ¬ zEpoch zp > ep := c2
                      go_wp2_with fail
                      go_roundg (ps.length - (i + 1))
                      case measure => omega
                      case rel => exact ⟨i + 1, L, ep, rfl, rfl, rfl, by omega, Nat.le_refl _, HN2, hide ((unhide HNw).trans (by omega)), HB5⟩
                  · go_wp2_with fail
                    refine (repoch_any _ (unhide HZp) _).mono ?_
                    rintro e w6 ⟨rfl, rfl⟩
                    by_cases c2 : zEpoch zp > m
                    · go_wp2_with fail
                      refine (repoch_any _ (unhide HZp) _).mono ?_
                      rintro e w6 ⟨rfl, rfl⟩
                      go_wp2_with fail
                      go_roundg (ps.length - (i + 1))
                      case measure => omega
                      case rel => exact ⟨i + 1, L, zEpoch zp, rfl, rfl, rfl, by omega, Nat.le_refl _, HN2, hide ((unhide HNw).trans (by omega)), HB5⟩
                    · have c2' : ¬ zEpoch zp > m := c2
                      go_wp2_with fail
                      go_roundg (ps.length - (i + 1))
                      case measure => omega
                      case rel => exact ⟨i + 1, L, m, rfl, rfl, rfl, by omega, Nat.le_refl _, HN2, hide ((unhide HNw).trans (by omega)), HB5⟩
              · have z2d : decide (zp = zr) = false := by simp [z2]
                have HN2 : Hid (leadAt (ps.map kk) (i + 1) = L) := hide (by rw [unhide HN, unhide HBt]; simp; omega)
                go_wp2_with fail
                go_quiet (fail)
                have e5 := e1
                have HB5 := hide (belowN (n := nq) (unhide HB2))
                by_cases c1 : ep > m
                · go_wp2_with fail
                  refine (repoch_any _ (unhide HZp) _).mono ?_
                  rintro e w6 ⟨rfl, rfl⟩
                  by_cases c2 : zEpoch zp > ep
                  · go_wp2_with fail
                    refine (repoch_any _ (unhide HZp) _).mono ?_
                    rintro e w6 ⟨rfl, rfl⟩
                    go_wp2_with fail
                    go_roundg (ps.length - (i + 1))
                    case measure => omega
                    case rel => exact ⟨i + 1, L, zEpoch zp, rfl, rfl, rfl, by omega, Nat.le_refl _, HN2, hide ((unhide HNw).trans (by omega)), HB5⟩
                  · have c2' : ¬ zEpoch zp > ep := c2
                    go_wp2_with fail
                    go_roundg (ps.length - (i + 1))
                    case measure => omega
                    case rel => exact ⟨i + 1, L, ep, rfl, rfl, rfl, by omega, Nat.le_refl _, HN2, hide ((unhide HNw).trans (by omega)), HB5⟩
                · go_wp2_with fail
                  refine (repoch_any _ (unhide HZp) _).mono ?_
                  rintro e w6 ⟨rfl, rfl⟩
                  by_cases c2 : zEpoch zp > m
                  · go_wp2_with fail
                    refine (repoch_any _ (unhide HZp) _).mono ?_
                    rintro e w6 ⟨rfl, rfl⟩
                    go_wp2_with fail
                    go_roundg (ps.length - (i + 1))
                    case measure => omega
                    case rel => exact ⟨i + 1, L, zEpoch zp, rfl, rfl, rfl, by omega, Nat.le_refl _, HN2, hide ((unhide HNw).trans (by omega)), HB5⟩
                  · have c2' : ¬ zEpoch zp > m := c2
                    go_wp2_with fail
                    go_roundg (ps.length - (i + 1))
                    case measure => omega
                    case rel => exact ⟨i + 1, L, m, rfl, rfl, rfl, by omega, Nat.le_refl _, HN2, hide ((unhide HNw).trans (by omega)), HB5⟩
          · obtain rfl : i = ps.length := by omega
            have hki2 : ¬ ((ps.length : Int) < (ps.length : Int)) := by omega
            have HNm2 : Hid (newN (ps.map kk) = m) := hide (by
              have := unhide HNm
              rwa [show (ps.map kk).take ps.length = ps.map kk by rw [List.take_of_length_le (by simp)]] at this)
            rw [unhide HNm2, unhide HLd] at HR3
            rw [unhide HNm2] at HNN
            obtain ⟨n0, n1⟩ := unhide HNN
            by_cases h6 : m + 1 ≥ 2147483648
            · have HF : Hid (k = 0 ∧ n = 0 ∧ E = 6) := hide (by
                rcases unhide HR3 with ⟨_, h⟩ | ⟨h, _⟩
                · exact h
                · omega)
              go_wp2_with fail
              go_ret3
              obtain ⟨rfl, rfl, rfl⟩ := unhide HF
              exact ⟨rfl, unhide hB⟩
            · have HF : Hid (k = L ∧ n = m + 1 ∧ E = 0) := hide (by
                rcases unhide HR3 with ⟨h, _⟩ | ⟨_, h⟩
                · omega
                · exact h)
              go_wp2_with fail
              go_ret3
              obtain ⟨rfl, rfl, rfl⟩ := unhide HF
              exact ⟨rfl, unhide hB⟩
end Go.Proofs.Ytijpnmponjjejaa
