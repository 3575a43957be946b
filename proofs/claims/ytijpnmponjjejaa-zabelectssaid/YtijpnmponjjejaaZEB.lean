/-
  What zxid's functions on numbers answer, for every number: the walks.
  zab.admitted, newest, leading: the walks.
  zab.admitted: the walk.
  zab.newest, zab.leading: the walks.
  zab.Quorum, zab.Elect, aviarykeep.elects: the walks.
  What aviaryref.Last answers: the walk.
  What aviaryref.GoodZxid answers, for every number: the walk.
  What aviaryref.GoodZxid, Epoch and Count answer, for every number: the walks.
-/
import Derived.Test.YtijpnmponjjejaaRows
import Derived.Test.YtijpnmponjjejaaZEA
import Derived.WalkKit
import Derived.WalkSpells
import Derived.WalkLawsBesides
import Derived.Lib.MinMax
import Derived.Deep.LoopGhost
namespace Go.Proofs.Ytijpnmponjjejaa
open Go.RowKit
set_option maxRecDepth 10000 in
set_option maxHeartbeats 400000 in
theorem zepoch_any (z : Int) (w : World) :
    Calls Try.prog 21 #[.int .i64 z] w fun e w' => e = .returned (.int .i64 (zEpoch z)) ∧ w' = w := by
  cases hg : zGood z
  · have H := hide (zEpoch_no hg)
    have Hg := hide hg
    clear hg
    go_enter Try.func21, Try.ntmps21
    go_wp2_with fail
    refine (zgood_any z _).mono ?_
    rintro e w1 ⟨rfl, rfl⟩
    rw [unhide Hg]
    go_wp2_with fail
    go_ret
    exact ⟨ret_int (unhide H).symm, rfl⟩
  · have H := hide (zEpoch_yes hg)
    have Hg := hide hg
    clear hg
    go_enter Try.func21, Try.ntmps21
    go_wp2_with fail
    refine (zgood_any z _).mono ?_
    rintro e w1 ⟨rfl, rfl⟩
    rw [unhide Hg]
    go_wp2_with fail
    go_ret
    exact ⟨ret_int (unhide H).symm, rfl⟩

end Go.Proofs.Ytijpnmponjjejaa

namespace Go.Proofs.Ytijpnmponjjejaa
open Go.RowKit

def kk (p : Pe) : Key := (p.id, p.ep, lastZ p.ts)
theorem kk_get {ps : List Pe} {i : Nat} {p : Pe} (h : ps[i]? = some p) : (ps.map kk)[i]? = some (kk p) := by rw [List.getElem?_map, h]; rfl
theorem kk_take (ps : List Pe) (i : Nat) : (ps.map kk).take i = (ps.take i).map kk := by rw [List.map_take]
theorem bret_bool {i : Int} {b : Bool} (h : decide (0 ≤ i) = b) : Ending.returned (.bool (decide (0 ≤ i))) = .returned (.bool b) := by rw [h]
/-- the row of a beginning -/
theorem seq_take {α : Type} [Lay α] {w : World} {b off n cap : Nat} {xs : List α} (h : SeqV w (.slice (some ⟨b, off, none⟩) n cap) xs) (k : Nat) (hk : k ≤ xs.length) : SeqV w (.slice (some ⟨b, off, none⟩) k cap) (xs.take k) := by
  have hl : (xs.take k).length = k := by simp; omega
  rcases h with ⟨a, c, e, rfl, hm⟩ | ⟨b', off', cap', e, h1, h2, h3, h0, h4⟩
  · simp only [Value.slice.injEq] at e
    obtain ⟨_, _, rfl⟩ := e
    simp only [List.length_nil, Nat.le_zero] at hk
    subst hk
    exact .inl ⟨_, _, rfl, rfl, hm⟩
  · simp only [Value.slice.injEq, Option.some.injEq, Addr.mk.injEq, and_true] at e
    obtain ⟨⟨rfl, rfl⟩, _, rfl⟩ := e
    by_cases hz : k = 0
    · subst hz
      exact .inl ⟨_, _, rfl, by simp, h2⟩
    · refine .inr ⟨b, off, cap, by rw [hl], by omega, h2, h3, fun e => by rw [e] at hl; simp at hl; omega, fun j u hj => h4 j u ?_⟩
      have e : cellsL xs = cellsL (xs.take k) ++ cellsL (xs.drop k) := by rw [← cellsL_append, List.take_append_drop]
      rw [e, List.getElem?_append_left (List.getElem?_eq_some_iff.1 hj).1]
      exact hj

set_option maxRecDepth 10000 in
set_option maxHeartbeats 1000000 in
theorem same_any (q p : Pe) (g : Nat) (w : World) (hp : PBox w g p) :
    Calls Try.prog 37 #[peV q, .pointer (some ⟨g, 0, none⟩)] w fun e w' => e = .returned (.bool (q.id == p.id)) ∧ Below w.heap.size w w' := by
  have B0 := allocB w (.cells #[.int .i64 q.id, .int .i64 q.ep, .slice q.a q.ts.length q.c, .int .i64 q.dn] 29)
  have e0 := (hp.next B0).c0
  have f0 := (PBox.new w q).c0
  have HB := hide B0
  obtain ⟨i, ep, a, c, ts, dn⟩ := q
  obtain ⟨j, eq, b, d, us, dm⟩ := p
  simp only at *
  clear hp B0
  unfold peV
  simp only
  go_enter Try.func37, Try.ntmps37
  go_wp2_with fail
  go_ret
  refine ⟨?_, unhide HB⟩
  by_cases h : i = j <;> simp [h]

set_option maxRecDepth 10000 in
set_option maxHeartbeats 1000000 in
theorem idx_any (v : Value) (xs : List Pe) (p : Pe) (g : Nat) (w : World) (hv : SeqV w v xs) (hp : PBox w g p) (hl : xs.length ≤ 140737488355328) :
    Calls Try.prog 42 #[v, .func (.func 37) #[] #[.pointer (some ⟨g, 0, none⟩)]] w fun e w' => (∃ i : Int, e = .returned (.int .i64 i) ∧ decide (0 ≤ i) = xs.any (fun q => q.id == p.id)) ∧ Below w.heap.size w w' := by
  have HV := hide hv
  have HP := hide hp
  have HS := hide (fun q W h => same_any q p g W h)
  obtain ⟨va, vc, rfl⟩ := seq_slice hv
  clear hv hp
  unfold peV at HS
  go_enter Try.func42, Try.ntmps42
  go_wp2_with fail
  go_loopg [8] xs.length (fun kx s8 wr => ∃ k : Nat, s8 = .int .i64 k ∧ k ≤ xs.length ∧ xs.length - k ≤ kx ∧ Hid ((xs.take k).any (fun q => q.id == p.id) = false) ∧ Hid (Below w.heap.size w wr))
  case atStart => exact ⟨0, rfl, Nat.zero_le _, Nat.le_refl _, hide (by simp), hide (Below.refl _ _)⟩
  case round =>
    obtain ⟨k, rfl, hk, hg, hh, hB⟩ := hrel
    by_cases hlt : k < xs.length
    · obtain ⟨y, hy⟩ : ∃ y, xs[k]? = some y := ⟨_, List.getElem?_eq_getElem hlt⟩
      obtain ⟨b, off, cap, he, hb, q, _⟩ := row_of ((unhide HV).next (unhide hB)) hy
      simp only [Value.slice.injEq] at he
      obtain ⟨rfl, _, rfl⟩ := he
      have d0 := q.pe0 hy
      have d1 := q.pe1 hy
      have d2 := q.pe2 hy
      have d3 := q.pe3 hy
      have hkk : (k : Int) < (xs.length : Int) := by omega
      have C := unhide HS y wr ((unhide HP).next (unhide hB))
      have HM : Hid (y ∈ xs) := hide (List.mem_of_getElem? hy)
      have HT := hide (take_more2 hy)
      clear q hy hb
      cases hxy : (y.id == p.id)
      · rw [hxy] at C
        have HX := hide hxy
        clear hxy
        go_wp2_with fail
        refine C.mono ?_
        rintro e w1 ⟨rfl, hb1⟩
        have hB1 := nnext (unhide hB) hb1
        clear C hb1
        go_wp2_with fail
        go_roundg (xs.length - (k + 1))
        case measure => omega
        case rel => exact ⟨k + 1, rfl, by omega, Nat.le_refl _, hide (by rw [unhide HT, List.any_append, unhide hh]; simpa using unhide HX), hide hB1⟩
      · rw [hxy] at C
        have HX := hide (show xs.any (fun q => q.id == p.id) = true from List.any_eq_true.2 ⟨y, unhide HM, hxy⟩)
        clear hxy
        go_wp2_with fail
        refine C.mono ?_
        rintro e w1 ⟨rfl, hb1⟩
        have hB1 := nnext (unhide hB) hb1
        clear C hb1
        go_wp2_with fail
        go_ret
        exact ⟨⟨k, rfl, by rw [unhide HX]; simp⟩, hB1⟩
    · obtain rfl : k = xs.length := by omega
      have hh2 := unhide hh
      rw [List.take_length] at hh2
      have HH := hide hh2
      have hki : ¬ ((xs.length : Int) < (xs.length : Int)) := by omega
      clear hh2
      go_wp2_with fail
      go_ret
      exact ⟨⟨-1, rfl, by rw [unhide HH]; rfl⟩, unhide hB⟩
set_option maxRecDepth 10000 in
set_option maxHeartbeats 1000000 in
theorem con_any (v : Value) (xs : List Pe) (p : Pe) (g : Nat) (w : World) (hv : SeqV w v xs) (hp : PBox w g p) (hl : xs.length ≤ 140737488355328) :
    Calls Try.prog 38 #[v, .func (.func 37) #[] #[.pointer (some ⟨g, 0, none⟩)]] w fun e w' => e = .returned (.bool (xs.any (fun q => q.id == p.id))) ∧ Below w.heap.size w w' := by
  have C := idx_any v xs p g w hv hp hl
  obtain ⟨va, vc, rfl⟩ := seq_slice hv
  generalize xs.any (fun q => q.id == p.id) = r at C ⊢
  clear hv hp
  go_enter Try.func38, Try.ntmps38
  go_wp2_with fail
  refine C.mono ?_
  rintro e w1 ⟨⟨i, rfl, hi⟩, hb1⟩
  have HB := hide hb1
  have HI := hide hi
  clear C hb1 hi
  go_wp2_with fail
  go_ret
  exact ⟨bret_bool (unhide HI), unhide HB⟩
end Go.Proofs.Ytijpnmponjjejaa

namespace Go.Proofs.Ytijpnmponjjejaa
open Go.RowKit

theorem any_kk (ps : List Pe) (k : Nat) (p : Pe) : ((ps.map kk).take k).any (fun q => q.1 == (kk p).1) = (ps.take k).any (fun q => q.id == p.id) := by
  rw [kk_take, List.any_map]; rfl
theorem err_kk (ps : List Pe) (k : Nat) (p : Pe) : errP ((ps.map kk).take k) (kk p) = if (ps.take k).any (fun q => q.id == p.id) = true then 8 else if p.id < 0 ∨ 3 ≤ p.id then 3 else if p.ep < 0 ∨ 2147483647 < p.ep then 3 else 0 := by
  unfold errP
  rw [any_kk]
  rfl
set_option maxRecDepth 10000 in
set_option maxHeartbeats 2000000 in
theorem admitted_any (v : Value) (ps : List Pe) (w : World) (E : Int) (hv : SeqV w v ps) (hA : Adm (ps.map kk) E) (hl : ps.length ≤ 140737488355328) :
    Calls Try.prog 25 #[v] w fun e w' => e = .returned (.int .i64 E) ∧ Below w.heap.size w w' := by
  have HV := hide hv
  have HA := hide hA
  obtain ⟨va, vc, rfl⟩ := seq_slice hv
  clear hv hA
  go_enter Try.func25, Try.ntmps25
  go_wp2_with fail
  go_loopg [8] ps.length (fun kx s8 wr => ∃ k : Nat, s8 = .int .i64 k ∧ k ≤ ps.length ∧ ps.length - k ≤ kx ∧ Hid (∀ i q, i < k → (ps.map kk)[i]? = some q → errP ((ps.map kk).take i) q = 0) ∧ Hid (Below w.heap.size w wr))
  case atStart => exact ⟨0, rfl, Nat.zero_le _, Nat.le_refl _, hide (fun i q h => by omega), hide (Below.refl _ _)⟩
  case round =>
    obtain ⟨k, rfl, hk, hg, HI, hB⟩ := hrel
    by_cases hlt : k < ps.length
    · obtain ⟨p, hp⟩ : ∃ p, ps[k]? = some p := ⟨_, List.getElem?_eq_getElem hlt⟩
      obtain ⟨b, off, cap, he, hb, q, _, hcap, _⟩ := row_of ((unhide HV).next (unhide hB)) hp
      simp only [Value.slice.injEq] at he
      obtain ⟨rfl, _, rfl⟩ := he
      have d0 := q.pe0 hp
      have d1 := q.pe1 hp
      have d2 := q.pe2 hp
      have d3 := q.pe3 hp
      have hkk : (k : Int) < (ps.length : Int) := by omega
      have HX := hide (kk_get hp)
      have HE := hide (err_kk ps k p)
      have HAl := hide (allocB wr (.cells #[.int .i64 p.id, .int .i64 p.ep, .slice p.a p.ts.length p.c, .int .i64 p.dn] 29))
      have HP := hide (PBox.new wr p)
      have HC := hide (fun W (hW : Below w.heap.size w W) (hP : PBox W wr.heap.size p) => con_any _ (ps.take k) p wr.heap.size W (seq_take ((unhide HV).next hW) k (by omega)) hP (by simp; omega))
      have hcap2 : k ≤ vc := by omega
      clear q hp hb
      obtain ⟨id, ep, pa, pc, ts, dn⟩ := p
      simp only at *
      go_wp2_with fail
      refine (unhide HC _ (nnext (unhide hB) (unhide HAl)) (unhide HP)).mono ?_
      rintro e w2 ⟨rfl, hb2⟩
      have P2 := (unhide HP).next hb2
      have c0 := P2.c0
      have c1 := P2.c1
      have HB2 := hide (nnext (nnext (unhide hB) (unhide HAl)) hb2)
      clear P2 hb2 HC HAl HP d0 d1 d2 d3
      cases hA : (ps.take k).any (fun q => q.id == id)
      · rw [hA] at HE
        simp only at c0 c1
        by_cases h1 : id < 0
        · have HR := hide (adm_at (unhide HA) (unhide HI) (unhide HX) (by rw [unhide HE]; simp [h1]))
          rw [unhide HE] at HR
          have HR2 : Hid (E = 3) := hide (by rw [unhide HR]; simp [h1])
          clear hA
          go_wp2_with fail
          go_ret
          rw [unhide HR2]
          exact ⟨rfl, unhide HB2⟩
        · by_cases h2 : id ≥ 3
          · have HR := hide (adm_at (unhide HA) (unhide HI) (unhide HX) (by rw [unhide HE]; simp [h2]))
            rw [unhide HE] at HR
            have HR2 : Hid (E = 3) := hide (by rw [unhide HR]; simp [h2])
            clear hA
            go_wp2_with fail
            go_ret
            rw [unhide HR2]
            exact ⟨rfl, unhide HB2⟩
          · by_cases h3 : ep < 0
            · have HR := hide (adm_at (unhide HA) (unhide HI) (unhide HX) (by rw [unhide HE]; simp [h3]))
              rw [unhide HE] at HR
              have HR2 : Hid (E = 3) := hide (by rw [unhide HR]; simp [h3])
              clear hA
              go_wp2_with fail
              go_ret
              rw [unhide HR2]
              exact ⟨rfl, unhide HB2⟩
            · by_cases h4 : ep > 2147483647
              · have h4' : 2147483647 < ep := h4
                have HR := hide (adm_at (unhide HA) (unhide HI) (unhide HX) (by rw [unhide HE]; simp [h4']))
                rw [unhide HE] at HR
                have HR2 : Hid (E = 3) := hide (by rw [unhide HR]; simp [h4'])
                clear hA
                go_wp2_with fail
                go_ret
                rw [unhide HR2]
                exact ⟨rfl, unhide HB2⟩
              · have HZ : Hid (errP ((ps.map kk).take k) (kk ⟨id, ep, pa, pc, ts, dn⟩) = 0) := hide (by rw [unhide HE]; simp; omega)
                have HI2 : Hid (∀ i q, i < k + 1 → (ps.map kk)[i]? = some q → errP ((ps.map kk).take i) q = 0) := hide (fun i q hi hq => by
                  by_cases e : i = k
                  · subst e
                    rw [unhide HX] at hq
                    cases hq
                    exact unhide HZ
                  · exact unhide HI i q (by omega) hq)
                clear hA
                go_wp2_with fail
                go_roundg (ps.length - (k + 1))
                case measure => omega
                case rel => exact ⟨k + 1, rfl, by omega, Nat.le_refl _, HI2, HB2⟩
      · rw [hA] at HE
        have HR := hide (adm_at (unhide HA) (unhide HI) (unhide HX) (by rw [unhide HE]; simp))
        rw [unhide HE] at HR
        have HR2 : Hid (E = 8) := hide (by rw [unhide HR]; simp)
        clear hA
        go_wp2_with fail
        go_ret
        rw [unhide HR2]
        exact ⟨rfl, unhide HB2⟩
    · obtain rfl : k = ps.length := by omega
      have hki : ¬ ((ps.length : Int) < (ps.length : Int)) := by omega
      have HR := hide (adm_end (unhide HA) (by rw [List.length_map]; exact unhide HI))
      go_wp2_with fail
      go_ret
      rw [unhide HR]
      exact ⟨rfl, unhide hB⟩
end Go.Proofs.Ytijpnmponjjejaa

namespace Go.Proofs.Ytijpnmponjjejaa
open Go.RowKit

set_option maxRecDepth 10000 in
set_option maxHeartbeats 2000000 in
theorem newest_any (v : Value) (ps : List Pe) (w : World) (hv : SeqV w v ps) (hL : PLogs w ps) (hl : ps.length ≤ 140737488355328) :
    Calls Try.prog 26 #[v] w fun e w' => e = .returned (.int .i64 (newN (ps.map kk))) ∧ Below w.heap.size w w' := by
  have HV := hide hv
  have HL := hide hL
  obtain ⟨va, vc, rfl⟩ := seq_slice hv
  clear hv hL
  go_enter Try.func26, Try.ntmps26
  go_wp2_with fail
  go_loopg [3, 8] ps.length (fun kx s3 s8 wr => ∃ (k : Nat) (m : Int), s3 = .int .i64 m ∧ s8 = .int .i64 k ∧ k ≤ ps.length ∧ ps.length - k ≤ kx ∧ Hid (newN ((ps.map kk).take k) = m) ∧ Hid (Below w.heap.size w wr))
  case atStart => exact ⟨0, 0, rfl, rfl, Nat.zero_le _, Nat.le_refl _, hide rfl, hide (Below.refl _ _)⟩
  case round =>
    obtain ⟨k, m, rfl, rfl, hk, hg, HM, hB⟩ := hrel
    by_cases hlt : k < ps.length
    · obtain ⟨p, hp⟩ : ∃ p, ps[k]? = some p := ⟨_, List.getElem?_eq_getElem hlt⟩
      obtain ⟨b, off, cap, he, hb, q, _, hcap, _⟩ := row_of ((unhide HV).next (unhide hB)) hp
      simp only [Value.slice.injEq] at he
      obtain ⟨rfl, _, rfl⟩ := he
      have d0 := q.pe0 hp
      have d1 := q.pe1 hp
      have d2 := q.pe2 hp
      have d3 := q.pe3 hp
      have hkk : (k : Int) < (ps.length : Int) := by omega
      have HN : Hid (newN ((ps.map kk).take (k + 1)) = max (max m p.ep) (zEpoch (lastZ p.ts))) := hide (by rw [take_more2 (kk_get hp), newN_snoc, unhide HM]; rfl)
      have HAl := hide (allocB wr (.cells #[.int .i64 p.id, .int .i64 p.ep, .slice p.a p.ts.length p.c, .int .i64 p.dn] 29))
      have HP := hide (PBox.new wr p)
      have HC := hide (fun W (hW : Below w.heap.size w W) => last_any p.log p.ts W ((unhide HL p (List.mem_of_getElem? hp)).next hW))
      clear q hp hb
      obtain ⟨id, ep, pa, pc, ts, dn⟩ := p
      simp only [Pe.log] at *
      generalize lastZ ts = z at *
      go_upto_region 5 with fail
      obtain ⟨W1, hW1⟩ : ∃ W1, W1 = wr.alloc (.cells #[.int .i64 id, .int .i64 ep, .slice pa ts.length pc, .int .i64 dn] 29) := ⟨_, rfl⟩
      rw [← hW1] at HAl HP ⊢
      have e1 := (unhide HP).c1
      have e2 := (unhide HP).c2
      simp only at e1 e2
      have HB1 := hide (nnext (unhide hB) (unhide HAl))
      have HCN := hide (fun n => unhide HC (W1.drewN n) (belowN (unhide HB1)))
      clear hW1 HC HAl HP d0 d1 d2 d3
      by_cases c1 : m < ep
      · by_cases c2 : ep < zEpoch z
        · go_quiet (first | (go_at_call 20; exact Calls.quiet_of_same (unhide HCN _)) | (go_at_call 21; exact Calls.quiet_of_same (zepoch_any _ _)))
          go_wp2_with fail
          go_roundg (ps.length - (k + 1))
          case measure => omega
          case rel => exact ⟨k + 1, zEpoch z, rfl, rfl, by omega, Nat.le_refl _, hide ((unhide HN).trans (by omega)), hide (belowN (unhide HB1))⟩
        · go_quiet (first | (go_at_call 20; exact Calls.quiet_of_same (unhide HCN _)) | (go_at_call 21; exact Calls.quiet_of_same (zepoch_any _ _)))
          go_wp2_with fail
          go_roundg (ps.length - (k + 1))
          case measure => omega
          case rel => exact ⟨k + 1, ep, rfl, rfl, by omega, Nat.le_refl _, hide ((unhide HN).trans (by omega)), hide (belowN (unhide HB1))⟩
      · by_cases c2 : m < zEpoch z
        · go_quiet (first | (go_at_call 20; exact Calls.quiet_of_same (unhide HCN _)) | (go_at_call 21; exact Calls.quiet_of_same (zepoch_any _ _)))
          go_wp2_with fail
          go_roundg (ps.length - (k + 1))
          case measure => omega
          case rel => exact ⟨k + 1, zEpoch z, rfl, rfl, by omega, Nat.le_refl _, hide ((unhide HN).trans (by omega)), hide (belowN (unhide HB1))⟩
        · go_quiet (first | (go_at_call 20; exact Calls.quiet_of_same (unhide HCN _)) | (go_at_call 21; exact Calls.quiet_of_same (zepoch_any _ _)))
          go_wp2_with fail
          go_roundg (ps.length - (k + 1))
          case measure => omega
          case rel => exact ⟨k + 1, m, rfl, rfl, by omega, Nat.le_refl _, hide ((unhide HN).trans (by omega)), hide (belowN (unhide HB1))⟩
    · obtain rfl : k = ps.length := by omega
      have hki : ¬ ((ps.length : Int) < (ps.length : Int)) := by omega
      have HR : Hid (newN (ps.map kk) = m) := hide (by
        have := unhide HM
        rwa [show (ps.map kk).take ps.length = ps.map kk by rw [List.take_of_length_le (by simp)]] at this)
      go_wp2_with fail
      go_ret
      rw [unhide HR]
      exact ⟨rfl, unhide hB⟩

theorem bet_or (p q : Pe) : decide (0 < orI (cmpI (lastZ p.ts) (lastZ q.ts)) (cmpI p.id q.id)) = bet (kk p) (kk q) := by
  unfold orI cmpI bet kk
  simp only
  by_cases h1 : lastZ p.ts < lastZ q.ts
  · have h2 : ¬ lastZ q.ts < lastZ p.ts := by omega
    have h3 : ¬ lastZ p.ts = lastZ q.ts := by omega
    simp [h1, h2, h3]
  · by_cases h2 : lastZ q.ts < lastZ p.ts
    · simp [h1, h2]
    · have h3 : lastZ p.ts = lastZ q.ts := by omega
      rw [h3]
      by_cases h4 : p.id < q.id
      · have h5 : ¬ q.id < p.id := by omega
        simp [h4, h5]
      · by_cases h5 : q.id < p.id
        · simp [h4, h5]
        · simp [h4, h5]

set_option maxRecDepth 10000 in
set_option maxHeartbeats 2000000 in
theorem leading_any (v : Value) (ps : List Pe) (w : World) (hv : SeqV w v ps) (hL : PLogs w ps) (hl : ps.length ≤ 140737488355328) :
    Calls Try.prog 27 #[v] w fun e w' => e = .returned (.int .i64 (leadAt (ps.map kk) ps.length)) ∧ Below w.heap.size w w' := by
  have HV := hide hv
  have HL := hide hL
  obtain ⟨va, vc, rfl⟩ := seq_slice hv
  clear hv hL
  go_enter Try.func27, Try.ntmps27
  go_wp2_with fail
  go_loopg [3, 8] ps.length (fun kx s3 s8 wr => ∃ (k m : Nat), s3 = .int .i64 m ∧ s8 = .int .i64 k ∧ k ≤ ps.length ∧ ps.length - k ≤ kx ∧ Hid (leadAt (ps.map kk) k = m) ∧ Hid (Below w.heap.size w wr))
  case atStart => exact ⟨0, 0, rfl, rfl, Nat.zero_le _, Nat.le_refl _, hide rfl, hide (Below.refl _ _)⟩
  case round =>
    obtain ⟨k, m, rfl, rfl, hk, hg, HM, hB⟩ := hrel
    by_cases hlt : k < ps.length
    · obtain ⟨p, hp⟩ : ∃ p, ps[k]? = some p := ⟨_, List.getElem?_eq_getElem hlt⟩
      have hm : m < ps.length := by have := leadAt_lt (ps.map kk) k; rw [unhide HM] at this; omega
      obtain ⟨r, hr⟩ : ∃ r, ps[m]? = some r := ⟨_, List.getElem?_eq_getElem hm⟩
      obtain ⟨b, off, cap, he, hb, q, _, hcap, _⟩ := row_of ((unhide HV).next (unhide hB)) hp
      simp only [Value.slice.injEq] at he
      obtain ⟨rfl, _, rfl⟩ := he
      have d0 := q.pe0 hp
      have d1 := q.pe1 hp
      have d2 := q.pe2 hp
      have d3 := q.pe3 hp
      have hkk : (k : Int) < (ps.length : Int) := by omega
      have hmm : (m : Int) < (ps.length : Int) := by omega
      have HN : Hid (leadAt (ps.map kk) (k + 1) = if bet (kk p) (kk r) = true then k else m) := hide (by rw [leadAt_more (kk_get hp) (by rw [unhide HM]; exact kk_get hr), unhide HM])
      have HAl := hide (allocB wr (.cells #[.int .i64 p.id, .int .i64 p.ep, .slice p.a p.ts.length p.c, .int .i64 p.dn] 29))
      have HP := hide (PBox.new wr p)
      have HC := hide (fun W (hW : Below w.heap.size w W) => compare_any p r W ((unhide HL p (List.mem_of_getElem? hp)).next hW) ((unhide HL r (List.mem_of_getElem? hr)).next hW))
      have HBet := hide (bet_or p r)
      have HRW : Hid (∀ W, Below wr.heap.size wr W → W.cell? ⟨b, off + m * 4, none⟩ = some (.int .i64 r.id) ∧ W.cell? ⟨b, off + m * 4 + 1, none⟩ = some (.int .i64 r.ep) ∧ W.cell? ⟨b, off + m * 4 + 2, none⟩ = some (.slice r.a r.ts.length r.c) ∧ W.cell? ⟨b, off + m * 4 + 3, none⟩ = some (.int .i64 r.dn)) := hide (fun W hW => by
        have q' := q.kept hW hb
        exact ⟨q'.pe0 hr, q'.pe1 hr, q'.pe2 hr, q'.pe3 hr⟩)
      clear q hp hb hr
      generalize bet (kk p) (kk r) = B at *
      unfold peV at HC
      obtain ⟨id, ep, pa, pc, ts, dn⟩ := p
      obtain ⟨jd, eq, qa, qc, us, dm⟩ := r
      simp only at *
      generalize orI (cmpI (lastZ ts) (lastZ us)) (cmpI id jd) = R at *
      go_upto_region 5 with fail
      obtain ⟨W1, hW1⟩ : ∃ W1, W1 = wr.alloc (.cells #[.int .i64 id, .int .i64 ep, .slice pa ts.length pc, .int .i64 dn] 29) := ⟨_, rfl⟩
      rw [← hW1] at HAl HP ⊢
      have e0 := (unhide HP).c0
      have e1 := (unhide HP).c1
      have e2 := (unhide HP).c2
      have e3 := (unhide HP).c3
      simp only at e0 e1 e2 e3
      obtain ⟨f0, f1, f2, f3⟩ := unhide HRW W1 (unhide HAl)
      have HB1 := hide (nnext (unhide hB) (unhide HAl))
      have hbw : b < W1.heap.size := World.block_lt_of_cell? _ _ f0
      have hpw := (unhide HP).lt
      clear hW1 HAl HP d0 d1 d2 d3 HRW
      have c0' := fun d os => Calls.regrown_of (w := W1) (d := d) (os := os) (unhide HC _ (nnext (unhide HB1) (below_regrown W1 d os)))
      have g0 := fun d os => cell_regrown e0 d os
      have g1 := fun d os => cell_regrown e1 d os
      have g2 := fun d os => cell_regrown e2 d os
      have g3 := fun d os => cell_regrown e3 d os
      have r0 := fun d os => cell_regrown f0 d os
      have r1 := fun d os => cell_regrown f1 d os
      have r2 := fun d os => cell_regrown f2 d os
      have r3 := fun d os => cell_regrown f3 d os
      clear e0 e1 e2 e3 f0 f1 f2 f3 HC
      refine wp_region_quiet_below (by kernel_rfl) (by kernel_rfl) ?_
      repeat (first | go_big_quiet_step (with_reducible exact c0' _ _) | quiet_step (with_reducible exact c0' _ _))
      refine wpQuiet_nil ?_
      intro _ hw'
      obtain ⟨⟨dq, osq⟩, hw''⟩ := hw'
      subst hw''
      have HB2 := hide (nnext (unhide HB1) (below_regrown W1 dq osq))
      clear c0' g0 g1 g2 g3 r0 r1 r2 r3
      generalize Go.Sort.grow (redrawn W1 dq) osq = W2 at *
      cases B
      · have hR : ¬ R > 0 := by have := unhide HBet; simp at this; omega
        have HN2 : Hid (leadAt (ps.map kk) (k + 1) = m) := hide (by rw [unhide HN]; simp)
        clear HBet HN
        go_wp2_with fail
        go_roundg (ps.length - (k + 1))
        case measure => omega
        case rel => exact ⟨k + 1, m, rfl, rfl, by omega, Nat.le_refl _, HN2, HB2⟩
      · have hR : R > 0 := by have := unhide HBet; simp at this; omega
        have HN2 : Hid (leadAt (ps.map kk) (k + 1) = k) := hide (by rw [unhide HN]; simp)
        clear HBet HN
        go_wp2_with fail
        go_roundg (ps.length - (k + 1))
        case measure => omega
        case rel => exact ⟨k + 1, k, rfl, rfl, by omega, Nat.le_refl _, HN2, HB2⟩
    · obtain rfl : k = ps.length := by omega
      have hki : ¬ ((ps.length : Int) < (ps.length : Int)) := by omega
      go_wp2_with fail
      go_ret
      rw [unhide HM]
      exact ⟨rfl, unhide hB⟩
end Go.Proofs.Ytijpnmponjjejaa

namespace Go.Proofs.Ytijpnmponjjejaa
open Go.RowKit
set_option maxRecDepth 10000 in

theorem quorum_any (w : World) : Calls Try.prog 12 #[] w fun e w' => e = .returned (.int .i64 2) ∧ w' = w := by
  go_enter Try.func12, Try.ntmps12
  go_wp2_with fail
  go_ret
  exact ⟨rfl, rfl⟩
theorem adm_newN {ks : List Key} (h : Adm ks 0) : 0 ≤ newN ks ∧ newN ks ≤ 2147483647 :=
  ⟨newN_nonneg ks, newN_le 2147483647 (by decide) fun k hk => by
    obtain ⟨i, hi⟩ := List.getElem?_of_mem hk
    have := h.ok hi
    have := zEpoch_le k.2.2
    omega⟩

set_option maxRecDepth 10000 in
set_option maxHeartbeats 2000000 in
theorem elect_any (v : Value) (ps : List Pe) (w : World) (k n E : Int) (hv : SeqV w v ps) (hL : PLogs w ps) (hA : EAns (ps.map kk) k n E) (hl : ps.length ≤ 140737488355328) :
    Calls Try.prog 9 #[v] w fun e w' => e = .returned (.tuple #[.int .i64 k, .int .i64 n, .int .i64 E]) ∧ Below w.heap.size w w' := by
  obtain ⟨A, hA, hR⟩ := hA
  have CA := admitted_any v ps w A hv hA hl
  have CN := hide (fun W (hW : Below w.heap.size w W) => newest_any v ps W (hv.next hW) (hL.next hW) hl)
  have CL := hide (fun W (hW : Below w.heap.size w W) => leading_any v ps W (hv.next hW) (hL.next hW) hl)
  have HN := hide (fun h : A = 0 => adm_newN (ks := ps.map kk) (by rw [h] at hA; exact hA))
  rw [List.length_map] at hR
  obtain ⟨va, vc, rfl⟩ := seq_slice hv
  clear hv hL hA
  generalize newN (ps.map kk) = N at *
  generalize leadAt (ps.map kk) ps.length = L at *
  rcases hR with ⟨h0, rfl, rfl, rfl⟩ | ⟨rfl, ⟨h1, rfl, rfl, rfl⟩ | ⟨h1, ⟨h2, rfl, rfl, rfl⟩ | ⟨h2, rfl, rfl, rfl⟩⟩⟩
  · go_enter Try.func9, Try.ntmps9
    go_wp2_with fail
    refine CA.mono ?_
    rintro e w1 ⟨rfl, hb1⟩
    have HB := hide hb1
    clear CA hb1
    go_wp2_with fail
    go_ret3
    exact ⟨rfl, unhide HB⟩
  all_goals
    obtain ⟨n0, n1⟩ := unhide HN rfl
    go_enter Try.func9, Try.ntmps9
    go_wp2_with fail
    refine CA.mono ?_
    rintro e w1 ⟨rfl, hb1⟩
    have HB := hide hb1
    clear CA hb1
    go_wp2_with fail
    refine (quorum_any _).mono ?_
    rintro e w2 ⟨rfl, rfl⟩
  · have h1' : (ps.length : Int) < 2 := by omega
    go_wp2_with fail
    go_ret3
    exact ⟨rfl, unhide HB⟩
  · have h1' : ¬ (ps.length : Int) < 2 := by omega
    have h2' : N + 1 > 2147483647 := by omega
    go_wp2_with fail
    refine (unhide CN _ (unhide HB)).mono ?_
    rintro e w3 ⟨rfl, hb3⟩
    have HB3 := hide (nnext (unhide HB) hb3)
    clear hb3
    go_wp2_with fail
    go_ret3
    exact ⟨rfl, unhide HB3⟩
  · have h1' : ¬ (ps.length : Int) < 2 := by omega
    have h2' : ¬ N + 1 > 2147483647 := by omega
    go_wp2_with fail
    refine (unhide CN _ (unhide HB)).mono ?_
    rintro e w3 ⟨rfl, hb3⟩
    have HB3 := hide (nnext (unhide HB) hb3)
    clear hb3
    go_wp2_with fail
    refine (unhide CL _ (unhide HB3)).mono ?_
    rintro e w4 ⟨rfl, hb4⟩
    have HB4 := hide (nnext (unhide HB3) hb4)
    clear hb4
    go_wp2_with fail
    go_ret3
    exact ⟨rfl, unhide HB4⟩

/- two peers that have nothing -/
def two01 : List Pe := [⟨0, 0, none, 0, [], 0⟩, ⟨1, 0, none, 0, [], 0⟩]
theorem ans01 : EAns (two01.map kk) 1 1 0 := by
  refine ⟨0, .inl ⟨rfl, fun i k h => ?_⟩, .inr ⟨rfl, .inr ⟨by decide, .inr ⟨by decide, by decide, by decide, rfl⟩⟩⟩⟩
  match i, h with
  | 0, h =>
    have : k = (0, 0, 0) := by simpa [two01, kk, lastZ] using h.symm
    subst this
    decide
  | 1, h =>
    have : k = (1, 0, 0) := by simpa [two01, kk, lastZ] using h.symm
    subst this
    decide
  | i + 2, h => simp [two01] at h
theorem seq01 (w : World) : SeqV (w.alloc (.cells #[.int .i64 0, .int .i64 0, .slice none 0 0, .int .i64 0, .int .i64 1, .int .i64 0, .slice none 0 0, .int .i64 0] 29)) (.slice (some ⟨w.heap.size, 0, none⟩) 2 2) two01 := by
  refine .inr ⟨w.heap.size, 0, 2, rfl, by decide, by decide, by simp, by simp [two01], fun j v hj => ?_⟩
  have h := heap_alloc_new w (.cells #[.int .i64 0, .int .i64 0, .slice none 0 0, .int .i64 0, .int .i64 1, .int .i64 0, .slice none 0 0, .int .i64 0] 29)
  unfold World.cell?
  rw [h]
  simp only [Nat.zero_add]
  have e : cellsL two01 = [.int .i64 0, .int .i64 0, .slice none 0 0, .int .i64 0, .int .i64 1, .int .i64 0, .slice none 0 0, .int .i64 0] := rfl
  rw [e] at hj
  simpa using hj
theorem logs01 (w : World) : PLogs w two01 := fun p hp => by
  simp only [two01, List.mem_cons, List.not_mem_nil, or_false] at hp
  rcases hp with rfl | rfl <;> exact LogV.nil w
theorem elect01 (w : World) : Calls Try.prog 9 #[.slice (some ⟨w.heap.size, 0, none⟩) 2 2] (w.alloc (.cells #[.int .i64 0, .int .i64 0, .slice none 0 0, .int .i64 0, .int .i64 1, .int .i64 0, .slice none 0 0, .int .i64 0] 29)) fun e w' => e = .returned (.tuple #[.int .i64 1, .int .i64 1, .int .i64 0]) ∧ Below w.heap.size w w' :=
  (elect_any _ two01 _ 1 1 0 (seq01 w) (logs01 _) ans01 (by decide)).mono fun e w' ⟨h, hb⟩ => ⟨h, nnext (allocB _ _) hb⟩
end Go.Proofs.Ytijpnmponjjejaa

namespace Go.Proofs.Ytijpnmponjjejaa
open Go.RowKit

theorem lastZ_more {ts : List WTxn} {k : Nat} {t : WTxn} (h : ts[k]? = some t) : lastZ (ts.take (k + 1)) = t.z := by rw [take_more1 h, lastZ_snoc]
set_option maxRecDepth 10000 in
set_option maxHeartbeats 1000000 in
theorem rlast_any (v : Value) (ts : List WTxn) (w : World) (hv : LogV w v ts) :
    Calls Try.prog 28 #[v] w fun e w' => e = .returned (.int .i64 (lastZ ts)) ∧ Below w.heap.size w w' := by
  have hlen : ts.length ≤ 9223372036854775807 := by
    rcases hv with ⟨a, cap, rfl, rfl, _⟩ | ⟨b, off, cap, rfl, h1, h2, _⟩
    · simp
    · simp only [maxLen] at h2; omega
  have HV := hide hv
  obtain ⟨a, c, rfl⟩ := log_slice hv
  clear hv
  go_enter Try.func28, Try.ntmps28
  go_wp2_with fail
  go_loopg [3, 8] ts.length (fun kx s3 s8 wr => ∃ (k : Nat) (z : Int), s3 = .int .i64 z ∧ s8 = .int .i64 k ∧ k ≤ ts.length ∧ ts.length - k ≤ kx ∧ Hid (lastZ (ts.take k) = z) ∧ Hid (Below w.heap.size w wr))
  case atStart => exact ⟨0, 0, rfl, rfl, Nat.zero_le _, by omega, hide rfl, hide (Below.refl _ _)⟩
  case round =>
    obtain ⟨k, z, rfl, rfl, hk, hkx, HZ, HB⟩ := hrel
    by_cases hlt : k < ts.length
    · obtain ⟨t, ht⟩ : ∃ t, ts[k]? = some t := ⟨_, List.getElem?_eq_getElem hlt⟩
      obtain ⟨b, off, cap, he, hb, hr, _, _, _⟩ := log_row ((unhide HV).next (unhide HB)) ht
      simp only [Value.slice.injEq, true_and] at he
      obtain ⟨rfl, rfl⟩ := he
      have e0 := hr.z ht
      have e1 := hr.o ht
      have e2 := hr.s ht
      have e3 := hr.p ht
      have e4 := hr.d ht
      have e5 := hr.v ht
      have e6 := hr.w ht
      have hlti : (k : Int) < (ts.length : Int) := by omega
      have HL := hide (lastZ_more ht)
      have hk63 : k < 9223372036854775807 := by omega
      have HB2 := fun o => hide ((unhide HB).alloc (unhide HB).size o)
      clear hr ht hb
      go_wp2_with fail
      go_roundg (ts.length - (k + 1))
      case measure => omega
      case rel => exact ⟨k + 1, t.z, rfl, by simp, by omega, Nat.le_refl _, HL, HB2 _⟩
    · obtain rfl : k = ts.length := by omega
      have hki : ¬ ((ts.length : Int) < (ts.length : Int)) := by omega
      have hz : lastZ ts = z := by have := unhide HZ; rwa [List.take_length] at this
      have HZ2 := hide hz
      clear hz
      go_wp2_with fail
      go_ret
      rw [unhide HZ2]
      exact ⟨rfl, unhide HB⟩
end Go.Proofs.Ytijpnmponjjejaa

namespace Go.Proofs.Ytijpnmponjjejaa
open Go.RowKit

theorem tdq {z : Int} (h0 : 0 ≤ z) (hm : z ≤ 9223372036854775807) : wrap64 (z.tdiv 2147483648) = z / 2147483648 := by
  rw [Int.tdiv_eq_ediv_of_nonneg h0]; unfold wrap64; omega
set_option maxRecDepth 10000 in
set_option maxHeartbeats 400000 in
theorem rgood_any (z : Int) (hm : z ≤ 9223372036854775807) (w : World) : Calls Try.prog 40 #[.int .i64 z] w fun e w' => e = .returned (.bool (zGood z)) ∧ w' = w := by
  by_cases h0 : 0 ≤ z
  · by_cases h1 : z < 4611686018427387904
    · have H := hide (zGood_iff.2 ⟨h0, h1⟩)
      have h2 : decide (z / 2147483648 < 2147483648) = true := decide_eq_true (by omega)
      go_enter Try.func40, Try.ntmps40
      go_wp2_with fail
      go_ret
      exact ⟨zret_bool (Eq.trans (by first | rfl | exact h2 | (rw [tdq h0 hm]; exact h2)) (unhide H).symm), rfl⟩
    · have H := hide (zGood_no (z := z) (by omega))
      have h2 : decide (z / 2147483648 < 2147483648) = false := decide_eq_false (by omega)
      go_enter Try.func40, Try.ntmps40
      go_wp2_with fail
      go_ret
      exact ⟨zret_bool (Eq.trans (by first | rfl | exact h2 | (rw [tdq h0 hm]; exact h2)) (unhide H).symm), rfl⟩
  · have H := hide (zGood_no (z := z) (by omega))
    go_enter Try.func40, Try.ntmps40
    go_wp2_with fail
    go_ret
    exact ⟨zret_bool (by rw [unhide H]), rfl⟩

end Go.Proofs.Ytijpnmponjjejaa

namespace Go.Proofs.Ytijpnmponjjejaa
open Go.RowKit
set_option maxRecDepth 10000 in

set_option maxHeartbeats 400000 in
theorem repoch_any (z : Int) (hm : z ≤ 9223372036854775807) (w : World) : Calls Try.prog 29 #[.int .i64 z] w fun e w' => e = .returned (.int .i64 (zEpoch z)) ∧ w' = w := by
  cases hg : zGood z
  · have H := hide (zEpoch_no hg)
    have Hg := hide hg
    clear hg
    go_enter Try.func29, Try.ntmps29
    go_wp2_with fail
    refine (rgood_any z hm _).mono ?_
    rintro e w1 ⟨rfl, rfl⟩
    rw [unhide Hg]
    go_wp2_with fail
    go_ret
    exact ⟨ret_int (unhide H).symm, rfl⟩
  · have H := hide (zEpoch_yes hg)
    have Hg := hide hg
    have h0 := (zGood_iff.1 hg).1
    clear hg
    go_enter Try.func29, Try.ntmps29
    go_wp2_with fail
    refine (rgood_any z hm _).mono ?_
    rintro e w1 ⟨rfl, rfl⟩
    rw [unhide Hg]
    go_wp2_with fail
    go_ret
    exact ⟨ret_int (Eq.trans (by first | rfl | exact tdq h0 hm) (unhide H).symm), rfl⟩

end Go.Proofs.Ytijpnmponjjejaa
