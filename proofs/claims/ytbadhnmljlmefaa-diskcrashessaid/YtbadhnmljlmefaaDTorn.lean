/-
  aviarykeep.DiskTorn returns true: the walk.
-/
import Derived.Test.YtbadhnmljlmefaaDKeep
namespace Go.Proofs.Ytbadhnmljlmefaa
open Go.RowKit

theorem disk_form {w : World} {v : Value} {fs : List DF} (hv : DiskV w v fs) : ∃ a c, v = .slice a fs.length c ∧ (0 < fs.length → ∃ b off, a = some ⟨b, off, none⟩ ∧ b < w.heap.size ∧ RowAt w b off (cellsF fs)) := by
  rcases disk_len hv with ⟨a, c, rfl, rfl⟩ | ⟨b, off, c, rfl, hb, hr, h0⟩
  · exact ⟨a, c, rfl, fun h => by simp at h⟩
  · exact ⟨_, c, rfl, fun _ => ⟨b, off, rfl, hb, hr⟩⟩

/-- the bytes of the last file of this name -/
def lastM (name : List UInt8) (fs : List DF) : List UInt8 × List UInt8 := fs.foldl (fun r f => if f.n = name then (f.s, f.t) else r) ([], [])
theorem lastM_zero (name : List UInt8) (fs : List DF) : lastM name (fs.take 0) = ([], []) := rfl
theorem lastM_succ {name : List UInt8} {fs : List DF} {k : Nat} {f : DF} (h : fs[k]? = some f) : lastM name (fs.take (k + 1)) = if f.n = name then (f.s, f.t) else lastM name (fs.take k) := by
  obtain ⟨hk, rfl⟩ := List.getElem?_eq_some_iff.1 h
  rw [List.take_succ_eq_append_getElem hk, lastM, List.foldl_append]
  rfl
theorem lastM_none {name : List UInt8} : ∀ (fs : List DF) (r : List UInt8 × List UInt8), (∀ f ∈ fs, f.n ≠ name) → fs.foldl (fun r f => if f.n = name then (f.s, f.t) else r) r = r
  | [], _, _ => rfl
  | f :: l, r, h => by rw [List.foldl_cons, if_neg (h f (by simp)), lastM_none l r (fun x hx => h x (by simp [hx]))]
theorem Wrote.last {fs A B : List DF} {name x s0 t0 : List UInt8} {f' : DF} (W : Wrote fs name x A f' B s0 t0) : lastM name fs = (s0, t0) := by
  rcases W.old with ⟨f, T, h1, h2⟩ | ⟨G, h1, h2⟩
  · rw [lastM, T.eq, List.foldl_append, lastM_none A _ (fun a ha => bl_ne (T.lo a ha)), List.foldl_cons, if_pos T.nm, lastM_none B _ (fun b hb => (bl_ne (T.hi b hb)).symm), h1, h2]
  · rw [lastM, G.eq, List.foldl_append, lastM_none A _ (fun a ha => bl_ne (G.lo a ha)), lastM_none B _ (fun b hb => (bl_ne (G.hi b hb)).symm), h1, h2]
theorem crash_again (k : Nat) (fs : List DF) (j : Nat) : (fs.map (crashF k)).map (crashF j) = fs.map (crashF k) := by
  rw [List.map_map]
  apply List.map_congr_left
  intro f _
  simp [crashF]

set_option maxRecDepth 10000 in
set_option maxHeartbeats 2000000 in
theorem diskTorn_walk (v : Value) (fs : List DF) (name x : List UInt8) (keep : Int) (w : World) (hv : DiskV w v fs) (hs : Slim fs) (hfl : fs.length ≤ 140737488355328) (hnm : name.length ≤ 140737488355328) (hx : x.length ≤ 140737488355328) (hk0 : -9223372036854775808 ≤ keep) (hk1 : keep ≤ 9223372036854775807) :
    Calls Try.prog 8 #[.agg #[v], .string ⟨name.toArray⟩, .string ⟨x.toArray⟩, .int .i64 keep] w fun e w' => e = .returned (.bool true) ∧ Below w.heap.size w w' := by
  have hkk : 0 ≤ keep % 600 := Int.emod_nonneg _ (by decide)
  have hk6 : keep % 600 < 600 := Int.emod_lt_of_pos _ (by decide)
  obtain ⟨K, hK⟩ : ∃ k : Nat, keep % 600 = k := ⟨(keep % 600).toNat, by omega⟩
  have CP := fun W => pick_any keep 600 W (by decide) (by decide) hk0 hk1
  rw [hK] at CP hk6
  have HV := hide hv
  have HW := hide (write_any v fs name x hs hnm hx)
  obtain ⟨a, c, rfl, hrow⟩ := disk_form hv
  have HR := hide hrow
  clear hv hrow hK hkk hk0 hk1 hs
  go_enter Try.func8, Try.ntmps8
  go_wp2_with fail
  refine (CP _).mono ?_
  rintro e w1 ⟨rfl, rfl⟩
  clear CP
  go_wp2_with fail
  obtain ⟨W0, hW0⟩ : ∃ W, W = w.alloc (.cells #[.slice a fs.length c] 24) := ⟨_, rfl⟩
  have c0 : W0.cell? ⟨w.heap.size, 0, none⟩ = some (.slice a fs.length c) := by rw [hW0]; simp
  have hB0 : Below w.heap.size w W0 := by rw [hW0]; exact (Below.refl _ _).alloc (Nat.le_refl _) _
  rw [← hW0]
  clear hW0
  go_loopg [9, 10, 11] fs.length (fun kx s9 s10 s11 wr => ∃ (k q : Nat) (S T : List UInt8), s9 = .string ⟨S.toArray⟩ ∧ s10 = .string ⟨T.toArray⟩ ∧ s11 = .int .i64 k ∧ k ≤ fs.length ∧ fs.length - k ≤ kx ∧ wr = W0.drewN q ∧ Hid (lastM name (fs.take k) = (S, T)))
  case atStart => exact ⟨0, 0, [], [], rfl, rfl, rfl, Nat.zero_le _, by omega, rfl, hide (lastM_zero name fs)⟩
  case round =>
    obtain ⟨k, q, S, T, rfl, rfl, rfl, hk, hkx, rfl, HL⟩ := hrel
    by_cases hlt : k < fs.length
    · obtain ⟨b, off, rfl, hb, hr⟩ := unhide HR (by omega)
      obtain ⟨f, hf⟩ : ∃ f, fs[k]? = some f := ⟨_, List.getElem?_eq_getElem hlt⟩
      have r := hr.kept hB0 hb
      have e0 := r.c0 hf
      have e1 := r.c1 hf
      have e2 := r.c2 hf
      have hlti : (k : Int) < (fs.length : Int) := by omega
      have HS := hide (lastM_succ (name := name) hf)
      clear r hf hr
      by_cases hn : f.n = name
      · have hn' := hn
        rw [hn'] at e0
        have HN := hide hn
        clear hn hn'
        go_wp2_with fail
        go_region
        go_wp2_with fail
        go_roundg (fs.length - (k + 1))
        case measure => omega
        case rel => exact ⟨k + 1, q + 1, f.s, f.t, rfl, rfl, rfl, by omega, Nat.le_refl _, rfl, hide (by rw [unhide HS, if_pos (unhide HN)])⟩
      · have hn2 : (f.n == name) = false := by simpa using hn
        have HN := hide hn
        clear hn
        go_wp2_with fail
        go_roundg (fs.length - (k + 1))
        case measure => omega
        case rel => exact ⟨k + 1, q, S, T, rfl, rfl, rfl, by omega, Nat.le_refl _, rfl, hide (by rw [unhide HS, if_neg (unhide HN)]; exact unhide HL)⟩
    · have hki : ¬ ((k : Int) < (fs.length : Int)) := by omega
      have hke : fs.take k = fs := List.take_of_length_le (by omega)
      have hL : lastM name fs = (S, T) := by rw [← unhide HL, hke]
      have hBq : Below w.heap.size w (W0.drewN q) := hB0.trans ⟨rfl, rfl, rfl, Nat.le_refl _, fun _ _ => rfl⟩
      have cq : (W0.drewN q).cell? ⟨w.heap.size, 0, none⟩ = some (.slice a fs.length c) := c0
      generalize W0.drewN q = W1 at *
      rcases unhide HW with ⟨E, hne, CW⟩ | ⟨A, f', B, s0, t0, Wr, CW⟩
      · have CW := fun W (hW : Below w.heap.size w W) => CW W ((unhide HV).next hW)
        clear HL hL HR HW HV hke
        go_wp2_with fail
        refine (CW _ hBq).mono ?_
        rintro e w2 ⟨rfl, hb2⟩
        have hB2 := (below_next hBq hb2).alloc (below_next hBq hb2).size (.cells #[.slice none 0 0] 24)
        clear CW hb2 hBq cq
        go_wp2_with fail
        refine (stores_any _).mono ?_
        rintro e w3 ⟨rfl, hb3⟩
        have hB3 := below_next hB2 hb3
        clear hB2 hb3
        go_wp2_with fail
        go_ret
        exact ⟨rfl, hB3⟩
      · have CW := fun W (hW : Below w.heap.size w W) => CW W ((unhide HV).next hW)
        obtain ⟨rfl, rfl⟩ : S = s0 ∧ T = t0 := by have := hL.symm.trans Wr.last; simpa using this
        have hlen := Wr.len
        have g2 := good_crash Wr.after K
        have CC := fun v1 W (h : DiskV W v1 (A ++ f' :: B)) => crash_yes v1 _ K W h (good_slim Wr.after) Wr.after
        have C2 := fun v1 W (h : DiskV W v1 ((A ++ f' :: B).map (crashF K))) => read_there v1 _ _ _ _ name W h (good_slim g2) g2 (Wr.at_.crash K)
        have C0 := fun v1 W (h : DiskV W v1 ((A ++ f' :: B).map (crashF K))) => crash_yes v1 _ 0 W h (good_slim g2) g2
        simp only [crash_again] at C0
        have hend : (crashF K f').s ++ (crashF K f').t = S ++ (T ++ x).take K := by rw [Wr.eq]; simp [crashF]
        rw [hend] at C2
        have hd2 : ((A ++ f' :: B).map (crashF K)).length ≤ 1000000 := by have := g2.few; omega
        have CE := fun v1 v2 W (h : DiskV W v1 ((A ++ f' :: B).map (crashF K))) (h' : DiskV W v2 ((A ++ f' :: B).map (crashF K))) => ksame_any v1 v2 _ W hd2 h h'
        generalize (A ++ f' :: B).map (crashF K) = d2 at CC C2 C0 CE
        generalize A ++ f' :: B = d1 at CW CC
        have HCC := hide CC
        have HC2 := hide C2
        have HC0 := hide C0
        have HCE := hide CE
        have hcat : ¬ 9223372036854775807 < T.length + x.length := by omega
        clear HL hL HR HW HV hke Wr g2 CC C2 C0 CE hend hd2
        go_wp2_with fail
        refine (CW _ hBq).mono ?_
        rintro e w2 ⟨v1, rfl, ho, hb2⟩
        obtain ⟨a1, n1, c1, rfl⟩ := disk_slice ho.disk
        have hB2 := (below_next hBq hb2).alloc (below_next hBq hb2).size (.cells #[.slice a1 n1 c1] 24)
        have HD := hide (ho.disk.alloc (.cells #[.slice a1 n1 c1] 24))
        have hx2 := BoxAt.new w2 (.slice a1 n1 c1)
        clear CW hb2 hBq cq ho
        go_wp2_with fail
        generalize w2.alloc (.cells #[.slice a1 n1 c1] 24) = W2 at *
        refine (stores_any _).mono ?_
        rintro e w3 ⟨rfl, hb3⟩
        have hB3 := below_next hB2 hb3
        have c3 := (hx2.next hb3).c
        have HD3 := hide ((unhide HD).next hb3)
        clear hB2 hb3 HD hx2
        go_wp2_with fail
        refine (unhide HCC _ _ (unhide HD3)).mono ?_
        rintro e w4 ⟨v2, rfl, ho, hb4⟩
        obtain ⟨a2, n2, c2, rfl⟩ := disk_slice ho.disk
        have hB4 := (below_next hB3 hb4).alloc (below_next hB3 hb4).size (.cells #[.slice a2 n2 c2] 24)
        have HD4 := hide (ho.disk.alloc (.cells #[.slice a2 n2 c2] 24))
        have hx4 := BoxAt.new w4 (.slice a2 n2 c2)
        clear hb4 hB3 c3 HD3 HCC ho
        go_wp2_with fail
        generalize w4.alloc (.cells #[.slice a2 n2 c2] 24) = W4 at *
        refine (unhide HC2 _ _ (unhide HD4)).mono ?_
        rintro e w5 ⟨rfl, hb5⟩
        have hB5 := below_next hB4 hb5
        have hx5 := hx4.next hb5
        have c5 := hx5.c
        have HD5 := hide ((unhide HD4).next hb5)
        have HX5 := hide hx5
        clear HC2 hb5 hB4 hx4 HD4 hx5
        obtain ⟨M, hM⟩ : ∃ M, (T ++ x).take K = M := ⟨_, rfl⟩
        have hMl : M.length ≤ 1048576 := by rw [← hM]; simp; omega
        by_cases hgt : K < T.length + x.length
        · have hgti : (K : Int) < (T.length : Int) + (x.length : Int) := by omega
          have hex : (ByteArray.mk T.toArray ++ ByteArray.mk x.toArray).extract 0 K = ⟨M.toArray⟩ := by rw [cat_one, ex_front, hM]
          rw [hM]
          clear hM
          go_wp2_with fail
          refine (unhide HC0 _ _ (unhide HD5)).mono ?_
          rintro e w6 ⟨v3, rfl, ho, hb6⟩
          obtain ⟨a3, n3, c3, rfl⟩ := disk_slice ho.disk
          have hB6 := (below_next hB5 hb6).alloc (below_next hB5 hb6).size (.cells #[.slice a3 n3 c3] 24)
          have HD6 := hide (ho.disk.alloc (.cells #[.slice a3 n3 c3] 24))
          have HD7 := hide (((unhide HD5).next hb6).alloc (.cells #[.slice a3 n3 c3] 24))
          have c6 := (BoxAt.new w6 (.slice a3 n3 c3)).c
          have c7 := (((unhide HX5).next hb6).next ((Below.refl _ _).alloc (Nat.le_refl _) (.cells #[.slice a3 n3 c3] 24))).c
          have heq : (ByteArray.mk S.toArray ++ ByteArray.mk M.toArray) = ⟨(S ++ M).toArray⟩ := cat_one _ _
          have hcat2 : ¬ 9223372036854775807 < S.length + M.length := by omega
          clear HC0 hb6 ho HD5 HX5 hB5 c5
          go_wp2_with fail
          generalize w6.alloc (.cells #[.slice a3 n3 c3] 24) = W6 at *
          refine (unhide HCE _ _ _ (unhide HD6) (unhide HD7)).mono ?_
          rintro e w7 ⟨rfl, hb7⟩
          have hB7 := below_next hB6 hb7
          clear HCE hb7 hB6 HD6 HD7
          go_wp2_with fail
          go_ret
          exact ⟨rfl, hB7⟩
        · have hgti : ¬ ((K : Int) < (T.length : Int) + (x.length : Int)) := by omega
          have hMM : M = T ++ x := by rw [← hM, List.take_of_length_le (by simp; omega)]
          have HM := hide hMM
          rw [hM]
          clear hM hMM
          go_wp2_with fail
          refine (unhide HC0 _ _ (unhide HD5)).mono ?_
          rintro e w6 ⟨v3, rfl, ho, hb6⟩
          obtain ⟨a3, n3, c3, rfl⟩ := disk_slice ho.disk
          have hB6 := (below_next hB5 hb6).alloc (below_next hB5 hb6).size (.cells #[.slice a3 n3 c3] 24)
          have HD6 := hide (ho.disk.alloc (.cells #[.slice a3 n3 c3] 24))
          have HD7 := hide (((unhide HD5).next hb6).alloc (.cells #[.slice a3 n3 c3] 24))
          have c6 := (BoxAt.new w6 (.slice a3 n3 c3)).c
          have c7 := (((unhide HX5).next hb6).next ((Below.refl _ _).alloc (Nat.le_refl _) (.cells #[.slice a3 n3 c3] 24))).c
          have heq : (ByteArray.mk S.toArray ++ (ByteArray.mk T.toArray ++ ByteArray.mk x.toArray)) = ⟨(S ++ M).toArray⟩ := by rw [cat_one, cat_one, unhide HM]
          have hcat2 : ¬ 9223372036854775807 < S.length + (T.length + x.length) := by omega
          clear HC0 hb6 ho HD5 HX5 hB5 c5
          go_wp2_with fail
          generalize w6.alloc (.cells #[.slice a3 n3 c3] 24) = W6 at *
          refine (unhide HCE _ _ _ (unhide HD6) (unhide HD7)).mono ?_
          rintro e w7 ⟨rfl, hb7⟩
          have hB7 := below_next hB6 hb7
          clear HCE hb7 hB6 HD6 HD7
          go_wp2_with fail
          go_ret
          exact ⟨rfl, hB7⟩
end Go.Proofs.Ytbadhnmljlmefaa
