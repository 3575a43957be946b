/-
  aviarykeep.DiskCrashes returns true: the walk.
-/
import Derived.Test.YtbadhnmljlmefaaDTorn
namespace Go.Proofs.Ytbadhnmljlmefaa
open Go.RowKit

set_option maxRecDepth 10000 in
set_option maxHeartbeats 2000000 in
theorem diskCrashes_walk (v : Value) (fs : List DF) (ka kb : Int) (w : World) (hv : DiskV w v fs) (hs : Slim fs) (hfl : fs.length * 48 ≤ 140737488355328) (hk0 : -9223372036854775808 ≤ kb) (hk1 : kb ≤ 9223372036854775807) :
    Calls Try.prog 6 #[.agg #[v], .int .i64 ka, .int .i64 kb] w fun e w' => e = .returned (.bool true) ∧ Below w.heap.size w w' := by
  have CY := fun W (hW : Below w.heap.size w W) => kcopied_any v fs W (hv.next hW) hfl
  by_cases hbad : goodD fs = false ∨ ka < 0
  · have CC := fun v1 W (h : DiskV W v1 fs) => crash_no v1 fs ka W h hs hbad
    have HCC := hide CC
    obtain ⟨a, n, c, rfl⟩ := disk_slice hv
    clear hv hs CC hbad
    go_enter Try.func6, Try.ntmps6
    go_wp2_with fail
    refine (CY _ ((Below.refl _ _).alloc (Nat.le_refl _) _)).mono ?_
    rintro e w1 ⟨v1, rfl, ho, hb1⟩
    have hB1 := box_then hb1
    have HD := hide ho.disk
    obtain ⟨a1, n1, c1, rfl⟩ := disk_slice ho.disk
    clear CY hb1 ho
    go_wp2_with fail
    refine (unhide HCC _ _ (unhide HD)).mono ?_
    rintro e w2 ⟨rfl, hb2⟩
    have hB2 := (below_next hB1 hb2).alloc (below_next hB1 hb2).size (.cells #[.slice none 0 0] 24)
    clear HCC hb2 hB1 HD
    go_wp2_with fail
    refine (stores_any _).mono ?_
    rintro e w3 ⟨rfl, hb3⟩
    have hB3 := below_next hB2 hb3
    clear hB2 hb3
    go_wp2_with fail
    go_ret
    exact ⟨rfl, hB3⟩
  · have hg : goodD fs = true := by cases h : goodD fs with | true => rfl | false => exact absurd (.inl h) hbad
    have g := goodD_true.1 hg
    have hka : 0 ≤ ka := Int.not_lt.1 fun h => hbad (.inr h)
    obtain ⟨K, rfl⟩ : ∃ K : Nat, ka = K := ⟨ka.toNat, by omega⟩
    have hkk : 0 ≤ kb % 1000 := Int.emod_nonneg _ (by decide)
    obtain ⟨L, hL⟩ : ∃ k : Nat, kb % 1000 = k := ⟨(kb % 1000).toNat, by omega⟩
    have CP := fun W => pick_any kb 1000 W (by decide) (by decide) hk0 hk1
    rw [hL] at CP
    have g2 := good_crash g K
    have CC := fun v1 W (h : DiskV W v1 fs) => crash_yes v1 fs K W h hs g
    have C0 := fun v1 W (h : DiskV W v1 (fs.map (crashF K))) => crash_yes v1 _ L W h (good_slim g2) g2
    simp only [crash_again] at C0
    have hd2 : (fs.map (crashF K)).length ≤ 1000000 := by have := g2.few; omega
    have CK := fun v1 W (h : DiskV W v1 (fs.map (crashF K))) => kcopied_any v1 _ W h (by omega)
    have CE := fun v1 v2 W (h : DiskV W v1 (fs.map (crashF K))) (h' : DiskV W v2 (fs.map (crashF K))) => ksame_any v1 v2 _ W hd2 h h'
    have HCC := hide CC
    have HC0 := hide C0
    have HCK := hide CK
    have HCE := hide CE
    have HG := hide g
    have hfew := g.few
    have HV := hide hv
    obtain ⟨a, c, rfl, hrow⟩ := disk_form hv
    have HR := hide hrow
    clear hv hs CC C0 CE CK hbad hg g g2 hka hkk hL hd2 hrow
    go_enter Try.func6, Try.ntmps6
    go_wp2_with fail
    refine (CY _ ((Below.refl _ _).alloc (Nat.le_refl _) _)).mono ?_
    rintro e w1 ⟨v1, rfl, ho, hb1⟩
    have hB1 := box_then hb1
    have HX := hide (BoxAt.next (BoxAt.new w (.slice a fs.length c)) hb1)
    have HD := hide ho.disk
    obtain ⟨a1, n1, c1, rfl⟩ := disk_slice ho.disk
    clear CY hb1 ho
    go_wp2_with fail
    refine (unhide HCC _ _ (unhide HD)).mono ?_
    rintro e w2 ⟨v2, rfl, ho, hb2⟩
    have ho2 := ho.disk
    obtain ⟨a2, c2, rfl, hrow2⟩ := disk_form ho2
    have hB2 := (below_next hB1 hb2).alloc (below_next hB1 hb2).size (.cells #[.slice a2 (fs.map (crashF K)).length c2] 24)
    have HD2 := hide (ho2.alloc (.cells #[.slice a2 (fs.map (crashF K)).length c2] 24))
    have hx2 := BoxAt.new w2 (.slice a2 (fs.map (crashF K)).length c2)
    have hx1 := ((unhide HX).next hb2).next ((Below.refl _ _).alloc (Nat.le_refl _) (.cells #[.slice a2 (fs.map (crashF K)).length c2] 24))
    clear HCC hb2 hB1 HD ho ho2 hrow2 HX
    have hlen : (fs.map (crashF K)).length = fs.length := by simp
    rw [hlen] at HD2 hx2 hx1 hB2
    simp only [hlen]
    go_wp2_with fail
    generalize w2.alloc (.cells #[.slice a2 fs.length c2] 24) = W2 at *
    refine (stores_any _).mono ?_
    rintro e w3 ⟨rfl, hb3⟩
    have hB3 := below_next hB2 hb3
    have HX1 := hide (hx1.next hb3)
    have HX2 := hide (hx2.next hb3)
    have c3 := (unhide HX2).c
    have HD3 := hide ((unhide HD2).next hb3)
    clear hB2 hb3 HD2 hx1 hx2
    go_wp2_with fail
    refine (unhide HCK _ _ (unhide HD3)).mono ?_
    rintro e w4 ⟨v4, rfl, ho, hb4⟩
    have hB4 := below_next hB3 hb4
    have HY1 := hide ((unhide HX1).next hb4)
    have HY2 := hide ((unhide HX2).next hb4)
    have HD4 := hide ((unhide HD3).next hb4)
    have HO4 := hide ho.disk
    obtain ⟨a4, n4, c4, rfl⟩ := disk_slice ho.disk
    clear HCK hb4 hB3 HX1 HX2 HD3 ho c3
    go_wp2_with fail
    refine (CP _).mono ?_
    rintro e w5 ⟨rfl, rfl⟩
    clear CP
    go_wp2_with fail
    refine (unhide HC0 _ _ (unhide HO4)).mono ?_
    rintro e w6 ⟨v6, rfl, ho, hb6⟩
    obtain ⟨a6, n6, c6, rfl⟩ := disk_slice ho.disk
    have hal := (Below.refl w6.heap.size w6).alloc (Nat.le_refl _) (.cells #[.slice a6 n6 c6] 24)
    have hB6 := below_next (below_next hB4 hb6) hal
    have HZ1 := hide (((unhide HY1).next hb6).next hal)
    have HZ2 := hide (((unhide HY2).next hb6).next hal)
    have HZ3 := hide (BoxAt.new w6 (.slice a6 n6 c6))
    have HD6 := hide (((unhide HD4).next hb6).next hal)
    have HO6 := hide (ho.disk.alloc (.cells #[.slice a6 n6 c6] 24))
    clear HC0 hb6 hB4 HY1 HY2 HD4 HO4 ho hal
    go_wp2_with fail
    generalize w6.alloc (.cells #[.slice a6 n6 c6] 24) = W6 at *
    go_loopg [11] fs.length (fun kx s wr => ∃ k : Nat, s = .int .i64 k ∧ k ≤ fs.length ∧ fs.length - k ≤ kx ∧ Hid (Below W6.heap.size W6 wr))
    case atStart => exact ⟨0, rfl, Nat.zero_le _, by omega, hide (Below.refl _ _)⟩
    case round =>
      obtain ⟨k, rfl, hk, hkx, hB⟩ := hrel
      have cz1 := ((unhide HZ1).next (unhide hB)).c
      have cz2 := ((unhide HZ2).next (unhide hB)).c
      have cz3 := ((unhide HZ3).next (unhide hB)).c
      by_cases hlt : k < fs.length
      · obtain ⟨b, off, rfl, hb, hr⟩ := unhide HR (by omega)
        obtain ⟨a2', c2', he, hrow2⟩ := disk_form (unhide HD6)
        obtain ⟨b2, off2, ha2, hb2, hr2⟩ := hrow2 (by rw [hlen]; omega)
        injection he with he1 he2 he3
        subst he1 ha2
        obtain ⟨f, hf⟩ : ∃ f, fs[k]? = some f := ⟨_, List.getElem?_eq_getElem hlt⟩
        have hf2 : (fs.map (crashF K))[k]? = some (crashF K f) := by rw [List.getElem?_map, hf]; rfl
        have r := hr.kept (below_next hB6 (unhide hB)) hb
        have e0 := r.c0 hf
        have e1 := r.c1 hf
        have e2 := r.c2 hf
        have r2 := hr2.kept (unhide hB) hb2
        have e0' : wr.cell? ⟨b2, off2 + k * 3, none⟩ = some (.string ⟨f.n.toArray⟩) := r2.c0 (f := crashF K f) hf2
        have e1' : wr.cell? ⟨b2, off2 + k * 3 + 1, none⟩ = some (.string ⟨(f.s ++ f.t.take K).toArray⟩) := r2.c1 (f := crashF K f) hf2
        have e2' : wr.cell? ⟨b2, off2 + k * 3 + 2, none⟩ = some (.string ⟨#[]⟩) := r2.c2 (f := crashF K f) hf2
        have hlti : (k : Int) < (fs.length : Int) := by omega
        have hfo := fileOk_len ((unhide HG).ok f (List.mem_of_getElem? hf))
        have hPl : f.s.length ≤ (f.s ++ f.t.take K).length := by simp
        have hex : (ByteArray.mk (f.s ++ f.t.take K).toArray).extract 0 f.s.length = ⟨f.s.toArray⟩ := by rw [ex_front, List.take_left]
        generalize f.s ++ f.t.take K = P at e1' hPl hex
        have hP0 : ¬ ((P.length : Int) < (f.s.length : Int)) := by omega
        have hP1 : (f.s.length : Int) ≤ (P.length : Int) := by omega
        have hbw : b < wr.heap.size := Nat.lt_of_lt_of_le hb (below_next hB6 (unhide hB)).size
        have hbw2 : b2 < wr.heap.size := Nat.lt_of_lt_of_le hb2 (unhide hB).size
        clear r r2 hr hr2 hf hf2 cz3 he2 he3 hrow2
        go_wp2_with fail
        have al := (Below.refl wr.heap.size wr).alloc (Nat.le_refl _) (.cells #[.string ⟨f.n.toArray⟩, .string ⟨f.s.toArray⟩, .string ⟨f.t.toArray⟩] 41)
        have hB8 := below_next (unhide hB) al
        have x1 : (wr.alloc (.cells #[.string ⟨f.n.toArray⟩, .string ⟨f.s.toArray⟩, .string ⟨f.t.toArray⟩] 41)).cell? ⟨w2.heap.size, 0, none⟩ = some (.slice (some ⟨b2, off2, none⟩) fs.length c2) := Lib.cell?_alloc_some _ cz2
        have x2 : (wr.alloc (.cells #[.string ⟨f.n.toArray⟩, .string ⟨f.s.toArray⟩, .string ⟨f.t.toArray⟩] 41)).cell? ⟨b2, off2 + k * 3, none⟩ = some (.string ⟨f.n.toArray⟩) := Lib.cell?_alloc_some _ e0'
        have x3 : (wr.alloc (.cells #[.string ⟨f.n.toArray⟩, .string ⟨f.s.toArray⟩, .string ⟨f.t.toArray⟩] 41)).cell? ⟨b2, off2 + k * 3 + 1, none⟩ = some (.string ⟨P.toArray⟩) := Lib.cell?_alloc_some _ e1'
        have x4 : (wr.alloc (.cells #[.string ⟨f.n.toArray⟩, .string ⟨f.s.toArray⟩, .string ⟨f.t.toArray⟩] 41)).cell? ⟨b2, off2 + k * 3 + 2, none⟩ = some (.string ⟨#[]⟩) := Lib.cell?_alloc_some _ e2'
        have x5 : (wr.alloc (.cells #[.string ⟨f.n.toArray⟩, .string ⟨f.s.toArray⟩, .string ⟨f.t.toArray⟩] 41)).cell? ⟨wr.heap.size, 0, none⟩ = some (.string ⟨f.n.toArray⟩) := by simp
        have x6 : (wr.alloc (.cells #[.string ⟨f.n.toArray⟩, .string ⟨f.s.toArray⟩, .string ⟨f.t.toArray⟩] 41)).cell? ⟨wr.heap.size, 1, none⟩ = some (.string ⟨f.s.toArray⟩) := by simp
        generalize wr.alloc (.cells #[.string ⟨f.n.toArray⟩, .string ⟨f.s.toArray⟩, .string ⟨f.t.toArray⟩] 41) = W8 at x1 x2 x3 x4 x5 x6 hB8 ⊢
        clear al e0 e1 e2 e0' e1' e2' cz1 cz2
        go_quiet (fail)
        go_wp2_with fail
        go_roundg (fs.length - (k + 1))
        case measure => omega
        case rel => exact ⟨k + 1, rfl, by omega, Nat.le_refl _, hide (hB8.trans ⟨rfl, rfl, rfl, Nat.le_refl _, fun _ _ => rfl⟩)⟩
      · have hki : ¬ ((k : Int) < (fs.length : Int)) := by omega
        have HD7 := hide ((unhide HD6).next (unhide hB))
        have HO7 := hide ((unhide HO6).next (unhide hB))
        have hB7 := below_next hB6 (unhide hB)
        go_wp2_with fail
        refine (unhide HCE _ _ _ (unhide HD7) (unhide HO7)).mono ?_
        rintro e w8 ⟨rfl, hb8⟩
        have hB8 := below_next hB7 hb8
        clear HCE hb8
        go_wp2_with fail
        go_ret
        exact ⟨rfl, hB8⟩
end Go.Proofs.Ytbadhnmljlmefaa
