/-
  What aviaryref.Write answers where the file is new: the walk.
-/
import Derived.Test.YthkggmmalffcdaaGreatDoorSFZ
namespace Go.Proofs.YthkggmmalffcdaaGreatDoor
open Go.RowKit

theorem OwnV.mono {W : World} {B C : Nat} {v : Value} {fs : List DF} (h : OwnV W B v fs) (hC : C ≤ B) : OwnV W C v fs := by
  rcases h with h | ⟨g, c, e, h1, h2⟩
  · exact .inl h
  · exact .inr ⟨g, c, e, Nat.le_trans hC h1, h2⟩
theorem OwnV.other {W : World} {B : Nat} {v : Value} {fs : List DF} (h : OwnV W B v fs) {a : Addr} (ha : a.block < B) (u : Value) : OwnV (W.setCell a u) B v fs := by
  rcases h with h | ⟨g, c, e, h1, h2⟩
  · exact .inl h
  · exact .inr ⟨g, c, e, h1, h2.other (by omega) u⟩

theorem bub_at {fs : List DF} {j : Nat} (x : DF) (h : j ≤ fs.length) : (fs.take j ++ x :: fs.drop j)[j]? = some x := by
  rw [List.getElem?_append_right (by simp; omega)]; simp [Nat.min_eq_left h]
theorem bub_lo {fs : List DF} {m : Nat} {g : DF} (x : DF) (h : fs[m]? = some g) : (fs.take (m + 1) ++ x :: fs.drop (m + 1))[m]? = some g := by
  have hm := (List.getElem?_eq_some_iff.1 h).1
  rw [List.getElem?_append_left (by simp; omega), List.getElem?_take_of_lt (by omega)]; exact h
theorem bub_swap {fs : List DF} {m : Nat} {g : DF} (x : DF) (h : fs[m]? = some g) : ((fs.take (m + 1) ++ x :: fs.drop (m + 1)).set m x).set (m + 1) g = fs.take m ++ x :: fs.drop m := by
  obtain ⟨hm, rfl⟩ := List.getElem?_eq_some_iff.1 h
  have e1 : fs.take (m + 1) = fs.take m ++ [fs[m]] := List.take_succ_eq_append_getElem hm
  have e2 : fs.drop m = fs[m] :: fs.drop (m + 1) := List.drop_eq_getElem_cons hm
  have e3 : (fs.take m).length = m := by simp; omega
  rw [e1, e2, List.append_assoc, List.set_append_right _ _ (by omega), List.set_append_right _ _ (by omega), e3]
  simp
theorem Soft.grown {w W V : World} {r : Option Nat} (h : Soft w W) (hb : W.grownBy V r) (hs : w.heap.size < W.heap.size) (hr : some w.heap.size ≠ r) : Soft w V := by
  unfold Soft at *
  have e := hb.block w.heap.size hs hr
  unfold World.frozen? at *
  rw [e]; exact h
theorem Soft.set {w W : World} (h : Soft w W) (a : Addr) (u : Value) : Soft w (W.setCell a u) := by unfold Soft at *; rw [World.frozen?_setCell]; exact h

set_option maxRecDepth 10000 in
set_option maxHeartbeats 2000000 in
theorem rwrite_new (v : Value) (fs A B : List DF) (name x : List UInt8) (w : World) (hv : DiskV w v fs) (hs : Slim fs) (g : GoodD fs) (hn : namedB name = true) (G : Gap fs A B name) (hx : x.length ≤ 140737488355328) :
    Calls Tryz.prog 81 #[.agg #[v], .string ⟨name.toArray⟩, .string ⟨x.toArray⟩] w fun e w' => ∃ v' E, e = .returned (.tuple #[.agg #[v'], .int .i64 E]) ∧ (16 ≤ fs.length → E = 6 ∧ v' = .slice none 0 0) ∧ (fs.length < 16 → 1048576 < x.length → E = 1 ∧ v' = .slice none 0 0) ∧ (fs.length < 16 → x.length ≤ 1048576 → E = 0 ∧ DiskV w' v' (A ++ ⟨name, [], x⟩ :: B)) ∧ Below w.heap.size w w' := by
  have CG := fun W (hW : Below w.heap.size w W) => rdgood_any v fs W (hv.next hW) hs (by have := g.few; omega)
  have CN := fun W => refNamed_any name W (by simp only [namedB, Bool.and_eq_true, decide_eq_true_eq] at hn; omega)
  have CY := fun W (hW : Below w.heap.size w W) => rcopy_any v fs W (hv.next hW) (by have := g.few; omega)
  have CF := fun v1 W (h : DiskV W v1 fs) => rfile_gap v1 fs A B name W h g.few G
  rw [goodD_true.2 g] at CG
  rw [hn] at CN
  obtain ⟨i0, hi0, hz0, hz1, hz2⟩ := info_file
  have hfew := g.few
  have HG := hide G
  have HCF := hide CF
  obtain ⟨a, n, c, rfl⟩ := disk_slice hv
  clear hv hs g G hn CF
  go_enter Tryz.func81, Tryz.ntmps81
  go_wp2_with fail
  have X := Boxes.start w (.slice a n c) 24 24
  have S : Soft w ((w.alloc (.cells #[.slice a n c] 24)).alloc (.cells #[.slice none 0 0] 24)) := by unfold Soft; simp
  refine (CG _ X.below).mono ?_
  rintro e w1 ⟨rfl, hb1⟩
  have HX := hide (X.next hb1)
  have HS := hide (S.next hb1 (by simp; omega))
  clear CG hb1 X S
  go_wp2_with fail
  refine (CN _).mono ?_
  rintro e w2 ⟨rfl, hb2⟩
  have X2 := (unhide HX).next hb2
  have S2 := (unhide HS).next hb2 (by have := (unhide HX).size; omega)
  clear HX HS
  have HX := hide X2
  have HS := hide S2
  have cd := X2.cd
  clear CN hb2 X2 S2
  go_wp2_with fail
  refine (CY _ (unhide HX).below).mono ?_
  rintro e w3 ⟨v3, rfl, ho, hb3⟩
  obtain ⟨a3, c3, rfl, hc3⟩ := own_slice ho
  have hz2' := (unhide HX).size
  have X3 := (unhide HX).next hb3
  have S3 := (unhide HS).next hb3 (by omega)
  have cd3 := X3.cd
  have fd3 : w3.frozen? ⟨w.heap.size, 0, none⟩ = false := S3
  have X4 := X3.setd (.slice a3 fs.length c3)
  have ho4 : OwnV (w3.setCell ⟨w.heap.size, 0, none⟩ (.slice a3 fs.length c3)) (w.heap.size + 2) (.slice a3 fs.length c3) fs := (ho.mono hz2').other (by show w.heap.size < _; omega) _
  have S4 : Soft w (w3.setCell ⟨w.heap.size, 0, none⟩ (.slice a3 fs.length c3)) := by unfold Soft; rw [World.frozen?_setCell]; exact S3
  have HX4 := hide X4
  have HO4 := hide ho4
  have HS4 := hide S4
  clear CY hb3 HX HS cd X3 S3 X4 ho ho4 S4
  go_wp2_with fail
  generalize w3.setCell ⟨w.heap.size, 0, none⟩ (.slice a3 fs.length c3) = W4 at *
  refine (unhide HCF _ _ (unhide HO4).disk).mono ?_
  rintro e w5 ⟨rfl, hb5⟩
  have X5 := (unhide HX4).next hb5
  have O5 := (unhide HO4).next hb5
  have S5 := (unhide HS4).next hb5 (by have := (unhide HX4).size; omega)
  have cd5 := X5.cd
  have cr5 := X5.cr
  have fr5 := X5.fr
  have HX5 := hide X5
  have HO5 := hide O5
  have HS5 := hide S5
  clear HCF hb5 HX4 HO4 HS4 X5 O5 S5 cd3 fd3
  by_cases h16 : 16 ≤ fs.length
  · have h16i : (16 : Int) ≤ (fs.length : Int) := by omega
    go_wp2_with fail
    exact bodyPost_ret (v := .tuple #[.agg #[.slice none 0 0], .int .i64 6]) (by simp [results, Tryz.results81, go_sem, cr5]) rfl ⟨_, 6, rfl, fun _ => ⟨rfl, rfl⟩, fun h => by omega, fun h => by omega, (unhide HX5).below.setCell (by simp) _⟩
  · have h16i : ¬ ((16 : Int) ≤ (fs.length : Int)) := by omega
    have hrw : ∀ O1, ∀ W, W = w5.alloc O1 → W.ownsRow (w.heap.size + 2) 73 3 (.slice a3 fs.length c3) fs.length (cellsF fs) := fun O1 W e => by
      subst e
      exact ((unhide HO5).next ((Below.refl _ _).alloc (Nat.le_refl _) O1)).row
    have HRW := hide hrw
    have hst : ∀ O1 v' w6, w6.ownsRow (w.heap.size + 2) 73 3 v' (fs.length + 1) (cellsF fs ++ fcells ⟨name, [], []⟩) → (w5.alloc O1).grownBy w6 (Value.slice a3 fs.length c3).ownBlock →
        ∃ q c6, v' = .slice (some ⟨q, 0, none⟩) (fs.length + 1) c6 ∧ w.heap.size + 2 ≤ q ∧ Boxes w w6 (.slice a3 fs.length c3) ∧ Soft w w6 ∧ Own w6 q c6 (fs ++ [⟨name, [], []⟩]) := fun O1 v' w6 hown hgrow => by
      have e1 : (fs ++ [(⟨name, [], []⟩ : DF)]).length = fs.length + 1 := by rw [List.length_append]; rfl
      have ho : OwnV w6 (w.heap.size + 2) v' (fs ++ [⟨name, [], []⟩]) := OwnV.of_row (by rw [e1, cellsF_append]; simpa [cellsF] using hown)
      obtain ⟨q, c6, rfl, hq, ho⟩ := own_some ho (k := fs.length) (by rw [e1]; omega)
      have hal1 := (Below.refl w5.heap.size w5).alloc (Nat.le_refl _) O1
      have hbl : ∀ q, (Value.slice a3 fs.length c3).ownBlock = some q → w.heap.size + 2 ≤ q := fun q e => (own_block (unhide HO5) q e).1
      have X6 := (unhide HX5).next hal1
      have hz6 := X6.size
      exact ⟨q, c6, by rw [e1], hq, X6.grownO hgrow hbl, Soft.grown ((unhide HS5).next hal1 (by have := (unhide HX5).size; omega)) hgrow (by omega) (fun e => by have := hbl _ e.symm; omega), ho⟩
    have HST := hide (fun v' w6 O1 h1 h2 => hst O1 v' w6 h1 h2)
    have hc2 : ∀ i u, (fcells ⟨name, [], []⟩)[i]? = some u → (w5.alloc (.cells #[.string ⟨name.toArray⟩, .string ⟨#[]⟩, .string ⟨#[]⟩] 73)).cell? ((⟨w5.heap.size, 0, none⟩ : Addr).add i) = some u := fun i u hi => by
      rw [Addr.add_lit]
      exact (done_new w5 ⟨name, [], []⟩ w5.heap.size rfl).row i u hi
    have HC2 := hide hc2
    have h4 : Hid (fs.length + 1 ≤ maxLen) := by unfold Hid; simp only [maxLen]; omega
    have h5 : Hid ((fs.length + 1) * 48 ≤ 140737488355328) := by unfold Hid; omega
    have h6 : Hid (∀ O1, w.heap.size + 2 ≤ (w5.alloc O1).heap.size) := fun O1 => by have := (unhide HX5).size; simp; omega
    clear hrw hst hc2
    go_wp2_with (at_builtin; refine wpList_append_own _ rfl _ _ 22 rfl (w.heap.size + 2) 73 i0 _ 3 48 Tryz.underlying22 hi0 hz0 hz1 hz2 rfl (by decide) _ fs.length (cellsF fs) rfl (unhide HRW _ _ rfl) ⟨w5.heap.size, 0, none⟩ 1 1 (fcells ⟨name, [], []⟩) rfl rfl (unhide HC2) (fcells_one _) (unhide h4) (unhide h5) (unhide h6 _) ?_)
    intro v' w6 hown hgrow _
    obtain ⟨q, c6, rfl, hq, X6, S6, O6⟩ := unhide HST _ _ _ hown hgrow
    have cd6 := X6.cd
    have fd6 : w6.frozen? ⟨w.heap.size, 0, none⟩ = false := S6
    have X7 := X6.setd (.slice (some ⟨q, 0, none⟩) (fs.length + 1) c6)
    have O7 := O6.other (a := ⟨w.heap.size, 0, none⟩) (by show q ≠ w.heap.size; omega) (.slice (some ⟨q, 0, none⟩) (fs.length + 1) c6)
    have HX7 := hide X7
    have HO7 := hide O7
    have cd7 := X7.cd
    clear hown hgrow X6 S6 O6 HST HRW HC2 h4 h5 h6 X7 O7 cd5 cr5 fr5 HX5 HO5 HS5
    have hqw : q ≠ w.heap.size := by omega
    have hqr : q ≠ w.heap.size + 1 := by omega
    have hdrop : fs.take fs.length ++ (⟨name, [], []⟩ : DF) :: fs.drop fs.length = fs ++ [⟨name, [], []⟩] := by simp
    have HI0 : Hid (Boxes w (w6.setCell ⟨w.heap.size, 0, none⟩ (.slice (some ⟨q, 0, none⟩) (fs.length + 1) c6)) (.slice (some ⟨q, 0, none⟩) (fs.length + 1) c6) ∧ Own (w6.setCell ⟨w.heap.size, 0, none⟩ (.slice (some ⟨q, 0, none⟩) (fs.length + 1) c6)) q c6 (fs.take fs.length ++ ⟨name, [], []⟩ :: fs.drop fs.length)) := hide ⟨unhide HX7, by rw [hdrop]; exact unhide HO7⟩
    clear hdrop HX7 HO7
    have hAl : A.length ≤ fs.length := by rw [(unhide HG).eq]; simp
    go_wp2_with fail
    go_loopg [8] fs.length (fun kx s wr => ∃ j : Nat, s = .int .i64 j ∧ A.length ≤ j ∧ j ≤ fs.length ∧ j ≤ kx ∧ Hid (Boxes w wr (.slice (some ⟨q, 0, none⟩) (fs.length + 1) c6) ∧ Own wr q c6 (fs.take j ++ ⟨name, [], []⟩ :: fs.drop j)))
    case atStart => exact ⟨fs.length, by simp, hAl, Nat.le_refl _, Nat.le_refl _, HI0⟩
    case round =>
      obtain ⟨j, rfl, hj1, hj2, hj3, hI⟩ := hrel
      clear HI0 cd6 fd6 cd7
      have cd8 := (unhide hI).1.cd
      have cr8 := (unhide hI).1.cr
      have fr8 := (unhide hI).1.fr
      by_cases hjA : j = A.length
      · have HCUT : Hid (fs.take j ++ (⟨name, [], []⟩ : DF) :: fs.drop j = A ++ ⟨name, [], []⟩ :: B) := by unfold Hid; rw [(unhide HG).eq, hjA]; simp
        have HAT : Hid ((A ++ (⟨name, [], []⟩ : DF) :: B)[j]? = some ⟨name, [], []⟩) := by unfold Hid; rw [hjA]; simp
        have HSET : Hid ((A ++ (⟨name, [], []⟩ : DF) :: B).set j ⟨name, [], x⟩ = A ++ ⟨name, [], x⟩ :: B) := by unfold Hid; rw [hjA]; simp
        have HLEN : Hid ((A ++ (⟨name, [], x⟩ : DF) :: B).length = fs.length + 1) := by unfold Hid; rw [(unhide HG).eq]; simp; omega
        have HJA := hide hjA
        rcases Nat.eq_zero_or_pos j with hA0 | hA0
        · subst hA0
          clear hjA hj1
          have O8 := (unhide hI).2
          rw [unhide HCUT] at O8
          have e1 := O8.c1 (unhide HAT)
          have e2 := O8.c2 (unhide HAT)
          have f2 := O8.frozen (0 * 3 + 2)
          have hq8 := O8.lt
          have O9 := O8.s2 (unhide HAT) x
          rw [unhide HSET] at O9
          have HO9 := hide O9
          have hcat1 : ¬ 9223372036854775807 < x.length := by omega
          have hcat : (ByteArray.mk #[] ++ ByteArray.mk x.toArray) = ⟨x.toArray⟩ := dcat_one [] x
          have HCAT := hide hcat
          have B9 : Below w.heap.size w (wr.setCell ⟨q, 0 * 3 + 2, none⟩ (.string ⟨x.toArray⟩)) := (unhide hI).1.below.setCell (by show w.heap.size ≤ q; omega) _
          have HB9 := hide B9
          clear O8 O9 B9 hcat
          by_cases hbig : x.length ≤ 1048576
          · have hbi : ¬ ((1048576 : Int) < (x.length : Int)) := by omega
            go_wp2_with fail
            go_quiet (fail)
            go_wp2_with fail
            rw [unhide HCAT]
            exact bodyPost_ret (v := .tuple #[.agg #[.slice (some ⟨q, 0, none⟩) (fs.length + 1) c6], .int .i64 0]) (by simp [results, Tryz.results81, go_sem, cr8]) rfl ⟨_, 0, rfl, fun h => absurd h h16, fun _ h => absurd hbig (Nat.not_le_of_lt h), fun _ _ => ⟨rfl, OwnV.disk (B := 0) (.inr ⟨q, c6, by rw [unhide HLEN], Nat.zero_le _, ((unhide HO9).drewN _).other hqr _⟩)⟩, (below_drw (unhide HB9) _).setCell (by simp) _⟩
          · have hbi : (1048576 : Int) < (x.length : Int) := by omega
            go_wp2_with fail
            go_quiet (fail)
            go_wp2_with fail
            rw [unhide HCAT]
            exact bodyPost_ret (v := .tuple #[.agg #[.slice none 0 0], .int .i64 1]) (by simp [results, Tryz.results81, go_sem, cr8]) rfl ⟨_, 1, rfl, fun h => absurd h h16, fun _ _ => ⟨rfl, rfl⟩, fun _ h => absurd h hbig, (below_drw (unhide HB9) _).setCell (by simp) _⟩
        · obtain ⟨m, rfl⟩ : ∃ m, j = m + 1 := ⟨j - 1, by omega⟩
          obtain ⟨y, hy⟩ : ∃ y, A[m]? = some y := ⟨_, List.getElem?_eq_getElem (by omega)⟩
          have hbl' : Op.bytesLess y.n name = true := (unhide HG).lo y (List.mem_of_getElem? hy)
          have hy2 : (A ++ (⟨name, [], []⟩ : DF) :: B)[m]? = some y := by rw [List.getElem?_append_left (by omega)]; exact hy
          have a0 : wr.cell? ⟨q, m * 3, none⟩ = some (.string ⟨y.n.toArray⟩) := by
            have h := (unhide hI).2
            rw [unhide HCUT] at h
            exact h.c0 hy2
          have hm1 : (m : Int) < (fs.length : Int) + 1 := by omega
          have hm2 : (m : Int) + 1 < (fs.length : Int) + 1 := by omega
          clear hy hy2 hjA hj1
          have O8 := (unhide hI).2
          rw [unhide HCUT] at O8
          have e1 := O8.c1 (unhide HAT)
          have e2 := O8.c2 (unhide HAT)
          have f2 := O8.frozen ((m + 1) * 3 + 2)
          have hq8 := O8.lt
          have O9 := O8.s2 (unhide HAT) x
          rw [unhide HSET] at O9
          have HO9 := hide O9
          have hcat1 : ¬ 9223372036854775807 < x.length := by omega
          have hcat : (ByteArray.mk #[] ++ ByteArray.mk x.toArray) = ⟨x.toArray⟩ := dcat_one [] x
          have HCAT := hide hcat
          have B9 : Below w.heap.size w (wr.setCell ⟨q, (m + 1) * 3 + 2, none⟩ (.string ⟨x.toArray⟩)) := (unhide hI).1.below.setCell (by show w.heap.size ≤ q; omega) _
          have HB9 := hide B9
          clear O8 O9 B9 hcat
          by_cases hbig : x.length ≤ 1048576
          · have hbi : ¬ ((1048576 : Int) < (x.length : Int)) := by omega
            go_wp2_with fail
            go_quiet (fail)
            go_wp2_with fail
            rw [unhide HCAT]
            exact bodyPost_ret (v := .tuple #[.agg #[.slice (some ⟨q, 0, none⟩) (fs.length + 1) c6], .int .i64 0]) (by simp [results, Tryz.results81, go_sem, cr8]) rfl ⟨_, 0, rfl, fun h => absurd h h16, fun _ h => absurd hbig (Nat.not_le_of_lt h), fun _ _ => ⟨rfl, OwnV.disk (B := 0) (.inr ⟨q, c6, by rw [unhide HLEN], Nat.zero_le _, ((unhide HO9).drewN _).other hqr _⟩)⟩, (below_drw (unhide HB9) _).setCell (by simp) _⟩
          · have hbi : (1048576 : Int) < (x.length : Int) := by omega
            go_wp2_with fail
            go_quiet (fail)
            go_wp2_with fail
            rw [unhide HCAT]
            exact bodyPost_ret (v := .tuple #[.agg #[.slice none 0 0], .int .i64 1]) (by simp [results, Tryz.results81, go_sem, cr8]) rfl ⟨_, 1, rfl, fun h => absurd h h16, fun _ _ => ⟨rfl, rfl⟩, fun _ h => absurd h hbig, (below_drw (unhide HB9) _).setCell (by simp) _⟩
      · obtain ⟨m, rfl⟩ : ∃ m, j = m + 1 := ⟨j - 1, by omega⟩
        obtain ⟨y, hy⟩ : ∃ y, fs[m]? = some y := ⟨_, List.getElem?_eq_getElem (by omega)⟩
        have hbl' : Op.bytesLess name y.n = true := by
          refine (unhide HG).hi y ?_
          rw [(unhide HG).eq, List.getElem?_append_right (by omega)] at hy
          exact List.mem_of_getElem? hy
        have hbl1 : Op.bytesLess y.n name = false := bl_asymm hbl'
        have hbl2 : (y.n == name) = false := by simpa using (bl_ne hbl').symm
        have hlo := bub_lo ⟨name, [], []⟩ hy
        have hat := bub_at (fs := fs) (j := m + 1) ⟨name, [], []⟩ hj2
        have O8 := (unhide hI).2
        have a0 := O8.c0 hlo
        have a1 := O8.c1 hlo
        have a2 := O8.c2 hlo
        have b0 := O8.c0 hat
        have b1 := O8.c1 hat
        have b2 := O8.c2 hat
        have p0 := O8.frozen (m * 3)
        have p1 := O8.frozen (m * 3 + 1)
        have p2 := O8.frozen (m * 3 + 2)
        have p3 := O8.frozen ((m + 1) * 3)
        have p4 := O8.frozen ((m + 1) * 3 + 1)
        have p5 := O8.frozen ((m + 1) * 3 + 2)
        have O9 := own_put3 O8 hlo ⟨name, [], []⟩
        have hat9 : ((fs.take (m + 1) ++ (⟨name, [], []⟩ : DF) :: fs.drop (m + 1)).set m ⟨name, [], []⟩)[m + 1]? = some ⟨name, [], []⟩ := by rw [List.getElem?_set_ne (by omega)]; exact hat
        have O10 := own_put3 O9 hat9 y
        rw [bub_swap _ hy] at O10
        have HO10 := hide O10
        have hq8 := O8.lt
        have hm1 : (m : Int) < (fs.length : Int) := by omega
        have hm2 : (m : Int) + 1 < (fs.length : Int) + 1 := by omega
        have hm3 : (m : Int) < (fs.length : Int) + 1 := by omega
        clear hlo hat O8 O9 hat9 O10 hy
        have HX10 := hide ((((((((unhide hI).1.other hq (m * 3) (.string ⟨name.toArray⟩)).other hq (m * 3 + 1) (.string ⟨#[]⟩)).other hq (m * 3 + 2) (.string ⟨#[]⟩)).other hq ((m + 1) * 3) (.string ⟨y.n.toArray⟩)).other hq ((m + 1) * 3 + 1) (.string ⟨y.s.toArray⟩)).other hq ((m + 1) * 3 + 2) (.string ⟨y.t.toArray⟩)).next (Below.refl _ _).drew)
        go_wp2_with fail
        go_region
        go_wp2_with fail
        go_roundg m
        case measure => omega
        case rel => exact ⟨m, rfl, by omega, by omega, Nat.le_refl _, hide ⟨unhide HX10, (unhide HO10).drew⟩⟩
end Go.Proofs.YthkggmmalffcdaaGreatDoor
