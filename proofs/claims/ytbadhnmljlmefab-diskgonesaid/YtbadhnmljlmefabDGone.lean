/-
  aviarykeep.DiskGone returns true: the walk.
-/
import Derived.Test.YtbadhnmljlmefabDStore
import Derived.Test.YtbadhnmljlmefabDCut
namespace Go.Proofs.Ytbadhnmljlmefab
open Go.RowKit

set_option maxRecDepth 10000 in
set_option maxHeartbeats 2000000 in
theorem diskGone_walk (v : Value) (fs : List DF) (name : List UInt8) (n : Int) (w : World) (hv : DiskV w v fs) (hs : Slim fs) :
    Calls Try.prog 4 #[.agg #[v], .string ⟨name.toArray⟩, .int .i64 n] w fun e w' => e = .returned (.bool true) ∧ Below w.heap.size w w' := by
  have CR := fun W (hW : Below w.heap.size w W) => read_any v fs name W (hv.next hW) hs
  rcases loc_cases fs name with ⟨E, h⟩ | ⟨g, A, f, B, T⟩
  · have CM := fun W (hW : Below w.heap.size w W) => remove_no v fs name E W (hv.next hW) hs h
    have CU := fun W (hW : Below w.heap.size w W) => cut_no v fs name n E W (hv.next hW) hs h
    have hne := locNo_ne h
    have hne' : (E == 0) = false := by simpa using hne
    obtain ⟨a, n0, c, rfl⟩ := disk_slice hv
    generalize readD fs name = R at CR
    clear hv hs h
    go_enter Try.func4, Try.ntmps4
    go_wp2_with fail
    refine (CM _ ((Below.refl _ _).alloc (Nat.le_refl _) _)).mono ?_
    rintro e w1 ⟨rfl, hb1⟩
    have hal := (Below.refl w1.heap.size w1).alloc (Nat.le_refl _) (.cells #[.slice none 0 0] 24)
    have hB1 := below_next (box_then hb1) hal
    have c1 := (((BoxAt.new w (.slice a n0 c)).next hb1).next hal).c
    have X1 := hide (((BoxAt.new w (.slice a n0 c)).next hb1).next hal)
    clear CM hb1 hal
    go_wp2_with fail
    generalize w1.alloc (.cells #[.slice none 0 0] 24) = W1 at *
    refine (CU _ hB1).mono ?_
    rintro e w2 ⟨rfl, hb2⟩
    have hal := (Below.refl w2.heap.size w2).alloc (Nat.le_refl _) (.cells #[.slice none 0 0] 24)
    have hB2 := below_next (below_next hB1 hb2) hal
    have c2 := (((unhide X1).next hb2).next hal).c
    clear CU hb2 hal hB1 c1 X1
    go_wp2_with fail
    generalize w2.alloc (.cells #[.slice none 0 0] 24) = W2 at *
    refine (CR _ hB2).mono ?_
    rintro e w3 ⟨rfl, hb3⟩
    have hB3 := below_next hB2 hb3
    clear CR hb3 hB2 c2
    go_wp2_with fail
    refine (stores_any _).mono ?_
    rintro e w4 ⟨rfl, hb4⟩
    have hB4 := below_next hB3 hb4
    clear hb4 hB3
    go_wp2_with fail
    go_ret
    exact ⟨rfl, hB4⟩
  · have hm : fs.length = (A.length + B.length) + 1 := by rw [T.eq]; simp; omega
    have hml : (A ++ B).length = A.length + B.length := by simp
    have hfew := g.few
    have g3 : GoodD (A ++ B) := good_del (f := f) (by rw [← T.eq]; exact g)
    have CM := fun W (hW : Below w.heap.size w W) => remove_there v fs A B f name W (hv.next hW) hs g T
    have CX := fun v1 W (h : DiskV W v1 (A ++ B)) => read_any v1 (A ++ B) name W h (good_slim g3)
    simp only [readD_gap g3 T.del] at CX
    have CU : (∃ E, (E != 0) = true ∧ ∀ W, Below w.heap.size w W → Calls Try.prog 9 #[.agg #[v], .string ⟨name.toArray⟩, .int .i64 n] W fun e w' => e = .returned (.tuple #[.agg #[.slice none 0 0], .int .i64 E]) ∧ Below W.heap.size W w') ∨
        ∃ k : Nat, n = k ∧ k ≤ f.s.length + f.t.length ∧ ∀ W, Below w.heap.size w W → Calls Try.prog 9 #[.agg #[v], .string ⟨name.toArray⟩, .int .i64 k] W fun e w' => ∃ v', e = .returned (.tuple #[.agg #[v'], .int .i64 0]) ∧ OwnV w' W.heap.size v' (A ++ ⟨f.n, (f.s ++ f.t).take k, []⟩ :: B) ∧ Below W.heap.size W w' := by
      by_cases h : n < 0 ∨ ((f.s.length + f.t.length : Nat) : Int) < n
      · exact .inl ⟨3, by decide, fun W hW => cut_out v fs A B f name n W (hv.next hW) hs g T h⟩
      · exact .inr ⟨n.toNat, by omega, by omega, fun W hW => cut_there v fs A B f name n.toNat W (hv.next hW) hs g T (by omega)⟩
    rw [readD_there g T] at CR
    have hfl := fileOk_len (T.ok g)
    obtain ⟨b, off, cap, rfl, _, _, _, _⟩ := there_row hv T
    rw [hm] at CR CM CU ⊢
    have HCX := hide CX
    rcases CU with ⟨E, hne, CU⟩ | ⟨k, rfl, hk, CU⟩
    · generalize A.length + B.length = m at *
      have hmi : (m : Int) ≤ 16 := by omega
      clear hv hs T g CX g3 hm
      go_enter Try.func4, Try.ntmps4
      go_wp2_with fail
      refine (CM _ ((Below.refl _ _).alloc (Nat.le_refl _) _)).mono ?_
      rintro e w1 ⟨v1, rfl, ho, hb1⟩
      obtain ⟨a1, c1', rfl, _⟩ := own_slice ho
      rw [hml] at ho ⊢
      have hal := (Below.refl w1.heap.size w1).alloc (Nat.le_refl _) (.cells #[.slice a1 m c1'] 24)
      have hB1 := below_next (box_then hb1) hal
      have c1 := (((BoxAt.new w (.slice (some ⟨b, off, none⟩) (m + 1) cap)).next hb1).next hal).c
      have X1 := hide (((BoxAt.new w (.slice (some ⟨b, off, none⟩) (m + 1) cap)).next hb1).next hal)
      have Y1 := hide (BoxAt.new w1 (.slice a1 m c1'))
      have D1 := hide (ho.disk.next hal)
      clear CM hb1 hal ho
      go_wp2_with fail
      generalize w1.alloc (.cells #[.slice a1 m c1'] 24) = W1 at *
      refine (CU _ hB1).mono ?_
      rintro e w2 ⟨rfl, hb2⟩
      have hal := (Below.refl w2.heap.size w2).alloc (Nat.le_refl _) (.cells #[.slice none 0 0] 24)
      have hB2 := below_next (below_next hB1 hb2) hal
      have X2 := hide (((unhide X1).next hb2).next hal)
      have Y2 := hide (((unhide Y1).next hb2).next hal)
      have D2 := hide (((unhide D1).next hb2).next hal)
      have c2 := (unhide X2).c
      clear CU hb2 hal hB1 c1 X1 Y1 D1
      go_wp2_with fail
      generalize w2.alloc (.cells #[.slice none 0 0] 24) = W2 at *
      refine (CR _ hB2).mono ?_
      rintro e w3 ⟨rfl, hb3⟩
      have hB3 := below_next hB2 hb3
      have X3 := hide ((unhide X2).next hb3)
      have Y3 := hide ((unhide Y2).next hb3)
      have D3 := hide ((unhide D2).next hb3)
      clear CR hb3 hB2 c2 X2 Y2 D2
      go_wp2_with fail
      refine (stores_any _).mono ?_
      rintro e w4 ⟨rfl, hb4⟩
      have hB4 := below_next hB3 hb4
      have c4 := ((unhide X3).next hb4).c
      have d4 := ((unhide Y3).next hb4).c
      have D4 := hide ((unhide D3).next hb4)
      clear hb4 hB3 X3 Y3 D3
      go_wp2_with fail
      refine (unhide HCX _ _ (unhide D4)).mono ?_
      rintro e w5 ⟨rfl, hb5⟩
      have hB5 := below_next hB4 hb5
      clear hb5 hB4 HCX D4
      go_wp2_with fail
      go_ret
      exact ⟨rfl, hB5⟩
    · have g5 : GoodD (A ++ ⟨f.n, (f.s ++ f.t).take k, []⟩ :: B) := good_set (f := f) (by rw [← T.eq]; exact g) rfl (by simp; omega)
      have T5 : There (A ++ ⟨f.n, (f.s ++ f.t).take k, []⟩ :: B) A ⟨f.n, (f.s ++ f.t).take k, []⟩ B name := T.set T.nm
      have CC := fun v1 W (h : DiskV W v1 (A ++ ⟨f.n, (f.s ++ f.t).take k, []⟩ :: B)) => crash_yes v1 _ 0 W h (good_slim g5) g5
      have C2 := fun v1 W (h : DiskV W v1 ((A ++ ⟨f.n, (f.s ++ f.t).take k, []⟩ :: B).map (crashF 0))) => read_there v1 _ _ _ _ name W h (good_slim (good_crash g5 0)) (good_crash g5 0) (T5.crash 0)
      have hend : (crashF 0 ⟨f.n, (f.s ++ f.t).take k, []⟩).s ++ (crashF 0 ⟨f.n, (f.s ++ f.t).take k, []⟩).t = (f.s ++ f.t).take k := by simp [crashF]
      rw [hend] at C2
      generalize (A ++ (⟨f.n, (f.s ++ f.t).take k, []⟩ : DF) :: B).map (crashF 0) = d6 at CC C2
      generalize A ++ (⟨f.n, (f.s ++ f.t).take k, []⟩ : DF) :: B = d5 at CU CC
      have hex : (ByteArray.mk (f.s ++ f.t).toArray).extract 0 k = ⟨((f.s ++ f.t).take k).toArray⟩ := ex_front _ _
      have hal5 : k ≤ (f.s ++ f.t).length := by simp; omega
      have hfl5 : (f.s ++ f.t).length ≤ 1048576 := by simp; omega
      simp only at CR
      generalize (f.s ++ f.t).take k = tk at C2 hex
      generalize f.s ++ f.t = all at CR hex hal5 hfl5
      have hali : (k : Int) ≤ (all.length : Int) := by omega
      generalize A.length + B.length = m at *
      have hmi : (m : Int) ≤ 16 := by omega
      have HCC := hide CC
      have HC2 := hide C2
      clear hv hs T g CX g3 hm g5 T5 CC C2 hend
      go_enter Try.func4, Try.ntmps4
      go_wp2_with fail
      refine (CM _ ((Below.refl _ _).alloc (Nat.le_refl _) _)).mono ?_
      rintro e w1 ⟨v1, rfl, ho, hb1⟩
      obtain ⟨a1, c1', rfl, _⟩ := own_slice ho
      rw [hml] at ho ⊢
      have hal := (Below.refl w1.heap.size w1).alloc (Nat.le_refl _) (.cells #[.slice a1 m c1'] 24)
      have hB1 := below_next (box_then hb1) hal
      have c1 := (((BoxAt.new w (.slice (some ⟨b, off, none⟩) (m + 1) cap)).next hb1).next hal).c
      have X1 := hide (((BoxAt.new w (.slice (some ⟨b, off, none⟩) (m + 1) cap)).next hb1).next hal)
      have Y1 := hide (BoxAt.new w1 (.slice a1 m c1'))
      have D1 := hide (ho.disk.next hal)
      clear CM hb1 hal ho
      go_wp2_with fail
      generalize w1.alloc (.cells #[.slice a1 m c1'] 24) = W1 at *
      refine (CU _ hB1).mono ?_
      rintro e w2 ⟨v2, rfl, ho, hb2⟩
      obtain ⟨a2, n2, c2', rfl⟩ := disk_slice ho.disk
      have hal := (Below.refl w2.heap.size w2).alloc (Nat.le_refl _) (.cells #[.slice a2 n2 c2'] 24)
      have hB2 := below_next (below_next hB1 hb2) hal
      have X2 := hide (((unhide X1).next hb2).next hal)
      have Y2 := hide (((unhide Y1).next hb2).next hal)
      have Z2 := hide (BoxAt.new w2 (.slice a2 n2 c2'))
      have D2 := hide (((unhide D1).next hb2).next hal)
      have F2 := hide (ho.disk.next hal)
      have c2 := (unhide X2).c
      clear CU hb2 hal hB1 c1 X1 Y1 D1 ho
      go_wp2_with fail
      generalize w2.alloc (.cells #[.slice a2 n2 c2'] 24) = W2 at *
      refine (CR _ hB2).mono ?_
      rintro e w3 ⟨rfl, hb3⟩
      have hB3 := below_next hB2 hb3
      have X3 := hide ((unhide X2).next hb3)
      have Y3 := hide ((unhide Y2).next hb3)
      have Z3 := hide ((unhide Z2).next hb3)
      have D3 := hide ((unhide D2).next hb3)
      have F3 := hide ((unhide F2).next hb3)
      clear CR hb3 hB2 c2 X2 Y2 D2 Z2 F2
      go_wp2_with fail
      refine (stores_any _).mono ?_
      rintro e w4 ⟨rfl, hb4⟩
      have hB4 := below_next hB3 hb4
      have c4 := ((unhide X3).next hb4).c
      have d4 := ((unhide Y3).next hb4).c
      have Z4 := hide ((unhide Z3).next hb4)
      have D4 := hide ((unhide D3).next hb4)
      have F4 := hide ((unhide F3).next hb4)
      clear hb4 hB3 X3 Y3 D3 Z3 F3
      go_wp2_with fail
      refine (unhide HCX _ _ (unhide D4)).mono ?_
      rintro e w5 ⟨rfl, hb5⟩
      have hB5 := below_next hB4 hb5
      have c5 := ((unhide Z4).next hb5).c
      have F5 := hide ((unhide F4).next hb5)
      clear hb5 hB4 HCX D4 Z4 F4 c4 d4
      go_wp2_with fail
      refine (unhide HCC _ _ (unhide F5)).mono ?_
      rintro e w6 ⟨v6, rfl, ho, hb6⟩
      obtain ⟨a6, n6, c6', rfl⟩ := disk_slice ho.disk
      have hal := (Below.refl w6.heap.size w6).alloc (Nat.le_refl _) (.cells #[.slice a6 n6 c6'] 24)
      have hB6 := below_next (below_next hB5 hb6) hal
      have c6 := (BoxAt.new w6 (.slice a6 n6 c6')).c
      have F6 := hide (ho.disk.next hal)
      clear HCC hb6 hal hB5 c5 F5 ho
      go_wp2_with fail
      generalize w6.alloc (.cells #[.slice a6 n6 c6'] 24) = W6 at *
      refine (unhide HC2 _ _ (unhide F6)).mono ?_
      rintro e w7 ⟨rfl, hb7⟩
      have hB7 := below_next hB6 hb7
      clear HC2 hb7 hB6 F6 c6
      go_wp2_with fail
      go_ret
      exact ⟨rfl, hB7⟩
end Go.Proofs.Ytbadhnmljlmefab
