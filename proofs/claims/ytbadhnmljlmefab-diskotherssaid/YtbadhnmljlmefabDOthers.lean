/-
  aviarykeep.DiskOthers returns true: the walk.
-/
import Derived.Test.YtbadhnmljlmefabDFine
namespace Go.Proofs.Ytbadhnmljlmefab
open Go.RowKit

/-- four disks in a row, and what was said of them -/
structure Four (o : List UInt8) (R : List UInt8 × Int) (W : World) (q : Nat) (v0 v1 v2 v3 : Value) (E0 E1 E2 E3 : Int) : Prop where
  row : W.heap[q]? = some (.cells #[v0, v1, v2, v3] 24 (0, 0))
  f0 : Fine o R W v0 E0
  f1 : Fine o R W v1 E1
  f2 : Fine o R W v2 E2
  f3 : Fine o R W v3 E3
theorem Four.next {o : List UInt8} {R : List UInt8 × Int} {W V : World} {q : Nat} {v0 v1 v2 v3 : Value} {E0 E1 E2 E3 : Int} (h : Four o R W q v0 v1 v2 v3 E0 E1 E2 E3) (hb : Below W.heap.size W V) : Four o R V q v0 v1 v2 v3 E0 E1 E2 E3 :=
  ⟨(hb.block q (Array.getElem?_eq_some_iff.1 h.row).1).trans h.row, h.f0.next hb, h.f1.next hb, h.f2.next hb, h.f3.next hb⟩
theorem Four.c0 {o : List UInt8} {R : List UInt8 × Int} {W : World} {q : Nat} {v0 v1 v2 v3 : Value} {E0 E1 E2 E3 : Int} (h : Four o R W q v0 v1 v2 v3 E0 E1 E2 E3) : W.cell? ⟨q, 0, none⟩ = some v0 := by have := h.row; simp [World.cell?, this]
theorem Four.c1 {o : List UInt8} {R : List UInt8 × Int} {W : World} {q : Nat} {v0 v1 v2 v3 : Value} {E0 E1 E2 E3 : Int} (h : Four o R W q v0 v1 v2 v3 E0 E1 E2 E3) : W.cell? ⟨q, 1, none⟩ = some v1 := by have := h.row; simp [World.cell?, this]
theorem Four.c2 {o : List UInt8} {R : List UInt8 × Int} {W : World} {q : Nat} {v0 v1 v2 v3 : Value} {E0 E1 E2 E3 : Int} (h : Four o R W q v0 v1 v2 v3 E0 E1 E2 E3) : W.cell? ⟨q, 2, none⟩ = some v2 := by have := h.row; simp [World.cell?, this]
theorem Four.c3 {o : List UInt8} {R : List UInt8 × Int} {W : World} {q : Nat} {v0 v1 v2 v3 : Value} {E0 E1 E2 E3 : Int} (h : Four o R W q v0 v1 v2 v3 E0 E1 E2 E3) : W.cell? ⟨q, 3, none⟩ = some v3 := by have := h.row; simp [World.cell?, this]

theorem index4_0 (e0 e1 e2 e3 : Int) (w : World) : (Instr.index 34 (.agg #[.int .i64 e0, .int .i64 e1, .int .i64 e2, .int .i64 e3]) (.int .i64 0)).run Try.prog w = .ok (.int .i64 e0) w := by
  simp [Instr.index, asIntOf, run_underlying Try.underlying34, go_sem]
theorem index4_1 (e0 e1 e2 e3 : Int) (w : World) : (Instr.index 34 (.agg #[.int .i64 e0, .int .i64 e1, .int .i64 e2, .int .i64 e3]) (.int .i64 1)).run Try.prog w = .ok (.int .i64 e1) w := by
  simp [Instr.index, asIntOf, run_underlying Try.underlying34, go_sem]
theorem index4_2 (e0 e1 e2 e3 : Int) (w : World) : (Instr.index 34 (.agg #[.int .i64 e0, .int .i64 e1, .int .i64 e2, .int .i64 e3]) (.int .i64 2)).run Try.prog w = .ok (.int .i64 e2) w := by
  simp [Instr.index, asIntOf, run_underlying Try.underlying34, go_sem]
theorem index4_3 (e0 e1 e2 e3 : Int) (w : World) : (Instr.index 34 (.agg #[.int .i64 e0, .int .i64 e1, .int .i64 e2, .int .i64 e3]) (.int .i64 3)).run Try.prog w = .ok (.int .i64 e3) w := by
  simp [Instr.index, asIntOf, run_underlying Try.underlying34, go_sem]

set_option maxRecDepth 10000 in
set_option maxHeartbeats 2000000 in
theorem diskOthers_walk (v : Value) (fs : List DF) (name o x : List UInt8) (n : Int) (w : World) (hv : DiskV w v fs) (hs : Slim fs) (hnm : name.length ≤ 140737488355328) (hx : x.length ≤ 140737488355328) :
    Calls Try.prog 3 #[.agg #[v], .string ⟨name.toArray⟩, .string ⟨o.toArray⟩, .string ⟨x.toArray⟩, .int .i64 n] w fun e w' => e = .returned (.bool true) ∧ Below w.heap.size w w' := by
  by_cases hno : name = o
  · subst hno
    obtain ⟨a, n0, c, rfl⟩ := disk_slice hv
    clear hv hs
    go_enter Try.func3, Try.ntmps3
    go_wp2_with fail
    refine (stores_any _).mono ?_
    rintro e w1 ⟨rfl, hb1⟩
    have hB1 := box_then hb1
    clear hb1
    go_wp2_with fail
    go_ret
    exact ⟨rfl, hB1⟩
  · have hne : (name == o) = false := by simpa using hno
    have CR := fun W (hW : Below w.heap.size w W) => read_any v fs o W (hv.next hW) hs
    have CW := fun W (hW : Below w.heap.size w W) => fine_write v fs name o x hno hs hnm hx W (hv.next hW)
    have CS := fun W (hW : Below w.heap.size w W) => fine_sync v fs name o hno hs W (hv.next hW)
    have CU := fun W (hW : Below w.heap.size w W) => fine_cut v fs name o n hno hs W (hv.next hW)
    have CM := fun W (hW : Below w.heap.size w W) => fine_remove v fs name o hno hs W (hv.next hW)
    obtain ⟨a, n0, c, rfl⟩ := disk_slice hv
    generalize readD fs o = R at CR CW CS CU CM
    clear hv hs hno
    go_enter Try.func3, Try.ntmps3
    go_wp2_with fail
    refine (stores_any _).mono ?_
    rintro e w1 ⟨rfl, hb1⟩
    have hB1 := box_then hb1
    have X1 := hide ((BoxAt.new w (.slice a n0 c)).next hb1)
    have c1 := (unhide X1).c
    clear hb1
    go_wp2_with fail
    refine (CR _ hB1).mono ?_
    rintro e w2 ⟨rfl, hb2⟩
    have hB2 := below_next hB1 hb2
    have X2 := hide ((unhide X1).next hb2)
    have c2 := (unhide X2).c
    clear CR hb2 hB1 X1 c1
    go_wp2_with fail
    refine (CW _ hB2).mono ?_
    rintro e w3 ⟨a3, n3, c3', E3, rfl, hf, hb⟩
    have hal := (Below.refl w3.heap.size w3).alloc (Nat.le_refl _) (.cells #[.slice a3 n3 c3'] 24)
    have hB3 := below_next (below_next hB2 hb) hal
    have X3 := hide (((unhide X2).next hb).next hal)
    have c3 := (unhide X3).c
    have Y3 := hide (BoxAt.new w3 (.slice a3 n3 c3'))
    have F3 := hide ((unhide hf).next hal)
    clear CW hb hal hf hB2 X2 c2
    go_wp2_with fail
    generalize w3.alloc (.cells #[.slice a3 n3 c3'] 24) = W3 at *
    refine (CS _ hB3).mono ?_
    rintro e w4 ⟨a4, n4, c4', E4, rfl, hf, hb⟩
    have hal := (Below.refl w4.heap.size w4).alloc (Nat.le_refl _) (.cells #[.slice a4 n4 c4'] 24)
    have hB4 := below_next (below_next hB3 hb) hal
    have X4 := hide (((unhide X3).next hb).next hal)
    have c4 := (unhide X4).c
    have Y4 := hide (BoxAt.new w4 (.slice a4 n4 c4'))
    have F4 := hide ((unhide hf).next hal)
    have Z := hide (((unhide Y3).next hb).next hal)
    clear Y3
    have Y3 := Z
    clear Z
    have Z := hide (((unhide F3).next hb).next hal)
    clear F3
    have F3 := Z
    clear Z
    clear CS hb hal hf hB3 X3 c3
    go_wp2_with fail
    generalize w4.alloc (.cells #[.slice a4 n4 c4'] 24) = W4 at *
    refine (CU _ hB4).mono ?_
    rintro e w5 ⟨a5, n5, c5', E5, rfl, hf, hb⟩
    have hal := (Below.refl w5.heap.size w5).alloc (Nat.le_refl _) (.cells #[.slice a5 n5 c5'] 24)
    have hB5 := below_next (below_next hB4 hb) hal
    have X5 := hide (((unhide X4).next hb).next hal)
    have c5 := (unhide X5).c
    have Y5 := hide (BoxAt.new w5 (.slice a5 n5 c5'))
    have F5 := hide ((unhide hf).next hal)
    have Z := hide (((unhide Y3).next hb).next hal)
    clear Y3
    have Y3 := Z
    clear Z
    have Z := hide (((unhide F3).next hb).next hal)
    clear F3
    have F3 := Z
    clear Z
    have Z := hide (((unhide Y4).next hb).next hal)
    clear Y4
    have Y4 := Z
    clear Z
    have Z := hide (((unhide F4).next hb).next hal)
    clear F4
    have F4 := Z
    clear Z
    clear CU hb hal hf hB4 X4 c4
    go_wp2_with fail
    generalize w5.alloc (.cells #[.slice a5 n5 c5'] 24) = W5 at *
    refine (CM _ hB5).mono ?_
    rintro e w6 ⟨a6, n6, c6', E6, rfl, hf, hb⟩
    have hal := (Below.refl w6.heap.size w6).alloc (Nat.le_refl _) (.cells #[.slice a6 n6 c6'] 24)
    have hB6 := below_next (below_next hB5 hb) hal
    have X6 := hide (((unhide X5).next hb).next hal)
    have c6 := (unhide X6).c
    have Y6 := hide (BoxAt.new w6 (.slice a6 n6 c6'))
    have F6 := hide ((unhide hf).next hal)
    have Z := hide (((unhide Y3).next hb).next hal)
    clear Y3
    have Y3 := Z
    clear Z
    have Z := hide (((unhide F3).next hb).next hal)
    clear F3
    have F3 := Z
    clear Z
    have Z := hide (((unhide Y4).next hb).next hal)
    clear Y4
    have Y4 := Z
    clear Z
    have Z := hide (((unhide F4).next hb).next hal)
    clear F4
    have F4 := Z
    clear Z
    have Z := hide (((unhide Y5).next hb).next hal)
    clear Y5
    have Y5 := Z
    clear Z
    have Z := hide (((unhide F5).next hb).next hal)
    clear F5
    have F5 := Z
    clear Z
    clear CM hb hal hf hB5 X5 c5
    have y3 := (unhide Y3).c
    have y4 := (unhide Y4).c
    have y5 := (unhide Y5).c
    have y6 := (unhide Y6).c
    have hal := (Below.refl (w6.alloc (.cells #[.slice a6 n6 c6'] 24)).heap.size (w6.alloc (.cells #[.slice a6 n6 c6'] 24))).alloc (Nat.le_refl _) (.cells #[.slice a3 n3 c3', .slice a4 n4 c4', .slice a5 n5 c5', .slice a6 n6 c6'] 24)
    have FO : Hid (Four o R _ _ _ _ _ _ E3 E4 E5 E6) := hide ⟨heap_alloc_new _ (.cells #[.slice a3 n3 c3', .slice a4 n4 c4', .slice a5 n5 c5', .slice a6 n6 c6'] 24), (unhide F3).next hal, (unhide F4).next hal, (unhide F5).next hal, (unhide F6).next hal⟩
    have hB7 := below_next hB6 hal
    clear hal Y3 Y4 Y5 Y6 F3 F4 F5 F6 X6 c6 hB6
    have hq : (w6.alloc (.cells #[.slice a6 n6 c6'] 24)).heap.size = w6.heap.size + 1 := by simp
    rw [hq] at FO
    clear hq
    have CQ := fun v1 d W (h : DiskV W v1 d) (g : GoodD d) => read_any v1 d o W h (good_slim g)
    have CG := fun v1 d W (h : DiskV W v1 d) (g : GoodD d) => dgood_any v1 d W h (good_slim g)
    have HCQ := hide CQ
    have HCG := hide CG
    clear CQ CG
    go_wp2_with fail
    generalize (w6.alloc (.cells #[.slice a6 n6 c6'] 24)).alloc (.cells #[.slice a3 n3 c3', .slice a4 n4 c4', .slice a5 n5 c5', .slice a6 n6 c6'] 24) = W7 at *
    go_loopg [71] 4 (fun kx s wr => ∃ k : Nat, s = .int .i64 k ∧ k ≤ 4 ∧ 4 - k ≤ kx ∧ Hid (Below W7.heap.size W7 wr))
    case atStart => exact ⟨0, rfl, by decide, by decide, hide (Below.refl _ _)⟩
    case round =>
      obtain ⟨k, rfl, hk, hkx, hB⟩ := hrel
      have G := hide ((unhide FO).next (unhide hB))
      have hB8 := below_next hB7 (unhide hB)
      clear y3 y4 y5 y6
      match k, hk with
      | 0, _ =>
        have ck := (unhide G).c0
        have xi := fun e0 e1 e2 e3 => index4_0 e0 e1 e2 e3
        have hal := (Below.refl wr.heap.size wr).alloc (Nat.le_refl _) (.cells #[.slice a3 n3 c3'] 24)
        rcases (unhide G).f0 with hE | ⟨rfl, d, hd, hg, hr⟩
        · clear G
          have HB := hide (below_next (unhide hB) hal)
          clear hal
          go_wp2_with fail
          go_roundg (3)
          case measure => omega
          case rel => exact ⟨1, rfl, by decide, by decide, HB⟩
        · have C1 := fun W (h : DiskV W (.slice a3 n3 c3') d) => unhide HCQ _ d W h hg
          have C2 := fun W (h : DiskV W (.slice a3 n3 c3') d) => unhide HCG _ d W h hg
          rw [hr] at C1
          rw [goodD_true.2 hg] at C2
          have HD := hide (hd.next hal)
          have X8 := hide (BoxAt.new wr (.slice a3 n3 c3'))
          have HB := hide (below_next (unhide hB) hal)
          have hB9 := below_next hB8 hal
          clear G hal hr hg hd
          go_wp2_with fail
          generalize wr.alloc (.cells #[.slice a3 n3 c3'] 24) = W8 at *
          refine (C1 _ (unhide HD)).mono ?_
          rintro e w9 ⟨rfl, hb9⟩
          have HB9 := hide (below_next (unhide HB) hb9)
          have D9 := hide ((unhide HD).next hb9)
          have c9 := ((unhide X8).next hb9).c
          clear C1 hb9 HD HB X8
          go_wp2_with fail
          refine (C2 _ (unhide D9)).mono ?_
          rintro e w10 ⟨rfl, hb10⟩
          have HB10 := hide (below_next (unhide HB9) hb10)
          clear C2 hb10 HB9 D9 c9
          go_wp2_with fail
          go_roundg (3)
          case measure => omega
          case rel => exact ⟨1, rfl, by decide, by decide, HB10⟩
      | 1, _ =>
        have ck := (unhide G).c1
        have xi := fun e0 e1 e2 e3 => index4_1 e0 e1 e2 e3
        have hal := (Below.refl wr.heap.size wr).alloc (Nat.le_refl _) (.cells #[.slice a4 n4 c4'] 24)
        rcases (unhide G).f1 with hE | ⟨rfl, d, hd, hg, hr⟩
        · clear G
          have HB := hide (below_next (unhide hB) hal)
          clear hal
          go_wp2_with fail
          go_roundg (2)
          case measure => omega
          case rel => exact ⟨2, rfl, by decide, by decide, HB⟩
        · have C1 := fun W (h : DiskV W (.slice a4 n4 c4') d) => unhide HCQ _ d W h hg
          have C2 := fun W (h : DiskV W (.slice a4 n4 c4') d) => unhide HCG _ d W h hg
          rw [hr] at C1
          rw [goodD_true.2 hg] at C2
          have HD := hide (hd.next hal)
          have X8 := hide (BoxAt.new wr (.slice a4 n4 c4'))
          have HB := hide (below_next (unhide hB) hal)
          have hB9 := below_next hB8 hal
          clear G hal hr hg hd
          go_wp2_with fail
          generalize wr.alloc (.cells #[.slice a4 n4 c4'] 24) = W8 at *
          refine (C1 _ (unhide HD)).mono ?_
          rintro e w9 ⟨rfl, hb9⟩
          have HB9 := hide (below_next (unhide HB) hb9)
          have D9 := hide ((unhide HD).next hb9)
          have c9 := ((unhide X8).next hb9).c
          clear C1 hb9 HD HB X8
          go_wp2_with fail
          refine (C2 _ (unhide D9)).mono ?_
          rintro e w10 ⟨rfl, hb10⟩
          have HB10 := hide (below_next (unhide HB9) hb10)
          clear C2 hb10 HB9 D9 c9
          go_wp2_with fail
          go_roundg (2)
          case measure => omega
          case rel => exact ⟨2, rfl, by decide, by decide, HB10⟩
      | 2, _ =>
        have ck := (unhide G).c2
        have xi := fun e0 e1 e2 e3 => index4_2 e0 e1 e2 e3
        have hal := (Below.refl wr.heap.size wr).alloc (Nat.le_refl _) (.cells #[.slice a5 n5 c5'] 24)
        rcases (unhide G).f2 with hE | ⟨rfl, d, hd, hg, hr⟩
        · clear G
          have HB := hide (below_next (unhide hB) hal)
          clear hal
          go_wp2_with fail
          go_roundg (1)
          case measure => omega
          case rel => exact ⟨3, rfl, by decide, by decide, HB⟩
        · have C1 := fun W (h : DiskV W (.slice a5 n5 c5') d) => unhide HCQ _ d W h hg
          have C2 := fun W (h : DiskV W (.slice a5 n5 c5') d) => unhide HCG _ d W h hg
          rw [hr] at C1
          rw [goodD_true.2 hg] at C2
          have HD := hide (hd.next hal)
          have X8 := hide (BoxAt.new wr (.slice a5 n5 c5'))
          have HB := hide (below_next (unhide hB) hal)
          have hB9 := below_next hB8 hal
          clear G hal hr hg hd
          go_wp2_with fail
          generalize wr.alloc (.cells #[.slice a5 n5 c5'] 24) = W8 at *
          refine (C1 _ (unhide HD)).mono ?_
          rintro e w9 ⟨rfl, hb9⟩
          have HB9 := hide (below_next (unhide HB) hb9)
          have D9 := hide ((unhide HD).next hb9)
          have c9 := ((unhide X8).next hb9).c
          clear C1 hb9 HD HB X8
          go_wp2_with fail
          refine (C2 _ (unhide D9)).mono ?_
          rintro e w10 ⟨rfl, hb10⟩
          have HB10 := hide (below_next (unhide HB9) hb10)
          clear C2 hb10 HB9 D9 c9
          go_wp2_with fail
          go_roundg (1)
          case measure => omega
          case rel => exact ⟨3, rfl, by decide, by decide, HB10⟩
      | 3, _ =>
        have ck := (unhide G).c3
        have xi := fun e0 e1 e2 e3 => index4_3 e0 e1 e2 e3
        have hal := (Below.refl wr.heap.size wr).alloc (Nat.le_refl _) (.cells #[.slice a6 n6 c6'] 24)
        rcases (unhide G).f3 with hE | ⟨rfl, d, hd, hg, hr⟩
        · clear G
          have HB := hide (below_next (unhide hB) hal)
          clear hal
          go_wp2_with fail
          go_roundg (0)
          case measure => omega
          case rel => exact ⟨4, rfl, by decide, by decide, HB⟩
        · have C1 := fun W (h : DiskV W (.slice a6 n6 c6') d) => unhide HCQ _ d W h hg
          have C2 := fun W (h : DiskV W (.slice a6 n6 c6') d) => unhide HCG _ d W h hg
          rw [hr] at C1
          rw [goodD_true.2 hg] at C2
          have HD := hide (hd.next hal)
          have X8 := hide (BoxAt.new wr (.slice a6 n6 c6'))
          have HB := hide (below_next (unhide hB) hal)
          have hB9 := below_next hB8 hal
          clear G hal hr hg hd
          go_wp2_with fail
          generalize wr.alloc (.cells #[.slice a6 n6 c6'] 24) = W8 at *
          refine (C1 _ (unhide HD)).mono ?_
          rintro e w9 ⟨rfl, hb9⟩
          have HB9 := hide (below_next (unhide HB) hb9)
          have D9 := hide ((unhide HD).next hb9)
          have c9 := ((unhide X8).next hb9).c
          clear C1 hb9 HD HB X8
          go_wp2_with fail
          refine (C2 _ (unhide D9)).mono ?_
          rintro e w10 ⟨rfl, hb10⟩
          have HB10 := hide (below_next (unhide HB9) hb10)
          clear C2 hb10 HB9 D9 c9
          go_wp2_with fail
          go_roundg (0)
          case measure => omega
          case rel => exact ⟨4, rfl, by decide, by decide, HB10⟩
      | 4, _ =>
        clear G
        go_wp2_with fail
        go_ret
        exact ⟨rfl, hB8⟩
end Go.Proofs.Ytbadhnmljlmefab
