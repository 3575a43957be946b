/-
  What slices.Delete of one file and disk.Remove answer: the walks.
-/
import Derived.Test.YtbadhnmljlmefaaDSeg
import Derived.Test.YtbadhnmljlmefaaDTurn
import Derived.Deep.RegionLaw
namespace Go.Proofs.Ytbadhnmljlmefaa
open Go.RowKit

def blank : List Value := [.string ⟨#[]⟩, .string ⟨#[]⟩, .string ⟨#[]⟩]
theorem run_clear1 (w : World) (ty : TypeId) (b o c : Nat) (hc : ∀ j, j < 3 → (w.cell? ⟨b, o + j, none⟩).isSome = true) (hf : ∀ j, j < 3 → w.frozen? ⟨b, o + j, none⟩ = false) :
    (Builtin.clear_ #[22] ty #[.slice (some ⟨b, o, none⟩) 1 c]).run Try.prog w = .ok (.tuple #[]) (w.setCells b o blank) := by
  have hzc : (Builtin.zeroCells (Value.agg #[.string ⟨#[]⟩, .string ⟨#[]⟩, .string ⟨#[]⟩]).cells 1).toList = blank := by kernel_rfl
  have hst := run_storeCells_cells (P := Try.prog) b o blank 0 w (by simpa [blank] using hc) (by simpa [blank] using hf) (by simp [blank, Value.oneCell'])
  simp only [Nat.add_zero] at hst
  simp [Builtin.clear_, run_underlying Try.underlying22, hzc, hst]

theorem Own.some {W : World} {g cap : Nat} {fs : List DF} (h : Own W g cap fs) {j : Nat} (hj : j < cap * 3) : (W.cell? ⟨g, j, none⟩).isSome = true := by
  obtain ⟨rest, h1, h2, _⟩ := h
  have hl : j < (cellsF fs ++ rest).length := by rw [List.length_append, cellsF_length, h2]; exact hj
  rw [List.length_append] at hl
  simp [World.cell?, h1, hl]

set_option maxHeartbeats 1000000 in
theorem sdelete_any (g cap : Nat) (A B : List DF) (f : DF) (n : Nat) (w : World) (ho : Own w g cap (A ++ f :: B)) (hn : n = A.length + B.length + 1) (hsm : n ≤ 1000) :
    Calls Try.prog 44 #[.slice (some ⟨g, 0, none⟩) n cap, .int .i64 A.length, .int .i64 (A.length + 1 : Nat)] w fun e w' =>
      e = .returned (.slice (some ⟨g, 0, none⟩) (A.length + B.length) cap) ∧ Own w' g cap (A ++ B) ∧ w.grownBy w' (some g) := by
  obtain ⟨i0, hi0, hz0, hz1, hz2⟩ := info_file
  have hle := ho.le
  have hcl := ho.capLe
  simp only [maxLen] at hcl
  rw [List.length_append, List.length_cons] at hle
  have hrow := ho.row
  obtain ⟨AD, hAD, hsrc⟩ : ∃ AD : Addr, (if cap = A.length + 1 then some (⟨g, 0, none⟩ : Addr) else some ⟨g, (A.length + 1) * 3, none⟩) = some AD ∧ Hid (∀ t u, (cellsF B)[t]? = some u → w.drew.cell? (AD.add t) = some u) := by
    by_cases h : cap = A.length + 1
    · refine ⟨⟨g, 0, none⟩, by simp [h], fun t u hu => ?_⟩
      have h0 : B = [] := List.eq_nil_of_length_eq_zero (by omega)
      rw [h0] at hu
      simp [cellsF] at hu
    · refine ⟨⟨g, (A.length + 1) * 3, none⟩, by simp [h], fun t u hu => ?_⟩
      rw [Addr.add_lit]
      have := hrow ((A.length + 1) * 3 + t) u (by
        rw [cellsF_append, List.getElem?_append_right (by rw [cellsF_length]; omega), cellsF_length, cellsF, List.getElem?_append_right (by simp [fcells]; omega)]
        simp only [fcells, List.length_cons, List.length_nil]
        rw [← hu]; congr 1; omega)
      rw [Nat.zero_add] at this
      exact this
  have s1 : Hid ((cellsF B).length = B.length * 3) := cellsF_length B
  have s2 : Hid (∀ u ∈ cellsF B, u.oneCell' = true) := cellsF_one B
  have s3 : Hid (∀ t, t < (cellsF B).length → (w.drew.cell? ⟨g, 0 + A.length * 3 + t, none⟩).isSome = true ∧ w.drew.frozen? ⟨g, 0 + A.length * 3 + t, none⟩ = false) := by
    intro t ht
    rw [cellsF_length] at ht
    exact ⟨ho.some (by omega), ho.frozen _⟩
  obtain ⟨W1, hW1⟩ : ∃ W1, W1 = w.drew.setCells g (0 + A.length * 3) (cellsF B) := ⟨_, rfl⟩
  have ho1 : Own W1 g cap (A ++ B) := by rw [hW1, Nat.zero_add]; exact ho.drew.splice B (by omega)
  have hg1 : w.grownBy W1 (some g) := by rw [hW1]; have := grown_setCells (g := g) (cellsF B) (0 + A.length * 3) w.drew; exact ⟨this.os, this.tape, this.output, this.size, this.block⟩
  have hclr : ∀ ty c, (Builtin.clear_ #[22] ty #[.slice (some ⟨g, (A.length + B.length) * 3, none⟩) 1 c]).run Try.prog W1 = .ok (.tuple #[]) (W1.setCells g ((A.length + B.length) * 3) blank) := fun ty c =>
    run_clear1 W1 ty g _ c (fun j hj => ho1.some (by omega)) (fun j hj => ho1.frozen _)
  have FIN : Hid (Own (W1.setCells g ((A.length + B.length) * 3) blank) g cap (A ++ B) ∧ w.grownBy (W1.setCells g ((A.length + B.length) * 3) blank) (some g)) :=
    ⟨ho1.spare blank _ (by rw [List.length_append]; omega) (by simp [blank]; omega), grown_trans hg1 (grown_setCells _ _ _)⟩
  have hW : Hid (W1 = w.drew.setCells g (0 + A.length * 3) (cellsF B)) := hW1
  have hic : A.length ≤ cap := by omega
  have hjc : A.length + 1 ≤ cap := by omega
  have hne : ¬ (cap = A.length + B.length) := by omega
  have hb1 : (0 : Int) ≤ (A.length : Int) + 1 := by omega
  have hb2 : (A.length : Int) ≤ (A.length : Int) + (B.length : Int) := by omega
  have hb3 : (0 : Int) ≤ (A.length : Int) + (B.length : Int) := by omega
  have hs1 : A.length + B.length + 1 - (A.length + B.length) = 1 := by omega
  clear hW1 ho1 hg1 hrow ho
  subst hn
  go_enter Try.func44, Try.ntmps44
  go_wp2_with fail
  go_region_law (refine step_append_room rfl (.tmp 22) (.tmp 25) 22 rfl 41 i0 3 Try.underlying22 hi0 hz1 g 0 A.length cap (by simp [Act.eval, Act.put]) AD B.length (cap - (A.length + 1)) (cellsF B) (by simp [Act.eval, Act.put]) s1.out hsrc.out s2.out (by omega) s3.out ?_; rw [← hW.out])
  go_wp2
  go_ret
  exact ⟨rfl, FIN.out⟩

set_option maxHeartbeats 1000000 in
theorem remove_there (v : Value) (fs A B : List DF) (f : DF) (name : List UInt8) (w : World) (hv : DiskV w v fs) (hs : Slim fs) (g : GoodD fs) (T : There fs A f B name) :
    Calls Try.prog 19 #[.agg #[v], .string ⟨name.toArray⟩] w fun e w' => ∃ v', e = .returned (.tuple #[.agg #[v'], .int .i64 0]) ∧ OwnV w' w.heap.size v' (A ++ B) ∧ Below w.heap.size w w' := by
  have C := fun W (hW : Below w.heap.size w W) => locate_there _ fs A B f name W (hv.next hW) hs g T
  have CC := fun W (hW : Below w.heap.size w W) => copied_any _ fs W (hv.next hW) hs g.few
  obtain ⟨b, off, cap, rfl, hb, hr, hk, hlt⟩ := there_row hv T
  have hb0 : b ≠ w.heap.size := by omega
  have hsm := g.few
  have hlen : fs.length = A.length + B.length + 1 := by rw [T.eq]; simp; omega
  have CD := fun (q c : Nat) (W : World) (ho : Own W q c fs) => sdelete_any q c A B f fs.length W (by rw [← T.eq]; exact ho) hlen (by omega)
  have HL := hide hlen
  clear hv hs g T hr hk hlen
  go_enter Try.func19, Try.ntmps19
  go_wp2_with fail
  have X := Boxes.start w (.slice (some ⟨b, off, none⟩) fs.length cap) 24 24
  generalize (w.alloc (.cells #[.slice (some ⟨b, off, none⟩) fs.length cap] 24)).alloc (.cells #[.slice none 0 0] 24) = w0 at *
  refine (C _ X.below).mono ?_
  rintro e w1 ⟨rfl, hb1⟩
  have X1 := X.next hb1
  have HX := hide X1
  have cd := X1.cd
  clear C hb1 X X1
  go_wp2_with fail
  refine (CC _ (unhide HX).below).mono ?_
  rintro e w2 ⟨v', rfl, ho, hb2⟩
  obtain ⟨q, cap2, rfl, hq, ho⟩ := own_some ho hlt
  have hql := ho.lt
  have hq2 : w.heap.size + 2 ≤ q := by have := (unhide HX).size; omega
  have X2 := ((unhide HX).next hb2).alloc (.cells #[.slice (some ⟨q, 0, none⟩) fs.length cap2] 24)
  have ho2 := ho.alloc (.cells #[.slice (some ⟨q, 0, none⟩) fs.length cap2] 24)
  have ca : (w2.alloc (.cells #[.slice (some ⟨q, 0, none⟩) fs.length cap2] 24)).cell? ⟨w2.heap.size, 0, none⟩ = some (.slice (some ⟨q, 0, none⟩) fs.length cap2) := by simp
  have fa : (w2.alloc (.cells #[.slice (some ⟨q, 0, none⟩) fs.length cap2] 24)).frozen? ⟨w2.heap.size, 0, none⟩ = false := by simp
  have hz2 : w.heap.size + 2 ≤ w2.heap.size := by omega
  have haz : w2.heap.size < (w2.alloc (.cells #[.slice (some ⟨q, 0, none⟩) fs.length cap2] 24)).heap.size := by simp
  clear CC hb2 ho HX cd
  go_wp2_with fail
  generalize w2.alloc (.cells #[.slice (some ⟨q, 0, none⟩) fs.length cap2] 24) = W at *
  refine (CD q cap2 _ ho2).mono ?_
  rintro e w4 ⟨rfl, ho4, hg4⟩
  have X4 := X2.grown hg4 hq2
  have ca4 : w4.cell? ⟨w2.heap.size, 0, none⟩ = some (.slice (some ⟨q, 0, none⟩) fs.length cap2) := hg4.cell ca (fun e => by have e3 : w2.heap.size = q := Option.some.inj e; omega)
  have fa4 : w4.frozen? ⟨w2.heap.size, 0, none⟩ = false := (World.frozen?_of_block (hg4.block w2.heap.size haz (fun e => by have e3 : w2.heap.size = q := Option.some.inj e; omega))).trans fa
  have cr := X4.cr
  have fr := X4.fr
  have HB := hide X4.below
  have HO4 := hide ho4
  clear X4 ho4 hg4 X2 ho2 CD ca fa
  go_wp2_with fail
  exact bodyPost_ret (v := .tuple #[.agg #[.slice (some ⟨q, 0, none⟩) (A.length + B.length) cap2], .int .i64 0]) (by simp [results, Try.results19, go_sem, cr]) rfl
    ⟨_, rfl, .inr ⟨q, cap2, by rw [List.length_append], by omega, ((unhide HO4).other (by show q ≠ w2.heap.size; omega) _).other (by show q ≠ w.heap.size + 1; omega) _⟩, ((unhide HB).setCell (by show w.heap.size ≤ w2.heap.size; omega) _).setCell (by simp) _⟩
end Go.Proofs.Ytbadhnmljlmefaa
