/-
  What disk.locate and disk.Read answer: the walks.
-/
import Derived.Test.YtbadhnmljlmefaaDSet
namespace Go.Proofs.Ytbadhnmljlmefaa
open Go.RowKit

/-- where a file is not found: what is said -/
def LocNo (fs : List DF) (name : List UInt8) (E : Int) : Prop := (goodD fs = false ∧ E = 3) ∨ (GoodD fs ∧ (∃ A B, Gap fs A B name) ∧ E = 7)
theorem loc_cases (fs : List DF) (name : List UInt8) : (∃ E, LocNo fs name E) ∨ (GoodD fs ∧ ∃ A f B, There fs A f B name) := by
  cases hg : goodD fs with
  | false => exact .inl ⟨3, .inl ⟨hg, rfl⟩⟩
  | true =>
    have g := goodD_true.1 hg
    rcases where_is name fs g.asc with h | h
    · exact .inr ⟨g, h⟩
    · exact .inl ⟨7, .inr ⟨g, h, rfl⟩⟩
theorem disk_slice {w : World} {v : Value} {fs : List DF} (hv : DiskV w v fs) : ∃ a n c, v = .slice a n c := by
  rcases hv with ⟨a, cap, rfl, _, _⟩ | ⟨b, off, cap, rfl, _⟩
  · exact ⟨_, _, _, rfl⟩
  · exact ⟨_, _, _, rfl⟩

set_option maxHeartbeats 1000000 in
theorem locate_no (v : Value) (fs : List DF) (name : List UInt8) (E : Int) (w : World) (hv : DiskV w v fs) (hs : Slim fs) (h : LocNo fs name E) :
    Calls Try.prog 39 #[.agg #[v], .string ⟨name.toArray⟩] w fun e w' => e = .returned (.tuple #[.int .i64 0, .int .i64 E]) ∧ Below w.heap.size w w' := by
  obtain ⟨a, n, c, rfl⟩ := disk_slice hv
  have HV := hide hv
  have CG := fun W (h : Below w.heap.size w W) => dgood_any _ fs W (hv.next h) hs
  rcases h with ⟨hg, rfl⟩ | ⟨g, ⟨A, B, G⟩, rfl⟩
  · rw [hg] at CG
    clear hg hv hs
    go_enter Try.func39, Try.ntmps39
    go_wp2_with fail
    refine (CG _ ((Below.refl _ _).alloc (Nat.le_refl _) _)).mono ?_
    rintro e w1 ⟨rfl, hb1⟩
    have hbz := box_then hb1
    clear CG
    go_wp2_with fail
    go_ret2
    exact ⟨rfl, hbz⟩
  · rw [goodD_true.2 g] at CG
    have CF := fun W (h : Below w.heap.size w W) => find_gap _ fs A B name W (hv.next h) g.few G
    clear hv hs g G
    go_enter Try.func39, Try.ntmps39
    go_wp2_with fail
    refine (CG _ ((Below.refl _ _).alloc (Nat.le_refl _) _)).mono ?_
    rintro e w1 ⟨rfl, hb1⟩
    have hbz := box_then hb1
    have c1 : w1.cell? ⟨w.heap.size, 0, none⟩ = some (.slice a n c) := by rw [hb1.cell (p := ⟨w.heap.size, 0, none⟩) (by simp)]; simp
    clear CG hb1
    go_wp2_with fail
    refine (CF _ hbz).mono ?_
    rintro e w2 ⟨rfl, hb2⟩
    have hbx := below_next hbz hb2
    clear CF
    go_wp2_with fail
    go_ret2
    exact ⟨rfl, hbx⟩

set_option maxHeartbeats 1000000 in
theorem locate_there (v : Value) (fs A B : List DF) (f : DF) (name : List UInt8) (w : World) (hv : DiskV w v fs) (hs : Slim fs) (g : GoodD fs) (T : There fs A f B name) :
    Calls Try.prog 39 #[.agg #[v], .string ⟨name.toArray⟩] w fun e w' => e = .returned (.tuple #[.int .i64 A.length, .int .i64 0]) ∧ Below w.heap.size w w' := by
  obtain ⟨a, n, c, rfl⟩ := disk_slice hv
  have CG := fun W (h : Below w.heap.size w W) => dgood_any _ fs W (hv.next h) hs
  rw [goodD_true.2 g] at CG
  have CF := fun W (h : Below w.heap.size w W) => find_there _ fs A B f name W (hv.next h) g.few T
  clear hv hs g T
  go_enter Try.func39, Try.ntmps39
  go_wp2_with fail
  refine (CG _ ((Below.refl _ _).alloc (Nat.le_refl _) _)).mono ?_
  rintro e w1 ⟨rfl, hb1⟩
  have hbz := box_then hb1
  have c1 : w1.cell? ⟨w.heap.size, 0, none⟩ = some (.slice a n c) := by rw [hb1.cell (p := ⟨w.heap.size, 0, none⟩) (by simp)]; simp
  clear CG hb1
  go_wp2_with fail
  refine (CF _ hbz).mono ?_
  rintro e w2 ⟨rfl, hb2⟩
  have hbx := below_next hbz hb2
  clear CF
  go_wp2_with fail
  go_ret2
  exact ⟨rfl, hbx⟩

/-- a file that is there: the disk's value is a row, and this is a file of it -/
theorem there_row {w : World} {v : Value} {fs A B : List DF} {f : DF} {name : List UInt8} (hv : DiskV w v fs) (T : There fs A f B name) :
    ∃ b off cap, v = .slice (some ⟨b, off, none⟩) fs.length cap ∧ b < w.heap.size ∧ RowAt w b off (cellsF fs) ∧ fs[A.length]? = some f ∧ A.length < fs.length := by
  have hk : fs[A.length]? = some f := by rw [T.eq]; simp
  rcases hv with ⟨a, cap, rfl, rfl, _⟩ | ⟨b, off, cap, rfl, _, _, hb, _, hr⟩
  · simp at hk
  · exact ⟨b, off, cap, rfl, hb, hr, hk, (List.getElem?_eq_some_iff.1 hk).1⟩

set_option maxHeartbeats 1000000 in
theorem read_no (v : Value) (fs : List DF) (name : List UInt8) (E : Int) (w : World) (hv : DiskV w v fs) (hs : Slim fs) (h : LocNo fs name E) :
    Calls Try.prog 22 #[.agg #[v], .string ⟨name.toArray⟩] w fun e w' => e = .returned (.tuple #[.string ⟨#[]⟩, .int .i64 E]) ∧ Below w.heap.size w w' := by
  obtain ⟨a, n, c, rfl⟩ := disk_slice hv
  have C := fun W (hW : Below w.heap.size w W) => locate_no _ fs name E W (hv.next hW) hs h
  have hne : (E != 0) = true := by rcases h with ⟨_, rfl⟩ | ⟨_, _, rfl⟩ <;> decide
  clear hv hs h
  go_enter Try.func22, Try.ntmps22
  go_wp2_with fail
  refine (C _ ((Below.refl _ _).alloc (Nat.le_refl _) _)).mono ?_
  rintro e w1 ⟨rfl, hb1⟩
  have hbz := box_then hb1
  clear C
  go_wp2_with fail
  go_ret2
  exact ⟨rfl, hbz⟩

set_option maxHeartbeats 1000000 in
theorem read_there (v : Value) (fs A B : List DF) (f : DF) (name : List UInt8) (w : World) (hv : DiskV w v fs) (hs : Slim fs) (g : GoodD fs) (T : There fs A f B name) :
    Calls Try.prog 22 #[.agg #[v], .string ⟨name.toArray⟩] w fun e w' => e = .returned (.tuple #[.string ⟨(f.s ++ f.t).toArray⟩, .int .i64 0]) ∧ Below w.heap.size w w' := by
  have C := fun W (hW : Below w.heap.size w W) => locate_there _ fs A B f name W (hv.next hW) hs g T
  obtain ⟨b, off, cap, rfl, hb, hr, hk, hlt⟩ := there_row hv T
  have hfl := fileOk_len (T.ok g)
  have HR := hide hr
  have HK := hide hk
  have hb0 : b ≠ w.heap.size := by omega
  have hlti : (A.length : Int) < (fs.length : Int) := by omega
  clear hv hs g T hr hk
  go_enter Try.func22, Try.ntmps22
  go_wp2_with fail
  refine (C _ ((Below.refl _ _).alloc (Nat.le_refl _) _)).mono ?_
  rintro e w1 ⟨rfl, hb1⟩
  have hbz := box_then hb1
  have c1 : w1.cell? ⟨w.heap.size, 0, none⟩ = some (.slice (some ⟨b, off, none⟩) fs.length cap) := by rw [hb1.cell (p := ⟨w.heap.size, 0, none⟩) (by simp)]; simp
  have r := (unhide HR).kept hbz hb
  have e0 := r.c0 (unhide HK)
  have e1 := r.c1 (unhide HK)
  have e2 := r.c2 (unhide HK)
  obtain ⟨fn, fss, ft⟩ := f
  simp only at *
  have k1 := fun W => clone_any fss W (by omega)
  have k2 := fun W => clone_any ft W (by omega)
  have hlen : ¬ 9223372036854775807 < fss.length + ft.length := by omega
  clear C hb1 r
  go_wp2_with fail
  have a1 : (w1.alloc (Obj.cells #[Value.string ⟨fn.toArray⟩, Value.string ⟨fss.toArray⟩, Value.string ⟨ft.toArray⟩] 41)).cell? ⟨w1.heap.size, 1, none⟩ = some (.string ⟨fss.toArray⟩) := by simp
  have a2 : (w1.alloc (Obj.cells #[Value.string ⟨fn.toArray⟩, Value.string ⟨fss.toArray⟩, Value.string ⟨ft.toArray⟩] 41)).cell? ⟨w1.heap.size, 2, none⟩ = some (.string ⟨ft.toArray⟩) := by simp
  have hbw := hbz.alloc hbz.size (Obj.cells #[Value.string ⟨fn.toArray⟩, Value.string ⟨fss.toArray⟩, Value.string ⟨ft.toArray⟩] 41)
  generalize w1.alloc (Obj.cells #[Value.string ⟨fn.toArray⟩, Value.string ⟨fss.toArray⟩, Value.string ⟨ft.toArray⟩] 41) = W at a1 a2 hbw ⊢
  have d1 : ∀ d os, (Sort.grow (redrawn W d) os).cell? ⟨w1.heap.size, 1, none⟩ = some (.string ⟨fss.toArray⟩) := fun d os => cell_regrown a1 d os
  have d2 : ∀ d os, (Sort.grow (redrawn W d) os).cell? ⟨w1.heap.size, 2, none⟩ = some (.string ⟨ft.toArray⟩) := fun d os => cell_regrown a2 d os
  have c1' := fun d os => Calls.regrown_of (w := W) (d := d) (os := os) (k1 _)
  have c2 := fun d os => Calls.regrown_of (w := W) (d := d) (os := os) (k2 _)
  clear k1 k2 a1 a2 e0 e1 e2 c1
  refine wp_region_quiet_below (by kernel_rfl) (by kernel_rfl) ?_
  repeat (first | go_big_quiet_step (first | with_reducible exact c1' _ _ | with_reducible exact c2 _ _) | quiet_step (first | with_reducible exact c1' _ _ | with_reducible exact c2 _ _))
  refine wpQuiet_nil ?_
  intro _ hw'
  obtain ⟨⟨dq, osq⟩, hw''⟩ := hw'
  subst hw''
  have hb2 := below_next hbw (below_regrown W dq osq)
  clear c1' c2 d1 d2
  go_wp2_with fail
  go_ret2
  exact ⟨by rw [← cat_one]; rfl, hb2⟩
end Go.Proofs.Ytbadhnmljlmefaa
