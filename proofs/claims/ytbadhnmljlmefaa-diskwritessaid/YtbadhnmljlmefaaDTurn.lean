/-
  What disk.Sync, disk.Cut and disk.Remove say where there is no such file, and what Sync and Cut answer else: the walks.
-/
import Derived.Test.YtbadhnmljlmefaaDLoc
import Derived.Deep.RegionWith
namespace Go.Proofs.Ytbadhnmljlmefaa
open Go.RowKit

/-- two boxes that a call has laid first: its disk's and its result's -/
structure Boxes (w W : World) (v : Value) : Prop where
  below : Below w.heap.size w W
  size : w.heap.size + 2 ≤ W.heap.size
  cd : W.cell? ⟨w.heap.size, 0, none⟩ = some v
  cr : W.cell? ⟨w.heap.size + 1, 0, none⟩ = some (.slice none 0 0)
  fr : W.frozen? ⟨w.heap.size + 1, 0, none⟩ = false
theorem Boxes.next {w W V : World} {v : Value} (h : Boxes w W v) (hb : Below W.heap.size W V) : Boxes w V v :=
  ⟨below_next h.below hb, Nat.le_trans h.size hb.size, by rw [hb.cell (p := ⟨w.heap.size, 0, none⟩) (by have := h.size; show w.heap.size < _; omega)]; exact h.cd,
    by rw [hb.cell (p := ⟨w.heap.size + 1, 0, none⟩) (by have := h.size; show w.heap.size + 1 < _; omega)]; exact h.cr, by rw [hb.frozen (p := ⟨w.heap.size + 1, 0, none⟩) (by have := h.size; show w.heap.size + 1 < _; omega)]; exact h.fr⟩
theorem Boxes.grown {w W V : World} {v : Value} {g : Nat} (h : Boxes w W v) (hg : W.grownBy V (some g)) (hl : w.heap.size + 2 ≤ g) : Boxes w V v := by
  have hs := h.size
  have b0 : V.heap[w.heap.size]? = W.heap[w.heap.size]? := hg.block _ (by omega) (fun e => by cases e; omega)
  have b1 : V.heap[w.heap.size + 1]? = W.heap[w.heap.size + 1]? := hg.block _ (by omega) (fun e => by cases e; omega)
  exact ⟨h.below.grown hg (by omega) (fun k e => by cases e; omega), Nat.le_trans h.size hg.size, (World.cell?_of_block b0).trans h.cd, (World.cell?_of_block b1).trans h.cr, (World.frozen?_of_block b1).trans h.fr⟩
theorem Boxes.start (w : World) (v : Value) (t t' : TypeId) : Boxes w ((w.alloc (.cells #[v] t)).alloc (.cells #[.slice none 0 0] t')) v :=
  ⟨((Below.refl _ _).alloc (Nat.le_refl _) _).alloc (by simp) _, by simp, by simp, by simp, by simp⟩
theorem Boxes.alloc {w W : World} {v : Value} (h : Boxes w W v) (o : Obj) : Boxes w (W.alloc o) v := h.next ((Below.refl _ _).alloc (Nat.le_refl _) o)
theorem below_drew {W V : World} (h : Below W.drew.heap.size W.drew V) : Below W.heap.size W V := ((Below.refl _ W).drew).trans h

set_option maxHeartbeats 1000000 in
theorem sync_no (v : Value) (fs : List DF) (name : List UInt8) (E : Int) (w : World) (hv : DiskV w v fs) (hs : Slim fs) (h : LocNo fs name E) :
    Calls Try.prog 15 #[.agg #[v], .string ⟨name.toArray⟩] w fun e w' => e = .returned (.tuple #[.agg #[.slice none 0 0], .int .i64 E]) ∧ Below w.heap.size w w' := by
  obtain ⟨a, n0, c, rfl⟩ := disk_slice hv
  have C := fun W (hW : Below w.heap.size w W) => locate_no _ fs name E W (hv.next hW) hs h
  have hne : (E != 0) = true := by rcases h with ⟨_, rfl⟩ | ⟨_, _, rfl⟩ <;> decide
  clear hv hs h
  go_enter Try.func15, Try.ntmps15
  go_wp2_with fail
  refine (C _ (((Below.refl _ _).alloc (Nat.le_refl _) _).alloc (by simp) _)).mono ?_
  rintro e w1 ⟨rfl, hb1⟩
  have hbz := box_then (box_then hb1)
  have c1 : w1.cell? ⟨w.heap.size + 1, 0, none⟩ = some (.slice none 0 0) := by rw [hb1.cell (p := ⟨w.heap.size + 1, 0, none⟩) (by simp)]; simp
  have f1 : w1.frozen? ⟨w.heap.size + 1, 0, none⟩ = false := by rw [hb1.frozen (p := ⟨w.heap.size + 1, 0, none⟩) (by simp)]; simp
  clear C hb1
  go_wp2_with fail
  exact bodyPost_ret (v := .tuple #[.agg #[.slice none 0 0], .int .i64 E]) (by simp [results, Try.results15, go_sem, c1]) rfl ⟨rfl, hbz.setCell (by simp) _⟩

set_option maxHeartbeats 1000000 in
theorem cut_no (v : Value) (fs : List DF) (name : List UInt8) (n : Int) (E : Int) (w : World) (hv : DiskV w v fs) (hs : Slim fs) (h : LocNo fs name E) :
    Calls Try.prog 17 #[.agg #[v], .string ⟨name.toArray⟩, .int .i64 n] w fun e w' => e = .returned (.tuple #[.agg #[.slice none 0 0], .int .i64 E]) ∧ Below w.heap.size w w' := by
  obtain ⟨a, n0, c, rfl⟩ := disk_slice hv
  have C := fun W (hW : Below w.heap.size w W) => locate_no _ fs name E W (hv.next hW) hs h
  have hne : (E != 0) = true := by rcases h with ⟨_, rfl⟩ | ⟨_, _, rfl⟩ <;> decide
  clear hv hs h
  go_enter Try.func17, Try.ntmps17
  go_wp2_with fail
  refine (C _ (((Below.refl _ _).alloc (Nat.le_refl _) _).alloc (by simp) _)).mono ?_
  rintro e w1 ⟨rfl, hb1⟩
  have hbz := box_then (box_then hb1)
  have c1 : w1.cell? ⟨w.heap.size + 1, 0, none⟩ = some (.slice none 0 0) := by rw [hb1.cell (p := ⟨w.heap.size + 1, 0, none⟩) (by simp)]; simp
  have f1 : w1.frozen? ⟨w.heap.size + 1, 0, none⟩ = false := by rw [hb1.frozen (p := ⟨w.heap.size + 1, 0, none⟩) (by simp)]; simp
  clear C hb1
  go_wp2_with fail
  exact bodyPost_ret (v := .tuple #[.agg #[.slice none 0 0], .int .i64 E]) (by simp [results, Try.results17, go_sem, c1]) rfl ⟨rfl, hbz.setCell (by simp) _⟩

set_option maxHeartbeats 1000000 in
theorem remove_no (v : Value) (fs : List DF) (name : List UInt8) (E : Int) (w : World) (hv : DiskV w v fs) (hs : Slim fs) (h : LocNo fs name E) :
    Calls Try.prog 19 #[.agg #[v], .string ⟨name.toArray⟩] w fun e w' => e = .returned (.tuple #[.agg #[.slice none 0 0], .int .i64 E]) ∧ Below w.heap.size w w' := by
  obtain ⟨a, n0, c, rfl⟩ := disk_slice hv
  have C := fun W (hW : Below w.heap.size w W) => locate_no _ fs name E W (hv.next hW) hs h
  have hne : (E != 0) = true := by rcases h with ⟨_, rfl⟩ | ⟨_, _, rfl⟩ <;> decide
  clear hv hs h
  go_enter Try.func19, Try.ntmps19
  go_wp2_with fail
  refine (C _ (((Below.refl _ _).alloc (Nat.le_refl _) _).alloc (by simp) _)).mono ?_
  rintro e w1 ⟨rfl, hb1⟩
  have hbz := box_then (box_then hb1)
  have c1 : w1.cell? ⟨w.heap.size + 1, 0, none⟩ = some (.slice none 0 0) := by rw [hb1.cell (p := ⟨w.heap.size + 1, 0, none⟩) (by simp)]; simp
  have f1 : w1.frozen? ⟨w.heap.size + 1, 0, none⟩ = false := by rw [hb1.frozen (p := ⟨w.heap.size + 1, 0, none⟩) (by simp)]; simp
  clear C hb1
  go_wp2_with fail
  exact bodyPost_ret (v := .tuple #[.agg #[.slice none 0 0], .int .i64 E]) (by simp [results, Try.results19, go_sem, c1]) rfl ⟨rfl, hbz.setCell (by simp) _⟩

theorem own_some {W : World} {B : Nat} {v : Value} {fs : List DF} (h : OwnV W B v fs) {k : Nat} (hk : k < fs.length) : ∃ g cap, v = .slice (some ⟨g, 0, none⟩) fs.length cap ∧ B ≤ g ∧ Own W g cap fs := by
  rcases h with ⟨rfl, rfl⟩ | h
  · simp at hk
  · exact h

set_option maxHeartbeats 1000000 in
theorem sync_there (v : Value) (fs A B : List DF) (f : DF) (name : List UInt8) (w : World) (hv : DiskV w v fs) (hs : Slim fs) (g : GoodD fs) (T : There fs A f B name) :
    Calls Try.prog 15 #[.agg #[v], .string ⟨name.toArray⟩] w fun e w' => ∃ v', e = .returned (.tuple #[.agg #[v'], .int .i64 0]) ∧ OwnV w' w.heap.size v' (A ++ ⟨f.n, f.s ++ f.t, []⟩ :: B) ∧ Below w.heap.size w w' := by
  have C := fun W (hW : Below w.heap.size w W) => locate_there _ fs A B f name W (hv.next hW) hs g T
  have CC := fun W (hW : Below w.heap.size w W) => copied_any _ fs W (hv.next hW) hs g.few
  obtain ⟨b, off, cap, rfl, hb, hr, hk, hlt⟩ := there_row hv T
  have hfl := fileOk_len (T.ok g)
  have HR := hide hr
  have HK := hide hk
  have HT := hide T.eq
  have hb0 : b ≠ w.heap.size := by omega
  have hlti : (A.length : Int) < (fs.length : Int) := by omega
  have CS := fun W => dsize_any f W (by omega)
  have CT := fun (g c : Nat) (W : World) (ho : Own W g c fs) => settle_any g c A.length fs f (f.s.length + f.t.length) W ho hk (by omega) hfl
  have hset : fs.set A.length ⟨f.n, (f.s ++ f.t).take (f.s.length + f.t.length), []⟩ = A ++ ⟨f.n, f.s ++ f.t, []⟩ :: B := by rw [T.eq]; simp [List.take_of_length_le]
  have hsl : fs.length = (A ++ ⟨f.n, f.s ++ f.t, []⟩ :: B).length := by rw [T.eq]; simp
  rw [hset] at CT
  obtain ⟨fs', hfs'⟩ : ∃ x, A ++ ⟨f.n, f.s ++ f.t, []⟩ :: B = x := ⟨_, rfl⟩
  rw [hfs'] at CT hsl ⊢
  have HSL := hide hsl
  obtain ⟨L, hL⟩ : ∃ L, f.s.length + f.t.length = L := ⟨_, rfl⟩
  rw [hL] at CS hfl CT
  clear hv hs g T hr hk hset hfs' hsl hL HT
  go_enter Try.func15, Try.ntmps15
  go_wp2_with fail
  have X := Boxes.start w (.slice (some ⟨b, off, none⟩) fs.length cap) 24 24
  generalize (w.alloc (.cells #[.slice (some ⟨b, off, none⟩) fs.length cap] 24)).alloc (.cells #[.slice none 0 0] 24) = w0 at *
  refine (C _ X.below).mono ?_
  rintro e w1 ⟨rfl, hb1⟩
  have X1 := X.next hb1
  have HX := hide X1
  have cd := X1.cd
  have r := (unhide HR).kept X1.below hb
  have e0 := r.c0 (unhide HK)
  have e1 := r.c1 (unhide HK)
  have e2 := r.c2 (unhide HK)
  clear C hb1 r X X1
  go_wp2_with fail
  refine (CC _ (unhide HX).below).mono ?_
  rintro e w2 ⟨v', rfl, ho, hb2⟩
  obtain ⟨g, cap2, rfl, hg, ho⟩ := own_some ho hlt
  have hgl := ho.lt
  have hg2 : w.heap.size + 2 ≤ g := by have := (unhide HX).size; omega
  have X2 := ((unhide HX).next hb2).alloc (.cells #[.slice (some ⟨g, 0, none⟩) fs.length cap2] 24)
  have ho2 := ho.alloc (.cells #[.slice (some ⟨g, 0, none⟩) fs.length cap2] 24)
  have ca : (w2.alloc (.cells #[.slice (some ⟨g, 0, none⟩) fs.length cap2] 24)).cell? ⟨w2.heap.size, 0, none⟩ = some (.slice (some ⟨g, 0, none⟩) fs.length cap2) := by simp
  have haz : w2.heap.size < (w2.alloc (.cells #[.slice (some ⟨g, 0, none⟩) fs.length cap2] 24)).heap.size := by simp
  clear CC hb2 ho HX cd e0 e1 e2
  go_wp2_with fail
  generalize w2.alloc (.cells #[.slice (some ⟨g, 0, none⟩) fs.length cap2] 24) = W at *
  have HX := hide X2
  have HO := hide ho2
  have cd := X2.cd
  have r := (unhide HR).kept X2.below hb
  have e0 := r.c0 (unhide HK)
  have e1 := r.c1 (unhide HK)
  have e2 := r.c2 (unhide HK)
  clear r X2 ho2
  go_region_with (first
    | (go_at_call 32; refine (CS _).mono ?_; rintro e w3 ⟨rfl, hb3⟩; have ca3 : w3.cell? ⟨w2.heap.size, 0, none⟩ = some (.slice (some ⟨g, 0, none⟩) fs.length cap2) := (hb3.cell (p := ⟨w2.heap.size, 0, none⟩) haz).trans ca)
    | (go_at_call 40; refine (CT g cap2 w3 ((unhide HO).next (below_drew hb3))).mono ?_; rintro e w4 ⟨rfl, ho4, hg4⟩))
  all_goals
    have X4 := ((unhide HX).next (below_drew hb3)).grown hg4 hg2
    have ca4 : w4.cell? ⟨w2.heap.size, 0, none⟩ = some (.slice (some ⟨g, 0, none⟩) fs.length cap2) := hg4.cell ca3 (fun e => by have e3 : w2.heap.size = g := Option.some.inj e; omega)
    have cr := X4.cr
    have fr := X4.fr
    have HB := hide X4.below
    have HO4 := hide ho4
    clear X4 ho4 hg4
    clear CS CT
    go_wp2_with fail
    refine bodyPost_ret (v := .tuple #[.agg #[.slice (some ⟨g, 0, none⟩) fs.length cap2], .int .i64 0]) (by simp [results, Try.results15, go_sem, cr]) rfl ⟨_, rfl, .inr ⟨g, cap2, by rw [unhide HSL], by omega, (unhide HO4).other (by show g ≠ w.heap.size + 1; omega) _⟩, (unhide HB).setCell (by simp) _⟩

set_option maxHeartbeats 1000000 in
theorem cut_there (v : Value) (fs A B : List DF) (f : DF) (name : List UInt8) (n : Nat) (w : World) (hv : DiskV w v fs) (hs : Slim fs) (g : GoodD fs) (T : There fs A f B name) (hn : n ≤ f.s.length + f.t.length) :
    Calls Try.prog 17 #[.agg #[v], .string ⟨name.toArray⟩, .int .i64 n] w fun e w' => ∃ v', e = .returned (.tuple #[.agg #[v'], .int .i64 0]) ∧ OwnV w' w.heap.size v' (A ++ ⟨f.n, (f.s ++ f.t).take n, []⟩ :: B) ∧ Below w.heap.size w w' := by
  have C := fun W (hW : Below w.heap.size w W) => locate_there _ fs A B f name W (hv.next hW) hs g T
  have CC := fun W (hW : Below w.heap.size w W) => copied_any _ fs W (hv.next hW) hs g.few
  obtain ⟨b, off, cap, rfl, hb, hr, hk, hlt⟩ := there_row hv T
  have hfl := fileOk_len (T.ok g)
  have HR := hide hr
  have HK := hide hk
  have HT := hide T.eq
  have hb0 : b ≠ w.heap.size := by omega
  have hlti : (A.length : Int) < (fs.length : Int) := by omega
  have CS := fun W => dsize_any f W (by omega)
  have CT := fun (g c : Nat) (W : World) (ho : Own W g c fs) => settle_any g c A.length fs f n W ho hk (by omega) hfl
  have hset : fs.set A.length ⟨f.n, (f.s ++ f.t).take n, []⟩ = A ++ ⟨f.n, (f.s ++ f.t).take n, []⟩ :: B := by rw [T.eq]; simp
  have hsl : fs.length = (A ++ ⟨f.n, (f.s ++ f.t).take n, []⟩ :: B).length := by rw [T.eq]; simp
  rw [hset] at CT
  obtain ⟨fs', hfs'⟩ : ∃ x, A ++ ⟨f.n, (f.s ++ f.t).take n, []⟩ :: B = x := ⟨_, rfl⟩
  rw [hfs'] at CT hsl ⊢
  have HSL := hide hsl
  obtain ⟨L, hL⟩ : ∃ L, f.s.length + f.t.length = L := ⟨_, rfl⟩
  rw [hL] at CS hfl hn
  have hn0 : ¬ ((n : Int) < 0) := by omega
  have hn1 : ¬ ((L : Int) < (n : Int)) := by omega
  clear hv hs g T hr hk hset hfs' hsl hL HT
  go_enter Try.func17, Try.ntmps17
  go_wp2_with fail
  have X := Boxes.start w (.slice (some ⟨b, off, none⟩) fs.length cap) 24 24
  generalize (w.alloc (.cells #[.slice (some ⟨b, off, none⟩) fs.length cap] 24)).alloc (.cells #[.slice none 0 0] 24) = w0 at *
  refine (C _ X.below).mono ?_
  rintro e w1 ⟨rfl, hb1⟩
  have X1 := X.next hb1
  have HX := hide X1
  have cd := X1.cd
  have r := (unhide HR).kept X1.below hb
  have e0 := r.c0 (unhide HK)
  have e1 := r.c1 (unhide HK)
  have e2 := r.c2 (unhide HK)
  clear C hb1 r X X1
  go_wp2_with fail
  refine (CS _).mono ?_
  rintro e wx ⟨rfl, hbx⟩
  have X1 := (unhide HX).next hbx
  clear HX
  have HX := hide X1
  have cdx := X1.cd
  clear hbx X1
  go_wp2_with fail
  refine (CC _ (unhide HX).below).mono ?_
  rintro e w2 ⟨v', rfl, ho, hb2⟩
  obtain ⟨g, cap2, rfl, hg, ho⟩ := own_some ho hlt
  have hgl := ho.lt
  have hg2 : w.heap.size + 2 ≤ g := by have := (unhide HX).size; omega
  have X2 := ((unhide HX).next hb2).alloc (.cells #[.slice (some ⟨g, 0, none⟩) fs.length cap2] 24)
  have ho2 := ho.alloc (.cells #[.slice (some ⟨g, 0, none⟩) fs.length cap2] 24)
  have ca : (w2.alloc (.cells #[.slice (some ⟨g, 0, none⟩) fs.length cap2] 24)).cell? ⟨w2.heap.size, 0, none⟩ = some (.slice (some ⟨g, 0, none⟩) fs.length cap2) := by simp
  have haz : w2.heap.size < (w2.alloc (.cells #[.slice (some ⟨g, 0, none⟩) fs.length cap2] 24)).heap.size := by simp
  clear CC hb2 ho HX cd e0 e1 e2 cdx
  go_wp2_with fail
  generalize w2.alloc (.cells #[.slice (some ⟨g, 0, none⟩) fs.length cap2] 24) = W at *
  have HX := hide X2
  have HO := hide ho2
  have cd := X2.cd
  have r := (unhide HR).kept X2.below hb
  have e0 := r.c0 (unhide HK)
  have e1 := r.c1 (unhide HK)
  have e2 := r.c2 (unhide HK)
  clear r X2 ho2
  refine (CT g cap2 W (unhide HO)).mono ?_
  rintro e w4 ⟨rfl, ho4, hg4⟩
  all_goals
    have X4 := (unhide HX).grown hg4 hg2
    have ca4 : w4.cell? ⟨w2.heap.size, 0, none⟩ = some (.slice (some ⟨g, 0, none⟩) fs.length cap2) := hg4.cell ca (fun e => by have e3 : w2.heap.size = g := Option.some.inj e; omega)
    have cr := X4.cr
    have fr := X4.fr
    have HB := hide X4.below
    have HO4 := hide ho4
    clear X4 ho4 hg4
    clear CS CT
    go_wp2_with fail
    refine bodyPost_ret (v := .tuple #[.agg #[.slice (some ⟨g, 0, none⟩) fs.length cap2], .int .i64 0]) (by simp [results, Try.results17, go_sem, cr]) rfl ⟨_, rfl, .inr ⟨g, cap2, by rw [unhide HSL], by omega, (unhide HO4).other (by show g ≠ w.heap.size + 1; omega) _⟩, (unhide HB).setCell (by simp) _⟩
end Go.Proofs.Ytbadhnmljlmefaa
