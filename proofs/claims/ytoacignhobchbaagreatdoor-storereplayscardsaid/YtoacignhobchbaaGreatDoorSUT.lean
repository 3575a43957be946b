/-
  What disk.Write answers: the walks.
-/
import Derived.Test.YtoacignhobchbaaGreatDoorSUS
namespace Go.Proofs.YtoacignhobchbaaGreatDoor
open Go.RowKit

theorem own_slice {W : World} {B : Nat} {v : Value} {fs : List DF} (h : OwnV W B v fs) : ∃ a c, v = .slice a fs.length c ∧ fs.length ≤ c := by
  rcases h with ⟨rfl, rfl⟩ | ⟨g, cap, rfl, _, h⟩
  · exact ⟨none, 0, rfl, Nat.le_refl _⟩
  · exact ⟨_, cap, rfl, h.le⟩
theorem own_block {W : World} {B : Nat} {v : Value} {fs : List DF} (h : OwnV W B v fs) : ∀ k, v.ownBlock = some k → B ≤ k ∧ k < W.heap.size := by
  intro k hk
  rcases h with ⟨rfl, rfl⟩ | ⟨g, cap, rfl, hB, h⟩
  · cases hk
  · cases hk; exact ⟨hB, h.lt⟩
theorem sinsert_any (v : Value) (A R : List DF) (x : DF) (B b : Nat) (w : World) (ho : OwnV w B v (A ++ R)) (hB : B ≤ w.heap.size) (hl : (A ++ R).length ≤ 15) (h1 : One w b x) (hb : v.ownBlock ≠ some b) :
    Calls Tryz.prog 96 #[v, .int .i64 A.length, .slice (some ⟨b, 0, none⟩) 1 1] w fun e w' =>
      ∃ v', e = .returned v' ∧ OwnV w' B v' (A ++ x :: R) ∧ w.grownBy w' v.ownBlock := by
  cases R with
  | nil =>
    rw [List.append_nil] at ho hl
    exact sinsert_end v A x B b w ho hB (by omega) h1
  | cons y R =>
    obtain ⟨g, cap, rfl, hg, ho⟩ := own_some ho (k := 0) (by simp; omega)
    have hlen : (A ++ y :: R).length = A.length + R.length + 1 := by simp; omega
    have hlen' : (A ++ x :: y :: R).length = (A ++ y :: R).length + 1 := by simp; omega
    by_cases hroom : (A ++ y :: R).length + 1 ≤ cap
    · exact (sinsert_shift g cap A R y x _ b w ho hlen (by omega) hroom h1 (fun e => hb (by rw [e]; rfl))).mono fun e w' ⟨he, ho', hg'⟩ => ⟨_, he, .inr ⟨g, cap, by rw [hlen'], hg, ho'⟩, hg'⟩
    · exact (sinsert_grow g cap A R y x _ b w ho hlen (by omega) (by omega) h1).mono fun e w' ⟨c, he, ho', hb'⟩ => ⟨_, he, .inr ⟨w.heap.size, c, by rw [hlen'], hB, ho'⟩, hb'.os, hb'.tape, hb'.output, hb'.size, fun k hk _ => hb'.block k hk⟩

/-- a box of the call's own that holds a disk -/
def BoxAt (W : World) (k : Nat) (v : Value) : Prop := W.heap[k]? = some (.cells #[v] 28 (0, 0))
theorem BoxAt.c {W : World} {k : Nat} {v : Value} (h : BoxAt W k v) : W.cell? ⟨k, 0, none⟩ = some v := by unfold BoxAt at h; simp [World.cell?, h]
theorem BoxAt.f {W : World} {k : Nat} {v : Value} (h : BoxAt W k v) : W.frozen? ⟨k, 0, none⟩ = false := by unfold BoxAt at h; simp [World.frozen?, h]
theorem BoxAt.next {W V : World} {k : Nat} {v : Value} (h : BoxAt W k v) (hb : Below W.heap.size W V) : BoxAt V k v := (hb.block k (by unfold BoxAt at h; exact (Array.getElem?_eq_some_iff.1 h).1)).trans h
theorem BoxAt.grown {W V : World} {k : Nat} {v : Value} {r : Option Nat} (h : BoxAt W k v) (hb : W.grownBy V r) (hr : some k ≠ r) : BoxAt V k v := (hb.block k (by unfold BoxAt at h; exact (Array.getElem?_eq_some_iff.1 h).1) hr).trans h
theorem BoxAt.set {W : World} {k : Nat} {v : Value} (h : BoxAt W k v) (u : Value) : BoxAt (W.setCell ⟨k, 0, none⟩ u) k u := block_set u h
theorem BoxAt.ne {W : World} {k : Nat} {v : Value} {g cap : Nat} {fs : List DF} (h : BoxAt W k v) (ho : Own W g cap fs) : g ≠ k := by
  rintro rfl
  obtain ⟨rest, h1, _⟩ := ho
  unfold BoxAt at h
  rw [h] at h1
  have := Option.some.inj h1
  simp at this
theorem BoxAt.new (W : World) (v : Value) : BoxAt (W.alloc (.cells #[v] 28)) W.heap.size v := heap_alloc_new W _
theorem Boxes.grownO {w W V : World} {v : Value} {r : Option Nat} (h : Boxes w W v) (hg : W.grownBy V r) (hl : ∀ k, r = some k → w.heap.size + 2 ≤ k) : Boxes w V v := by
  have hs := h.size
  have b0 : V.heap[w.heap.size]? = W.heap[w.heap.size]? := hg.block _ (by omega) (fun e => by have := hl _ e.symm; omega)
  have b1 : V.heap[w.heap.size + 1]? = W.heap[w.heap.size + 1]? := hg.block _ (by omega) (fun e => by have := hl _ e.symm; omega)
  exact ⟨h.below.grown hg (by omega) (fun k e => by have := hl k e; omega), Nat.le_trans h.size hg.size, (World.cell?_of_block b0).trans h.cd, (World.cell?_of_block b1).trans h.cr, (World.frozen?_of_block b1).trans h.fr⟩
theorem Boxes.other {w W : World} {v : Value} (h : Boxes w W v) {k : Nat} (hk : w.heap.size + 2 ≤ k) (j : Nat) (u : Value) : Boxes w (W.setCell ⟨k, j, none⟩ u) v := h.grown (grown_set u) hk

set_option maxRecDepth 10000 in
set_option maxHeartbeats 2000000 in
theorem write_there (v : Value) (fs A B : List DF) (f : DF) (name x : List UInt8) (w : World) (hv : DiskV w v fs) (hs : Slim fs) (g : GoodD fs) (T : There fs A f B name) (hfit : f.s.length + f.t.length + x.length ≤ 1048576) :
    Calls Tryz.prog 61 #[.agg #[v], .string ⟨name.toArray⟩, .string ⟨x.toArray⟩] w fun e w' => ∃ v', e = .returned (.tuple #[.agg #[v'], .int .i64 0]) ∧ OwnV w' w.heap.size v' (A ++ ⟨f.n, f.s, f.t ++ x⟩ :: B) ∧ Below w.heap.size w w' := by
  have hn : namedB name = true := by rw [← T.nm]; exact fileOk_named (T.ok g)
  have CG := fun W (hW : Below w.heap.size w W) => dgood_any _ fs W (hv.next hW) hs
  have CN := fun W => dnamed name (by simp only [namedB, Bool.and_eq_true, decide_eq_true_eq] at hn; omega) W
  have CC := fun W (hW : Below w.heap.size w W) => copied_any _ fs W (hv.next hW) hs g.few
  have CF := fun W (hW : Below w.heap.size w W) => find_there _ fs A B f name W (hv.next hW) g.few T
  rw [goodD_true.2 g] at CG
  rw [hn] at CN
  obtain ⟨b, off, cap, rfl, hb, hr, hk, hlt⟩ := there_row hv T
  have HR := hide hr
  have HK := hide hk
  have hlti : (A.length : Int) < (fs.length : Int) := by omega
  have CS := fun W => dsize_any f W (by omega)
  have CT := fun (q c : Nat) (W : World) (ho : Own W q c fs) => extend_any q c A.length fs f x W ho hk (by omega) (by omega)
  have hset : fs.set A.length ⟨f.n, f.s, f.t ++ x⟩ = A ++ ⟨f.n, f.s, f.t ++ x⟩ :: B := by rw [T.eq]; simp
  have hsl : fs.length = (A ++ (⟨f.n, f.s, f.t ++ x⟩ : DF) :: B).length := by rw [T.eq]; simp
  rw [hset] at CT
  obtain ⟨fs', hfs'⟩ : ∃ y, A ++ (⟨f.n, f.s, f.t ++ x⟩ : DF) :: B = y := ⟨_, rfl⟩
  rw [hfs'] at CT hsl ⊢
  have HSL := hide hsl
  obtain ⟨L, hL⟩ : ∃ L, f.s.length + f.t.length = L := ⟨_, rfl⟩
  rw [hL] at CS hfit
  have hlg : (x.length : Int) ≤ 1048576 - (L : Int) := by omega
  have hsub : IntKind.i64.wrap (1048576 - (L : Int)) = 1048576 - (L : Int) := by rw [IntKind.wrap_i64]; omega
  clear hv hs g hn T hr hk hset hfs' hsl hL
  go_enter Tryz.func61, Tryz.ntmps61
  go_wp2_with fail
  have X := Boxes.start w (.slice (some ⟨b, off, none⟩) fs.length cap) 28 28
  refine (CG _ X.below).mono ?_
  rintro e w1 ⟨rfl, hb1⟩
  have X1 := X.next hb1
  have HX := hide X1
  have cd := X1.cd
  have cr := X1.cr
  have fr := X1.fr
  clear CG hb1 X X1
  go_wp2_with fail
  refine (CN _).mono ?_
  rintro e w2 ⟨rfl, rfl⟩
  clear CN
  go_wp2_with fail
  refine (CF _ (unhide HX).below).mono ?_
  rintro e w3 ⟨rfl, hb3⟩
  have X3 := (unhide HX).next hb3
  clear CF HX cd cr fr
  have HX := hide X3
  have cd := X3.cd
  have cr := X3.cr
  have fr := X3.fr
  have r := (unhide HR).kept X3.below hb
  have e0 := r.c0 (unhide HK)
  have e1 := r.c1 (unhide HK)
  have e2 := r.c2 (unhide HK)
  clear hb3 X3 r
  go_wp2_with fail
  refine (CS _).mono ?_
  rintro e w4 ⟨rfl, hb4⟩
  have X4 := (unhide HX).next hb4
  clear CS HX cd cr fr e0 e1 e2
  have HX := hide X4
  have cd := X4.cd
  clear hb4 X4
  go_wp2_with fail
  refine (CC _ (unhide HX).below).mono ?_
  rintro e w5 ⟨v', rfl, ho, hb5⟩
  obtain ⟨q, cap2, rfl, hq, ho⟩ := own_some ho hlt
  have hq2 : w.heap.size + 2 ≤ q := by have := (unhide HX).size; omega
  have X5 := ((unhide HX).next hb5).alloc (.cells #[.slice (some ⟨q, 0, none⟩) fs.length cap2] 28)
  have ho5 := ho.alloc (.cells #[.slice (some ⟨q, 0, none⟩) fs.length cap2] 28)
  have hbx := BoxAt.new w5 (.slice (some ⟨q, 0, none⟩) fs.length cap2)
  have ca := hbx.c
  clear CC hb5 ho HX cd
  go_wp2_with fail
  generalize w5.alloc (.cells #[.slice (some ⟨q, 0, none⟩) fs.length cap2] 28) = W at *
  refine (CT q cap2 W ho5).mono ?_
  rintro e w6 ⟨rfl, ho6, hg6⟩
  have hne := hbx.ne ho5
  have X6 := X5.grown hg6 hq2
  have ca6 := (hbx.grown hg6 (fun e => hne (Option.some.inj e).symm)).c
  have cr := X6.cr
  have fr := X6.fr
  have HB := hide X6.below
  have HO6 := hide ho6
  clear X6 ho6 hg6 X5 ho5 CT ca hbx
  go_wp2_with fail
  exact bodyPost_ret (v := .tuple #[.agg #[.slice (some ⟨q, 0, none⟩) fs.length cap2], .int .i64 0]) (by simp [results, Tryz.results61, go_sem, cr]) rfl
    ⟨_, rfl, .inr ⟨q, cap2, by rw [unhide HSL], by omega, (unhide HO6).other (by show q ≠ w.heap.size + 1; omega) _⟩, (unhide HB).setCell (by simp) _⟩

set_option maxRecDepth 10000 in
set_option maxHeartbeats 2000000 in
theorem write_new (v : Value) (fs A B : List DF) (name x : List UInt8) (w : World) (hv : DiskV w v fs) (hs : Slim fs) (g : GoodD fs) (hn : namedB name = true) (hl : fs.length < 16) (G : Gap fs A B name) (hfit : x.length ≤ 1048576) :
    Calls Tryz.prog 61 #[.agg #[v], .string ⟨name.toArray⟩, .string ⟨x.toArray⟩] w fun e w' => ∃ v', e = .returned (.tuple #[.agg #[v'], .int .i64 0]) ∧ OwnV w' w.heap.size v' (A ++ ⟨name, [], x⟩ :: B) ∧ Below w.heap.size w w' := by
  have hnl : name.length ≤ 40 := by simp only [namedB, Bool.and_eq_true, decide_eq_true_eq] at hn; omega
  have CG := fun W (hW : Below w.heap.size w W) => dgood_any _ fs W (hv.next hW) hs
  have CN := fun W => dnamed name (by omega) W
  have CC := fun W (hW : Below w.heap.size w W) => copied_any _ fs W (hv.next hW) hs g.few
  have CF := fun W (hW : Below w.heap.size w W) => find_gap _ fs A B name W (hv.next hW) g.few G
  have CL := fun W => dclone_any name W (by omega)
  have hlen : ∃ a c, v = .slice a fs.length c := by
    rcases hv with ⟨a, cap, rfl, rfl, _⟩ | ⟨b, off, cap, rfl, _⟩
    · exact ⟨_, _, rfl⟩
    · exact ⟨_, _, rfl⟩
  rw [goodD_true.2 g] at CG
  rw [hn] at CN
  obtain ⟨a, c, rfl⟩ := hlen
  have hl2 : ¬ ((fs.length : Int) = 16) := by omega
  have hlg : ¬ ((1048576 : Int) < (x.length : Int)) := by omega
  have CI := fun (v5 : Value) (D k : Nat) (W : World) (ho : OwnV W D v5 fs) (hD : D ≤ W.heap.size) (h1 : One W k ⟨name, [], []⟩) (hk : v5.ownBlock ≠ some k) => sinsert_any v5 A B ⟨name, [], []⟩ D k W (by rw [← G.eq]; exact ho) hD (by rw [← G.eq]; omega) h1 hk
  have CT := fun (q c : Nat) (W : World) (ho : Own W q c (A ++ ⟨name, [], []⟩ :: B)) => extend_any q c A.length _ ⟨name, [], []⟩ x W ho (by simp) hfit (by simp)
  have hset : (A ++ (⟨name, [], []⟩ : DF) :: B).set A.length ⟨name, [], [] ++ x⟩ = A ++ ⟨name, [], x⟩ :: B := by simp
  simp only at CT
  rw [hset] at CT
  have hsl : (A ++ (⟨name, [], []⟩ : DF) :: B).length = (A ++ (⟨name, [], x⟩ : DF) :: B).length := by simp
  have HSL := hide hsl
  have hat : A.length < (A ++ (⟨name, [], []⟩ : DF) :: B).length := by simp
  obtain ⟨f1, hf1⟩ : ∃ y, A ++ (⟨name, [], x⟩ : DF) :: B = y := ⟨_, rfl⟩
  obtain ⟨f0, hf0⟩ : ∃ y, A ++ (⟨name, [], []⟩ : DF) :: B = y := ⟨_, rfl⟩
  rw [hf1] at CT HSL ⊢
  rw [hf0] at CT HSL hat CI
  have HCI := hide CI
  have hati : (A.length : Int) < (f0.length : Int) := by omega
  clear hv hs g hn G hset hsl hf0 hf1 CI
  go_enter Tryz.func61, Tryz.ntmps61
  go_wp2_with fail
  have X := Boxes.start w (.slice a fs.length c) 28 28
  refine (CG _ X.below).mono ?_
  rintro e w1 ⟨rfl, hb1⟩
  have X1 := X.next hb1
  have HX := hide X1
  have cd := X1.cd
  have cr := X1.cr
  have fr := X1.fr
  clear CG hb1 X X1
  go_wp2_with fail
  refine (CN _).mono ?_
  rintro e w2 ⟨rfl, rfl⟩
  clear CN
  go_wp2_with fail
  refine (CF _ (unhide HX).below).mono ?_
  rintro e w3 ⟨rfl, hb3⟩
  have X3 := (unhide HX).next hb3
  clear CF HX cd cr fr
  have HX := hide X3
  have cd := X3.cd
  have cr := X3.cr
  have fr := X3.fr
  clear hb3 X3
  go_wp2_with fail
  refine (CC _ (unhide HX).below).mono ?_
  rintro e w5 ⟨v', rfl, ho, hb5⟩
  have hob := own_block ho
  obtain ⟨a5, c5, rfl, _⟩ := own_slice ho
  have hz := (unhide HX).size
  have X5 := ((unhide HX).next hb5).alloc (.cells #[.slice a5 fs.length c5] 28)
  have ho5 := ho.next ((Below.refl _ _).alloc (Nat.le_refl _) (.cells #[.slice a5 fs.length c5] 28))
  have hbx := BoxAt.new w5 (.slice a5 fs.length c5)
  have haz : (w5.alloc (.cells #[.slice a5 fs.length c5] 28)).heap.size = w5.heap.size + 1 := by simp
  have HOB := hide hob
  have hz35 := hb5.size
  clear CC hb5 ho HX cd hob
  go_wp2_with fail
  generalize w5.alloc (.cells #[.slice a5 fs.length c5] 28) = W at *
  have CI6 : ∀ w6 : World, Below W.heap.size W w6 → Calls Tryz.prog 96 #[.slice a5 fs.length c5, .int .i64 A.length, .slice (some ⟨w6.heap.size, 0, none⟩) 1 1] (w6.alloc (.cells #[.string ⟨name.toArray⟩, .string ⟨#[]⟩, .string ⟨#[]⟩] 87)) fun e w' =>
      ∃ g7 c7, e = .returned (.slice (some ⟨g7, 0, none⟩) f0.length c7) ∧ Hid (w3.heap.size ≤ g7 ∧ Own w' g7 c7 f0 ∧ Boxes w w' (.slice a fs.length c) ∧ BoxAt w' w5.heap.size (.slice a5 fs.length c5)) := fun w6 hb6 => by
    have hal := (Below.refl w6.heap.size w6).alloc (Nat.le_refl _) (.cells #[.string ⟨name.toArray⟩, .string ⟨#[]⟩, .string ⟨#[]⟩] 87)
    have hs6 := hb6.size
    refine (unhide HCI _ w3.heap.size w6.heap.size _ ((ho5.next hb6).next hal) (by have := X5.size; have := own_block ho5; simp; omega) (heap_alloc_new w6 _) (fun e => by have := unhide HOB _ e; omega)).mono ?_
    rintro e w7 ⟨v7, he, ho7, hg7⟩
    obtain ⟨g7, c7, rfl, h7, ho7⟩ := own_some ho7 hat
    exact ⟨g7, c7, he, h7, ho7, ((X5.next hb6).next hal).grownO hg7 (fun k e => by have := unhide HOB k e; omega), ((hbx.next hb6).next hal).grown hg7 (fun e => by have := unhide HOB _ e.symm; omega)⟩
  have ca := hbx.c
  have HBX := hide hbx
  clear X5 ho5 hbx HCI
  have hcx : ∀ w6 : World, Below W.heap.size W w6 → w6.cell? ⟨w5.heap.size, 0, none⟩ = some (.slice a5 fs.length c5) ∧ w5.heap.size < w6.heap.size := fun w6 hb6 => ⟨((unhide HBX).next hb6).c, by have := hb6.size; omega⟩
  have HCX := hide hcx
  have HC6 := hide CI6
  clear hcx CI6
  go_region_with (first
    | (go_at_call 69; refine (CL _).mono ?_; rintro e w6 ⟨rfl, hb6⟩; obtain ⟨ca6, hl6⟩ := unhide HCX w6 (below_drew hb6))
    | (go_at_call 96; refine (unhide HC6 w6 (below_drew hb6)).mono ?_; rintro e w7 ⟨g7, c7, rfl, h7⟩; have ca7 := (unhide h7).2.2.2.c; have fa7 := (unhide h7).2.2.2.f))
  all_goals
    have hz5 : w.heap.size + 2 ≤ w5.heap.size := by omega
    have hne := (unhide h7).2.2.2.ne (unhide h7).2.1
    have ho8 := (unhide h7).2.1.other (a := ⟨w5.heap.size, 0, none⟩) hne (.slice (some ⟨g7, 0, none⟩) f0.length c7)
    have X8 := (unhide h7).2.2.1.other hz5 0 (.slice (some ⟨g7, 0, none⟩) f0.length c7)
    have hb8 := (unhide h7).2.2.2.set (.slice (some ⟨g7, 0, none⟩) f0.length c7)
    have hg7 := (unhide h7).1
    have ca8 := hb8.c
    clear h7 ca7 fa7 ca6 hb6 ca CL HC6 HCX HBX
    generalize w7.setCell ⟨w5.heap.size, 0, none⟩ (.slice (some ⟨g7, 0, none⟩) f0.length c7) = w8 at *
    go_wp2_with fail
    refine (CT g7 c7 w8 ho8).mono ?_
    rintro e w9 ⟨rfl, ho9, hg9⟩
    have X9 := X8.grown hg9 (by omega)
    have ca9 := (hb8.grown hg9 (fun e => hne (Option.some.inj e).symm)).c
    have cr9 := X9.cr
    have fr9 := X9.fr
    have HB := hide X9.below
    have HO9 := hide ho9
    clear X9 ho9 hg9 X8 ho8 CT ca8 hb8 cr fr
    go_wp2_with fail
    exact bodyPost_ret (v := .tuple #[.agg #[.slice (some ⟨g7, 0, none⟩) f0.length c7], .int .i64 0]) (by simp [results, Tryz.results61, go_sem, cr9]) rfl
      ⟨_, rfl, .inr ⟨g7, c7, by rw [unhide HSL], by omega, (unhide HO9).other (by show g7 ≠ w.heap.size + 1; omega) _⟩, (unhide HB).setCell (by simp) _⟩
end Go.Proofs.YtoacignhobchbaaGreatDoor
