/-
  What aviaryref.Crash and aviarylaw.here answer: the walks.
  What aviaryref.turn, Sync and Cut answer: the walks.
  What aviaryref.Write answers: the walk.
-/
import Derived.Test.YthkggmmalffcdaaGreatDoorSFR
import Derived.Test.YthkggmmalffcdaaGreatDoorSFG
namespace Go.Proofs.YthkggmmalffcdaaGreatDoor
open Go.RowKit
theorem done_new (W : World) (x : DF) (b : Nat) (h : b = W.heap.size) : One (W.alloc (.cells (fcells x).toArray 73)) b x := by subst h; exact heap_alloc_new W _
theorem ownv_other {W : World} {B k : Nat} {v u : Value} {fs : List DF} (h : OwnV W B v fs) (hb : BoxAt W k u) (u' : Value) : OwnV (W.setCell ⟨k, 0, none⟩ u') B v fs := by
  rcases h with h | ⟨g, c, e, h1, h2⟩
  · exact .inl h
  · exact .inr ⟨g, c, e, h1, h2.other (hb.ne h2) _⟩

end Go.Proofs.YthkggmmalffcdaaGreatDoor

namespace Go.Proofs.YthkggmmalffcdaaGreatDoor
open Go.RowKit
set_option maxRecDepth 10000 in

set_option maxHeartbeats 400000 in
theorem rsync1_any (f : DF) (w : World) (hl : f.s.length + f.t.length ≤ 1048576) :
    Calls Tryz.prog 133 #[fileV f] w fun e w' => e = .returned (.tuple #[fileV ⟨f.n, f.s ++ f.t, []⟩, .int .i64 0]) ∧ Below w.heap.size w w' := by
  unfold fileV
  have hcat : ¬ 9223372036854775807 < f.s.length + f.t.length := by omega
  have hc : (ByteArray.mk f.s.toArray ++ ByteArray.mk f.t.toArray) = ⟨(f.s ++ f.t).toArray⟩ := dcat_one _ _
  go_enter Tryz.func133, Tryz.ntmps133
  go_wp2_with fail
  exact bodyPost_ret (v := .tuple #[.agg #[.string ⟨f.n.toArray⟩, .string ⟨(f.s ++ f.t).toArray⟩, .string ⟨#[]⟩], .int .i64 0]) (by simp [results, Tryz.results133, go_sem]) rfl ⟨rfl, ((Below.refl _ _).alloc (Nat.le_refl _) _).alloc (by simp) _⟩

set_option maxRecDepth 10000 in
set_option maxHeartbeats 1000000 in
theorem rcut1_yes (f : DF) (q : Nat) (k : Nat) (w : World) (hq : q < w.heap.size) (hc : w.cell? ⟨q, 0, none⟩ = some (.int .i64 k)) (hl : f.s.length + f.t.length ≤ 1048576) (hk : k ≤ f.s.length + f.t.length) :
    Calls Tryz.prog 167 #[fileV f, .pointer (some ⟨q, 0, none⟩)] w fun e w' => e = .returned (.tuple #[fileV ⟨f.n, (f.s ++ f.t).take k, []⟩, .int .i64 0]) ∧ Below w.heap.size w w' := by
  unfold fileV
  have hq0 : q ≠ w.heap.size := by omega
  have hq1 : q ≠ w.heap.size + 1 := by omega
  have h0 : ¬ ((k : Int) < 0) := by omega
  have h1 : ¬ ((f.s.length : Int) + (f.t.length : Int) < (k : Int)) := by omega
  have h2 : (k : Int) ≤ (f.s.length : Int) + (f.t.length : Int) := by omega
  have hcat : ¬ 9223372036854775807 < f.s.length + f.t.length := by omega
  have hcl : (ByteArray.mk f.s.toArray ++ ByteArray.mk f.t.toArray).extract 0 k = ⟨((f.s ++ f.t).take k).toArray⟩ := by rw [dcat_one, dex_front]
  go_enter Tryz.func167, Tryz.ntmps167
  go_wp2_with fail
  go_region
  go_wp2_with fail
  exact bodyPost_ret (v := .tuple #[.agg #[.string ⟨f.n.toArray⟩, .string ⟨((f.s ++ f.t).take k).toArray⟩, .string ⟨#[]⟩], .int .i64 0]) (by simp [results, Tryz.results167, go_sem]) rfl ⟨rfl, (((Below.refl _ _).alloc (Nat.le_refl _) _).alloc (by simp) _).drew⟩

theorem Boxes.setd {w W : World} {v : Value} (h : Boxes w W v) (u : Value) : Boxes w (W.setCell ⟨w.heap.size, 0, none⟩ u) u := by
  have hne : (⟨w.heap.size, 0, none⟩ : Addr) ≠ ⟨w.heap.size + 1, 0, none⟩ := by intro e; injection e with e _ _; omega
  refine ⟨h.below.setCell (Nat.le_refl _) _, by simpa [World.setCell] using h.size, World.cell?_setCell_same _ _ _ h.cd, by rw [World.cell?_setCell_other _ _ _ _ hne]; exact h.cr, by rw [World.frozen?_setCell]; exact h.fr⟩
/-- the disk's own box may be written -/
def Soft (w W : World) : Prop := W.frozen? ⟨w.heap.size, 0, none⟩ = false
theorem Soft.next {w W V : World} (h : Soft w W) (hb : Below W.heap.size W V) (hs : w.heap.size < W.heap.size) : Soft w V := by
  unfold Soft at *
  rw [hb.frozen (p := ⟨w.heap.size, 0, none⟩) hs]; exact h

set_option maxRecDepth 10000 in
set_option maxHeartbeats 1000000 in
theorem rturn_no (v : Value) (fs : List DF) (name : List UInt8) (fn : FuncId) (cb : Array Value) (E : Int) (w : World) (hv : DiskV w v fs) (hs : Slim fs) (hl : fs.length ≤ 140737488355328) (h : LocNo fs name E) :
    Calls Tryz.prog 132 #[.agg #[v], .string ⟨name.toArray⟩, .func (.func fn) #[] cb] w fun e w' => e = .returned (.tuple #[.agg #[.slice none 0 0], .int .i64 E]) ∧ Below w.heap.size w w' := by
  have CG := fun W (hW : Below w.heap.size w W) => rdgood_any v fs W (hv.next hW) hs hl
  rcases h with ⟨hg, rfl⟩ | ⟨g, ⟨A, B, G⟩, rfl⟩
  · obtain ⟨a, n, c, rfl⟩ := disk_slice hv
    rw [hg] at CG
    clear hv hs hg
    go_enter Tryz.func132, Tryz.ntmps132
    go_wp2_with fail
    have X := Boxes.start w (.slice a n c) 24 24
    refine (CG _ X.below).mono ?_
    rintro e w1 ⟨rfl, hb1⟩
    have X1 := X.next hb1
    have cr := X1.cr
    have fr := X1.fr
    have HB := hide X1.below
    clear CG hb1 X X1
    go_wp2_with fail
    exact bodyPost_ret (v := .tuple #[.agg #[.slice none 0 0], .int .i64 3]) (by simp [results, Tryz.results132, go_sem, cr]) rfl ⟨rfl, (unhide HB).setCell (by simp) _⟩
  · have CF := fun W (hW : Below w.heap.size w W) => rfile_gap v fs A B name W (hv.next hW) g.few G
    obtain ⟨a, n, c, rfl⟩ := disk_slice hv
    rw [goodD_true.2 g] at CG
    clear hv hs g G
    go_enter Tryz.func132, Tryz.ntmps132
    go_wp2_with fail
    have X := Boxes.start w (.slice a n c) 24 24
    refine (CG _ X.below).mono ?_
    rintro e w1 ⟨rfl, hb1⟩
    have X1 := X.next hb1
    have HX := hide X1
    have cd := X1.cd
    clear CG hb1 X X1
    go_wp2_with fail
    refine (CF _ (unhide HX).below).mono ?_
    rintro e w2 ⟨rfl, hb2⟩
    have X2 := (unhide HX).next hb2
    have cr := X2.cr
    have fr := X2.fr
    have HB := hide X2.below
    clear CF hb2 HX cd X2
    go_wp2_with fail
    exact bodyPost_ret (v := .tuple #[.agg #[.slice none 0 0], .int .i64 7]) (by simp [results, Tryz.results132, go_sem, cr]) rfl ⟨rfl, (unhide HB).setCell (by simp) _⟩

theorem own_put3 {W : World} {g cap k : Nat} {fs : List DF} {f : DF} (h : Own W g cap fs) (hk : fs[k]? = some f) (x : DF) :
    Own (((W.setCell ⟨g, k * 3, none⟩ (.string ⟨x.n.toArray⟩)).setCell ⟨g, k * 3 + 1, none⟩ (.string ⟨x.s.toArray⟩)).setCell ⟨g, k * 3 + 2, none⟩ (.string ⟨x.t.toArray⟩)) g cap (fs.set k x) := by
  have hl := (List.getElem?_eq_some_iff.1 hk).1
  have h1 := h.s0 hk x.n
  have h2 := h1.s1 (f := ⟨x.n, f.s, f.t⟩) (by rw [List.getElem?_set_self hl]) x.s
  have h3 := h2.s2 (f := ⟨x.n, x.s, f.t⟩) (by rw [List.getElem?_set_self (by simpa using hl)]) x.t
  rw [List.set_set, List.set_set] at h3
  exact h3

set_option maxRecDepth 10000 in
set_option maxHeartbeats 2000000 in
theorem rturn_there (v : Value) (fs A B : List DF) (f f' : DF) (name : List UInt8) (fn : FuncId) (cb : Array Value) (E : Int) (w : World) (hv : DiskV w v fs) (hs : Slim fs) (g : GoodD fs) (T : There fs A f B name)
    (en : ∀ args W, (callFunc fn args).run Tryz.prog W = .ok (.enter fn args) W)
    (hfn : ∀ W, Below w.heap.size w W → Calls Tryz.prog fn (#[fileV f] ++ cb) W fun e w' => e = .returned (.tuple #[fileV f', .int .i64 E]) ∧ Below W.heap.size W w') :
    Calls Tryz.prog 132 #[.agg #[v], .string ⟨name.toArray⟩, .func (.func fn) #[] cb] w fun e w' => ∃ v', e = .returned (.tuple #[.agg #[v'], .int .i64 E]) ∧ ((E != 0) = true → v' = .slice none 0 0) ∧ (E = 0 → DiskV w' v' (A ++ f' :: B)) ∧ Below w.heap.size w w' := by
  have CG := fun W (hW : Below w.heap.size w W) => rdgood_any v fs W (hv.next hW) hs (by have := g.few; omega)
  have CF := fun W (hW : Below w.heap.size w W) => rfile_there v fs A B f name W (hv.next hW) g.few T
  have CY := fun W (hW : Below w.heap.size w W) => rcopy_any v fs W (hv.next hW) (by have := g.few; omega)
  have hk : fs[A.length]? = some f := by rw [T.eq]; simp
  have hlt : A.length < fs.length := (List.getElem?_eq_some_iff.1 hk).1
  have hlti : (A.length : Int) < (fs.length : Int) := by omega
  have hA0 : ¬ ((A.length : Int) < 0) := by omega
  have HK := hide hk
  have hset : fs.set A.length f' = A ++ f' :: B := by rw [T.eq]; simp
  have HSET := hide hset
  obtain ⟨a, n, c, rfl⟩ := disk_slice hv
  rw [goodD_true.2 g] at CG
  clear hv hs g T hk hset
  go_enter Tryz.func132, Tryz.ntmps132
  go_wp2_with fail
  have X := Boxes.start w (.slice a n c) 24 24
  have S : Soft w ((w.alloc (.cells #[.slice a n c] 24)).alloc (.cells #[.slice none 0 0] 24)) := by unfold Soft; simp
  refine (CG _ X.below).mono ?_
  rintro e w1 ⟨rfl, hb1⟩
  have X1 := X.next hb1
  have S1 := S.next hb1 (by simp; omega)
  have HX := hide X1
  have HS := hide S1
  have cd := X1.cd
  clear CG hb1 X X1 S S1
  go_wp2_with fail
  refine (CF _ (unhide HX).below).mono ?_
  rintro e w2 ⟨rfl, hb2⟩
  have X2 := (unhide HX).next hb2
  have S2 := (unhide HS).next hb2 (by have := (unhide HX).size; omega)
  clear HX HS cd
  have HX := hide X2
  have HS := hide S2
  have cd := X2.cd
  clear CF hb2 X2 S2
  go_wp2_with fail
  refine (CY _ (unhide HX).below).mono ?_
  rintro e w3 ⟨v3, rfl, ho, hb3⟩
  obtain ⟨q, cap, rfl, hq, ho⟩ := own_some ho hlt
  have hz2 := (unhide HX).size
  have X3 := (unhide HX).next hb3
  have S3 := (unhide HS).next hb3 (by omega)
  have cd3 := X3.cd
  have fd3 : w3.frozen? ⟨w.heap.size, 0, none⟩ = false := S3
  have hqw : q ≠ w.heap.size := by omega
  have e0x := ho.c0 (unhide HK)
  have e1x := ho.c1 (unhide HK)
  have e2x := ho.c2 (unhide HK)
  have X4 := X3.setd (.slice (some ⟨q, 0, none⟩) fs.length cap)
  have ho4 : Own (w3.setCell ⟨w.heap.size, 0, none⟩ (.slice (some ⟨q, 0, none⟩) fs.length cap)) q cap fs := ho.other (by show q ≠ w.heap.size; omega) _
  have HX4 := hide X4
  have HO4 := hide ho4
  clear CY hb3 HX HS cd X3 S3 X4 ho ho4
  have HFN := hide hfn
  clear hfn
  go_wp2_with fail
  generalize w3.setCell ⟨w.heap.size, 0, none⟩ (.slice (some ⟨q, 0, none⟩) fs.length cap) = W4 at *
  have hF := unhide HFN W4 (unhide HX4).below
  clear e0x e1x e2x cd3 fd3
  refine hF.mono ?_
  rintro e w5 ⟨rfl, hb5⟩
  have X5 := (unhide HX4).next hb5
  have O5 := (unhide HO4).next hb5
  have cd5 := X5.cd
  have cr5 := X5.cr
  have fr5 := X5.fr
  have e0 := O5.c0 (unhide HK)
  have e1 := O5.c1 (unhide HK)
  have e2 := O5.c2 (unhide HK)
  have f0 := O5.frozen (A.length * 3)
  have f1 := O5.frozen (A.length * 3 + 1)
  have f2 := O5.frozen (A.length * 3 + 2)
  have hq5 := O5.lt
  have hl5 : w.heap.size < w5.heap.size := by have := X5.size; omega
  have hl6 : w.heap.size + 1 < w5.heap.size := by have := X5.size; omega
  have hq6 : q ≠ w.heap.size + 1 := by omega
  have HX5 := hide X5
  have HO5 := hide O5
  unfold fileV
  clear hF hb5 HX4 HO4 HFN X5 O5
  by_cases hE : E = 0
  · subst hE
    go_wp2_with fail
    have h3 := own_put3 (unhide HO5) (unhide HK) f'
    rw [unhide HSET] at h3
    have h4 := (h3.other (a := ⟨w.heap.size + 1, 0, none⟩) (by show q ≠ w.heap.size + 1; omega) (.slice (some ⟨q, 0, none⟩) fs.length cap)).alloc (.cells #[.string ⟨f'.n.toArray⟩, .string ⟨f'.s.toArray⟩, .string ⟨f'.t.toArray⟩] 73)
    have hlen : fs.length = (A ++ f' :: B).length := by rw [← unhide HSET]; simp
    have hB := (((((unhide HX5).below.setCell (p := ⟨q, A.length * 3, none⟩) (by show w.heap.size ≤ q; omega) (.string ⟨f'.n.toArray⟩)).setCell (p := ⟨q, A.length * 3 + 1, none⟩) (by show w.heap.size ≤ q; omega) (.string ⟨f'.s.toArray⟩)).setCell (p := ⟨q, A.length * 3 + 2, none⟩) (by show w.heap.size ≤ q; omega) (.string ⟨f'.t.toArray⟩)).setCell (p := ⟨w.heap.size + 1, 0, none⟩) (by simp) (.slice (some ⟨q, 0, none⟩) fs.length cap))
    exact bodyPost_ret (v := .tuple #[.agg #[.slice (some ⟨q, 0, none⟩) fs.length cap], .int .i64 0]) (by simp [results, Tryz.results132, go_sem, cr5, hl6]) rfl
      ⟨_, rfl, OwnV.disk (B := 0) (.inr ⟨q, cap, by rw [hlen], Nat.zero_le _, h4⟩), hB.alloc hB.size _⟩
  · have hne : (E != 0) = true := by simpa using hE
    go_wp2_with fail
    have hB := (unhide HX5).below.setCell (p := ⟨w.heap.size + 1, 0, none⟩) (by simp) (.slice none 0 0)
    exact bodyPost_ret (v := .tuple #[.agg #[.slice none 0 0], .int .i64 E]) (by simp [results, Tryz.results132, go_sem, cr5, hl6]) rfl
      ⟨_, rfl, fun _ => rfl, fun h => absurd h hE, hB.alloc hB.size _⟩

/- aviaryref.Sync and Cut -/
theorem DiskV.apart {w : World} {v : Value} {fs : List DF} {k : Nat} {a : Option Addr} {n c : Nat} (h : DiskV w v fs) (hb : BoxAt w k (.slice a n c)) (u : Value) : DiskV (w.setCell ⟨k, 0, none⟩ u) v fs := by
  rcases h with h | ⟨b, off, cap, rfl, h1, h2, h3, h0, h4⟩
  · exact .inl h
  · have hne : b ≠ k := by
      rintro rfl
      cases fs with
      | nil => exact h0 rfl
      | cons f r =>
        have := h4 0 (.string ⟨f.n.toArray⟩) rfl
        unfold BoxAt at hb
        simp [World.cell?, hb] at this
        cases off with
        | zero => simp at this
        | succ o => simp at this
    refine .inr ⟨b, off, cap, rfl, h1, h2, by simpa [World.setCell] using h3, h0, fun j u' hj => ?_⟩
    rw [World.cell?_setCell_other _ _ _ _ (by intro e; exact hne (congrArg Addr.block e).symm)]
    exact h4 j u' hj
set_option maxRecDepth 10000 in
set_option maxHeartbeats 1000000 in
theorem rsync_walk (v : Value) (fs : List DF) (name : List UInt8) (d : List DF) (E : Int) (w : World) (hv : DiskV w v fs)
    (CT : ∀ W, DiskV W v fs → Calls Tryz.prog 132 #[.agg #[v], .string ⟨name.toArray⟩, .func (.func 133) #[] #[]] W fun e w' => ∃ a n c, e = .returned (.tuple #[.agg #[.slice a n c], .int .i64 E]) ∧ Hid (DiskV w' (.slice a n c) d) ∧ Below W.heap.size W w') :
    Calls Tryz.prog 82 #[.agg #[v], .string ⟨name.toArray⟩] w fun e w' => ∃ a n c, e = .returned (.tuple #[.agg #[.slice a n c], .int .i64 E]) ∧ Hid (DiskV w' (.slice a n c) d) ∧ Below w.heap.size w w' := by
  have HV := hide hv
  obtain ⟨a, n, c, rfl⟩ := disk_slice hv
  have HT := hide CT
  clear hv CT
  go_enter Tryz.func82, Tryz.ntmps82
  go_wp2_with fail
  have X := Boxes.start w (.slice a n c) 24 24
  have Y := BoxAt.new (w.alloc (.cells #[.slice a n c] 24)) (.slice none 0 0)
  rw [World.size_alloc] at Y
  refine (unhide HT _ ((unhide HV).next X.below)).mono ?_
  rintro e w1 ⟨a1, n1, c1, rfl, hd, hb1⟩
  have X1 := X.next hb1
  have Y1 := Y.next hb1
  have cr := X1.cr
  have fr := X1.fr
  have HB := hide X1.below
  have HY := hide Y1
  clear HT HV hb1 X X1 Y Y1
  go_wp2_with fail
  exact bodyPost_ret (v := .tuple #[.agg #[.slice a1 n1 c1], .int .i64 E]) (by simp [results, Tryz.results82, go_sem, cr]) rfl ⟨a1, n1, c1, rfl, (unhide hd).apart (unhide HY) _, (unhide HB).setCell (by simp) _⟩

theorem cell_one {w : World} {k : Nat} {x : Value} {t : TypeId} {fz : Nat × Nat} (h : w.heap[k]? = some (.cells #[x] t fz)) : w.cell? ⟨k, 0, none⟩ = some x := by simp [World.cell?, h]
set_option maxRecDepth 10000 in
set_option maxHeartbeats 1000000 in
theorem rcut_walk (v : Value) (fs : List DF) (name : List UInt8) (n0 : Int) (d : List DF) (E : Int) (w : World) (hv : DiskV w v fs)
    (CT : ∀ W q, q < W.heap.size → W.cell? ⟨q, 0, none⟩ = some (.int .i64 n0) → DiskV W v fs → Calls Tryz.prog 132 #[.agg #[v], .string ⟨name.toArray⟩, .func (.func 167) #[] #[.pointer (some ⟨q, 0, none⟩)]] W fun e w' => ∃ a n c, e = .returned (.tuple #[.agg #[.slice a n c], .int .i64 E]) ∧ Hid (DiskV w' (.slice a n c) d) ∧ Below W.heap.size W w') :
    Calls Tryz.prog 126 #[.agg #[v], .string ⟨name.toArray⟩, .int .i64 n0] w fun e w' => ∃ a n c, e = .returned (.tuple #[.agg #[.slice a n c], .int .i64 E]) ∧ Hid (DiskV w' (.slice a n c) d) ∧ Below w.heap.size w w' := by
  have HV := hide hv
  obtain ⟨a, n, c, rfl⟩ := disk_slice hv
  have HT := hide CT
  clear hv CT
  go_enter Tryz.func126, Tryz.ntmps126
  go_wp2_with fail
  obtain ⟨W0, hW0⟩ : ∃ W, W = ((w.alloc (.cells #[.slice a n c] 24)).alloc (.cells #[.int .i64 n0] 3)).alloc (.cells #[.slice none 0 0] 24) := ⟨_, rfl⟩
  have hB : Below w.heap.size w W0 := by rw [hW0]; exact (((Below.refl _ w).alloc (Nat.le_refl _) (.cells #[.slice a n c] 24)).alloc (by simp) (.cells #[.int .i64 n0] 3)).alloc (by rw [World.size_alloc, World.size_alloc]; omega) (.cells #[.slice none 0 0] 24)
  have cq : W0.cell? ⟨w.heap.size + 1, 0, none⟩ = some (.int .i64 n0) := by
    rw [hW0]
    refine Lib.cell?_alloc_some _ ?_
    have h := heap_alloc_new (w.alloc (.cells #[.slice a n c] 24)) (.cells #[.int .i64 n0] 3)
    rw [World.size_alloc] at h
    exact cell_one h
  have hq : w.heap.size + 1 < W0.heap.size := by rw [hW0]; simp
  have Y : BoxAt W0 (w.heap.size + 1 + 1) (.slice none 0 0) := by
    rw [hW0]
    have := BoxAt.new ((w.alloc (.cells #[.slice a n c] 24)).alloc (.cells #[.int .i64 n0] 3)) (.slice none 0 0)
    rwa [World.size_alloc, World.size_alloc] at this
  rw [← hW0]
  clear hW0
  refine (unhide HT _ _ hq cq ((unhide HV).next hB)).mono ?_
  rintro e w1 ⟨a1, n1, c1, rfl, hd, hb1⟩
  have Y1 := Y.next hb1
  have cr := Y1.c
  have fr := Y1.f
  have HB := hide (dbelow_next hB hb1)
  have HY := hide Y1
  clear HT HV hb1 Y Y1 hB cq hq
  go_wp2_with fail
  exact bodyPost_ret (v := .tuple #[.agg #[.slice a1 n1 c1], .int .i64 E]) (by simp [results, Tryz.results126, go_sem, cr]) rfl ⟨a1, n1, c1, rfl, (unhide hd).apart (unhide HY) _, (unhide HB).setCell (by show w.heap.size ≤ w.heap.size + 1 + 1; omega) _⟩

theorem enter_sync1 : ∀ args W, (callFunc 133 args).run Tryz.prog W = .ok (.enter 133 args) W := enters_of Tryz.func133 (by kernel_rfl) rfl
theorem enter_cut1 : ∀ args W, (callFunc 167 args).run Tryz.prog W = .ok (.enter 167 args) W := enters_of Tryz.func167 (by kernel_rfl) rfl
theorem turn_no {v : Value} {name : List UInt8} {fn : FuncId} {cb : Array Value} {E : Int} {W : World} (h : Calls Tryz.prog 132 #[.agg #[v], .string ⟨name.toArray⟩, .func (.func fn) #[] cb] W fun e w' => e = .returned (.tuple #[.agg #[.slice none 0 0], .int .i64 E]) ∧ Below W.heap.size W w') :
    Calls Tryz.prog 132 #[.agg #[v], .string ⟨name.toArray⟩, .func (.func fn) #[] cb] W fun e w' => ∃ a n c, e = .returned (.tuple #[.agg #[.slice a n c], .int .i64 E]) ∧ Hid (DiskV w' (.slice a n c) []) ∧ Below W.heap.size W w' :=
  h.mono fun _ w' ⟨he, hb⟩ => ⟨_, _, _, he, DiskV.nil w', hb⟩

end Go.Proofs.YthkggmmalffcdaaGreatDoor

namespace Go.Proofs.YthkggmmalffcdaaGreatDoor
open Go.RowKit

theorem below_drw {B : Nat} {a w : World} (h : Below B a w) (n : Nat) : Below B a (w.drewN n) := ⟨h.os, h.tape, h.output, h.size, h.block⟩
theorem Own.drewN {W : World} {g cap : Nat} {fs : List DF} (h : Own W g cap fs) (n : Nat) : Own (W.drewN n) g cap fs := h

set_option maxRecDepth 10000 in
set_option maxHeartbeats 2000000 in
theorem rwrite_no1 (v : Value) (fs : List DF) (name x : List UInt8) (E : Int) (w : World) (hv : DiskV w v fs) (hs : Slim fs) (hl : fs.length ≤ 140737488355328) (hnm : name.length ≤ 140737488355328)
    (h : (goodD fs = false ∧ E = 3) ∨ (GoodD fs ∧ namedB name = false ∧ E = 2)) :
    Calls Tryz.prog 81 #[.agg #[v], .string ⟨name.toArray⟩, .string ⟨x.toArray⟩] w fun e w' => e = .returned (.tuple #[.agg #[.slice none 0 0], .int .i64 E]) ∧ Below w.heap.size w w' := by
  have CG := fun W (hW : Below w.heap.size w W) => rdgood_any v fs W (hv.next hW) hs hl
  have CN := fun W => refNamed_any name W hnm
  obtain ⟨a, n, c, rfl⟩ := disk_slice hv
  rcases h with ⟨hg, rfl⟩ | ⟨g, hn, rfl⟩
  · rw [hg] at CG
    clear hv hs hg CN
    go_enter Tryz.func81, Tryz.ntmps81
    go_wp2_with fail
    have X := Boxes.start w (.slice a n c) 24 24
    refine (CG _ X.below).mono ?_
    rintro e w1 ⟨rfl, hb1⟩
    have X1 := X.next hb1
    have cr := X1.cr
    have fr := X1.fr
    have HB := hide X1.below
    clear CG hb1 X X1
    go_wp2_with fail
    exact bodyPost_ret (v := .tuple #[.agg #[.slice none 0 0], .int .i64 3]) (by simp [results, Tryz.results81, go_sem, cr]) rfl ⟨rfl, (unhide HB).setCell (by simp) _⟩
  · rw [goodD_true.2 g] at CG
    rw [hn] at CN
    clear hv hs g hn
    go_enter Tryz.func81, Tryz.ntmps81
    go_wp2_with fail
    have X := Boxes.start w (.slice a n c) 24 24
    refine (CG _ X.below).mono ?_
    rintro e w1 ⟨rfl, hb1⟩
    have X1 := X.next hb1
    have HX := hide X1
    clear CG hb1 X X1
    go_wp2_with fail
    refine (CN _).mono ?_
    rintro e w2 ⟨rfl, hb2⟩
    have X2 := (unhide HX).next hb2
    have cr := X2.cr
    have fr := X2.fr
    have HB := hide X2.below
    clear CN hb2 HX X2
    go_wp2_with fail
    exact bodyPost_ret (v := .tuple #[.agg #[.slice none 0 0], .int .i64 2]) (by simp [results, Tryz.results81, go_sem, cr]) rfl ⟨rfl, (unhide HB).setCell (by simp) _⟩

set_option maxRecDepth 10000 in
set_option maxHeartbeats 2000000 in
theorem rwrite_there (v : Value) (fs A B : List DF) (f : DF) (name x : List UInt8) (w : World) (hv : DiskV w v fs) (hs : Slim fs) (g : GoodD fs) (T : There fs A f B name) (hx : x.length ≤ 140737488355328) :
    Calls Tryz.prog 81 #[.agg #[v], .string ⟨name.toArray⟩, .string ⟨x.toArray⟩] w fun e w' => ∃ v' E, e = .returned (.tuple #[.agg #[v'], .int .i64 E]) ∧ (1048576 < f.s.length + f.t.length + x.length → E = 1 ∧ v' = .slice none 0 0) ∧ (f.s.length + f.t.length + x.length ≤ 1048576 → E = 0 ∧ DiskV w' v' (A ++ ⟨f.n, f.s, f.t ++ x⟩ :: B)) ∧ Below w.heap.size w w' := by
  have hn : namedB name = true := by rw [← T.nm]; exact fileOk_named (T.ok g)
  have hfl := fileOk_len (T.ok g)
  have CG := fun W (hW : Below w.heap.size w W) => rdgood_any v fs W (hv.next hW) hs (by have := g.few; omega)
  have CN := fun W => refNamed_any name W (by simp only [namedB, Bool.and_eq_true, decide_eq_true_eq] at hn; omega)
  have CY := fun W (hW : Below w.heap.size w W) => rcopy_any v fs W (hv.next hW) (by have := g.few; omega)
  have CF := fun v1 W (h : DiskV W v1 fs) => rfile_there v1 fs A B f name W h g.few T
  rw [goodD_true.2 g] at CG
  rw [hn] at CN
  have hk : fs[A.length]? = some f := by rw [T.eq]; simp
  have hlt : A.length < fs.length := (List.getElem?_eq_some_iff.1 hk).1
  have hlti : (A.length : Int) < (fs.length : Int) := by omega
  have hA0 : ¬ ((A.length : Int) < 0) := by omega
  have HK := hide hk
  have hset : fs.set A.length ⟨f.n, f.s, f.t ++ x⟩ = A ++ ⟨f.n, f.s, f.t ++ x⟩ :: B := by rw [T.eq]; simp
  have HSET := hide hset
  have HCF := hide CF
  obtain ⟨a, n, c, rfl⟩ := disk_slice hv
  clear hv hs g T hk hset hn CF
  go_enter Tryz.func81, Tryz.ntmps81
  go_wp2_with fail
  have X := Boxes.start w (.slice a n c) 24 24
  have S : Soft w ((w.alloc (.cells #[.slice a n c] 24)).alloc (.cells #[.slice none 0 0] 24)) := by unfold Soft; simp
  refine (CG _ X.below).mono ?_
  rintro e w1 ⟨rfl, hb1⟩
  have HX := hide (X.next hb1)
  have HS := hide (S.next hb1 (by simp; omega))
  clear CG hb1 X S
  go_wp2_with fail
  refine (CN _).mono ?_
  rintro e w2 ⟨rfl, hb2⟩
  have X2 := (unhide HX).next hb2
  have S2 := (unhide HS).next hb2 (by have := (unhide HX).size; omega)
  clear HX HS
  have HX := hide X2
  have HS := hide S2
  have cd := X2.cd
  clear CN hb2 X2 S2
  go_wp2_with fail
  refine (CY _ (unhide HX).below).mono ?_
  rintro e w3 ⟨v3, rfl, ho, hb3⟩
  obtain ⟨q, cap, rfl, hq, ho⟩ := own_some ho hlt
  have hz2 := (unhide HX).size
  have X3 := (unhide HX).next hb3
  have S3 := (unhide HS).next hb3 (by omega)
  have cd3 := X3.cd
  have fd3 : w3.frozen? ⟨w.heap.size, 0, none⟩ = false := S3
  have hqw : q ≠ w.heap.size := by omega
  have X4 := X3.setd (.slice (some ⟨q, 0, none⟩) fs.length cap)
  have ho4 : Own (w3.setCell ⟨w.heap.size, 0, none⟩ (.slice (some ⟨q, 0, none⟩) fs.length cap)) q cap fs := ho.other (by show q ≠ w.heap.size; omega) _
  have HX4 := hide X4
  have HO4 := hide ho4
  have hdv : DiskV (w3.setCell ⟨w.heap.size, 0, none⟩ (.slice (some ⟨q, 0, none⟩) fs.length cap)) (.slice (some ⟨q, 0, none⟩) fs.length cap) fs := OwnV.disk (B := 0) (.inr ⟨q, cap, rfl, Nat.zero_le _, ho4⟩)
  have HD4 := hide hdv
  clear CY hb3 HX HS cd X3 S3 X4 ho ho4 hdv
  go_wp2_with fail
  generalize w3.setCell ⟨w.heap.size, 0, none⟩ (.slice (some ⟨q, 0, none⟩) fs.length cap) = W4 at *
  refine (unhide HCF _ _ (unhide HD4)).mono ?_
  rintro e w5 ⟨rfl, hb5⟩
  have X5 := (unhide HX4).next hb5
  have O5 := (unhide HO4).next hb5
  have cd5 := X5.cd
  have cr5 := X5.cr
  have fr5 := X5.fr
  have e1 := O5.c1 (unhide HK)
  have e2 := O5.c2 (unhide HK)
  have f2 := O5.frozen (A.length * 3 + 2)
  have hq6 : q ≠ w.heap.size + 1 := by omega
  have HX5 := hide X5
  have HO5 := hide O5
  have hcat1 : ¬ 9223372036854775807 < f.t.length + x.length := by omega
  have hcat2 : ¬ 9223372036854775807 < f.s.length + (f.t.length + x.length) := by omega
  clear HCF hb5 HX4 HO4 HD4 X5 O5 cd3 fd3
  by_cases hbig : f.s.length + f.t.length + x.length ≤ 1048576
  · have hbi : ¬ ((1048576 : Int) < (f.s.length : Int) + ((f.t.length : Int) + (x.length : Int))) := by omega
    go_wp2_with fail
    go_quiet (fail)
    go_wp2_with fail
    have O6 := (unhide HO5).s2 (unhide HK) (f.t ++ x)
    rw [unhide HSET, ← dcat_one] at O6
    have hq5 := (unhide HO5).lt
    have B6 : Below w.heap.size w (w5.setCell ⟨q, A.length * 3 + 2, none⟩ (.string (ByteArray.mk f.t.toArray ++ ByteArray.mk x.toArray))) := (unhide HX5).below.setCell (by show w.heap.size ≤ q; omega) _
    refine bodyPost_ret (v := .tuple #[.agg #[.slice (some ⟨q, 0, none⟩) fs.length cap], .int .i64 0]) (by simp [results, Tryz.results81, go_sem, cr5]) rfl ⟨_, 0, rfl, fun h => by omega, fun _ => ⟨rfl, ?_⟩, (below_drw B6 _).setCell (by simp) _⟩
    refine OwnV.disk (B := 0) (.inr ⟨q, cap, ?_, Nat.zero_le _, (O6.drewN _).other hq6 _⟩)
    rw [← unhide HSET]; simp
  · have hbi : (1048576 : Int) < (f.s.length : Int) + ((f.t.length : Int) + (x.length : Int)) := by omega
    go_wp2_with fail
    go_quiet (fail)
    go_wp2_with fail
    have hq5 := (unhide HO5).lt
    have B6 : Below w.heap.size w (w5.setCell ⟨q, A.length * 3 + 2, none⟩ (.string (ByteArray.mk f.t.toArray ++ ByteArray.mk x.toArray))) := (unhide HX5).below.setCell (by show w.heap.size ≤ q; omega) _
    exact bodyPost_ret (v := .tuple #[.agg #[.slice none 0 0], .int .i64 1]) (by simp [results, Tryz.results81, go_sem, cr5]) rfl ⟨_, 1, rfl, fun _ => ⟨rfl, rfl⟩, fun h => by omega, (below_drw B6 _).setCell (by simp) _⟩
end Go.Proofs.YthkggmmalffcdaaGreatDoor
