/-
  What aviaryref.turn, Sync and Cut answer: the walks.
-/
import Derived.Test.YtbadhnmljlmefaaDLaw
namespace Go.Proofs.Ytbadhnmljlmefaa
open Go.RowKit

set_option maxHeartbeats 400000 in
theorem rsync1_any (f : DF) (w : World) (hl : f.s.length + f.t.length ≤ 1048576) :
    Calls Try.prog 42 #[fileV f] w fun e w' => e = .returned (.tuple #[fileV ⟨f.n, f.s ++ f.t, []⟩, .int .i64 0]) ∧ Below w.heap.size w w' := by
  unfold fileV
  have hcat : ¬ 9223372036854775807 < f.s.length + f.t.length := by omega
  have hc : (ByteArray.mk f.s.toArray ++ ByteArray.mk f.t.toArray) = ⟨(f.s ++ f.t).toArray⟩ := cat_one _ _
  go_enter Try.func42, Try.ntmps42
  go_wp2_with fail
  exact bodyPost_ret (v := .tuple #[.agg #[.string ⟨f.n.toArray⟩, .string ⟨(f.s ++ f.t).toArray⟩, .string ⟨#[]⟩], .int .i64 0]) (by simp [results, Try.results42, go_sem]) rfl ⟨rfl, ((Below.refl _ _).alloc (Nat.le_refl _) _).alloc (by simp) _⟩

set_option maxHeartbeats 1000000 in
theorem rcut1_no (f : DF) (q : Nat) (n : Int) (w : World) (hq : q < w.heap.size) (hc : w.cell? ⟨q, 0, none⟩ = some (.int .i64 n)) (hl : f.s.length + f.t.length ≤ 1048576) (hn : n < 0 ∨ ((f.s.length + f.t.length : Nat) : Int) < n) :
    Calls Try.prog 43 #[fileV f, .pointer (some ⟨q, 0, none⟩)] w fun e w' => e = .returned (.tuple #[fileV f, .int .i64 3]) ∧ Below w.heap.size w w' := by
  unfold fileV
  have hq0 : q ≠ w.heap.size := by omega
  have hq1 : q ≠ w.heap.size + 1 := by omega
  have hB := ((Below.refl _ w).alloc (Nat.le_refl _) (.cells #[.string ⟨f.n.toArray⟩, .string ⟨f.s.toArray⟩, .string ⟨f.t.toArray⟩] 41)).alloc (by simp) (.cells #[.string ⟨f.n.toArray⟩, .string ⟨f.s.toArray⟩, .string ⟨f.t.toArray⟩] 41)
  have HB := hide hB
  clear hB
  by_cases h0 : n < 0
  · clear hn
    go_enter Try.func43, Try.ntmps43
    go_wp2_with fail
    exact bodyPost_ret (v := .tuple #[.agg #[.string ⟨f.n.toArray⟩, .string ⟨f.s.toArray⟩, .string ⟨f.t.toArray⟩], .int .i64 3]) (by simp [results, Try.results43, go_sem]) rfl ⟨rfl, unhide HB⟩
  · have hn1 : (f.s.length : Int) + (f.t.length : Int) < n := by omega
    clear hn
    go_enter Try.func43, Try.ntmps43
    go_wp2_with fail
    exact bodyPost_ret (v := .tuple #[.agg #[.string ⟨f.n.toArray⟩, .string ⟨f.s.toArray⟩, .string ⟨f.t.toArray⟩], .int .i64 3]) (by simp [results, Try.results43, go_sem]) rfl ⟨rfl, unhide HB⟩

set_option maxHeartbeats 1000000 in
theorem rcut1_yes (f : DF) (q : Nat) (k : Nat) (w : World) (hq : q < w.heap.size) (hc : w.cell? ⟨q, 0, none⟩ = some (.int .i64 k)) (hl : f.s.length + f.t.length ≤ 1048576) (hk : k ≤ f.s.length + f.t.length) :
    Calls Try.prog 43 #[fileV f, .pointer (some ⟨q, 0, none⟩)] w fun e w' => e = .returned (.tuple #[fileV ⟨f.n, (f.s ++ f.t).take k, []⟩, .int .i64 0]) ∧ Below w.heap.size w w' := by
  unfold fileV
  have hq0 : q ≠ w.heap.size := by omega
  have hq1 : q ≠ w.heap.size + 1 := by omega
  have h0 : ¬ ((k : Int) < 0) := by omega
  have h1 : ¬ ((f.s.length : Int) + (f.t.length : Int) < (k : Int)) := by omega
  have h2 : (k : Int) ≤ (f.s.length : Int) + (f.t.length : Int) := by omega
  have hcat : ¬ 9223372036854775807 < f.s.length + f.t.length := by omega
  have hcl : (ByteArray.mk f.s.toArray ++ ByteArray.mk f.t.toArray).extract 0 k = ⟨((f.s ++ f.t).take k).toArray⟩ := by rw [cat_one, ex_front]
  go_enter Try.func43, Try.ntmps43
  go_wp2_with fail
  go_region
  go_wp2_with fail
  exact bodyPost_ret (v := .tuple #[.agg #[.string ⟨f.n.toArray⟩, .string ⟨((f.s ++ f.t).take k).toArray⟩, .string ⟨#[]⟩], .int .i64 0]) (by simp [results, Try.results43, go_sem]) rfl ⟨rfl, (((Below.refl _ _).alloc (Nat.le_refl _) _).alloc (by simp) _).drew⟩

theorem Boxes.setd {w W : World} {v : Value} (h : Boxes w W v) (u : Value) : Boxes w (W.setCell ⟨w.heap.size, 0, none⟩ u) u := by
  have hne : (⟨w.heap.size, 0, none⟩ : Addr) ≠ ⟨w.heap.size + 1, 0, none⟩ := by intro e; injection e with e _ _; omega
  refine ⟨h.below.setCell (Nat.le_refl _) _, by simpa [World.setCell] using h.size, World.cell?_setCell_same _ _ _ h.cd, by rw [World.cell?_setCell_other _ _ _ _ hne]; exact h.cr, by rw [World.frozen?_setCell]; exact h.fr⟩
/-- the disk's own box may be written -/
def Soft (w W : World) : Prop := W.frozen? ⟨w.heap.size, 0, none⟩ = false
theorem Soft.next {w W V : World} (h : Soft w W) (hb : Below W.heap.size W V) (hs : w.heap.size < W.heap.size) : Soft w V := by
  unfold Soft at *
  rw [hb.frozen (p := ⟨w.heap.size, 0, none⟩) hs]; exact h

def fnV (fn : FuncId) (cb : Array Value) : Value := .func (.func fn) #[] cb

set_option maxHeartbeats 1000000 in
theorem rturn_no (v : Value) (fs : List DF) (name : List UInt8) (fn : FuncId) (cb : Array Value) (E : Int) (w : World) (hv : DiskV w v fs) (hs : Slim fs) (hl : fs.length ≤ 140737488355328) (h : LocNo fs name E) :
    Calls Try.prog 41 #[.agg #[v], .string ⟨name.toArray⟩, .func (.func fn) #[] cb] w fun e w' => e = .returned (.tuple #[.agg #[.slice none 0 0], .int .i64 E]) ∧ Below w.heap.size w w' := by
  have CG := fun W (hW : Below w.heap.size w W) => rgood_any v fs W (hv.next hW) hs hl
  rcases h with ⟨hg, rfl⟩ | ⟨g, ⟨A, B, G⟩, rfl⟩
  · obtain ⟨a, n, c, rfl⟩ := disk_slice hv
    rw [hg] at CG
    clear hv hs hg
    go_enter Try.func41, Try.ntmps41
    go_wp2_with fail
    have X := Boxes.start w (.slice a n c) 24 24
    refine (CG _ X.below).mono ?_
    rintro e w1 ⟨rfl, hb1⟩
    have X1 := X.next hb1
    have cr := X1.cr
    have fr := X1.fr
    have HB := hide X1.below
    clear CG hb1 X X1
    go_wp2_with fail
    exact bodyPost_ret (v := .tuple #[.agg #[.slice none 0 0], .int .i64 3]) (by simp [results, Try.results41, go_sem, cr]) rfl ⟨rfl, (unhide HB).setCell (by simp) _⟩
  · have CF := fun W (hW : Below w.heap.size w W) => rfile_gap v fs A B name W (hv.next hW) g.few G
    obtain ⟨a, n, c, rfl⟩ := disk_slice hv
    rw [goodD_true.2 g] at CG
    clear hv hs g G
    go_enter Try.func41, Try.ntmps41
    go_wp2_with fail
    have X := Boxes.start w (.slice a n c) 24 24
    refine (CG _ X.below).mono ?_
    rintro e w1 ⟨rfl, hb1⟩
    have X1 := X.next hb1
    have HX := hide X1
    have cd := X1.cd
    clear CG hb1 X X1
    go_wp2_with fail
    refine (CF _ (unhide HX).below).mono ?_
    rintro e w2 ⟨rfl, hb2⟩
    have X2 := (unhide HX).next hb2
    have cr := X2.cr
    have fr := X2.fr
    have HB := hide X2.below
    clear CF hb2 HX cd X2
    go_wp2_with fail
    exact bodyPost_ret (v := .tuple #[.agg #[.slice none 0 0], .int .i64 7]) (by simp [results, Try.results41, go_sem, cr]) rfl ⟨rfl, (unhide HB).setCell (by simp) _⟩

theorem own_put3 {W : World} {g cap k : Nat} {fs : List DF} {f : DF} (h : Own W g cap fs) (hk : fs[k]? = some f) (x : DF) :
    Own (((W.setCell ⟨g, k * 3, none⟩ (.string ⟨x.n.toArray⟩)).setCell ⟨g, k * 3 + 1, none⟩ (.string ⟨x.s.toArray⟩)).setCell ⟨g, k * 3 + 2, none⟩ (.string ⟨x.t.toArray⟩)) g cap (fs.set k x) := by
  have hl := (List.getElem?_eq_some_iff.1 hk).1
  have h1 := h.s0 hk x.n
  have h2 := h1.s1 (f := ⟨x.n, f.s, f.t⟩) (by rw [List.getElem?_set_self hl]) x.s
  have h3 := h2.s2 (f := ⟨x.n, x.s, f.t⟩) (by rw [List.getElem?_set_self (by simpa using hl)]) x.t
  rw [List.set_set, List.set_set] at h3
  exact h3

set_option maxRecDepth 10000 in
set_option maxHeartbeats 2000000 in
theorem rturn_there (v : Value) (fs A B : List DF) (f f' : DF) (name : List UInt8) (fn : FuncId) (cb : Array Value) (E : Int) (w : World) (hv : DiskV w v fs) (hs : Slim fs) (g : GoodD fs) (T : There fs A f B name)
    (en : ∀ args W, (callFunc fn args).run Try.prog W = .ok (.enter fn args) W)
    (hfn : ∀ W, Below w.heap.size w W → Calls Try.prog fn (#[fileV f] ++ cb) W fun e w' => e = .returned (.tuple #[fileV f', .int .i64 E]) ∧ Below W.heap.size W w') :
    Calls Try.prog 41 #[.agg #[v], .string ⟨name.toArray⟩, .func (.func fn) #[] cb] w fun e w' => ∃ v', e = .returned (.tuple #[.agg #[v'], .int .i64 E]) ∧ ((E != 0) = true → v' = .slice none 0 0) ∧ (E = 0 → DiskV w' v' (A ++ f' :: B)) ∧ Below w.heap.size w w' := by
  have CG := fun W (hW : Below w.heap.size w W) => rgood_any v fs W (hv.next hW) hs (by have := g.few; omega)
  have CF := fun W (hW : Below w.heap.size w W) => rfile_there v fs A B f name W (hv.next hW) g.few T
  have CY := fun W (hW : Below w.heap.size w W) => rcopy_any v fs W (hv.next hW) (by have := g.few; omega)
  have hk : fs[A.length]? = some f := by rw [T.eq]; simp
  have hlt : A.length < fs.length := (List.getElem?_eq_some_iff.1 hk).1
  have hlti : (A.length : Int) < (fs.length : Int) := by omega
  have hA0 : ¬ ((A.length : Int) < 0) := by omega
  have HK := hide hk
  have hset : fs.set A.length f' = A ++ f' :: B := by rw [T.eq]; simp
  have HSET := hide hset
  obtain ⟨a, n, c, rfl⟩ := disk_slice hv
  rw [goodD_true.2 g] at CG
  clear hv hs g T hk hset
  go_enter Try.func41, Try.ntmps41
  go_wp2_with fail
  have X := Boxes.start w (.slice a n c) 24 24
  have S : Soft w ((w.alloc (.cells #[.slice a n c] 24)).alloc (.cells #[.slice none 0 0] 24)) := by unfold Soft; simp
  refine (CG _ X.below).mono ?_
  rintro e w1 ⟨rfl, hb1⟩
  have X1 := X.next hb1
  have S1 := S.next hb1 (by simp; omega)
  have HX := hide X1
  have HS := hide S1
  have cd := X1.cd
  clear CG hb1 X X1 S S1
  go_wp2_with fail
  refine (CF _ (unhide HX).below).mono ?_
  rintro e w2 ⟨rfl, hb2⟩
  have X2 := (unhide HX).next hb2
  have S2 := (unhide HS).next hb2 (by have := (unhide HX).size; omega)
  clear HX HS cd
  have HX := hide X2
  have HS := hide S2
  have cd := X2.cd
  clear CF hb2 X2 S2
  go_wp2_with fail
  refine (CY _ (unhide HX).below).mono ?_
  rintro e w3 ⟨v3, rfl, ho, hb3⟩
  obtain ⟨q, cap, rfl, hq, ho⟩ := own_some ho hlt
  have hz2 := (unhide HX).size
  have X3 := (unhide HX).next hb3
  have S3 := (unhide HS).next hb3 (by omega)
  have cd3 := X3.cd
  have fd3 : w3.frozen? ⟨w.heap.size, 0, none⟩ = false := S3
  have hqw : q ≠ w.heap.size := by omega
  have e0x := ho.c0 (unhide HK)
  have e1x := ho.c1 (unhide HK)
  have e2x := ho.c2 (unhide HK)
  have X4 := X3.setd (.slice (some ⟨q, 0, none⟩) fs.length cap)
  have ho4 : Own (w3.setCell ⟨w.heap.size, 0, none⟩ (.slice (some ⟨q, 0, none⟩) fs.length cap)) q cap fs := ho.other (by show q ≠ w.heap.size; omega) _
  have HX4 := hide X4
  have HO4 := hide ho4
  clear CY hb3 HX HS cd X3 S3 X4 ho ho4
  have HFN := hide hfn
  clear hfn
  go_wp2_with fail
  generalize w3.setCell ⟨w.heap.size, 0, none⟩ (.slice (some ⟨q, 0, none⟩) fs.length cap) = W4 at *
  have hF := unhide HFN W4 (unhide HX4).below
  clear e0x e1x e2x cd3 fd3
  refine hF.mono ?_
  rintro e w5 ⟨rfl, hb5⟩
  have X5 := (unhide HX4).next hb5
  have O5 := (unhide HO4).next hb5
  have cd5 := X5.cd
  have cr5 := X5.cr
  have fr5 := X5.fr
  have e0 := O5.c0 (unhide HK)
  have e1 := O5.c1 (unhide HK)
  have e2 := O5.c2 (unhide HK)
  have f0 := O5.frozen (A.length * 3)
  have f1 := O5.frozen (A.length * 3 + 1)
  have f2 := O5.frozen (A.length * 3 + 2)
  have hq5 := O5.lt
  have hl5 : w.heap.size < w5.heap.size := by have := X5.size; omega
  have hl6 : w.heap.size + 1 < w5.heap.size := by have := X5.size; omega
  have hq6 : q ≠ w.heap.size + 1 := by omega
  have HX5 := hide X5
  have HO5 := hide O5
  unfold fileV
  clear hF hb5 HX4 HO4 HFN X5 O5
  by_cases hE : E = 0
  · subst hE
    go_wp2_with fail
    have h3 := own_put3 (unhide HO5) (unhide HK) f'
    rw [unhide HSET] at h3
    have h4 := (h3.other (a := ⟨w.heap.size + 1, 0, none⟩) (by show q ≠ w.heap.size + 1; omega) (.slice (some ⟨q, 0, none⟩) fs.length cap)).alloc (.cells #[.string ⟨f'.n.toArray⟩, .string ⟨f'.s.toArray⟩, .string ⟨f'.t.toArray⟩] 41)
    have hlen : fs.length = (A ++ f' :: B).length := by rw [← unhide HSET]; simp
    have hB := (((((unhide HX5).below.setCell (p := ⟨q, A.length * 3, none⟩) (by show w.heap.size ≤ q; omega) (.string ⟨f'.n.toArray⟩)).setCell (p := ⟨q, A.length * 3 + 1, none⟩) (by show w.heap.size ≤ q; omega) (.string ⟨f'.s.toArray⟩)).setCell (p := ⟨q, A.length * 3 + 2, none⟩) (by show w.heap.size ≤ q; omega) (.string ⟨f'.t.toArray⟩)).setCell (p := ⟨w.heap.size + 1, 0, none⟩) (by simp) (.slice (some ⟨q, 0, none⟩) fs.length cap))
    exact bodyPost_ret (v := .tuple #[.agg #[.slice (some ⟨q, 0, none⟩) fs.length cap], .int .i64 0]) (by simp [results, Try.results41, go_sem, cr5, hl6]) rfl
      ⟨_, rfl, OwnV.disk (B := 0) (.inr ⟨q, cap, by rw [hlen], Nat.zero_le _, h4⟩), hB.alloc hB.size _⟩
  · have hne : (E != 0) = true := by simpa using hE
    go_wp2_with fail
    have hB := (unhide HX5).below.setCell (p := ⟨w.heap.size + 1, 0, none⟩) (by simp) (.slice none 0 0)
    exact bodyPost_ret (v := .tuple #[.agg #[.slice none 0 0], .int .i64 E]) (by simp [results, Try.results41, go_sem, cr5, hl6]) rfl
      ⟨_, rfl, fun _ => rfl, fun h => absurd h hE, hB.alloc hB.size _⟩

/- aviaryref.Sync and Cut -/
theorem DiskV.apart {w : World} {v : Value} {fs : List DF} {k : Nat} {a : Option Addr} {n c : Nat} (h : DiskV w v fs) (hb : BoxAt w k (.slice a n c)) (u : Value) : DiskV (w.setCell ⟨k, 0, none⟩ u) v fs := by
  rcases h with h | ⟨b, off, cap, rfl, h1, h2, h3, h0, h4⟩
  · exact .inl h
  · have hne : b ≠ k := by
      rintro rfl
      cases fs with
      | nil => exact h0 rfl
      | cons f r =>
        have := h4 0 (.string ⟨f.n.toArray⟩) rfl
        unfold BoxAt at hb
        simp [World.cell?, hb] at this
        cases off with
        | zero => simp at this
        | succ o => simp at this
    refine .inr ⟨b, off, cap, rfl, h1, h2, by simpa [World.setCell] using h3, h0, fun j u' hj => ?_⟩
    rw [World.cell?_setCell_other _ _ _ _ (by intro e; exact hne (congrArg Addr.block e).symm)]
    exact h4 j u' hj
set_option maxHeartbeats 1000000 in
theorem rsync_walk (v : Value) (fs : List DF) (name : List UInt8) (d : List DF) (E : Int) (w : World) (hv : DiskV w v fs)
    (CT : ∀ W, DiskV W v fs → Calls Try.prog 41 #[.agg #[v], .string ⟨name.toArray⟩, .func (.func 42) #[] #[]] W fun e w' => ∃ a n c, e = .returned (.tuple #[.agg #[.slice a n c], .int .i64 E]) ∧ Hid (DiskV w' (.slice a n c) d) ∧ Below W.heap.size W w') :
    Calls Try.prog 16 #[.agg #[v], .string ⟨name.toArray⟩] w fun e w' => ∃ a n c, e = .returned (.tuple #[.agg #[.slice a n c], .int .i64 E]) ∧ Hid (DiskV w' (.slice a n c) d) ∧ Below w.heap.size w w' := by
  have HV := hide hv
  obtain ⟨a, n, c, rfl⟩ := disk_slice hv
  have HT := hide CT
  clear hv CT
  go_enter Try.func16, Try.ntmps16
  go_wp2_with fail
  have X := Boxes.start w (.slice a n c) 24 24
  have Y := BoxAt.new (w.alloc (.cells #[.slice a n c] 24)) (.slice none 0 0)
  rw [World.size_alloc] at Y
  refine (unhide HT _ ((unhide HV).next X.below)).mono ?_
  rintro e w1 ⟨a1, n1, c1, rfl, hd, hb1⟩
  have X1 := X.next hb1
  have Y1 := Y.next hb1
  have cr := X1.cr
  have fr := X1.fr
  have HB := hide X1.below
  have HY := hide Y1
  clear HT HV hb1 X X1 Y Y1
  go_wp2_with fail
  exact bodyPost_ret (v := .tuple #[.agg #[.slice a1 n1 c1], .int .i64 E]) (by simp [results, Try.results16, go_sem, cr]) rfl ⟨a1, n1, c1, rfl, (unhide hd).apart (unhide HY) _, (unhide HB).setCell (by simp) _⟩

theorem cell_one {w : World} {k : Nat} {x : Value} {t : TypeId} {fz : Nat × Nat} (h : w.heap[k]? = some (.cells #[x] t fz)) : w.cell? ⟨k, 0, none⟩ = some x := by simp [World.cell?, h]
set_option maxHeartbeats 1000000 in
theorem rcut_walk (v : Value) (fs : List DF) (name : List UInt8) (n0 : Int) (d : List DF) (E : Int) (w : World) (hv : DiskV w v fs)
    (CT : ∀ W q, q < W.heap.size → W.cell? ⟨q, 0, none⟩ = some (.int .i64 n0) → DiskV W v fs → Calls Try.prog 41 #[.agg #[v], .string ⟨name.toArray⟩, .func (.func 43) #[] #[.pointer (some ⟨q, 0, none⟩)]] W fun e w' => ∃ a n c, e = .returned (.tuple #[.agg #[.slice a n c], .int .i64 E]) ∧ Hid (DiskV w' (.slice a n c) d) ∧ Below W.heap.size W w') :
    Calls Try.prog 18 #[.agg #[v], .string ⟨name.toArray⟩, .int .i64 n0] w fun e w' => ∃ a n c, e = .returned (.tuple #[.agg #[.slice a n c], .int .i64 E]) ∧ Hid (DiskV w' (.slice a n c) d) ∧ Below w.heap.size w w' := by
  have HV := hide hv
  obtain ⟨a, n, c, rfl⟩ := disk_slice hv
  have HT := hide CT
  clear hv CT
  go_enter Try.func18, Try.ntmps18
  go_wp2_with fail
  obtain ⟨W0, hW0⟩ : ∃ W, W = ((w.alloc (.cells #[.slice a n c] 24)).alloc (.cells #[.int .i64 n0] 3)).alloc (.cells #[.slice none 0 0] 24) := ⟨_, rfl⟩
  have hB : Below w.heap.size w W0 := by rw [hW0]; exact (((Below.refl _ w).alloc (Nat.le_refl _) (.cells #[.slice a n c] 24)).alloc (by simp) (.cells #[.int .i64 n0] 3)).alloc (by rw [World.size_alloc, World.size_alloc]; omega) (.cells #[.slice none 0 0] 24)
  have cq : W0.cell? ⟨w.heap.size + 1, 0, none⟩ = some (.int .i64 n0) := by
    rw [hW0]
    refine Lib.cell?_alloc_some _ ?_
    have h := heap_alloc_new (w.alloc (.cells #[.slice a n c] 24)) (.cells #[.int .i64 n0] 3)
    rw [World.size_alloc] at h
    exact cell_one h
  have hq : w.heap.size + 1 < W0.heap.size := by rw [hW0]; simp
  have Y : BoxAt W0 (w.heap.size + 1 + 1) (.slice none 0 0) := by
    rw [hW0]
    have := BoxAt.new ((w.alloc (.cells #[.slice a n c] 24)).alloc (.cells #[.int .i64 n0] 3)) (.slice none 0 0)
    rwa [World.size_alloc, World.size_alloc] at this
  rw [← hW0]
  clear hW0
  refine (unhide HT _ _ hq cq ((unhide HV).next hB)).mono ?_
  rintro e w1 ⟨a1, n1, c1, rfl, hd, hb1⟩
  have Y1 := Y.next hb1
  have cr := Y1.c
  have fr := Y1.f
  have HB := hide (below_next hB hb1)
  have HY := hide Y1
  clear HT HV hb1 Y Y1 hB cq hq
  go_wp2_with fail
  exact bodyPost_ret (v := .tuple #[.agg #[.slice a1 n1 c1], .int .i64 E]) (by simp [results, Try.results18, go_sem, cr]) rfl ⟨a1, n1, c1, rfl, (unhide hd).apart (unhide HY) _, (unhide HB).setCell (by show w.heap.size ≤ w.heap.size + 1 + 1; omega) _⟩

theorem enter_sync1 : ∀ args W, (callFunc 42 args).run Try.prog W = .ok (.enter 42 args) W := enters_of Try.func42 (by kernel_rfl) rfl
theorem enter_cut1 : ∀ args W, (callFunc 43 args).run Try.prog W = .ok (.enter 43 args) W := enters_of Try.func43 (by kernel_rfl) rfl
theorem turn_no {v : Value} {name : List UInt8} {fn : FuncId} {cb : Array Value} {E : Int} {W : World} (h : Calls Try.prog 41 #[.agg #[v], .string ⟨name.toArray⟩, .func (.func fn) #[] cb] W fun e w' => e = .returned (.tuple #[.agg #[.slice none 0 0], .int .i64 E]) ∧ Below W.heap.size W w') :
    Calls Try.prog 41 #[.agg #[v], .string ⟨name.toArray⟩, .func (.func fn) #[] cb] W fun e w' => ∃ a n c, e = .returned (.tuple #[.agg #[.slice a n c], .int .i64 E]) ∧ Hid (DiskV w' (.slice a n c) []) ∧ Below W.heap.size W w' :=
  h.mono fun _ w' ⟨he, hb⟩ => ⟨_, _, _, he, DiskV.nil w', hb⟩

theorem both_sync (fs : List DF) (name : List UInt8) (hs : Slim fs) (hl : fs.length ≤ 140737488355328) : ∃ E d, d.length ≤ 1000000 ∧ GivesD 15 (fun x => #[x, .string ⟨name.toArray⟩]) fs d E ∧ GivesD 16 (fun x => #[x, .string ⟨name.toArray⟩]) fs d E := by
  rcases loc_cases fs name with ⟨E, h⟩ | ⟨g, A, f, B, T⟩
  · exact ⟨E, [], by simp, gives_no fun v W hv => sync_no v fs name E W hv hs h, fun v W hv => rsync_walk v fs name [] E W hv fun W' hv' => turn_no (rturn_no v fs name _ _ E W' hv' hs hl h)⟩
  · have hfl := fileOk_len (T.ok g)
    refine ⟨0, A ++ ⟨f.n, f.s ++ f.t, []⟩ :: B, by have := g.few; rw [T.eq] at this; simp at this ⊢; omega, gives_own fun v W hv => sync_there v fs A B f name W hv hs g T, fun v W hv => rsync_walk v fs name _ 0 W hv fun W' hv' => ?_⟩
    refine (rturn_there v fs A B f ⟨f.n, f.s ++ f.t, []⟩ name _ #[] 0 W' hv' hs g T enter_sync1 (fun V _ => rsync1_any f V hfl)).mono fun e w' ⟨v', he, _, hd, hb⟩ => ?_
    obtain ⟨a, n, c, rfl⟩ := disk_slice (hd rfl)
    exact ⟨a, n, c, he, hd rfl, hb⟩
theorem both_cut (fs : List DF) (name : List UInt8) (n : Int) (hs : Slim fs) (hl : fs.length ≤ 140737488355328) : ∃ E d, d.length ≤ 1000000 ∧ GivesD 17 (fun x => #[x, .string ⟨name.toArray⟩, .int .i64 n]) fs d E ∧ GivesD 18 (fun x => #[x, .string ⟨name.toArray⟩, .int .i64 n]) fs d E := by
  rcases loc_cases fs name with ⟨E, h⟩ | ⟨g, A, f, B, T⟩
  · exact ⟨E, [], by simp, gives_no fun v W hv => cut_no v fs name n E W hv hs h, fun v W hv => rcut_walk v fs name n [] E W hv fun W' q _ _ hv' => turn_no (rturn_no v fs name _ _ E W' hv' hs hl h)⟩
  · have hfl := fileOk_len (T.ok g)
    by_cases h : n < 0 ∨ ((f.s.length + f.t.length : Nat) : Int) < n
    · refine ⟨3, [], by simp, gives_no fun v W hv => cut_out v fs A B f name n W hv hs g T h, fun v W hv => rcut_walk v fs name n _ 3 W hv fun W' q hq hc hv' => ?_⟩
      refine (rturn_there v fs A B f f name _ #[.pointer (some ⟨q, 0, none⟩)] 3 W' hv' hs g T enter_cut1 (fun V hV => rcut1_no f q n V (Nat.lt_of_lt_of_le hq hV.size) ((hV.cell (p := ⟨q, 0, none⟩) hq).trans hc) hfl h)).mono fun e w' ⟨v', he, hn, _, hb⟩ => ?_
      have := hn (by decide)
      subst this
      exact ⟨_, _, _, he, DiskV.nil w', hb⟩
    · obtain ⟨k, rfl⟩ : ∃ k : Nat, n = k := ⟨n.toNat, by omega⟩
      refine ⟨0, A ++ ⟨f.n, (f.s ++ f.t).take k, []⟩ :: B, by have := g.few; rw [T.eq] at this; simp at this ⊢; omega, gives_own fun v W hv => cut_there v fs A B f name k W hv hs g T (by omega), fun v W hv => rcut_walk v fs name k _ 0 W hv fun W' q hq hc hv' => ?_⟩
      refine (rturn_there v fs A B f ⟨f.n, (f.s ++ f.t).take k, []⟩ name _ #[.pointer (some ⟨q, 0, none⟩)] 0 W' hv' hs g T enter_cut1 (fun V hV => rcut1_yes f q k V (Nat.lt_of_lt_of_le hq hV.size) ((hV.cell (p := ⟨q, 0, none⟩) hq).trans hc) hfl (by omega))).mono fun e w' ⟨v', he, _, hd, hb⟩ => ?_
      obtain ⟨a, n, c, rfl⟩ := disk_slice (hd rfl)
      exact ⟨a, n, c, he, hd rfl, hb⟩
end Go.Proofs.Ytbadhnmljlmefaa
