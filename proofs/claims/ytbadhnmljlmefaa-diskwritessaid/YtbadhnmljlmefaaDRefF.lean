/-
  What aviaryref.Write answers: the walk.
-/
import Derived.Test.YtbadhnmljlmefaaDRefD
namespace Go.Proofs.Ytbadhnmljlmefaa
open Go.RowKit

theorem below_drw {B : Nat} {a w : World} (h : Below B a w) (n : Nat) : Below B a (w.drewN n) := ⟨h.os, h.tape, h.output, h.size, h.block⟩
theorem Own.drewN {W : World} {g cap : Nat} {fs : List DF} (h : Own W g cap fs) (n : Nat) : Own (W.drewN n) g cap fs := h

set_option maxRecDepth 10000 in
set_option maxHeartbeats 2000000 in
theorem rwrite_no1 (v : Value) (fs : List DF) (name x : List UInt8) (E : Int) (w : World) (hv : DiskV w v fs) (hs : Slim fs) (hl : fs.length ≤ 140737488355328) (hnm : name.length ≤ 140737488355328)
    (h : (goodD fs = false ∧ E = 3) ∨ (GoodD fs ∧ namedB name = false ∧ E = 2)) :
    Calls Try.prog 11 #[.agg #[v], .string ⟨name.toArray⟩, .string ⟨x.toArray⟩] w fun e w' => e = .returned (.tuple #[.agg #[.slice none 0 0], .int .i64 E]) ∧ Below w.heap.size w w' := by
  have CG := fun W (hW : Below w.heap.size w W) => rgood_any v fs W (hv.next hW) hs hl
  have CN := fun W => refNamed_any name W hnm
  obtain ⟨a, n, c, rfl⟩ := disk_slice hv
  rcases h with ⟨hg, rfl⟩ | ⟨g, hn, rfl⟩
  · rw [hg] at CG
    clear hv hs hg CN
    go_enter Try.func11, Try.ntmps11
    go_wp2_with fail
    have X := Boxes.start w (.slice a n c) 24 24
    refine (CG _ X.below).mono ?_
    rintro e w1 ⟨rfl, hb1⟩
    have X1 := X.next hb1
    have cr := X1.cr
    have fr := X1.fr
    have HB := hide X1.below
    clear CG hb1 X X1
    go_wp2_with fail
    exact bodyPost_ret (v := .tuple #[.agg #[.slice none 0 0], .int .i64 3]) (by simp [results, Try.results11, go_sem, cr]) rfl ⟨rfl, (unhide HB).setCell (by simp) _⟩
  · rw [goodD_true.2 g] at CG
    rw [hn] at CN
    clear hv hs g hn
    go_enter Try.func11, Try.ntmps11
    go_wp2_with fail
    have X := Boxes.start w (.slice a n c) 24 24
    refine (CG _ X.below).mono ?_
    rintro e w1 ⟨rfl, hb1⟩
    have X1 := X.next hb1
    have HX := hide X1
    clear CG hb1 X X1
    go_wp2_with fail
    refine (CN _).mono ?_
    rintro e w2 ⟨rfl, hb2⟩
    have X2 := (unhide HX).next hb2
    have cr := X2.cr
    have fr := X2.fr
    have HB := hide X2.below
    clear CN hb2 HX X2
    go_wp2_with fail
    exact bodyPost_ret (v := .tuple #[.agg #[.slice none 0 0], .int .i64 2]) (by simp [results, Try.results11, go_sem, cr]) rfl ⟨rfl, (unhide HB).setCell (by simp) _⟩

set_option maxRecDepth 10000 in
set_option maxHeartbeats 2000000 in
theorem rwrite_there (v : Value) (fs A B : List DF) (f : DF) (name x : List UInt8) (w : World) (hv : DiskV w v fs) (hs : Slim fs) (g : GoodD fs) (T : There fs A f B name) (hx : x.length ≤ 140737488355328) :
    Calls Try.prog 11 #[.agg #[v], .string ⟨name.toArray⟩, .string ⟨x.toArray⟩] w fun e w' => ∃ v' E, e = .returned (.tuple #[.agg #[v'], .int .i64 E]) ∧ (1048576 < f.s.length + f.t.length + x.length → E = 1 ∧ v' = .slice none 0 0) ∧ (f.s.length + f.t.length + x.length ≤ 1048576 → E = 0 ∧ DiskV w' v' (A ++ ⟨f.n, f.s, f.t ++ x⟩ :: B)) ∧ Below w.heap.size w w' := by
  have hn : namedB name = true := by rw [← T.nm]; exact fileOk_named (T.ok g)
  have hfl := fileOk_len (T.ok g)
  have CG := fun W (hW : Below w.heap.size w W) => rgood_any v fs W (hv.next hW) hs (by have := g.few; omega)
  have CN := fun W => refNamed_any name W (by simp only [namedB, Bool.and_eq_true, decide_eq_true_eq] at hn; omega)
  have CY := fun W (hW : Below w.heap.size w W) => rcopy_any v fs W (hv.next hW) (by have := g.few; omega)
  have CF := fun v1 W (h : DiskV W v1 fs) => rfile_there v1 fs A B f name W h g.few T
  rw [goodD_true.2 g] at CG
  rw [hn] at CN
  have hk : fs[A.length]? = some f := by rw [T.eq]; simp
  have hlt : A.length < fs.length := (List.getElem?_eq_some_iff.1 hk).1
  have hlti : (A.length : Int) < (fs.length : Int) := by omega
  have hA0 : ¬ ((A.length : Int) < 0) := by omega
  have HK := hide hk
  have hset : fs.set A.length ⟨f.n, f.s, f.t ++ x⟩ = A ++ ⟨f.n, f.s, f.t ++ x⟩ :: B := by rw [T.eq]; simp
  have HSET := hide hset
  have HCF := hide CF
  obtain ⟨a, n, c, rfl⟩ := disk_slice hv
  clear hv hs g T hk hset hn CF
  go_enter Try.func11, Try.ntmps11
  go_wp2_with fail
  have X := Boxes.start w (.slice a n c) 24 24
  have S : Soft w ((w.alloc (.cells #[.slice a n c] 24)).alloc (.cells #[.slice none 0 0] 24)) := by unfold Soft; simp
  refine (CG _ X.below).mono ?_
  rintro e w1 ⟨rfl, hb1⟩
  have HX := hide (X.next hb1)
  have HS := hide (S.next hb1 (by simp; omega))
  clear CG hb1 X S
  go_wp2_with fail
  refine (CN _).mono ?_
  rintro e w2 ⟨rfl, hb2⟩
  have X2 := (unhide HX).next hb2
  have S2 := (unhide HS).next hb2 (by have := (unhide HX).size; omega)
  clear HX HS
  have HX := hide X2
  have HS := hide S2
  have cd := X2.cd
  clear CN hb2 X2 S2
  go_wp2_with fail
  refine (CY _ (unhide HX).below).mono ?_
  rintro e w3 ⟨v3, rfl, ho, hb3⟩
  obtain ⟨q, cap, rfl, hq, ho⟩ := own_some ho hlt
  have hz2 := (unhide HX).size
  have X3 := (unhide HX).next hb3
  have S3 := (unhide HS).next hb3 (by omega)
  have cd3 := X3.cd
  have fd3 : w3.frozen? ⟨w.heap.size, 0, none⟩ = false := S3
  have hqw : q ≠ w.heap.size := by omega
  have X4 := X3.setd (.slice (some ⟨q, 0, none⟩) fs.length cap)
  have ho4 : Own (w3.setCell ⟨w.heap.size, 0, none⟩ (.slice (some ⟨q, 0, none⟩) fs.length cap)) q cap fs := ho.other (by show q ≠ w.heap.size; omega) _
  have HX4 := hide X4
  have HO4 := hide ho4
  have hdv : DiskV (w3.setCell ⟨w.heap.size, 0, none⟩ (.slice (some ⟨q, 0, none⟩) fs.length cap)) (.slice (some ⟨q, 0, none⟩) fs.length cap) fs := OwnV.disk (B := 0) (.inr ⟨q, cap, rfl, Nat.zero_le _, ho4⟩)
  have HD4 := hide hdv
  clear CY hb3 HX HS cd X3 S3 X4 ho ho4 hdv
  go_wp2_with fail
  generalize w3.setCell ⟨w.heap.size, 0, none⟩ (.slice (some ⟨q, 0, none⟩) fs.length cap) = W4 at *
  refine (unhide HCF _ _ (unhide HD4)).mono ?_
  rintro e w5 ⟨rfl, hb5⟩
  have X5 := (unhide HX4).next hb5
  have O5 := (unhide HO4).next hb5
  have cd5 := X5.cd
  have cr5 := X5.cr
  have fr5 := X5.fr
  have e1 := O5.c1 (unhide HK)
  have e2 := O5.c2 (unhide HK)
  have f2 := O5.frozen (A.length * 3 + 2)
  have hq6 : q ≠ w.heap.size + 1 := by omega
  have HX5 := hide X5
  have HO5 := hide O5
  have hcat1 : ¬ 9223372036854775807 < f.t.length + x.length := by omega
  have hcat2 : ¬ 9223372036854775807 < f.s.length + (f.t.length + x.length) := by omega
  clear HCF hb5 HX4 HO4 HD4 X5 O5 cd3 fd3
  by_cases hbig : f.s.length + f.t.length + x.length ≤ 1048576
  · have hbi : ¬ ((1048576 : Int) < (f.s.length : Int) + ((f.t.length : Int) + (x.length : Int))) := by omega
    go_wp2_with fail
    go_quiet (fail)
    go_wp2_with fail
    have O6 := (unhide HO5).s2 (unhide HK) (f.t ++ x)
    rw [unhide HSET, ← cat_one] at O6
    have hq5 := (unhide HO5).lt
    have B6 : Below w.heap.size w (w5.setCell ⟨q, A.length * 3 + 2, none⟩ (.string (ByteArray.mk f.t.toArray ++ ByteArray.mk x.toArray))) := (unhide HX5).below.setCell (by show w.heap.size ≤ q; omega) _
    refine bodyPost_ret (v := .tuple #[.agg #[.slice (some ⟨q, 0, none⟩) fs.length cap], .int .i64 0]) (by simp [results, Try.results11, go_sem, cr5]) rfl ⟨_, 0, rfl, fun h => by omega, fun _ => ⟨rfl, ?_⟩, (below_drw B6 _).setCell (by simp) _⟩
    refine OwnV.disk (B := 0) (.inr ⟨q, cap, ?_, Nat.zero_le _, (O6.drewN _).other hq6 _⟩)
    rw [← unhide HSET]; simp
  · have hbi : (1048576 : Int) < (f.s.length : Int) + ((f.t.length : Int) + (x.length : Int)) := by omega
    go_wp2_with fail
    go_quiet (fail)
    go_wp2_with fail
    have hq5 := (unhide HO5).lt
    have B6 : Below w.heap.size w (w5.setCell ⟨q, A.length * 3 + 2, none⟩ (.string (ByteArray.mk f.t.toArray ++ ByteArray.mk x.toArray))) := (unhide HX5).below.setCell (by show w.heap.size ≤ q; omega) _
    exact bodyPost_ret (v := .tuple #[.agg #[.slice none 0 0], .int .i64 1]) (by simp [results, Try.results11, go_sem, cr5]) rfl ⟨_, 1, rfl, fun _ => ⟨rfl, rfl⟩, fun h => by omega, (below_drw B6 _).setCell (by simp) _⟩
end Go.Proofs.Ytbadhnmljlmefaa
