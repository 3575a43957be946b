/-
  A node that came out of a call, in a box of its own.
  Ten decimal digits: their length, their bytes, and that their order is the order of the numbers; no program is named here.
  What aviaryref.decimal, Serial and Join answer: the walks.
  aviaryref.Holder and aviaryref.Before: the walks.
  recipe.Fence, and the document's own: the walks.
  recipe.Ask and recipe.below, and the document's own: the walks.
  recipe.Holder: the walks.
  aviaryref's SameTree and SameEvents, of alike ones: the walks.
-/
import Derived.Test.YtkgaoedlnejigaaDoorRLD
import Derived.Test.YtkgaoedlnejigaaDoorRLE
import Derived.Test.YtkgaoedlnejigaaDoorRLA
import Derived.Lib.ItoaMem
import Derived.Lib.Repeat
import Derived.Test.YtkgaoedlnejigaaDoorRLF
import Derived.Test.YtkgaoedlnejigaaDoorRLC
import Derived.Test.YtkgaoedlnejigaaDoorRLB
import Derived.Test.YtkgaoedlnejigaaDoorShelf
import Derived.WalkSmall
import Derived.Lib.ItoaNum
import Derived.Deep.RegionLaw
import Derived.Deep.CutRange
import Derived.Test.YtkgaoedlnejigaaDoorRows
import Derived.WalkKit
import Derived.WalkSpells
import Derived.WalkLawsBesides
import Derived.Lib.Strings
import Derived.Deep.RegionHeld3
namespace Go.Proofs.YtkgaoedlnejigaaDoor
open Go.RowKit

structure NodX (w W : World) (q : Nat) (n : Nd) : Prop where
  b : Below w.heap.size w W
  le : w.heap.size ≤ q
  one : OneR W q n
theorem nod_new {w W : World} (p d : List UInt8) (c m q v k o n : Int) (hb : Below w.heap.size w W) : NodX w (W.alloc (.cells #[.string ⟨p.toArray⟩, .string ⟨d.toArray⟩, .int .i64 c, .int .i64 m, .int .i64 q, .int .i64 v, .int .i64 k, .int .i64 o, .int .i64 n] 44)) W.heap.size ⟨p, d, c, m, q, v, k, o, n⟩ :=
  ⟨nnext hb (allocB _ _), hb.size, one_newN W ⟨p, d, c, m, q, v, k, o, n⟩⟩
theorem nod_put {w W : World} {b : Nat} (p d : List UInt8) (c m q v k o n : Int) (hb : Below w.heap.size w W) (hq : w.heap.size ≤ b) (hz : OneR W b nzero) :
    NodX w (((((((((W.setCell ⟨b, 0, none⟩ (.string ⟨p.toArray⟩)).setCell ⟨b, 1, none⟩ (.string ⟨d.toArray⟩)).setCell ⟨b, 2, none⟩ (.int .i64 c)).setCell ⟨b, 3, none⟩ (.int .i64 m)).setCell ⟨b, 4, none⟩ (.int .i64 q)).setCell ⟨b, 5, none⟩ (.int .i64 v)).setCell ⟨b, 6, none⟩ (.int .i64 k)).setCell ⟨b, 7, none⟩ (.int .i64 o)).setCell ⟨b, 8, none⟩ (.int .i64 n)) b ⟨p, d, c, m, q, v, k, o, n⟩ := by
  refine ⟨((((((((hb.setCell hq _).setCell hq _).setCell hq _).setCell hq _).setCell hq _).setCell hq _).setCell hq _).setCell hq _).setCell hq _, hq, ?_⟩
  have h0 : W.heap[b]? = some (.cells #[.string ⟨#[]⟩, .string ⟨#[]⟩, .int .i64 0, .int .i64 0, .int .i64 0, .int .i64 0, .int .i64 0, .int .i64 0, .int .i64 0] 44 (0, 0)) := hz
  have h1 : (W.setCell ⟨b, 0, none⟩ (.string ⟨p.toArray⟩)).heap[b]? = some (.cells #[.string ⟨p.toArray⟩, .string ⟨#[]⟩, .int .i64 0, .int .i64 0, .int .i64 0, .int .i64 0, .int .i64 0, .int .i64 0, .int .i64 0] 44 (0, 0)) := by rw [block_set _ h0]; rfl
  have h2 : ((W.setCell ⟨b, 0, none⟩ (.string ⟨p.toArray⟩)).setCell ⟨b, 1, none⟩ (.string ⟨d.toArray⟩)).heap[b]? = some (.cells #[.string ⟨p.toArray⟩, .string ⟨d.toArray⟩, .int .i64 0, .int .i64 0, .int .i64 0, .int .i64 0, .int .i64 0, .int .i64 0, .int .i64 0] 44 (0, 0)) := by rw [block_set _ h1]; rfl
  have h3 : (((W.setCell ⟨b, 0, none⟩ (.string ⟨p.toArray⟩)).setCell ⟨b, 1, none⟩ (.string ⟨d.toArray⟩)).setCell ⟨b, 2, none⟩ (.int .i64 c)).heap[b]? = some (.cells #[.string ⟨p.toArray⟩, .string ⟨d.toArray⟩, .int .i64 c, .int .i64 0, .int .i64 0, .int .i64 0, .int .i64 0, .int .i64 0, .int .i64 0] 44 (0, 0)) := by rw [block_set _ h2]; rfl
  have h4 : ((((W.setCell ⟨b, 0, none⟩ (.string ⟨p.toArray⟩)).setCell ⟨b, 1, none⟩ (.string ⟨d.toArray⟩)).setCell ⟨b, 2, none⟩ (.int .i64 c)).setCell ⟨b, 3, none⟩ (.int .i64 m)).heap[b]? = some (.cells #[.string ⟨p.toArray⟩, .string ⟨d.toArray⟩, .int .i64 c, .int .i64 m, .int .i64 0, .int .i64 0, .int .i64 0, .int .i64 0, .int .i64 0] 44 (0, 0)) := by rw [block_set _ h3]; rfl
  have h5 : (((((W.setCell ⟨b, 0, none⟩ (.string ⟨p.toArray⟩)).setCell ⟨b, 1, none⟩ (.string ⟨d.toArray⟩)).setCell ⟨b, 2, none⟩ (.int .i64 c)).setCell ⟨b, 3, none⟩ (.int .i64 m)).setCell ⟨b, 4, none⟩ (.int .i64 q)).heap[b]? = some (.cells #[.string ⟨p.toArray⟩, .string ⟨d.toArray⟩, .int .i64 c, .int .i64 m, .int .i64 q, .int .i64 0, .int .i64 0, .int .i64 0, .int .i64 0] 44 (0, 0)) := by rw [block_set _ h4]; rfl
  have h6 : ((((((W.setCell ⟨b, 0, none⟩ (.string ⟨p.toArray⟩)).setCell ⟨b, 1, none⟩ (.string ⟨d.toArray⟩)).setCell ⟨b, 2, none⟩ (.int .i64 c)).setCell ⟨b, 3, none⟩ (.int .i64 m)).setCell ⟨b, 4, none⟩ (.int .i64 q)).setCell ⟨b, 5, none⟩ (.int .i64 v)).heap[b]? = some (.cells #[.string ⟨p.toArray⟩, .string ⟨d.toArray⟩, .int .i64 c, .int .i64 m, .int .i64 q, .int .i64 v, .int .i64 0, .int .i64 0, .int .i64 0] 44 (0, 0)) := by rw [block_set _ h5]; rfl
  have h7 : (((((((W.setCell ⟨b, 0, none⟩ (.string ⟨p.toArray⟩)).setCell ⟨b, 1, none⟩ (.string ⟨d.toArray⟩)).setCell ⟨b, 2, none⟩ (.int .i64 c)).setCell ⟨b, 3, none⟩ (.int .i64 m)).setCell ⟨b, 4, none⟩ (.int .i64 q)).setCell ⟨b, 5, none⟩ (.int .i64 v)).setCell ⟨b, 6, none⟩ (.int .i64 k)).heap[b]? = some (.cells #[.string ⟨p.toArray⟩, .string ⟨d.toArray⟩, .int .i64 c, .int .i64 m, .int .i64 q, .int .i64 v, .int .i64 k, .int .i64 0, .int .i64 0] 44 (0, 0)) := by rw [block_set _ h6]; rfl
  have h8 : ((((((((W.setCell ⟨b, 0, none⟩ (.string ⟨p.toArray⟩)).setCell ⟨b, 1, none⟩ (.string ⟨d.toArray⟩)).setCell ⟨b, 2, none⟩ (.int .i64 c)).setCell ⟨b, 3, none⟩ (.int .i64 m)).setCell ⟨b, 4, none⟩ (.int .i64 q)).setCell ⟨b, 5, none⟩ (.int .i64 v)).setCell ⟨b, 6, none⟩ (.int .i64 k)).setCell ⟨b, 7, none⟩ (.int .i64 o)).heap[b]? = some (.cells #[.string ⟨p.toArray⟩, .string ⟨d.toArray⟩, .int .i64 c, .int .i64 m, .int .i64 q, .int .i64 v, .int .i64 k, .int .i64 o, .int .i64 0] 44 (0, 0)) := by rw [block_set _ h7]; rfl
  have h9 : (((((((((W.setCell ⟨b, 0, none⟩ (.string ⟨p.toArray⟩)).setCell ⟨b, 1, none⟩ (.string ⟨d.toArray⟩)).setCell ⟨b, 2, none⟩ (.int .i64 c)).setCell ⟨b, 3, none⟩ (.int .i64 m)).setCell ⟨b, 4, none⟩ (.int .i64 q)).setCell ⟨b, 5, none⟩ (.int .i64 v)).setCell ⟨b, 6, none⟩ (.int .i64 k)).setCell ⟨b, 7, none⟩ (.int .i64 o)).setCell ⟨b, 8, none⟩ (.int .i64 n)).heap[b]? = some (.cells #[.string ⟨p.toArray⟩, .string ⟨d.toArray⟩, .int .i64 c, .int .i64 m, .int .i64 q, .int .i64 v, .int .i64 k, .int .i64 o, .int .i64 n] 44 (0, 0)) := by rw [block_set _ h8]; rfl
  exact h9
theorem zcells9 {W : World} {q : Nat} (h : OneR W q nzero) : (W.cell? ⟨q, 0, none⟩ = some (.string ⟨#[]⟩) ∧ W.cell? ⟨q, 1, none⟩ = some (.string ⟨#[]⟩) ∧ W.cell? ⟨q, 2, none⟩ = some (.int .i64 0) ∧ W.cell? ⟨q, 3, none⟩ = some (.int .i64 0) ∧ W.cell? ⟨q, 4, none⟩ = some (.int .i64 0) ∧ W.cell? ⟨q, 5, none⟩ = some (.int .i64 0) ∧ W.cell? ⟨q, 6, none⟩ = some (.int .i64 0) ∧ W.cell? ⟨q, 7, none⟩ = some (.int .i64 0) ∧ W.cell? ⟨q, 8, none⟩ = some (.int .i64 0)) ∧ W.frozen? ⟨q, 0, none⟩ = false ∧ W.frozen? ⟨q, 1, none⟩ = false ∧ W.frozen? ⟨q, 2, none⟩ = false ∧ W.frozen? ⟨q, 3, none⟩ = false ∧ W.frozen? ⟨q, 4, none⟩ = false ∧ W.frozen? ⟨q, 5, none⟩ = false ∧ W.frozen? ⟨q, 6, none⟩ = false ∧ W.frozen? ⟨q, 7, none⟩ = false ∧ W.frozen? ⟨q, 8, none⟩ = false :=
  ⟨⟨h.cellN 0 _ rfl, h.cellN 1 _ rfl, h.cellN 2 _ rfl, h.cellN 3 _ rfl, h.cellN 4 _ rfl, h.cellN 5 _ rfl, h.cellN 6 _ rfl, h.cellN 7 _ rfl, h.cellN 8 _ rfl⟩, h.frozenN 0, h.frozenN 1, h.frozenN 2, h.frozenN 3, h.frozenN 4, h.frozenN 5, h.frozenN 6, h.frozenN 7, h.frozenN 8⟩
end Go.Proofs.YtkgaoedlnejigaaDoor

namespace Go.Proofs.YtkgaoedlnejigaaDoor
open Go.RowKit

/-- n in ten decimal digits, noughts ahead -/
def ten (n : Nat) : List UInt8 := (List.range 10).map fun t => Lib.dg n (9 - t)
/-- the number that a list of digits means -/
def val : List UInt8 → Nat
  | [] => 0
  | c :: l => (c.toNat - 48) * 10 ^ l.length + val l
end Go.Proofs.YtkgaoedlnejigaaDoor

namespace Go.Proofs.YtkgaoedlnejigaaDoor
open Go.RowKit
theorem cat_slash (d m : List UInt8) : (ByteArray.mk d.toArray) ++ (ByteArray.mk #[47]) ++ (ByteArray.mk m.toArray) = ⟨(d ++ [47] ++ m).toArray⟩ := by
  rw [show (ByteArray.mk d.toArray) ++ (ByteArray.mk #[47]) = ⟨(d ++ [47]).toArray⟩ from cat_one d [47], cat_one]
set_option maxRecDepth 20000 in
set_option maxHeartbeats 1000000 in
theorem refJoin_any (d m : List UInt8) (w : World) (hdl : d.length ≤ 1048576) (hm : m.length ≤ 1048576) :
    Calls Tryd.prog 30 #[.string ⟨d.toArray⟩, .string ⟨m.toArray⟩] w fun e w' => e = .returned (.tuple #[.string ⟨(joinS d m).toArray⟩, .int .i64 (joinE d m)]) ∧ Below w.heap.size w w' := by
  cases hd : goodB d
  · obtain ⟨h1, h2⟩ := join_bad (d := d) (m := m) (by rw [hd]; rfl)
    have H1 := hide h1
    have H2 := hide h2
    have Hd := hide hd
    clear h1 h2 hd
    go_enter Tryd.func30, Tryd.ntmps30
    go_wp2_with fail
    refine (refGood_any d _ hdl).mono ?_
    rintro e w1 ⟨rfl, hb1⟩
    rw [unhide Hd]
    go_wp2_with fail
    go_ret2
    exact ⟨ret_strE (by rw [unhide H1]) (unhide H2).symm, hb1⟩
  cases hn : namedB m
  · obtain ⟨h1, h2⟩ := join_bad (d := d) (m := m) (by rw [hn, Bool.and_false])
    have H1 := hide h1
    have H2 := hide h2
    have Hd := hide hd
    have Hn := hide hn
    clear h1 h2 hd hn
    go_enter Tryd.func30, Tryd.ntmps30
    go_wp2_with fail
    refine (refGood_any d _ hdl).mono ?_
    rintro e w1 ⟨rfl, hb1⟩
    rw [unhide Hd]
    go_wp2_with fail
    refine (refNamed_any m _ (by omega)).mono ?_
    rintro e w2 ⟨rfl, hb2⟩
    replace hb2 := below_next hb1 hb2
    clear hb1
    rw [unhide Hn]
    go_wp2_with fail
    go_ret2
    exact ⟨ret_strE (by rw [unhide H1]) (unhide H2).symm, hb2⟩
  have hd2 := goodB_le hd
  have hml := namedB_le hn
  have hdn : (goodB d && namedB m) = true := by rw [hd, hn]; rfl
  have Hd := hide hd
  have Hn := hide hn
  clear hd hn
  have hzm : (ByteArray.mk m.toArray).size = m.length := Lib.size_eq ⟨m.toArray⟩
  have hzd : (ByteArray.mk d.toArray).size = d.length := Lib.size_eq ⟨d.toArray⟩
  by_cases hr : d = [47]
  · subst hr
    obtain ⟨h1, h2⟩ := join_fits hdn (by rw [openL_root]; simp; omega)
    rw [openL_root] at h1
    have H1 := hide h1
    have H2 := hide h2
    clear h1 h2 hdn
    go_enter Tryd.func30, Tryd.ntmps30
    go_wp2_with fail
    refine (refGood_any [47] _ hdl).mono ?_
    rintro e w1 ⟨rfl, hb1⟩
    rw [unhide Hd]
    go_wp2_with fail
    refine (refNamed_any m _ (by omega)).mono ?_
    rintro e w2 ⟨rfl, hb2⟩
    replace hb2 := below_next hb1 hb2
    clear hb1
    rw [unhide Hn]
    go_wp2_with fail
    go_ret2
    exact ⟨ret_strE (by rw [unhide H1]; exact cat_one [47] m) (unhide H2).symm, hb2⟩
  · have hr1 : (d == [47]) = false := by simpa using hr
    have ho := openL_other hr
    clear hr
    by_cases hf : d.length + 1 + m.length ≤ 200
    · obtain ⟨h1, h2⟩ := join_fits hdn (by rw [ho]; simp; omega)
      rw [ho] at h1
      have H1 := hide h1
      have H2 := hide h2
      clear h1 h2 hdn ho
      go_enter Tryd.func30, Tryd.ntmps30
      go_wp2_with fail
      refine (refGood_any d _ hdl).mono ?_
      rintro e w1 ⟨rfl, hb1⟩
      rw [unhide Hd]
      go_wp2_with fail
      refine (refNamed_any m _ (by omega)).mono ?_
      rintro e w2 ⟨rfl, hb2⟩
      replace hb2 := below_next hb1 hb2
      clear hb1
      rw [unhide Hn]
      go_wp2_with fail
      go_ret2
      exact ⟨ret_strE (by rw [unhide H1]; exact cat_slash d m) (unhide H2).symm, hb2⟩
    · obtain ⟨h1, h2⟩ := join_long hdn (by rw [ho]; simp; omega)
      have H1 := hide h1
      have H2 := hide h2
      clear h1 h2 hdn ho
      go_enter Tryd.func30, Tryd.ntmps30
      go_wp2_with fail
      refine (refGood_any d _ hdl).mono ?_
      rintro e w1 ⟨rfl, hb1⟩
      rw [unhide Hd]
      go_wp2_with fail
      refine (refNamed_any m _ (by omega)).mono ?_
      rintro e w2 ⟨rfl, hb2⟩
      replace hb2 := below_next hb1 hb2
      clear hb1
      rw [unhide Hn]
      go_wp2_with fail
      go_ret2
      exact ⟨ret_strE (by rw [unhide H1]) (unhide H2).symm, hb2⟩

end Go.Proofs.YtkgaoedlnejigaaDoor

namespace Go.Proofs.YtkgaoedlnejigaaDoor
open Go.RowKit

set_option maxRecDepth 20000 in
set_option maxHeartbeats 1000000 in
theorem rholder_no (z : Int) (vn vs : Value) (ns : List Nd) (d m : List UInt8) (w : World) (hn : SeqV w vn ns) (hL : linL ns d m = [])
    (CL0 : ∀ W, SeqV W vn ns → Calls Tryd.prog 9 #[.agg #[.int .i64 z, vn, vs], .string ⟨d.toArray⟩, .string ⟨m.toArray⟩] W fun e w' => ∃ v', e = .returned (.tuple #[v', .int .i64 (linE ns d m)]) ∧ OwnS w' W.heap.size v' (linL ns d m) ∧ Below W.heap.size W w') :
    Calls Tryd.prog 11 #[.agg #[.int .i64 z, vn, vs], .string ⟨d.toArray⟩, .string ⟨m.toArray⟩] w fun e w' => e = .returned (.tuple #[.int .i64 0, .int .i64 0, .int .i64 (linE ns d m)]) ∧ Below w.heap.size w w' := by
  have CL := hide (fun W (hW : Below w.heap.size w W) => CL0 W (hn.next hW))
  obtain ⟨E, hE⟩ : ∃ E, linE ns d m = E := ⟨_, rfl⟩
  rw [hE, hL] at CL
  rw [hE]
  obtain ⟨na, nc, rfl⟩ := seq_slice hn
  clear hn hL hE CL0
  by_cases h0 : E = 0
  · subst h0
    go_enter Tryd.func11, Tryd.ntmps11
    go_wp2_with fail
    refine (unhide CL _ (allocB _ _)).mono ?_
    rintro e w1 ⟨v1, rfl, hk1, hb1⟩
    have HB1 := hide (nbox_then hb1)
    obtain ⟨ka, kc, rfl, _⟩ := hk1.slice
    clear hb1 hk1 CL
    go_wp2_with fail
    exact bodyPost_ret (v := .tuple #[.int .i64 0, .int .i64 0, .int .i64 0]) (by simp [results, Tryd.results11, go_sem]) rfl ⟨rfl, unhide HB1⟩
  · have h0b : (E == 0) = false := by simpa using h0
    have h0c : (E != 0) = true := by simpa using h0
    clear h0
    go_enter Tryd.func11, Tryd.ntmps11
    go_wp2_with fail
    refine (unhide CL _ (allocB _ _)).mono ?_
    rintro e w1 ⟨v1, rfl, hk1, hb1⟩
    have HB1 := hide (nbox_then hb1)
    obtain ⟨ka, kc, rfl, _⟩ := hk1.slice
    clear hb1 hk1 CL
    go_wp2_with fail
    exact bodyPost_ret (v := .tuple #[.int .i64 0, .int .i64 0, .int .i64 E]) (by simp [results, Tryd.results11, go_sem]) rfl ⟨rfl, unhide HB1⟩

set_option maxRecDepth 20000 in
set_option maxHeartbeats 8000000 in
theorem rholder_at (z : Int) (vn vs : Value) (ns : List Nd) (j : Nat) (n : Nd) (d m x : List UInt8) (r : List (List UInt8)) (w : World) (hn : SeqV w vn ns) (hl : ns.length ≤ 400) (hE : linE ns d m = 0) (hL : linL ns d m = x :: r) (hd : d.length ≤ 200) (hx : x.length ≤ 200) (hJ : joinS d x = belL d x ∧ joinE d x = 0) (T : At ns (belL d x) j n)
    (CL0 : ∀ W, SeqV W vn ns → Calls Tryd.prog 9 #[.agg #[.int .i64 z, vn, vs], .string ⟨d.toArray⟩, .string ⟨m.toArray⟩] W fun e w' => ∃ v', e = .returned (.tuple #[v', .int .i64 (linE ns d m)]) ∧ OwnS w' W.heap.size v' (linL ns d m) ∧ Below W.heap.size W w') :
    Calls Tryd.prog 11 #[.agg #[.int .i64 z, vn, vs], .string ⟨d.toArray⟩, .string ⟨m.toArray⟩] w fun e w' => e = .returned (.tuple #[.int .i64 n.o, .int .i64 n.c, .int .i64 0]) ∧ Below w.heap.size w w' := by
  have CL := hide (fun W (hW : Below w.heap.size w W) => CL0 W (hn.next hW))
  have CJ := hide (fun W => refJoin_any d x W (by omega) (by omega))
  rw [hJ.1, hJ.2] at CJ
  have CG := hide (fun W (hW : Below w.heap.size w W) => rget_at z vn vs ns (belL d x) j n W (hn.next hW) (by omega) T)
  unfold nodeV at CG
  generalize belL d x = P at CJ CG
  obtain ⟨L, hLL⟩ : ∃ L, linL ns d m = L := ⟨_, rfl⟩
  have HX : Hid (L[0]? = some x) := hide (by rw [← hLL, hL]; rfl)
  have hlen : 0 < L.length := by rw [← hLL, hL]; simp
  rw [hE, hLL] at CL
  obtain ⟨na, nc, rfl⟩ := seq_slice hn
  clear hn hL hE hLL T hd hx CL0 hJ
  go_enter Tryd.func11, Tryd.ntmps11
  go_wp2_with fail
  refine (unhide CL _ (allocB _ _)).mono ?_
  rintro e w1 ⟨v1, rfl, hk1, hb1⟩
  have HB1 := hide (nbox_then hb1)
  have HR := hide (srow hk1.seq)
  obtain ⟨b, off, cap, he, hb, q⟩ := unhide HR w1 (Below.refl _ _) 0 x (unhide HX)
  have hb0 : w.heap.size < w1.heap.size := by have := hb1.size; simp at this; omega
  have hc1 : ∀ jj, w1.cell? ⟨w.heap.size, jj, none⟩ = (w.alloc (.cells #[.int .i64 z, .slice na ns.length nc, vs] 25)).cell? ⟨w.heap.size, jj, none⟩ := fun jj => hb1.cell (p := ⟨w.heap.size, jj, none⟩) (by simp)
  have HC1 := hide hc1
  obtain ⟨ka, kc, rfl, _⟩ := hk1.slice
  simp only [Value.slice.injEq] at he
  obtain ⟨rfl, _, rfl⟩ := he
  have d0 : w1.cell? ⟨b, off, none⟩ = some (.string ⟨x.toArray⟩) := q.s0 (unhide HX)
  have hli : (0 : Int) < (L.length : Int) := by omega
  have hl0 : ((L.length : Int) == 0) = false := beq_eq_false_iff_ne.2 (by omega)
  clear hk1 CL HR hb1 q hc1
  go_wp2_with fail
  refine (unhide CJ _).mono ?_
  rintro e w2 ⟨rfl, hb2⟩
  have HB2 := hide (nnext (unhide HB1) hb2)
  have KS : Hid (∀ V, Below w2.heap.size w2 V → V.cell? ⟨w.heap.size, 0, none⟩ = some (.int .i64 z) ∧ V.cell? ⟨w.heap.size, 1, none⟩ = some (.slice na ns.length nc) ∧ V.cell? ⟨w.heap.size, 2, none⟩ = some vs) := hide (fun V hV => by
    have hc : ∀ j, V.cell? ⟨w.heap.size, j, none⟩ = _ := fun j => ((nnext hb2 hV).cell (p := ⟨w.heap.size, j, none⟩) hb0).trans (unhide HC1 j)
    exact ⟨(hc 0).trans (by simp), (hc 1).trans (by simp), (hc 2).trans (by simp)⟩)
  have CG1 := hide (fun W (hW : Below w2.heap.size w2 W) => unhide CG W (nnext (unhide HB2) hW))
  obtain ⟨e0, e1, e2⟩ := unhide KS w2 (Below.refl _ _)
  clear hb2 CG CJ d0
  go_wp2_with fail
  refine (unhide CG1 _ (Below.refl _ _)).mono ?_
  rintro e w3 ⟨rfl, hb3⟩
  have A3 := one_newN w3 n
  have B3 := hide (nnext (nnext (unhide HB2) hb3) (allocB w3 (.cells #[.string ⟨n.p.toArray⟩, .string ⟨n.d.toArray⟩, .int .i64 n.c, .int .i64 n.m, .int .i64 n.q, .int .i64 n.v, .int .i64 n.k, .int .i64 n.o, .int .i64 n.n] 44)))
  have c7 := A3.cellN 7 _ rfl
  have c2 := A3.cellN 2 _ rfl
  clear A3 hb3 KS CG1 e0 e1 e2
  go_wp2_with fail
  go_region
  go_wp2_with fail
  exact bodyPost_ret (v := .tuple #[.int .i64 n.o, .int .i64 n.c, .int .i64 0]) (by simp [results, Tryd.results11, go_sem]) rfl ⟨rfl, (unhide B3).drew⟩
theorem rholder_any (t : Tr) (vn vs : Value) (d m : List UInt8) (w : World) (hn : SeqV w vn t.ns) (g : GoodT t) (hml : m.length ≤ 140737488355328) :
    Calls Tryd.prog 11 #[.agg #[.int .i64 t.z, vn, vs], .string ⟨d.toArray⟩, .string ⟨m.toArray⟩] w fun e w' => e = .returned (.tuple #[.int .i64 (holO t.ns d m), .int .i64 (holC t.ns d m), .int .i64 (linE t.ns d m)]) ∧ Below w.heap.size w w' := by
  have CL0 := fun W (h : SeqV W vn t.ns) => rline_any t.z vn vs t.ns d m W h g.nod.asc g.nod.few (fun n hm => by have := goodB_le (g.nod.ok n hm).path; omega) (fun n hm => (g.nod.ok n hm).path) hml
  cases hL : linL t.ns d m with
  | nil =>
    rw [(hol_nil hL).1, (hol_nil hL).2]
    exact rholder_no t.z vn vs t.ns d m w hn hL CL0
  | cons x r =>
    have hxm : x ∈ linL t.ns d m := by rw [hL]; simp
    obtain ⟨hE, hd, hx, _, n, hm, hp, hlk, _, _⟩ := lin_node g.nod hxm
    rw [(hol_some hL hlk).1, (hol_some hL hlk).2, hE]
    obtain ⟨A, B, T⟩ := there_of_look g.nod.asc hlk
    exact rholder_at t.z vn vs t.ns A.length n d m x r w hn g.nod.few hE hL hd hx (lin_join g.nod hxm) (at_there T) CL0

set_option maxRecDepth 20000 in
set_option maxHeartbeats 2000000 in
theorem rbefore_any (z : Int) (vn vs : Value) (ns : List Nd) (d m s : List UInt8) (w : World) (hn : SeqV w vn ns) (hl : ns.length ≤ 400)
    (CL0 : ∀ W, SeqV W vn ns → Calls Tryd.prog 9 #[.agg #[.int .i64 z, vn, vs], .string ⟨d.toArray⟩, .string ⟨m.toArray⟩] W fun e w' => ∃ v', e = .returned (.tuple #[v', .int .i64 (linE ns d m)]) ∧ OwnS w' W.heap.size v' (linL ns d m) ∧ Below W.heap.size W w') :
    Calls Tryd.prog 13 #[.agg #[.int .i64 z, vn, vs], .string ⟨d.toArray⟩, .string ⟨m.toArray⟩, .string ⟨s.toArray⟩] w fun e w' => e = .returned (.tuple #[.string ⟨(befS (linL ns d m) s).toArray⟩, .bool (befB (linL ns d m) s)]) ∧ Below w.heap.size w w' := by
  have CL := hide (fun W (hW : Below w.heap.size w W) => CL0 W (hn.next hW))
  have hkl := lin_few ns d m hl
  obtain ⟨L, hL⟩ : ∃ L, linL ns d m = L := ⟨_, rfl⟩
  obtain ⟨E, hE⟩ : ∃ E, linE ns d m = E := ⟨_, rfl⟩
  rw [hL] at hkl ⊢
  rw [hL, hE] at CL
  obtain ⟨na, nc, rfl⟩ := seq_slice hn
  clear hn hL hE CL0
  unfold befS befB
  have HF : Hid (∀ (A R : List (List UInt8)) (y : List UInt8), L = A ++ y :: s :: R → s ∉ A ++ [y] → befO L s = some y) := hide (fun A R y h1 h2 => by rw [h1]; exact bef_at h2)
  have HN : Hid ((∀ k, 1 ≤ k → L[k]? ≠ some s) ∨ L[0]? = some s → befO L s = none) := hide (fun h => by
    rcases h with h | h
    · by_cases h0 : L[0]? = some s
      · obtain ⟨r, rfl⟩ : ∃ r, L = s :: r := by
          cases L with
          | nil => simp at h0
          | cons a r => simp at h0; exact ⟨r, by rw [h0]⟩
        exact bef_first r s
      · refine bef_no (fun hm => ?_)
        obtain ⟨k, hk⟩ := List.getElem?_of_mem hm
        cases k with
        | zero => exact h0 hk
        | succ k => exact h (k + 1) (by omega) hk
    · obtain ⟨r, rfl⟩ : ∃ r, L = s :: r := by
        cases L with
        | nil => simp at h
        | cons a r => simp at h; exact ⟨r, by rw [h]⟩
      exact bef_first r s)
  obtain ⟨G, hG⟩ : ∃ G, befO L s = G := ⟨_, rfl⟩
  rw [hG] at HF HN ⊢
  clear hG
  go_enter Tryd.func13, Tryd.ntmps13
  go_wp2_with fail
  refine (unhide CL _ (allocB _ _)).mono ?_
  rintro e w1 ⟨v1, rfl, hk1, hb1⟩
  have HB1 := hide (nbox_then hb1)
  have HR := hide (srow hk1.seq)
  obtain ⟨ka, kc, rfl, _⟩ := hk1.slice
  clear hb1 hk1 CL
  go_wp2_with fail
  go_loopg [12] L.length (fun kx s8 wr => ∃ k : Nat, s8 = .int .i64 k ∧ 1 ≤ k ∧ k ≤ L.length + 1 ∧ L.length - k ≤ kx ∧ Hid ((∀ i, 1 ≤ i → i < k → L[i]? ≠ some s) ∨ L[0]? = some s) ∧ Hid (Below w1.heap.size w1 wr))
  case atStart => exact ⟨1, rfl, Nat.le_refl _, by omega, by omega, hide (.inl (fun i h1 h2 => by omega)), hide (Below.refl _ _)⟩
  case round =>
    obtain ⟨k, rfl, hk1, hk, hg, hI, hB⟩ := hrel
    by_cases hlt : k < L.length
    · obtain ⟨x, hx⟩ : ∃ x, L[k]? = some x := ⟨_, List.getElem?_eq_getElem hlt⟩
      obtain ⟨y, hy⟩ : ∃ y, L[k - 1]? = some y := ⟨_, List.getElem?_eq_getElem (by omega)⟩
      obtain ⟨x0, hx0⟩ : ∃ x0, L[0]? = some x0 := ⟨_, List.getElem?_eq_getElem (by omega)⟩
      obtain ⟨b, off, cap, he, hb, q⟩ := unhide HR wr (unhide hB) k x hx
      simp only [Value.slice.injEq] at he
      obtain ⟨rfl, _, rfl⟩ := he
      obtain ⟨j, rfl⟩ : ∃ j, k = j + 1 := ⟨k - 1, by omega⟩
      have d0 := q.s0 hx
      have d1 : wr.cell? ⟨b, off + j, none⟩ = some (.string ⟨y.toArray⟩) := q.s0 hy
      have d2 : wr.cell? ⟨b, off, none⟩ = some (.string ⟨x0.toArray⟩) := q.s0 hx0
      have hkk : ((j + 1 : Nat) : Int) < (L.length : Int) := by omega
      have hk0 : (0 : Int) < (L.length : Int) := by omega
      have hkj : (j : Int) < (L.length : Int) := by omega
      clear q
      by_cases hxs : x = s
      · by_cases h0s : x0 = s
        · have a1 : (x == s) = true := by simpa using hxs
          have a2 : (x0 == s) = true := by simpa using h0s
          have HI2 : Hid ((∀ i, 1 ≤ i → i < j + 1 + 1 → L[i]? ≠ some s) ∨ L[0]? = some s) := hide (.inr (by rw [hx0, h0s]))
          clear hx hy hx0 hxs h0s
          go_wp2_with fail
          go_roundg (L.length - (j + 1 + 1))
          case measure => omega
          case rel => exact ⟨j + 1 + 1, rfl, by omega, by omega, by omega, HI2, hB⟩
        · have a1 : (x == s) = true := by simpa using hxs
          have a2 : (x0 == s) = false := by simpa using h0s
          have hGy : G = some y := by
            have hno : ∀ i, i < j + 1 → L[i]? ≠ some s := by
              intro i hi
              rcases unhide hI with h | h
              · by_cases hi0 : i = 0
                · subst hi0; rw [hx0]; simpa using h0s
                · exact h i (by omega) hi
              · rw [hx0] at h; simp at h; exact absurd h h0s
            have hj1 : j < L.length := by omega
            have hLs : L = L.take j ++ y :: s :: L.drop (j + 2) := by
              have hy' : L[j] = y := by have := (List.getElem?_eq_some_iff.1 hy).2; simpa using this
              have hx' : L[j + 1] = x := (List.getElem?_eq_some_iff.1 hx).2
              conv => lhs; rw [← List.take_append_drop j L, List.drop_eq_getElem_cons hj1, List.drop_eq_getElem_cons hlt, hy', hx', hxs]
            refine unhide HF (L.take j) (L.drop (j + 2)) y hLs (fun hm => ?_)
            rcases List.mem_append.1 hm with hm | hm
            · obtain ⟨i, hi⟩ := List.getElem?_of_mem hm
              rw [List.getElem?_take] at hi
              split at hi
              · exact hno i (by omega) hi
              · simp at hi
            · simp at hm
              exact hno j (by omega) (by rw [← hm] at hy; simpa using hy)
          subst hGy
          clear hx hy hx0 hxs h0s HF HN
          go_wp2_with fail
          go_ret2
          exact ⟨rfl, nnext (unhide HB1) (unhide hB)⟩
      · have a1 : (x == s) = false := by simpa using hxs
        have HI2 : Hid ((∀ i, 1 ≤ i → i < j + 1 + 1 → L[i]? ≠ some s) ∨ L[0]? = some s) := hide (by
          rcases unhide hI with h | h
          · refine .inl (fun i h1 h2 => ?_)
            by_cases hi : i = j + 1
            · subst hi; rw [hx]; simpa using hxs
            · exact h i h1 (by omega)
          · exact .inr h)
        clear hx hy hx0 hxs
        go_wp2_with fail
        go_roundg (L.length - (j + 1 + 1))
        case measure => omega
        case rel => exact ⟨j + 1 + 1, rfl, by omega, by omega, by omega, HI2, hB⟩
    · have hGn : G = none := unhide HN (by
        rcases unhide hI with h | h
        · refine .inl (fun i h1 h2 => ?_)
          by_cases hi : i < k
          · exact h i h1 hi h2
          · rw [List.getElem?_eq_none (by omega)] at h2; cases h2
        · exact .inr h)
      subst hGn
      have hkk : ¬ (k : Int) < (L.length : Int) := by omega
      clear HF HN
      go_wp2_with fail
      go_ret2
      exact ⟨rfl, nnext (unhide HB1) (unhide hB)⟩
end Go.Proofs.YtkgaoedlnejigaaDoor

namespace Go.Proofs.YtkgaoedlnejigaaDoor
open Go.RowKit

theorem ret_ib {a b : Int} {c : Bool} (h : a = b) : Ending.returned (.tuple #[.int .i64 a, .bool c]) = .returned (.tuple #[.int .i64 b, .bool c]) := by rw [h]
set_option maxRecDepth 10000 in
set_option maxHeartbeats 400000 in
theorem fence_any (a b : Int) (w : World) :
    Calls Tryd.prog 20 #[.int .i64 a, .int .i64 b] w fun e w' => e = .returned (.tuple #[.int .i64 (fenN a b), .bool (decide (a ≤ b))]) ∧ w' = w := by
  unfold fenN
  go_enter Tryd.func20, Tryd.ntmps20
  go_wp2
  all_goals go_ret2
  all_goals exact ⟨ret_ib (by omega), rfl⟩

set_option maxRecDepth 10000 in
theorem locks_true (w : World) : Calls Tryd.prog 6 #[] w fun e w' => e = .returned (.bool true) ∧ w' = w := by
  go_enter Tryd.func6, Tryd.ntmps6
  go_wp2_with fail
  refine (fence_any _ _ _).mono ?_
  rintro e w1 ⟨rfl, rfl⟩
  rw [show fenN 5 6 = 6 from rfl]
  go_wp2_with fail
  go_ret
  exact ⟨rfl, rfl⟩

end Go.Proofs.YtkgaoedlnejigaaDoor

namespace Go.Proofs.YtkgaoedlnejigaaDoor
open Go.RowKit
set_option maxRecDepth 10000 in

set_option maxHeartbeats 400000 in
theorem below_any (d m : List UInt8) (w : World) (hd : d.length ≤ 140737488351232) (hm : m.length ≤ 140737488351232) :
    Calls Tryd.prog 29 #[.string ⟨d.toArray⟩, .string ⟨m.toArray⟩] w fun e w' => e = .returned (.string ⟨(belL d m).toArray⟩) ∧ w' = w := by
  have hz : (ByteArray.mk d.toArray).size = d.length := Lib.size_eq ⟨d.toArray⟩
  have hy : (ByteArray.mk m.toArray).size = m.length := Lib.size_eq ⟨m.toArray⟩
  by_cases h : d = [47]
  · subst h
    go_enter Tryd.func29, Tryd.ntmps29
    go_wp2
    go_ret
    exact ⟨rret_str (by rw [belL_root]; exact rcat [47] m), rfl⟩
  · have h1 : (d == [47]) = false := by simpa using h
    have Ho := hide (belL_other h m)
    clear h
    go_enter Tryd.func29, Tryd.ntmps29
    go_wp2
    go_ret
    exact ⟨rret_str (by rw [unhide Ho, show d ++ 47 :: m = (d ++ [47]) ++ m by simp, ← rcat, ← rcat]), rfl⟩

end Go.Proofs.YtkgaoedlnejigaaDoor

namespace Go.Proofs.YtkgaoedlnejigaaDoor
open Go.RowKit

set_option maxRecDepth 20000 in
set_option maxHeartbeats 1000000 in
theorem holder_no (z : Int) (vn vs : Value) (ns : List Nd) (d m : List UInt8) (w : World) (hn : SeqV w vn ns) (ha : NAsc ns) (hl : ns.length ≤ 400) (hml : m.length ≤ 140737488355328) (hL : linL ns d m = []) :
    Calls Tryd.prog 10 #[.agg #[.int .i64 z, vn, vs], .string ⟨d.toArray⟩, .string ⟨m.toArray⟩] w fun e w' => e = .returned (.tuple #[.int .i64 0, .int .i64 0, .int .i64 (linE ns d m)]) ∧ Below w.heap.size w w' := by
  have CL := hide (fun W (hW : Below w.heap.size w W) => line_any z vn vs ns d m W (hn.next hW) ha hl hml)
  obtain ⟨E, hE⟩ : ∃ E, linE ns d m = E := ⟨_, rfl⟩
  rw [hE, hL] at CL
  rw [hE]
  obtain ⟨na, nc, rfl⟩ := seq_slice hn
  clear hn ha hL hE
  by_cases h0 : E = 0
  · subst h0
    go_enter Tryd.func10, Tryd.ntmps10
    go_wp2_with fail
    refine (unhide CL _ (allocB _ _)).mono ?_
    rintro e w1 ⟨v1, rfl, hk1, hb1⟩
    have HB1 := hide (nbox_then hb1)
    obtain ⟨ka, kc, rfl, _⟩ := hk1.slice
    clear hb1 hk1 CL
    go_wp2_with fail
    exact bodyPost_ret (v := .tuple #[.int .i64 0, .int .i64 0, .int .i64 0]) (by simp [results, Tryd.results10, go_sem]) rfl ⟨rfl, unhide HB1⟩
  · have h0b : (E == 0) = false := by simpa using h0
    have h0c : (E != 0) = true := by simpa using h0
    clear h0
    go_enter Tryd.func10, Tryd.ntmps10
    go_wp2_with fail
    refine (unhide CL _ (allocB _ _)).mono ?_
    rintro e w1 ⟨v1, rfl, hk1, hb1⟩
    have HB1 := hide (nbox_then hb1)
    obtain ⟨ka, kc, rfl, _⟩ := hk1.slice
    clear hb1 hk1 CL
    go_wp2_with fail
    exact bodyPost_ret (v := .tuple #[.int .i64 0, .int .i64 0, .int .i64 E]) (by simp [results, Tryd.results10, go_sem]) rfl ⟨rfl, unhide HB1⟩

set_option maxRecDepth 20000 in
set_option maxHeartbeats 2000000 in
theorem holder_at (z : Int) (vn vs : Value) (ns A B : List Nd) (n : Nd) (d m x : List UInt8) (r : List (List UInt8)) (w : World) (hn : SeqV w vn ns) (ha : NAsc ns) (hl : ns.length ≤ 400) (hml : m.length ≤ 140737488355328) (hE : linE ns d m = 0) (hL : linL ns d m = x :: r) (hd : d.length ≤ 200) (hx : x.length ≤ 200) (T : NThere ns A n B (belL d x)) (hp : n.p.length ≤ 140737488355328) (hdd : n.d.length ≤ 140737488355328) :
    Calls Tryd.prog 10 #[.agg #[.int .i64 z, vn, vs], .string ⟨d.toArray⟩, .string ⟨m.toArray⟩] w fun e w' => e = .returned (.tuple #[.int .i64 n.o, .int .i64 n.c, .int .i64 0]) ∧ Below w.heap.size w w' := by
  have CL := hide (fun W (hW : Below w.heap.size w W) => line_any z vn vs ns d m W (hn.next hW) ha hl hml)
  have CB := hide (fun W => below_any d x W (by omega) (by omega))
  have CG := hide (fun W (hW : Below w.heap.size w W) => tget_there z vn vs ns A B n (belL d x) W (hn.next hW) (by omega) T hp hdd)
  unfold nodeV at CG
  generalize belL d x = P at CB CG
  obtain ⟨L, hLL⟩ : ∃ L, linL ns d m = L := ⟨_, rfl⟩
  have HX : Hid (L[0]? = some x) := hide (by rw [← hLL, hL]; rfl)
  have hlen : 0 < L.length := by rw [← hLL, hL]; simp
  rw [hE, hLL] at CL
  obtain ⟨na, nc, rfl⟩ := seq_slice hn
  clear hn ha hL hE hLL T hd hx
  go_enter Tryd.func10, Tryd.ntmps10
  go_wp2_with fail
  refine (unhide CL _ (allocB _ _)).mono ?_
  rintro e w1 ⟨v1, rfl, hk1, hb1⟩
  have HB1 := hide (nbox_then hb1)
  have HR := hide (srow hk1.seq)
  obtain ⟨b, off, cap, he, hb, _⟩ := unhide HR w1 (Below.refl _ _) 0 x (unhide HX)
  have hb0 : w.heap.size < w1.heap.size := by have := hb1.size; simp at this; omega
  have KS : Hid (∀ V, Below w1.heap.size w1 V → V.cell? ⟨w.heap.size, 0, none⟩ = some (.int .i64 z) ∧ V.cell? ⟨w.heap.size, 1, none⟩ = some (.slice na ns.length nc) ∧ V.cell? ⟨w.heap.size, 2, none⟩ = some vs ∧ V.cell? ⟨b, off, none⟩ = some (.string ⟨x.toArray⟩)) := hide (fun V hV => by
    have hc : ∀ j, V.cell? ⟨w.heap.size, j, none⟩ = _ := fun j => (hV.cell (p := ⟨w.heap.size, j, none⟩) hb0).trans (hb1.cell (p := ⟨w.heap.size, j, none⟩) (by simp))
    refine ⟨(hc 0).trans (by simp), (hc 1).trans (by simp), (hc 2).trans (by simp), ?_⟩
    obtain ⟨b', off', cap', he', _, q⟩ := unhide HR V hV 0 x (unhide HX)
    rw [he] at he'
    simp only [Value.slice.injEq, Option.some.injEq, Addr.mk.injEq, and_true, true_and] at he'
    obtain ⟨⟨rfl, rfl⟩, _⟩ := he'
    exact q.s0 (unhide HX))
  have CG1 := hide (fun W (hW : Below w1.heap.size w1 W) => unhide CG W (nnext (unhide HB1) hW))
  obtain ⟨ka, kc, rfl, _⟩ := hk1.slice
  simp only [Value.slice.injEq] at he
  obtain ⟨rfl, _, rfl⟩ := he
  obtain ⟨e0, e1, e2, d0⟩ := unhide KS w1 (Below.refl _ _)
  have hli : (0 : Int) < (L.length : Int) := by omega
  have hl0 : ((L.length : Int) == 0) = false := beq_eq_false_iff_ne.2 (by omega)
  clear hk1 CL HR hb1 CG
  go_wp2_with fail
  go_cut [11, 10] from 12 (fun tx te wx => ∃ q, tx = .pointer (some ⟨q, 0, none⟩) ∧ te = .int .i64 0 ∧ Hid (NodX w1 wx q ⟨n.p, n.d, n.c, n.m, n.q, n.v, n.k, n.o, n.n⟩))
  case first =>
    go_region_law (first
      | (go_simp; refine (unhide CG1 _ (by first | with_reducible exact Below.refl _ _ | with_reducible exact (Below.refl _ _).drew | with_reducible exact allocB _ _ | with_reducible exact (allocB _ _).drew | with_reducible exact nnext (Below.refl _ _).drew (allocB _ _) | with_reducible exact nnext (nnext (Below.refl _ _).drew (allocB _ _)) (Below.refl _ _).drew)).mono ?_; rintro e aw2 ⟨rfl, hb2⟩; have aB2 : Hid (Below w1.heap.size w1 aw2) := hide (nnext (by first | with_reducible exact Below.refl _ _ | with_reducible exact (Below.refl _ _).drew | with_reducible exact allocB _ _ | with_reducible exact (allocB _ _).drew | with_reducible exact nnext (Below.refl _ _).drew (allocB _ _) | with_reducible exact nnext (nnext (Below.refl _ _).drew (allocB _ _)) (Below.refl _ _).drew) hb2); have ah2 := (unhide aB2).size; (try (have aZ2 : Hid (OneR aw2 w1.heap.size nzero) := hide ((hb2.block _ (by simp)).trans (heap_alloc_new w1 _)); obtain ⟨⟨az0, az1, az2, az3, az4, az5, az6, az7, az8⟩, af0, af1, af2, af3, af4, af5, af6, af7, af8⟩ := zcells9 (unhide aZ2); have ak2 := (Array.getElem?_eq_some_iff.1 (unhide aZ2)).1)); clear hb2)
      | (go_simp; refine (unhide CB _).mono ?_; rintro e aw1 ⟨rfl, rfl⟩))
    all_goals go_wp2_with fail
    all_goals go_meet
    all_goals refine ⟨_, rfl, rfl, hide ?_⟩
    all_goals first
      | with_reducible exact nod_new n.p n.d n.c n.m n.q n.v n.k n.o n.n (unhide aB2)
      | with_reducible exact nod_put n.p n.d n.c n.m n.q n.v n.k n.o n.n (unhide aB2) (Nat.le_refl _) (unhide aZ2)
  case rest =>
    obtain ⟨q, rfl, rfl, A1⟩ := hcut
    have c7 := (unhide A1).one.cellN 7 _ rfl
    have c2 := (unhide A1).one.cellN 2 _ rfl
    have B2 := hide (nnext (unhide HB1) (unhide A1).b)
    clear KS CG1 CB e0 e1 e2 d0
    go_wp2_with fail
    go_region
    go_wp2_with fail
    exact bodyPost_ret (v := .tuple #[.int .i64 n.o, .int .i64 n.c, .int .i64 0]) (by simp [results, Tryd.results10, go_sem]) rfl ⟨rfl, (unhide B2).drew⟩
/-- of every good tree -/
theorem holder_any (t : Tr) (vn vs : Value) (d m : List UInt8) (w : World) (hn : SeqV w vn t.ns) (g : GoodT t) (hml : m.length ≤ 140737488355328) :
    Calls Tryd.prog 10 #[.agg #[.int .i64 t.z, vn, vs], .string ⟨d.toArray⟩, .string ⟨m.toArray⟩] w fun e w' => e = .returned (.tuple #[.int .i64 (holO t.ns d m), .int .i64 (holC t.ns d m), .int .i64 (linE t.ns d m)]) ∧ Below w.heap.size w w' := by
  cases hL : linL t.ns d m with
  | nil =>
    rw [(hol_nil hL).1, (hol_nil hL).2]
    exact holder_no t.z vn vs t.ns d m w hn g.nod.asc g.nod.few hml hL
  | cons x r =>
    obtain ⟨hE, hd, hx, _, n, hm, hp, hlk, _, _⟩ := lin_node g.nod (x := x) (by rw [hL]; simp)
    rw [(hol_some hL hlk).1, (hol_some hL hlk).2, hE]
    obtain ⟨A, B, T⟩ := there_of_look g.nod.asc hlk
    have k := g.nod.ok n hm
    exact holder_at t.z vn vs t.ns A B n d m x r w hn g.nod.asc g.nod.few hml hE hL hd hx T (by have := goodB_le k.path; omega) (by have := k.data; omega)
end Go.Proofs.YtkgaoedlnejigaaDoor

namespace Go.Proofs.YtkgaoedlnejigaaDoor
open Go.RowKit

/-- two boxes of trees -/
structure TT (w W : World) (z : Int) (vn vs un us : Value) : Prop where
  a : W.heap[w.heap.size]? = some (.cells #[.int .i64 z, vn, vs] 25 (0, 0))
  b : W.heap[w.heap.size + 1]? = some (.cells #[.int .i64 z, un, us] 25 (0, 0))
  bl : Below w.heap.size w W
theorem TT.new (w : World) (z : Int) (vn vs un us : Value) : TT w ((w.alloc (.cells #[.int .i64 z, vn, vs] 25)).alloc (.cells #[.int .i64 z, un, us] 25)) z vn vs un us := by
  refine ⟨?_, ?_, nnext (allocB _ _) (allocB _ _)⟩
  · rw [(allocB _ _).block _ (by simp)]
    exact heap_alloc_new w _
  · have h := heap_alloc_new (w.alloc (.cells #[.int .i64 z, vn, vs] 25)) (.cells #[.int .i64 z, un, us] 25)
    rw [show (w.alloc (.cells #[.int .i64 z, vn, vs] 25)).heap.size = w.heap.size + 1 by simp] at h
    exact h
theorem TT.next {w W V : World} {z : Int} {vn vs un us : Value} (h : TT w W z vn vs un us) (hb : Below W.heap.size W V) : TT w V z vn vs un us :=
  ⟨(hb.block _ (Array.getElem?_eq_some_iff.1 h.a).1).trans h.a, (hb.block _ (Array.getElem?_eq_some_iff.1 h.b).1).trans h.b, nnext h.bl hb⟩
end Go.Proofs.YtkgaoedlnejigaaDoor
