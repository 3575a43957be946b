/-
  aviaryref's GoodTree, of every tree: the walk's refusals.
  The law RecipeLines: the walk.
  A tree as an argument: opened into its nodes and sessions; what its weights say of their lengths.
  A tree as an argument, with what its bulk says of its paths.
-/
import Derived.Test.YtkgaoedlnejigaaDoorRLJ
import Derived.Test.YtkgaoedlnejigaaDoorRLG
import Derived.Test.YtkgaoedlnejigaaDoorRLI
import Derived.Test.YtkgaoedlnejigaaDoorRLC
import Derived.Test.YtkgaoedlnejigaaDoorRLA
import Derived.Test.YtkgaoedlnejigaaDoorProg
import Derived.WalkKit
import Derived.Test.YtkgaoedlnejigaaDoorRLB
import Derived.ProofKit
import Derived.OpenShut
import Derived.SizedLaws
import Derived.Deep.Slices
import Derived.Carry
import Derived.Test.YtkgaoedlnejigaaDoorRows
namespace Go.Proofs.YtkgaoedlnejigaaDoor
open Go.RowKit

set_option maxRecDepth 20000 in
set_option maxHeartbeats 4000000 in
theorem rgoodT_none (t : Tr) (va : Option Addr) (vc : Nat) (vs : Value) (w : World) (h0 : t.ns = []) :
    Calls Tryd.prog 5 #[.agg #[.int .i64 t.z, .slice va 0 vc, vs]] w fun e w' => e = .returned (.bool (goodT t)) ∧ Below w.heap.size w w' := by
  have FG := (goodT_false (t := t)).2 (fun g => by obtain ⟨r, rest, e, _⟩ := g.nod.root; rw [h0] at e; cases e)
  rw [FG]
  clear FG h0
  go_enter Tryd.func5, Tryd.ntmps5
  go_wp2_with fail
  go_ret
  exact ⟨rfl, allocB _ _⟩
set_option maxRecDepth 20000 in
set_option maxHeartbeats 4000000 in
theorem rgoodT_many (t : Tr) (va : Option Addr) (vc : Nat) (vs : Value) (w : World) (h1 : 400 < t.ns.length) :
    Calls Tryd.prog 5 #[.agg #[.int .i64 t.z, .slice va t.ns.length vc, vs]] w fun e w' => e = .returned (.bool (goodT t)) ∧ Below w.heap.size w w' := by
  have FG := (goodT_false (t := t)).2 (fun g => by have := g.nod.few; omega)
  rw [FG]
  have hb : (400 : Int) < (t.ns.length : Int) := by omega
  have ha : ¬ ((t.ns.length : Int) < 1) := by omega
  have hd : decide ((400 : Int) < (t.ns.length : Int)) = true := decide_eq_true hb
  have he : decide ((t.ns.length : Int) < 1) = false := decide_eq_false ha
  clear FG
  go_enter Tryd.func5, Tryd.ntmps5
  go_wp2_with fail
  go_ret
  exact ⟨rfl, allocB _ _⟩
set_option maxRecDepth 20000 in
set_option maxHeartbeats 4000000 in
theorem rgoodT_root (t : Tr) (b off vc : Nat) (vs : Value) (r : Nd) (w : World) (h1 : 1 ≤ t.ns.length) (h2 : t.ns.length ≤ 400) (hb : b < w.heap.size) (r0 : w.cell? ⟨b, off, none⟩ = some (.string ⟨r.p.toArray⟩)) (hr : r.p ≠ [47]) (h0 : t.ns[0]? = some r) :
    Calls Tryd.prog 5 #[.agg #[.int .i64 t.z, .slice (some ⟨b, off, none⟩) t.ns.length vc, vs]] w fun e w' => e = .returned (.bool (goodT t)) ∧ Below w.heap.size w w' := by
  have FG := (goodT_false (t := t)).2 (fun g => by
    obtain ⟨r', rest, e, hp, _⟩ := g.nod.root
    rw [e] at h0
    simp at h0
    subst h0
    exact hr hp)
  rw [FG]
  have ha : ¬ ((t.ns.length : Int) < 1) := by omega
  have hc : ¬ ((400 : Int) < (t.ns.length : Int)) := by omega
  have hpb : (r.p == [47]) = false := by simpa using hr
  have hn : b ≠ w.heap.size := by omega
  clear FG hr h0
  go_enter Tryd.func5, Tryd.ntmps5
  go_wp2_with fail
  go_ret
  exact ⟨rfl, allocB _ _⟩
set_option maxRecDepth 20000 in
set_option maxHeartbeats 4000000 in
theorem rgoodT_own (t : Tr) (b off vc : Nat) (vs : Value) (r : Nd) (w : World) (h1 : 1 ≤ t.ns.length) (h2 : t.ns.length ≤ 400) (hb : b < w.heap.size) (r0 : w.cell? ⟨b, off, none⟩ = some (.string ⟨#[47]⟩)) (r7 : w.cell? ⟨b, off + 7, none⟩ = some (.int .i64 r.o)) (ho : r.o ≠ 0) (h0 : t.ns[0]? = some r) :
    Calls Tryd.prog 5 #[.agg #[.int .i64 t.z, .slice (some ⟨b, off, none⟩) t.ns.length vc, vs]] w fun e w' => e = .returned (.bool (goodT t)) ∧ Below w.heap.size w w' := by
  have FG := (goodT_false (t := t)).2 (fun g => by
    obtain ⟨r', rest, e, _, hp⟩ := g.nod.root
    rw [e] at h0
    simp at h0
    subst h0
    exact ho hp)
  rw [FG]
  have ha : ¬ ((t.ns.length : Int) < 1) := by omega
  have hc : ¬ ((400 : Int) < (t.ns.length : Int)) := by omega
  have hob : (r.o == 0) = false := by simpa using ho
  have hon : (r.o != 0) = true := by simpa using ho
  have hn : b ≠ w.heap.size := by omega
  clear FG ho h0
  go_enter Tryd.func5, Tryd.ntmps5
  go_wp2_with fail
  go_ret
  exact ⟨rfl, allocB _ _⟩
set_option maxRecDepth 20000 in
set_option maxHeartbeats 4000000 in
theorem rgoodT_zx (t : Tr) (b off vc : Nat) (vs : Value) (w : World) (h1 : 1 ≤ t.ns.length) (h2 : t.ns.length ≤ 400) (hb : b < w.heap.size) (r0 : w.cell? ⟨b, off, none⟩ = some (.string ⟨#[47]⟩)) (r7 : w.cell? ⟨b, off + 7, none⟩ = some (.int .i64 0)) (hzb : t.z ≤ 9223372036854775807) (hz : zGood t.z = false) :
    Calls Tryd.prog 5 #[.agg #[.int .i64 t.z, .slice (some ⟨b, off, none⟩) t.ns.length vc, vs]] w fun e w' => e = .returned (.bool (goodT t)) ∧ Below w.heap.size w w' := by
  have FG := (goodT_false (t := t)).2 (fun g => by have := g.zx; rw [hz] at this; cases this)
  rw [FG]
  have CZ := fun W => rgood_any t.z hzb W
  rw [hz] at CZ
  have ha : ¬ ((t.ns.length : Int) < 1) := by omega
  have hc : ¬ ((400 : Int) < (t.ns.length : Int)) := by omega
  have hn : b ≠ w.heap.size := by omega
  clear FG hz
  go_enter Tryd.func5, Tryd.ntmps5
  go_wp2_with fail
  refine (CZ _).mono ?_
  rintro e w1 ⟨rfl, rfl⟩
  go_wp2_with fail
  go_ret
  exact ⟨rfl, allocB _ _⟩
theorem rgoodT_any (t : Tr) (vn vs : Value) (w : World) (hn : SeqV w vn t.ns) (hs : SeqV w vs t.ss) (hw : WfT t) (hzb : t.z ≤ 9223372036854775807) (hlong : ∀ n ∈ t.ns, n.p.length ≤ 1048576) (hls : t.ss.length ≤ 140737488355328) :
    Calls Tryd.prog 5 #[.agg #[.int .i64 t.z, vn, vs]] w fun e w' => e = .returned (.bool (goodT t)) ∧ Below w.heap.size w w' := by
  cases he : t.ns with
  | nil =>
    obtain ⟨a, c, e⟩ := seq_slice hn
    rw [e, he]
    exact rgoodT_none t a c vs w he
  | cons r rest =>
    by_cases hl : t.ns.length ≤ 400
    · have h1 : 1 ≤ t.ns.length := by rw [he]; simp
      have h0 : t.ns[0]? = some r := by rw [he]; rfl
      obtain ⟨b, off, cap, e, hb, hrow, _, _⟩ := seq_row hn (by rw [he]; simp)
      have r0 := hrow.n0 h0
      have r7 := hrow.n7 h0
      simp only [Nat.zero_mul, Nat.add_zero] at r0 r7
      by_cases hp : r.p = [47]
      · rw [hp] at r0
        by_cases ho : r.o = 0
        · rw [ho] at r7
          cases hz : zGood t.z
          · rw [e]
            exact rgoodT_zx t b off cap vs w h1 hl hb r0 r7 hzb hz
          · exact rgoodT_main t vn vs w hn hs hw hzb hlong hls r rest he hp ho hl hz
        · rw [e]
          exact rgoodT_own t b off cap vs r w h1 hl hb r0 r7 ho h0
      · rw [e]
        exact rgoodT_root t b off cap vs r w h1 hl hb r0 hp h0
    · obtain ⟨a, c, e⟩ := seq_slice hn
      rw [e]
      exact rgoodT_many t a c vs w (by omega)

end Go.Proofs.YtkgaoedlnejigaaDoor

namespace Go.Proofs.YtkgaoedlnejigaaDoor
open Go.RowKit

set_option maxRecDepth 20000 in
set_option maxHeartbeats 4000000 in
theorem recipeLines_no (t : Tr) (vn vs : Value) (d m s : List UInt8) (w : World) (hn : SeqV w vn t.ns) (hs : SeqV w vs t.ss) (hw : WfT t) (hzb : t.z ≤ 9223372036854775807) (hlong : ∀ n ∈ t.ns, n.p.length ≤ 1048576) (hls : t.ss.length * 8 ≤ 140737488351232) (hg : goodT t = false) :
    Calls Tryd.prog 3 #[.agg #[.int .i64 t.z, vn, vs], .string ⟨d.toArray⟩, .string ⟨m.toArray⟩, .string ⟨s.toArray⟩] w fun e w' => e = .returned (.bool true) ∧ Below w.heap.size w w' := by
  have CG := hide (fun W (hW : Below w.heap.size w W) => rgoodT_any t vn vs W (hn.next hW) (hs.next hW) hw hzb hlong (by omega))
  rw [hg] at CG
  obtain ⟨na, nc, rfl⟩ := seq_slice hn
  obtain ⟨sa, sc, rfl⟩ := seq_slice hs
  clear hn hs hw hlong hg
  go_enter Tryd.func3, Tryd.ntmps3
  go_wp2_with fail
  refine (unhide CG _ (allocB _ _)).mono ?_
  rintro e w1 ⟨rfl, hb1⟩
  have HB := hide (nbox_then hb1)
  clear hb1
  go_wp2_with fail
  refine (locks_true _).mono ?_
  rintro e w2 ⟨rfl, rfl⟩
  go_wp2_with fail
  go_ret
  exact ⟨rfl, unhide HB⟩

set_option maxRecDepth 20000 in
set_option maxHeartbeats 8000000 in
theorem recipeLines_yes (t : Tr) (vn vs : Value) (d m s : List UInt8) (w : World) (hn : SeqV w vn t.ns) (hs : SeqV w vs t.ss) (hw : WfT t) (hzb : t.z ≤ 9223372036854775807) (hlong : ∀ n ∈ t.ns, n.p.length ≤ 1048576) (hl : t.ns.length * 88 ≤ 140737488351232) (hls : t.ss.length * 8 ≤ 140737488351232) (hml : m.length ≤ 140737488355328) (hg : goodT t = true) :
    Calls Tryd.prog 3 #[.agg #[.int .i64 t.z, vn, vs], .string ⟨d.toArray⟩, .string ⟨m.toArray⟩, .string ⟨s.toArray⟩] w fun e w' => e = .returned (.bool true) ∧ Below w.heap.size w w' := by
  have g := goodT_true.1 hg
  have CG := hide (fun W (hW : Below w.heap.size w W) => rgoodT_any t vn vs W (hn.next hW) (hs.next hW) hw hzb hlong (by omega))
  have CC := hide (fun W (hW : Below w.heap.size w W) => rcopyT_any t vn vs W (hn.next hW) (hs.next hW) (by omega) (by omega))
  rw [hg] at CG
  have L0 : ∀ W, SeqV W vn t.ns → _ := fun W (h : SeqV W vn t.ns) => rline_any t.z vn vs t.ns d m W h g.nod.asc g.nod.few hlong (fun n hm => (g.nod.ok n hm).path) hml
  have P1 := hide (fun W vn' vs' (h1 : SeqV W vn' t.ns) => line_any t.z vn' vs' t.ns d m W h1 g.nod.asc g.nod.few hml)
  have P2 := hide (fun W vn' vs' (h1 : SeqV W vn' t.ns) => holder_any t vn' vs' d m W h1 g hml)
  have P3 := hide (fun W vn' vs' (h1 : SeqV W vn' t.ns) => before_any t.z vn' vs' t.ns d m s W h1 g.nod.asc g.nod.few hml)
  have R1 := hide (fun W (hW : Below w.heap.size w W) => L0 W (hn.next hW))
  have R2 := hide (fun W (hW : Below w.heap.size w W) => rholder_any t vn vs d m W (hn.next hW) g hml)
  have R3 := hide (fun W (hW : Below w.heap.size w W) => rbefore_any t.z vn vs t.ns d m s W (hn.next hW) g.nod.few L0)
  have hkl := lin_few t.ns d m g.nod.few
  obtain ⟨L, hL⟩ : ∃ L, linL t.ns d m = L := ⟨_, rfl⟩
  obtain ⟨E, hE⟩ : ∃ E, linE t.ns d m = E := ⟨_, rfl⟩
  obtain ⟨O, hO⟩ : ∃ O, holO t.ns d m = O := ⟨_, rfl⟩
  obtain ⟨C, hC⟩ : ∃ C, holC t.ns d m = C := ⟨_, rfl⟩
  obtain ⟨X, hX⟩ : ∃ X, befS L s = X := ⟨_, rfl⟩
  obtain ⟨Y, hY⟩ : ∃ Y, befB L s = Y := ⟨_, rfl⟩
  rw [hL, hE] at P1 R1
  rw [hO, hC, hE] at P2 R2
  rw [hL, hX, hY] at P3 R3
  rw [hL] at hkl
  have T0 := hide (GT.new w t.z vn vs)
  obtain ⟨na, nc, rfl⟩ := seq_slice hn
  obtain ⟨sa, sc, rfl⟩ := seq_slice hs
  clear hn hs hw hlong hg g hL hE hO hC hX hY L0
  go_enter Tryd.func3, Tryd.ntmps3
  go_wp2_with fail
  refine (unhide CG _ (unhide T0).b).mono ?_
  rintro e w1 ⟨rfl, hb1⟩
  have T1 := hide ((unhide T0).next hb1)
  obtain ⟨c0, c1, c2⟩ := (unhide T1).cells
  clear hb1
  go_wp2_with fail
  refine (unhide CC _ (unhide T1).b).mono ?_
  rintro e w2 ⟨vn2, vs2, rfl, hn2, hs2, hb2⟩
  have T2 := hide ((unhide T1).next hb2)
  have C3 := unhide P1 w2 vn2 vs2 hn2.seq
  obtain ⟨na2, nc2, rfl, _⟩ := hn2.slice
  obtain ⟨sa2, sc2, rfl, _⟩ := hs2.slice
  clear hb2 hn2 hs2 c0 c1 c2
  go_wp2_with fail
  refine C3.mono ?_
  rintro e w3 ⟨v3, rfl, hk3, hb3⟩
  have T3 := hide ((unhide T2).next hb3)
  obtain ⟨c0, c1, c2⟩ := (unhide T3).cells
  have HK3 := hide (srow hk3.seq)
  obtain ⟨ka3, kc3, rfl, _⟩ := hk3.slice
  clear hb3 C3 hk3
  go_wp2_with fail
  refine (unhide R1 _ (unhide T3).b).mono ?_
  rintro e w4 ⟨v4, rfl, hk4, hb4⟩
  have T4 := hide ((unhide T3).next hb4)
  have D4 := hide hb4
  obtain ⟨e0, e1, e2⟩ := (unhide T4).cells
  have HK4 := hide (srow hk4.seq)
  obtain ⟨ka4, kc4, rfl, _⟩ := hk4.slice
  clear hb4 hk4 c0 c1 c2
  go_wp2_with fail
  refine (unhide CC _ (unhide T4).b).mono ?_
  rintro e w5 ⟨vn5, vs5, rfl, hn5, hs5, hb5⟩
  have T5 := hide ((unhide T4).next hb5)
  have D5 := hide hb5
  have C6 := unhide P2 w5 vn5 vs5 hn5.seq
  obtain ⟨na5, nc5, rfl, _⟩ := hn5.slice
  obtain ⟨sa5, sc5, rfl, _⟩ := hs5.slice
  clear hb5 hn5 hs5 e0 e1 e2
  go_wp2_with fail
  refine C6.mono ?_
  rintro e w6 ⟨rfl, hb6⟩
  have T6 := hide ((unhide T5).next hb6)
  have D6 := hide (nnext (unhide D5) hb6)
  obtain ⟨c0, c1, c2⟩ := (unhide T6).cells
  clear hb6 C6
  go_wp2_with fail
  refine (unhide R2 _ (unhide T6).b).mono ?_
  rintro e w7 ⟨rfl, hb7⟩
  have T7 := hide ((unhide T6).next hb7)
  have D7 := hide (nnext (unhide D6) hb7)
  obtain ⟨e0, e1, e2⟩ := (unhide T7).cells
  clear hb7 c0 c1 c2
  go_wp2_with fail
  refine (unhide CC _ (unhide T7).b).mono ?_
  rintro e w8 ⟨vn8, vs8, rfl, hn8, hs8, hb8⟩
  have T8 := hide ((unhide T7).next hb8)
  have D8 := hide (nnext (unhide D7) hb8)
  have C9 := unhide P3 w8 vn8 vs8 hn8.seq
  obtain ⟨na8, nc8, rfl, _⟩ := hn8.slice
  obtain ⟨sa8, sc8, rfl, _⟩ := hs8.slice
  clear hb8 hn8 hs8 e0 e1 e2
  go_wp2_with fail
  refine C9.mono ?_
  rintro e w9 ⟨rfl, hb9⟩
  have T9 := hide ((unhide T8).next hb9)
  have D9 := hide (nnext (unhide D8) hb9)
  obtain ⟨c0, c1, c2⟩ := (unhide T9).cells
  clear hb9 C9
  go_wp2_with fail
  refine (unhide R3 _ (unhide T9).b).mono ?_
  rintro e w10 ⟨rfl, hb10⟩
  have T10 := hide ((unhide T9).next hb10)
  have D10 := hide (nnext (unhide D9) hb10)
  have KA := hide (fun W (hW : Below w10.heap.size w10 W) => unhide HK3 W (nnext (nnext (unhide D4) (unhide D10)) hW))
  have KB := hide (fun W (hW : Below w10.heap.size w10 W) => unhide HK4 W (nnext (unhide D10) hW))
  clear hb10 c0 c1 c2 CC CG P1 P2 P3 R1 R2 R3 HK3 HK4
  go_wp2_with fail
  go_loopg [23] L.length (fun kx s23 wr => ∃ k : Nat, s23 = .int .i64 k ∧ k ≤ L.length ∧ L.length - k ≤ kx ∧ Hid (Below w10.heap.size w10 wr))
  case atStart => exact ⟨0, rfl, Nat.zero_le _, Nat.le_refl _, hide (Below.refl _ _)⟩
  case round =>
    obtain ⟨k, rfl, hk, hgk, hB⟩ := hrel
    by_cases hlt : k < L.length
    · obtain ⟨x, hx⟩ : ∃ x, L[k]? = some x := ⟨_, List.getElem?_eq_getElem hlt⟩
      obtain ⟨b1, o1, p1, he1, _, q1⟩ := unhide KA wr (unhide hB) k x hx
      obtain ⟨b2, o2, p2, he2, _, q2⟩ := unhide KB wr (unhide hB) k x hx
      simp only [Value.slice.injEq] at he1 he2
      obtain ⟨rfl, _, rfl⟩ := he1
      obtain ⟨rfl, _, rfl⟩ := he2
      have d0 := q1.s0 hx
      have r0 := q2.s0 hx
      have hkk : (k : Int) < (L.length : Int) := by omega
      clear q1 q2 hx
      go_wp2_with fail
      go_region
      go_wp2_with fail
      go_roundg (L.length - (k + 1))
      case measure => omega
      case rel => exact ⟨k + 1, rfl, by omega, Nat.le_refl _, hide (nnext (unhide hB) (Below.refl _ _).drew)⟩
    · obtain rfl : k = L.length := by omega
      have T13 := hide (nnext (unhide T10).b (unhide hB))
      go_wp2_with fail
      refine (locks_true _).mono ?_
      rintro e w11 ⟨rfl, rfl⟩
      go_wp2_with fail
      go_ret
      exact ⟨by rfl, unhide T13⟩

theorem recipeLines_walk (t : Tr) (vn vs : Value) (d m s : List UInt8) (w : World) (hn : SeqV w vn t.ns) (hs : SeqV w vs t.ss) (hw : WfT t) (hzb : t.z ≤ 9223372036854775807) (hlong : ∀ n ∈ t.ns, n.p.length ≤ 1048576) (hl : t.ns.length * 88 ≤ 140737488351232) (hls : t.ss.length * 8 ≤ 140737488351232) (hml : m.length ≤ 140737488355328) :
    Calls Tryd.prog 3 #[.agg #[.int .i64 t.z, vn, vs], .string ⟨d.toArray⟩, .string ⟨m.toArray⟩, .string ⟨s.toArray⟩] w fun e w' => e = .returned (.bool true) ∧ Below w.heap.size w w' := by
  cases hg : goodT t
  · exact recipeLines_no t vn vs d m s w hn hs hw hzb hlong hls hg
  · exact recipeLines_yes t vn vs d m s w hn hs hw hzb hlong hl hls hml hg
end Go.Proofs.YtkgaoedlnejigaaDoor

namespace Go.Proofs.YtkgaoedlnejigaaDoor
open Go.ChangeShapes Go.WideShapes Go.ChangeAt Go.RowKit Go.ChangeMaps

theorem ncellsStr : Tryd.prog.cellsOf 9 = 1 := by kernel_rfl
theorem ncellsInt : Tryd.prog.cellsOf 3 = 1 := by kernel_rfl
theorem ncellsNode : Tryd.prog.cellsOf 44 = 9 := by kernel_rfl
theorem ncellsStat : Tryd.prog.cellsOf 42 = 7 := by kernel_rfl
theorem ncellsNs : Tryd.prog.cellsOf 22 = 1 := by kernel_rfl
theorem ncellsIs : Tryd.prog.cellsOf 23 = 1 := by kernel_rfl
theorem ncellsTree : Tryd.prog.cellsOf 25 = 3 := by kernel_rfl
theorem nbytesNode : Tryd.prog.bytesOf 44 = 88 := by kernel_rfl
theorem nbytesInt : Tryd.prog.bytesOf 3 = 8 := by kernel_rfl
theorem nlaidOut : laidOutB Tryd.prog = true := by kernel_rfl
theorem nlist_of (s : ByteArray) : ∃ l : List UInt8, s = ⟨l.toArray⟩ := ⟨s.data.toList, rfl⟩

section
variable {H : Type} {enc : TypeId × Value → H} {W : World} {base : Nat} {spare : Nat → Bool} {held : Bool}
def nodeD (n : Nd) : DataW H := .agg [.lit (.string n.p), .lit (.string n.d), .agg [.lit (.int .i64 n.c), .lit (.int .i64 n.m), .lit (.int .i64 n.q), .lit (.int .i64 n.v), .lit (.int .i64 n.k), .lit (.int .i64 n.o), .lit (.int .i64 n.n)]]
set_option maxRecDepth 10000 in
theorem open_stat {n : Nat} {cs : List Value} {x : DataW H × List MemPlace} (hl : cs.length = 7) (h : DataW.trod enc Tryd.prog W base spare held n 42 cs = some x) :
    ∃ i0 i1 i2 i3 i4 i5 i6 : Int, cs = [.int .i64 i0, .int .i64 i1, .int .i64 i2, .int .i64 i3, .int .i64 i4, .int .i64 i5, .int .i64 i6] ∧ x.1 = .agg [.lit (.int .i64 i0), .lit (.int .i64 i1), .lit (.int .i64 i2), .lit (.int .i64 i3), .lit (.int .i64 i4), .lit (.int .i64 i5), .lit (.int .i64 i6)] := by
  match cs, hl with
  | [c0, c1, c2, c3, c4, c5, c6], _ =>
    obtain ⟨xs, k, _, hx, _, hlen, hfs⟩ := DataW.trod_struct Tryd.underlying42 h
    match xs, hlen with
    | [y0, y1, y2, y3, y4, y5, y6], _ =>
      obtain ⟨i0, e0, rfl, _⟩ := DataW.trod_int Tryd.underlying3 (show DataW.trod enc Tryd.prog W base spare held k 3 [c0] = some y0 by simpa [ncellsInt] using hfs 0 _ rfl)
      obtain ⟨i1, e1, rfl, _⟩ := DataW.trod_int Tryd.underlying3 (show DataW.trod enc Tryd.prog W base spare held k 3 [c1] = some y1 by simpa [ncellsInt] using hfs 1 _ rfl)
      obtain ⟨i2, e2, rfl, _⟩ := DataW.trod_int Tryd.underlying3 (show DataW.trod enc Tryd.prog W base spare held k 3 [c2] = some y2 by simpa [ncellsInt] using hfs 2 _ rfl)
      obtain ⟨i3, e3, rfl, _⟩ := DataW.trod_int Tryd.underlying3 (show DataW.trod enc Tryd.prog W base spare held k 3 [c3] = some y3 by simpa [ncellsInt] using hfs 3 _ rfl)
      obtain ⟨i4, e4, rfl, _⟩ := DataW.trod_int Tryd.underlying3 (show DataW.trod enc Tryd.prog W base spare held k 3 [c4] = some y4 by simpa [ncellsInt] using hfs 4 _ rfl)
      obtain ⟨i5, e5, rfl, _⟩ := DataW.trod_int Tryd.underlying3 (show DataW.trod enc Tryd.prog W base spare held k 3 [c5] = some y5 by simpa [ncellsInt] using hfs 5 _ rfl)
      obtain ⟨i6, e6, rfl, _⟩ := DataW.trod_int Tryd.underlying3 (show DataW.trod enc Tryd.prog W base spare held k 3 [c6] = some y6 by simpa [ncellsInt] using hfs 6 _ rfl)
      simp only [List.cons.injEq, and_true] at e0 e1 e2 e3 e4 e5 e6
      subst e0 e1 e2 e3 e4 e5 e6
      subst hx
      exact ⟨i0, i1, i2, i3, i4, i5, i6, rfl, rfl⟩
set_option maxRecDepth 10000 in
theorem open_node {n : Nat} {cs : List Value} {x : DataW H × List MemPlace} (hl : cs.length = 9) (h : DataW.trod enc Tryd.prog W base spare held n 44 cs = some x) : ∃ f : Nd, cs = ncells f ∧ x.1 = nodeD f := by
  match cs, hl with
  | [c0, c1, c2, c3, c4, c5, c6, c7, c8], _ =>
    obtain ⟨xs, k, _, hx, _, hlen, hfs⟩ := DataW.trod_struct Tryd.underlying44 h
    match xs, hlen with
    | [y0, y1, y2], _ =>
      obtain ⟨s0, e0, rfl, _⟩ := DataW.trod_string Tryd.underlying9 (show DataW.trod enc Tryd.prog W base spare held k 9 [c0] = some y0 by simpa [ncellsStr] using hfs 0 _ rfl)
      obtain ⟨s1, e1, rfl, _⟩ := DataW.trod_string Tryd.underlying9 (show DataW.trod enc Tryd.prog W base spare held k 9 [c1] = some y1 by simpa [ncellsStr] using hfs 1 _ rfl)
      obtain ⟨i0, i1, i2, i3, i4, i5, i6, e2, hy⟩ := open_stat (cs := [c2, c3, c4, c5, c6, c7, c8]) rfl (show DataW.trod enc Tryd.prog W base spare held k 42 [c2, c3, c4, c5, c6, c7, c8] = some y2 by simpa [ncellsStr, ncellsStat] using hfs 2 _ rfl)
      simp only [List.cons.injEq, and_true] at e0 e1 e2
      obtain ⟨rfl, rfl, rfl, rfl, rfl, rfl, rfl⟩ := e2
      subst e0 e1
      obtain ⟨l0, rfl⟩ := nlist_of s0
      obtain ⟨l1, rfl⟩ := nlist_of s1
      subst hx
      refine ⟨⟨l0, l1, i0, i1, i2, i3, i4, i5, i6⟩, rfl, ?_⟩
      simp [nodeD, hy]
theorem weights_node (n : Nd) : DataW.weights Tryd.prog 44 (nodeD n : DataW H) = [n.p.length, n.d.length] := by
  simp [DataW.weights, nodeD, Tryd.underlying44, Tryd.underlying42, DataW.weightsEach]
theorem nweightsAll_mem {e : TypeId} : ∀ (l : List (DataW H)) (d : DataW H) (x : Nat), d ∈ l → x ∈ DataW.weights Tryd.prog e d → x ∈ DataW.weightsAll Tryd.prog e l
  | d' :: r, d, x, h, hx => by
    rw [DataW.weightsAll]
    rcases List.mem_cons.1 h with rfl | h
    · exact List.mem_append.2 (.inl hx)
    · exact List.mem_append.2 (.inr (nweightsAll_mem r d x h hx))
set_option maxRecDepth 10000 in
theorem open_ints {fuel : Nat} {v : Value} {y : DataW H × List MemPlace} (h : DataW.trod enc Tryd.prog W base spare held fuel 23 [v] = some y) :
    ∃ xs : List Int, SeqV W v xs ∧ (∀ s ∈ xs, -9223372036854775808 ≤ s ∧ s ≤ 9223372036854775807) ∧ ∀ M, (∀ x ∈ DataW.weights Tryd.prog 23 y.1, x ≤ M) → xs.length * 8 ≤ M := by
  rcases Go.Deep.open_slice Tryd.underlying23 h with ⟨h1, hx⟩ | ⟨a, len, cap, m, k, D, Pl, h1, hb, hl, hm, hmm, hx, hel⟩
  · simp only [List.cons.injEq, and_true] at h1
    rw [h1]
    exact ⟨[], SeqV.nil W, by simp, fun M _ => by simp⟩
  · simp only [List.cons.injEq, and_true] at h1
    rw [h1]
    subst hx
    have hlm : len ≤ m := by rw [hmm]; split <;> omega
    have each : ∀ i, i < len → ∃ f : Int, (∀ c, c < 1 → W.cell? (a.add (i * 1 + c)) = (Lay.cs f)[c]?) ∧ (-9223372036854775808 ≤ f ∧ f ≤ 9223372036854775807) := by
      intro i hi
      obtain ⟨cs', g1, g2⟩ := hel i (by omega)
      rw [ncellsInt] at g1
      obtain ⟨_, hlen, hcell⟩ := World.cells?_some g1
      obtain ⟨c0, rfl⟩ : ∃ c0, cs' = [c0] := List.length_eq_one_iff.1 hlen
      obtain ⟨f, e0, _, hw⟩ := DataW.trod_int Tryd.underlying3 g2
      have hd := bounds_i64 hw
      simp only [List.cons.injEq, and_true] at e0
      subst e0
      refine ⟨f, fun c hc => ?_, hd⟩
      have := hcell c hc
      rwa [Go.Deep.add_add] at this
    obtain ⟨F, hF⟩ := Go.Deep.choose_lt each
    refine ⟨(List.range len).map F, ?_, ?_, ?_⟩
    · by_cases h0 : len = 0
      · subst h0
        exact .inl ⟨some a, cap, rfl, rfl, hm⟩
      · have c0 := (hF 0 (by omega)).1 0 (by decide)
        obtain ⟨b, off, sp⟩ := a
        have hsp : sp = none := by
          cases sp with
          | none => rfl
          | some s => simp [World.cell?, Addr.add, Lay.cs] at c0; split at c0 <;> simp at c0
        subst hsp
        have hblt : b < W.heap.size := World.block_lt_of_cell? W _ (show W.cell? ((⟨b, off, none⟩ : Addr).add (0 * 1 + 0)) = some _ from c0) |> fun h => by simpa [Addr.add] using h
        refine .inr ⟨b, off, cap, by simp, by simpa using hl, hm, hblt, by simp; omega, fun j u hj => ?_⟩
        have hjl : j < len * 1 := by
          have := (List.getElem?_eq_some_iff.1 hj).1
          rw [cellsL_length, List.length_map, List.length_range] at this
          exact this
        have hi : j / 1 < len := by omega
        have hg := cellsL_get ((List.range len).map F) (j / 1) (F (j / 1)) (by rw [List.getElem?_map, List.getElem?_range hi]; rfl) (j % 1) (by show j % 1 < 1; omega)
        rw [show j / 1 * Lay.k Int + j % 1 = j by show j / 1 * 1 + j % 1 = j; omega, hj] at hg
        have := (hF (j / 1) hi).1 (j % 1) (by omega)
        rw [show j / 1 * 1 + j % 1 = j by omega, Addr.add_lit, ← hg] at this
        exact this
    · intro s hs
      obtain ⟨i, hi, rfl⟩ := List.mem_map.1 hs
      exact (hF i (by simpa using hi)).2
    · intro M hM
      have hw : DataW.weights Tryd.prog 23 (.slice ((List.range len).map D) ((List.range (m - len)).map fun j => D (len + j)) : DataW H) =
          (len + (m - len)) * 8 :: (DataW.weightsAll Tryd.prog 3 ((List.range len).map D) ++ DataW.weightsAll Tryd.prog 3 ((List.range (m - len)).map fun j => D (len + j))) := by
        simp [DataW.weights, Tryd.underlying23, nbytesInt]
      rw [hw] at hM
      have := hM _ (List.mem_cons_self ..)
      simp only [List.length_map, List.length_range]
      omega
theorem sized_tree {ts : List TypeId} {ds : List (DataW H)} (h : (DataW.weightsEach Tryd.prog ts ds).all (· ≤ reachBytes) = true) {j : Nat} {d : DataW H} (ht : ts[j]? = some 25) (hd : ds[j]? = some d) : ∀ x ∈ DataW.weights Tryd.prog 25 d, x ≤ 140737488351232 := by
  intro x hx
  have e : reachBytes = 140737488351232 := by decide
  have h1 := List.all_eq_true.1 h _ (DataW.weights_mem_each ht hd x hx)
  rw [e] at h1
  simpa using h1
end
end Go.Proofs.YtkgaoedlnejigaaDoor

namespace Go.Proofs.YtkgaoedlnejigaaDoor
open Go.ChangeShapes Go.WideShapes Go.ChangeAt Go.RowKit Go.ChangeMaps

section
variable {H : Type} {enc : TypeId × Value → H} {W : World} {base : Nat} {spare : Nat → Bool} {held : Bool}
theorem nbulk_mem : ∀ (l : List (DataW H)) (d : DataW H), d ∈ l → Rows.uptoBulk d ≤ Rows.uptoBulkAll l
  | d' :: r, d, h => by
    rw [Rows.uptoBulkAll]
    rcases List.mem_cons.1 h with rfl | h
    · omega
    · have := nbulk_mem r d h
      omega
set_option maxRecDepth 10000 in
theorem open_nodesB {fuel : Nat} {v : Value} {y : DataW H × List MemPlace} (h : DataW.trod enc Tryd.prog W base spare held fuel 22 [v] = some y) :
    ∃ xs : List Nd, SeqV W v xs ∧ (∀ f ∈ xs, f.p.length ≤ Rows.uptoBulk y.1 ∧ f.d.length ≤ Rows.uptoBulk y.1) ∧ ∀ M, (∀ x ∈ DataW.weights Tryd.prog 22 y.1, x ≤ M) → (∀ f ∈ xs, f.p.length ≤ M ∧ f.d.length ≤ M) ∧ xs.length * 88 ≤ M := by
  rcases Go.Deep.open_slice Tryd.underlying22 h with ⟨h1, hx⟩ | ⟨a, len, cap, m, k, D, Pl, h1, hb, hl, hm, hmm, hx, hel⟩
  · simp only [List.cons.injEq, and_true] at h1
    rw [h1]
    exact ⟨[], SeqV.nil W, by simp, fun M _ => ⟨by simp, by simp⟩⟩
  · simp only [List.cons.injEq, and_true] at h1
    rw [h1]
    subst hx
    have hlm : len ≤ m := by rw [hmm]; split <;> omega
    have each : ∀ i, i < len → ∃ f : Nd, (∀ c, c < 9 → W.cell? (a.add (i * 9 + c)) = (Lay.cs f)[c]?) ∧ D i = nodeD f := by
      intro i hi
      obtain ⟨cs', g1, g2⟩ := hel i (by omega)
      rw [ncellsNode] at g1
      obtain ⟨_, hlen, hcell⟩ := World.cells?_some g1
      obtain ⟨f, rfl, hd⟩ := open_node hlen g2
      refine ⟨f, fun c hc => ?_, hd⟩
      have := hcell c hc
      rwa [Go.Deep.add_add] at this
    obtain ⟨F, hF⟩ := Go.Deep.choose_lt each
    refine ⟨(List.range len).map F, ?_, ?_, ?_⟩
    · by_cases h0 : len = 0
      · subst h0
        exact .inl ⟨some a, cap, rfl, rfl, hm⟩
      · have c0 := (hF 0 (by omega)).1 0 (by decide)
        obtain ⟨b, off, sp⟩ := a
        have hsp : sp = none := by
          cases sp with
          | none => rfl
          | some s => simp [World.cell?, Addr.add, Lay.cs, ncells] at c0; split at c0 <;> simp at c0
        subst hsp
        have hblt : b < W.heap.size := World.block_lt_of_cell? W _ (show W.cell? ((⟨b, off, none⟩ : Addr).add (0 * 9 + 0)) = some _ from c0) |> fun h => by simpa [Addr.add] using h
        refine .inr ⟨b, off, cap, by simp, by simpa using hl, hm, hblt, by simp; omega, fun j u hj => ?_⟩
        have hjl : j < len * 9 := by
          have := (List.getElem?_eq_some_iff.1 hj).1
          rw [cellsL_length, List.length_map, List.length_range] at this
          exact this
        have hi : j / 9 < len := by omega
        have hg := cellsL_get ((List.range len).map F) (j / 9) (F (j / 9)) (by rw [List.getElem?_map, List.getElem?_range hi]; rfl) (j % 9) (by show j % 9 < 9; omega)
        rw [show j / 9 * Lay.k Nd + j % 9 = j by show j / 9 * 9 + j % 9 = j; omega, hj] at hg
        have := (hF (j / 9) hi).1 (j % 9) (by omega)
        rw [show j / 9 * 9 + j % 9 = j by omega, Addr.add_lit, ← hg] at this
        exact this
    · intro f hf
      obtain ⟨i, hi, rfl⟩ := List.mem_map.1 hf
      have hi' : i < len := by simpa using hi
      have h1 := nbulk_mem ((List.range len).map D) (D i) (List.mem_map.2 ⟨i, hi, rfl⟩)
      rw [(hF i hi').2] at h1
      simp only [nodeD, Rows.uptoBulk, Rows.uptoBulkAll] at h1 ⊢
      omega
    · intro M hM
      have hw : DataW.weights Tryd.prog 22 (.slice ((List.range len).map D) ((List.range (m - len)).map fun j => D (len + j)) : DataW H) =
          (len + (m - len)) * 88 :: (DataW.weightsAll Tryd.prog 44 ((List.range len).map D) ++ DataW.weightsAll Tryd.prog 44 ((List.range (m - len)).map fun j => D (len + j))) := by
        simp [DataW.weights, Tryd.underlying22, nbytesNode]
      rw [hw] at hM
      refine ⟨fun f hf => ?_, ?_⟩
      · obtain ⟨i, hi, rfl⟩ := List.mem_map.1 hf
        have hi' : i < len := by simpa using hi
        have key : ∀ x ∈ DataW.weights Tryd.prog 44 (D i), x ≤ M := fun x hx => hM x (List.mem_cons_of_mem _ (List.mem_append.2 (.inl (nweightsAll_mem _ (D i) x (List.mem_map.2 ⟨i, hi, rfl⟩) hx))))
        rw [(hF i hi').2, weights_node] at key
        exact ⟨key _ (by simp), key _ (by simp)⟩
      · have := hM _ (List.mem_cons_self ..)
        simp only [List.length_map, List.length_range]
        omega
set_option maxRecDepth 10000 in
theorem open_treeB {r : Reach} {b0 : Nat} {v : Value} {d : DataW H} {p : List MemPlace}
    (hv : Value.okWide Tryd.prog W r b0 25 v) (h : DataW.Trod enc Tryd.prog W base spare held 25 v d p) :
    ∃ vn vs t, v = .agg #[.int .i64 t.z, vn, vs] ∧ SeqV W vn t.ns ∧ SeqV W vs t.ss ∧ ((-9223372036854775808 ≤ t.z ∧ t.z ≤ 9223372036854775807) ∧ ∀ n ∈ t.ns, n.p.length ≤ Rows.uptoBulk d ∧ n.d.length ≤ Rows.uptoBulk d) ∧ ∀ M, M ≤ 140737488355328 → (∀ x ∈ DataW.weights Tryd.prog 25 d, x ≤ M) → WfT t ∧ t.ns.length * 88 ≤ M ∧ t.ss.length * 8 ≤ M := by
  obtain ⟨cs, rfl, hsz⟩ := okWide_struct Tryd.underlying25 hv
  have hsz1 : cs.size = 3 := hsz.trans ncellsTree
  obtain ⟨l⟩ := cs
  match l, hsz1 with
  | [c0, c1, c2], _ =>
    obtain ⟨fuel, hf⟩ := h
    have hf' : DataW.trod enc Tryd.prog W base spare held fuel 25 [c0, c1, c2] = some (d, p) := by simpa [Value.cells] using hf
    obtain ⟨xs, k, _, hx, _, hlen, hfs⟩ := DataW.trod_struct Tryd.underlying25 hf'
    match xs, hlen with
    | [y0, y1, y2], _ =>
      obtain ⟨z, e0, rfl, wz⟩ := DataW.trod_int Tryd.underlying3 (show DataW.trod enc Tryd.prog W base spare held k 3 [c0] = some y0 by simpa [ncellsInt] using hfs 0 _ rfl)
      obtain ⟨ns, hn, hU, hN⟩ := open_nodesB (show DataW.trod enc Tryd.prog W base spare held k 22 [c1] = some y1 by simpa [ncellsInt, ncellsNs] using hfs 1 _ rfl)
      obtain ⟨ss, hs, hb, hS⟩ := open_ints (show DataW.trod enc Tryd.prog W base spare held k 23 [c2] = some y2 by simpa [ncellsInt, ncellsNs, ncellsIs] using hfs 2 _ rfl)
      simp only [List.cons.injEq, and_true] at e0
      subst e0
      simp only [Prod.mk.injEq] at hx
      obtain ⟨rfl, _⟩ := hx
      refine ⟨c1, c2, ⟨z, ns, ss⟩, rfl, hn, hs, ⟨by have := bounds_i64 wz; simpa using this, fun n hn => ?_⟩, fun M hM hw => ?_⟩
      · have := hU n hn
        simp only [List.map_cons, List.map_nil, Rows.uptoBulk, Rows.uptoBulkAll]
        omega
      have hww : DataW.weights Tryd.prog 25 (.agg (List.map Prod.fst [(DataW.lit (.int .i64 z), []), y1, y2]) : DataW H) = DataW.weights Tryd.prog 22 y1.1 ++ DataW.weights Tryd.prog 23 y2.1 := by
        simp [DataW.weights, Tryd.underlying25, DataW.weightsEach]
      have hw1 : ∀ x ∈ DataW.weights Tryd.prog 22 y1.1, x ≤ M := fun x hx => hw x (by rw [hww]; exact List.mem_append.2 (.inl hx))
      have hw2 : ∀ x ∈ DataW.weights Tryd.prog 23 y2.1, x ≤ M := fun x hx => hw x (by rw [hww]; exact List.mem_append.2 (.inr hx))
      obtain ⟨h1, h2⟩ := hN M hw1
      exact ⟨⟨hb, fun n hn => by have := h1 n hn; omega⟩, h2, hS M hw2⟩
end
end Go.Proofs.YtkgaoedlnejigaaDoor
