/-
  aviaryref's GoodTree, of every tree: the walk's refusals.
-/
import Derived.Test.YtfejpbkapikdiaaGreatDoorSCU
namespace Go.Proofs.YtfejpbkapikdiaaGreatDoor
open Go.RowKit

set_option maxRecDepth 20000 in
set_option maxHeartbeats 4000000 in
theorem rgoodT_none (t : Tr) (va : Option Addr) (vc : Nat) (vs : Value) (w : World) (h0 : t.ns = []) :
    Calls Tryz.prog 44 #[.agg #[.int .i64 t.z, .slice va 0 vc, vs]] w fun e w' => e = .returned (.bool (goodT t)) ∧ Below w.heap.size w w' := by
  have FG := (goodT_false (t := t)).2 (fun g => by obtain ⟨r, rest, e, _⟩ := g.nod.root; rw [h0] at e; cases e)
  rw [FG]
  clear FG h0
  go_enter Tryz.func44, Tryz.ntmps44
  go_wp2_with fail
  go_ret
  exact ⟨rfl, allocB _ _⟩
set_option maxRecDepth 20000 in
set_option maxHeartbeats 4000000 in
theorem rgoodT_many (t : Tr) (va : Option Addr) (vc : Nat) (vs : Value) (w : World) (h1 : 400 < t.ns.length) :
    Calls Tryz.prog 44 #[.agg #[.int .i64 t.z, .slice va t.ns.length vc, vs]] w fun e w' => e = .returned (.bool (goodT t)) ∧ Below w.heap.size w w' := by
  have FG := (goodT_false (t := t)).2 (fun g => by have := g.nod.few; omega)
  rw [FG]
  have hb : (400 : Int) < (t.ns.length : Int) := by omega
  have ha : ¬ ((t.ns.length : Int) < 1) := by omega
  have hd : decide ((400 : Int) < (t.ns.length : Int)) = true := decide_eq_true hb
  have he : decide ((t.ns.length : Int) < 1) = false := decide_eq_false ha
  clear FG
  go_enter Tryz.func44, Tryz.ntmps44
  go_wp2_with fail
  go_ret
  exact ⟨rfl, allocB _ _⟩
set_option maxRecDepth 20000 in
set_option maxHeartbeats 4000000 in
theorem rgoodT_root (t : Tr) (b off vc : Nat) (vs : Value) (r : Nd) (w : World) (h1 : 1 ≤ t.ns.length) (h2 : t.ns.length ≤ 400) (hb : b < w.heap.size) (r0 : w.cell? ⟨b, off, none⟩ = some (.string ⟨r.p.toArray⟩)) (hr : r.p ≠ [47]) (h0 : t.ns[0]? = some r) :
    Calls Tryz.prog 44 #[.agg #[.int .i64 t.z, .slice (some ⟨b, off, none⟩) t.ns.length vc, vs]] w fun e w' => e = .returned (.bool (goodT t)) ∧ Below w.heap.size w w' := by
  have FG := (goodT_false (t := t)).2 (fun g => by
    obtain ⟨r', rest, e, hp, _⟩ := g.nod.root
    rw [e] at h0
    simp at h0
    subst h0
    exact hr hp)
  rw [FG]
  have ha : ¬ ((t.ns.length : Int) < 1) := by omega
  have hc : ¬ ((400 : Int) < (t.ns.length : Int)) := by omega
  have hpb : (r.p == [47]) = false := by simpa using hr
  have hn : b ≠ w.heap.size := by omega
  clear FG hr h0
  go_enter Tryz.func44, Tryz.ntmps44
  go_wp2_with fail
  go_ret
  exact ⟨rfl, allocB _ _⟩
set_option maxRecDepth 20000 in
set_option maxHeartbeats 4000000 in
theorem rgoodT_own (t : Tr) (b off vc : Nat) (vs : Value) (r : Nd) (w : World) (h1 : 1 ≤ t.ns.length) (h2 : t.ns.length ≤ 400) (hb : b < w.heap.size) (r0 : w.cell? ⟨b, off, none⟩ = some (.string ⟨#[47]⟩)) (r7 : w.cell? ⟨b, off + 7, none⟩ = some (.int .i64 r.o)) (ho : r.o ≠ 0) (h0 : t.ns[0]? = some r) :
    Calls Tryz.prog 44 #[.agg #[.int .i64 t.z, .slice (some ⟨b, off, none⟩) t.ns.length vc, vs]] w fun e w' => e = .returned (.bool (goodT t)) ∧ Below w.heap.size w w' := by
  have FG := (goodT_false (t := t)).2 (fun g => by
    obtain ⟨r', rest, e, _, hp⟩ := g.nod.root
    rw [e] at h0
    simp at h0
    subst h0
    exact ho hp)
  rw [FG]
  have ha : ¬ ((t.ns.length : Int) < 1) := by omega
  have hc : ¬ ((400 : Int) < (t.ns.length : Int)) := by omega
  have hob : (r.o == 0) = false := by simpa using ho
  have hon : (r.o != 0) = true := by simpa using ho
  have hn : b ≠ w.heap.size := by omega
  clear FG ho h0
  go_enter Tryz.func44, Tryz.ntmps44
  go_wp2_with fail
  go_ret
  exact ⟨rfl, allocB _ _⟩
set_option maxRecDepth 20000 in
set_option maxHeartbeats 4000000 in
theorem rgoodT_zx (t : Tr) (b off vc : Nat) (vs : Value) (w : World) (h1 : 1 ≤ t.ns.length) (h2 : t.ns.length ≤ 400) (hb : b < w.heap.size) (r0 : w.cell? ⟨b, off, none⟩ = some (.string ⟨#[47]⟩)) (r7 : w.cell? ⟨b, off + 7, none⟩ = some (.int .i64 0)) (hzb : t.z ≤ 9223372036854775807) (hz : zGood t.z = false) :
    Calls Tryz.prog 44 #[.agg #[.int .i64 t.z, .slice (some ⟨b, off, none⟩) t.ns.length vc, vs]] w fun e w' => e = .returned (.bool (goodT t)) ∧ Below w.heap.size w w' := by
  have FG := (goodT_false (t := t)).2 (fun g => by have := g.zx; rw [hz] at this; cases this)
  rw [FG]
  have CZ := fun W => rgood_any t.z hzb W
  rw [hz] at CZ
  have ha : ¬ ((t.ns.length : Int) < 1) := by omega
  have hc : ¬ ((400 : Int) < (t.ns.length : Int)) := by omega
  have hn : b ≠ w.heap.size := by omega
  clear FG hz
  go_enter Tryz.func44, Tryz.ntmps44
  go_wp2_with fail
  refine (CZ _).mono ?_
  rintro e w1 ⟨rfl, rfl⟩
  go_wp2_with fail
  go_ret
  exact ⟨rfl, allocB _ _⟩
theorem rgoodT_any (t : Tr) (vn vs : Value) (w : World) (hn : SeqV w vn t.ns) (hs : SeqV w vs t.ss) (hw : WfT t) (hzb : t.z ≤ 9223372036854775807) (hlong : ∀ n ∈ t.ns, n.p.length ≤ 1048576) (hls : t.ss.length ≤ 140737488355328) :
    Calls Tryz.prog 44 #[.agg #[.int .i64 t.z, vn, vs]] w fun e w' => e = .returned (.bool (goodT t)) ∧ Below w.heap.size w w' := by
  cases he : t.ns with
  | nil =>
    obtain ⟨a, c, e⟩ := seq_slice hn
    rw [e, he]
    exact rgoodT_none t a c vs w he
  | cons r rest =>
    by_cases hl : t.ns.length ≤ 400
    · have h1 : 1 ≤ t.ns.length := by rw [he]; simp
      have h0 : t.ns[0]? = some r := by rw [he]; rfl
      obtain ⟨b, off, cap, e, hb, hrow, _, _⟩ := seq_row hn (by rw [he]; simp)
      have r0 := hrow.n0 h0
      have r7 := hrow.n7 h0
      simp only [Nat.zero_mul, Nat.add_zero] at r0 r7
      by_cases hp : r.p = [47]
      · rw [hp] at r0
        by_cases ho : r.o = 0
        · rw [ho] at r7
          cases hz : zGood t.z
          · rw [e]
            exact rgoodT_zx t b off cap vs w h1 hl hb r0 r7 hzb hz
          · exact rgoodT_main t vn vs w hn hs hw hzb hlong hls r rest he hp ho hl hz
        · rw [e]
          exact rgoodT_own t b off cap vs r w h1 hl hb r0 r7 ho h0
      · rw [e]
        exact rgoodT_root t b off cap vs r w h1 hl hb r0 hp h0
    · obtain ⟨a, c, e⟩ := seq_slice hn
      rw [e]
      exact rgoodT_many t a c vs w (by omega)

end Go.Proofs.YtfejpbkapikdiaaGreatDoor
