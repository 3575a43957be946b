/-
  store.common and aviaryref.common: the walks.
-/
import Derived.Test.YtbkndjhogaloiaaGreatDoorSGB
import Derived.Deep.LoopGhost
namespace Go.Proofs.YtbkndjhogaloiaaGreatDoor
open Go.RowKit

/-- how many transactions two logs begin with whose numbers are alike -/
def comN : List WTxn → List WTxn → Nat
  | x :: a, y :: b => if x.z = y.z then comN a b + 1 else 0
  | _, _ => 0
theorem comN_le : ∀ a b : List WTxn, comN a b ≤ a.length ∧ comN a b ≤ b.length
  | [], b => by simp [comN]
  | x :: a, [] => by simp [comN]
  | x :: a, y :: b => by
    have := comN_le a b
    unfold comN
    split
    · simp only [List.length_cons]; omega
    · simp
theorem comN_lt : ∀ (a b : List WTxn) (k : Nat), k < comN a b → ∃ x y, a[k]? = some x ∧ b[k]? = some y ∧ x.z = y.z
  | [], b, k, h => by simp [comN] at h
  | x :: a, [], k, h => by simp [comN] at h
  | x :: a, y :: b, k, h => by
    unfold comN at h
    split at h
    · rename_i e
      cases k with
      | zero => exact ⟨x, y, rfl, rfl, e⟩
      | succ k => exact comN_lt a b k (by omega)
    · omega
theorem comN_at : ∀ (a b : List WTxn) (x y : WTxn), a[comN a b]? = some x → b[comN a b]? = some y → x.z ≠ y.z
  | [], b, x, y, h, _ => by simp [comN] at h
  | u :: a, [], x, y, _, h => by simp [comN] at h
  | u :: a, v :: b, x, y, h, h' => by
    unfold comN at h h'
    split at h
    · rename_i e
      simp only [e, if_true] at h'
      exact comN_at a b x y (by simpa using h) (by simpa using h')
    · rename_i e
      simp only [e, if_false] at h'
      simp at h h'
      subst h h'
      exact e
set_option maxRecDepth 10000 in
set_option maxHeartbeats 2000000 in
theorem common_any (va vb : Value) (a b : List WTxn) (w : World) (ha : LogV w va a) (hb : LogV w vb b) (hla : a.length ≤ 140737488355328) (hlb : b.length ≤ 140737488355328) :
    Calls Tryz.prog 14 #[va, vb] w fun e w' => e = .returned (.int .i64 (comN a b)) ∧ Below w.heap.size w w' := by
  have KA := hide (fun (k : Nat) (x : WTxn) (hx : a[k]? = some x) W (hW : Below w.heap.size w W) => log_row (ha.next hW) hx)
  have KB := hide (fun (k : Nat) (x : WTxn) (hx : b[k]? = some x) W (hW : Below w.heap.size w W) => log_row (hb.next hW) hx)
  have HL := comN_le a b
  have HT := hide (comN_lt a b)
  have HA := hide (comN_at a b)
  generalize comN a b = n at *
  obtain ⟨aa, ca, rfl⟩ := log_slice ha
  obtain ⟨ab, cb, rfl⟩ := log_slice hb
  clear ha hb
  go_enter Tryz.func14, Tryz.ntmps14
  go_wp2_with fail
  go_loopg [5] n (fun kx s5 wr => ∃ k : Nat, s5 = .int .i64 k ∧ k ≤ n ∧ n - k ≤ kx ∧ Hid (Below w.heap.size w wr))
  case atStart => exact ⟨0, rfl, Nat.zero_le _, by omega, hide (Below.refl _ _)⟩
  case round =>
    obtain ⟨k, rfl, hk, hg, hB⟩ := hrel
    by_cases hba : b.length < a.length
    · skip
      by_cases hlt : k < n
      · obtain ⟨x, y, hx, hy, hz⟩ := unhide HT k hlt
        obtain ⟨b1, o1, c1, he, hb1, q1, _⟩ := unhide KA k x hx wr (unhide hB)
        simp only [Value.slice.injEq] at he
        obtain ⟨rfl, _, rfl⟩ := he
        obtain ⟨b2, o2, c2, he, hb2, q2, _⟩ := unhide KB k y hy wr (unhide hB)
        simp only [Value.slice.injEq] at he
        obtain ⟨rfl, _, rfl⟩ := he
        have d0 := q1.z hx
        have r0 := q2.z hy
        rw [← hz] at r0
        generalize x.z = zz at *
        have i1 : (k : Int) < (a.length : Int) := by omega
        have i2 : (k : Int) < (b.length : Int) := by omega
        have hm1 : decide (k < b.length) = true := by simp; omega
        clear q1 q2 hx hy hz
        go_wp2_with fail
        go_quiet (fail)
        go_wp2_with fail
        go_roundg (n - (k + 1))
        case measure => omega
        case rel => exact ⟨k + 1, rfl, by omega, Nat.le_refl _, hide (nnext (unhide hB) ⟨rfl, rfl, rfl, Nat.le_refl _, fun _ _ => rfl⟩)⟩
      · obtain rfl : k = n := by omega
        by_cases hin : k < a.length ∧ k < b.length
        · obtain ⟨x, hx⟩ : ∃ x, a[k]? = some x := ⟨_, List.getElem?_eq_getElem hin.1⟩
          obtain ⟨y, hy⟩ : ∃ y, b[k]? = some y := ⟨_, List.getElem?_eq_getElem hin.2⟩
          have hz := unhide HA x y hx hy
          obtain ⟨b1, o1, c1, he, hb1, q1, _⟩ := unhide KA k x hx wr (unhide hB)
          simp only [Value.slice.injEq] at he
          obtain ⟨rfl, _, rfl⟩ := he
          obtain ⟨b2, o2, c2, he, hb2, q2, _⟩ := unhide KB k y hy wr (unhide hB)
          simp only [Value.slice.injEq] at he
          obtain ⟨rfl, _, rfl⟩ := he
          have d0 := q1.z hx
          have r0 := q2.z hy
          generalize x.z = zx at *
          generalize y.z = zy at *
          have hne : (zx == zy) = false := by simpa using hz
          have i1 : (k : Int) < (a.length : Int) := by omega
          have i2 : (k : Int) < (b.length : Int) := by omega
          have hm1 : decide (k < b.length) = true := by simp; omega
          clear q1 q2 hx hy
          go_wp2_with fail
          go_quiet (fail)
          go_wp2_with fail
          go_ret
          exact ⟨rfl, nnext (unhide hB) ⟨rfl, rfl, rfl, Nat.le_refl _, fun _ _ => rfl⟩⟩
        · have hkb : k = b.length := by omega
          clear hin
          subst hkb
          go_wp2_with fail
          go_region
          all_goals go_wp2_with fail
          all_goals go_ret
          all_goals exact ⟨rfl, (unhide hB).drew⟩
    · skip
      by_cases hlt : k < n
      · obtain ⟨x, y, hx, hy, hz⟩ := unhide HT k hlt
        obtain ⟨b1, o1, c1, he, hb1, q1, _⟩ := unhide KA k x hx wr (unhide hB)
        simp only [Value.slice.injEq] at he
        obtain ⟨rfl, _, rfl⟩ := he
        obtain ⟨b2, o2, c2, he, hb2, q2, _⟩ := unhide KB k y hy wr (unhide hB)
        simp only [Value.slice.injEq] at he
        obtain ⟨rfl, _, rfl⟩ := he
        have d0 := q1.z hx
        have r0 := q2.z hy
        rw [← hz] at r0
        generalize x.z = zz at *
        have i1 : (k : Int) < (a.length : Int) := by omega
        have i2 : (k : Int) < (b.length : Int) := by omega
        have hm1 : decide (k < a.length) = true := by simp; omega
        clear q1 q2 hx hy hz
        go_wp2_with fail
        go_quiet (fail)
        go_wp2_with fail
        go_roundg (n - (k + 1))
        case measure => omega
        case rel => exact ⟨k + 1, rfl, by omega, Nat.le_refl _, hide (nnext (unhide hB) ⟨rfl, rfl, rfl, Nat.le_refl _, fun _ _ => rfl⟩)⟩
      · obtain rfl : k = n := by omega
        by_cases hin : k < a.length ∧ k < b.length
        · obtain ⟨x, hx⟩ : ∃ x, a[k]? = some x := ⟨_, List.getElem?_eq_getElem hin.1⟩
          obtain ⟨y, hy⟩ : ∃ y, b[k]? = some y := ⟨_, List.getElem?_eq_getElem hin.2⟩
          have hz := unhide HA x y hx hy
          obtain ⟨b1, o1, c1, he, hb1, q1, _⟩ := unhide KA k x hx wr (unhide hB)
          simp only [Value.slice.injEq] at he
          obtain ⟨rfl, _, rfl⟩ := he
          obtain ⟨b2, o2, c2, he, hb2, q2, _⟩ := unhide KB k y hy wr (unhide hB)
          simp only [Value.slice.injEq] at he
          obtain ⟨rfl, _, rfl⟩ := he
          have d0 := q1.z hx
          have r0 := q2.z hy
          generalize x.z = zx at *
          generalize y.z = zy at *
          have hne : (zx == zy) = false := by simpa using hz
          have i1 : (k : Int) < (a.length : Int) := by omega
          have i2 : (k : Int) < (b.length : Int) := by omega
          have hm1 : decide (k < a.length) = true := by simp; omega
          clear q1 q2 hx hy
          go_wp2_with fail
          go_quiet (fail)
          go_wp2_with fail
          go_ret
          exact ⟨rfl, nnext (unhide hB) ⟨rfl, rfl, rfl, Nat.le_refl _, fun _ _ => rfl⟩⟩
        · have hkb : k = a.length := by omega
          clear hin
          subst hkb
          go_wp2_with fail
          go_region
          all_goals go_wp2_with fail
          all_goals go_ret
          all_goals exact ⟨rfl, (unhide hB).drew⟩

end Go.Proofs.YtbkndjhogaloiaaGreatDoor
