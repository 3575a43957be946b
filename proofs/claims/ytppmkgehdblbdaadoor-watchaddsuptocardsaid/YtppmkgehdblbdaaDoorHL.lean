/-
  What slices.Index and slices.Contains at watches and watch.admitted answer: the walks.
  What watch.Add answers: the walk.
-/
import Derived.Test.YtppmkgehdblbdaaDoorHE
import Derived.Test.YtppmkgehdblbdaaDoorHK
import Derived.Deep.QuietTactic
namespace Go.Proofs.YtppmkgehdblbdaaDoor
open Go.RowKit

def eqW (x y : Wa) : Bool := x.s == y.s && x.k == y.k && x.p == y.p
theorem eqW_iff {x y : Wa} : eqW x y = true ↔ x = y := by
  obtain ⟨a, b, c⟩ := x
  obtain ⟨d, e, f⟩ := y
  simp [eqW, and_assoc]
def hasB (ws : List Wa) (x : Wa) : Bool := ws.any (fun y => eqW x y)
theorem hasB_iff {ws : List Wa} {x : Wa} : hasB ws x = true ↔ x ∈ ws := by
  simp only [hasB, List.any_eq_true]
  exact ⟨fun ⟨y, hy, h⟩ => by rw [eqW_iff.1 h]; exact hy, fun h => ⟨x, h, eqW_iff.2 rfl⟩⟩
def admW (x : Wa) : Int := if x.k ≠ 1 ∧ x.k ≠ 2 then 4 else if goodB x.p = false then 2 else if x.s < 1 ∨ 2147483647 < x.s then 3 else 0
def addE (ws : List Wa) (x : Wa) : Int := if admW x ≠ 0 then admW x else if hasB ws x = true then 0 else if 400 ≤ ws.length then 6 else 0
def addL (ws : List Wa) (x : Wa) : List Wa := if addE ws x ≠ 0 then [] else if hasB ws x = true then ws else ws ++ [x]

theorem run_eqW (x y : Wa) (w : World) : (binOp .eql 24 (waV x) (waV y)).run Tryd.prog w = .ok (.bool (eqW x y)) w := by
  have u3 := Tryd.underlying3
  have a3 := Tryd.isAgg3
  have z3 := Tryd.sizeOf3
  have u9 := Tryd.underlying9
  have a9 := Tryd.isAgg9
  have z9 := Tryd.sizeOf9
  have hS : Tryd.prog.underlying 24 = some (.struct (Tryd.prog.fieldsOf 24)) := by kernel_rfl
  have hp : Tryd.prog.stoodInHeld 24 = false := by kernel_rfl
  simp only [waV]
  rw [run_eql_struct, show (10000 : Nat) = 9999 + 1 from rfl, run_equalIn_agg w 9999 24 _ _ hS hp]
  simp only [Program.fieldsOf, Tryd.underlying24]
  go_simp
  unfold eqW
  by_cases h1 : x.s = y.s <;> by_cases h2 : x.k = y.k <;> by_cases h3 : x.p = y.p <;> simp [h1, h2, h3]

/-- a box of a watch at the head of the new blocks -/
theorem box_w {w W : World} {x : Wa} (h : Below (w.heap.size + 1) (w.alloc (.cells #[.int .i64 x.s, .int .i64 x.k, .string ⟨x.p.toArray⟩] 24)) W) : W.cell? ⟨w.heap.size, 0, none⟩ = some (.int .i64 x.s) ∧ W.cell? ⟨w.heap.size, 1, none⟩ = some (.int .i64 x.k) ∧ W.cell? ⟨w.heap.size, 2, none⟩ = some (.string ⟨x.p.toArray⟩) := by
  have hb : W.heap[w.heap.size]? = some (.cells #[.int .i64 x.s, .int .i64 x.k, .string ⟨x.p.toArray⟩] 24 (0, 0)) := (h.block _ (by omega)).trans (heap_alloc_new w _)
  refine ⟨?_, ?_, ?_⟩ <;> simp [World.cell?, hb]

set_option maxRecDepth 20000 in
set_option maxHeartbeats 2000000 in
theorem hin_any (v : Value) (ws : List Wa) (x : Wa) (w : World) (hv : SeqV w v ws) (hl : ws.length ≤ 140737488355328) :
    Calls Tryd.prog 23 #[v, waV x] w fun e w' => (∃ i : Int, e = .returned (.int .i64 i) ∧ decide (0 ≤ i) = hasB ws x) ∧ Below w.heap.size w w' := by
  have KR : ∀ W, Below w.heap.size w W → ∀ (k : Nat) (y : Wa), ws[k]? = some y → ∃ b off cap, v = .slice (some ⟨b, off, none⟩) ws.length cap ∧ b < w.heap.size ∧ RowAt W b off (cellsL ws) := fun W hW k y hx => by
    obtain ⟨b, off, cap, e, hb, hr, _, _⟩ := seq_row hv (fun h0 => by obtain ⟨h1, _⟩ := List.getElem?_eq_some_iff.1 hx; rw [h0] at h1; simp at h1)
    exact ⟨b, off, cap, e, hb, hr.kept hW hb⟩
  have HKR := hide KR
  have B0 : Below w.heap.size w (w.alloc (.cells #[.int .i64 x.s, .int .i64 x.k, .string ⟨x.p.toArray⟩] 24)) := allocB _ _
  have HB0 := hide B0
  obtain ⟨va, vc, rfl⟩ := seq_slice hv
  have HQ := hide (fun y W => run_eqW x y W)
  have HBX := hide (fun W (h : Below (w.heap.size + 1) (w.alloc (.cells #[.int .i64 x.s, .int .i64 x.k, .string ⟨x.p.toArray⟩] 24)) W) => box_w h)
  clear hv KR B0
  unfold waV at HQ
  unfold waV
  go_enter Tryd.func23, Tryd.ntmps23
  go_wp2_with fail
  go_loopg [8] ws.length (fun kx s8 wr => ∃ k : Nat, s8 = .int .i64 k ∧ k ≤ ws.length ∧ ws.length - k ≤ kx ∧ Hid (hasB (ws.take k) x = false) ∧ Hid (Below (w.heap.size + 1) (w.alloc (.cells #[.int .i64 x.s, .int .i64 x.k, .string ⟨x.p.toArray⟩] 24)) wr))
  case atStart => exact ⟨0, rfl, Nat.zero_le _, Nat.le_refl _, hide (by simp [hasB]), hide (Below.refl _ _)⟩
  case round =>
    obtain ⟨k, rfl, hk, hg, hh, hB⟩ := hrel
    have HBw : Hid (Below w.heap.size w wr) := hide ((unhide HB0).trans ((unhide hB).mono (Nat.le_succ _)))
    obtain ⟨c0, c1, c2⟩ := unhide HBX wr (unhide hB)
    by_cases hlt : k < ws.length
    · obtain ⟨y, hy⟩ : ∃ y, ws[k]? = some y := ⟨_, List.getElem?_eq_getElem hlt⟩
      obtain ⟨b, off, cap, he, hb, q⟩ := unhide HKR wr (unhide HBw) k y hy
      simp only [Value.slice.injEq] at he
      obtain ⟨rfl, _, rfl⟩ := he
      have d0 := q.w0 hy
      have d1 := q.w1 hy
      have d2 := q.w2 hy
      have hkk : (k : Int) < (ws.length : Int) := by omega
      have qe := unhide HQ y
      have hms : hasB (ws.take (k + 1)) x = eqW x y := by
        rw [snoc_take hy, hasB, List.any_append]
        have := unhide hh
        rw [hasB] at this
        rw [this]; simp
      have HY : Hid (y ∈ ws) := hide (List.mem_of_getElem? hy)
      clear q hy
      cases hxy : eqW x y
      · rw [hxy] at qe hms
        have HMS := hide hms
        clear hms hxy
        go_wp2_with fail
        go_quiet (fail)
        go_wp2_with fail
        go_roundg (ws.length - (k + 1))
        case measure => omega
        case rel => exact ⟨k + 1, rfl, by omega, Nat.le_refl _, HMS, hide ((unhide hB).trans ⟨rfl, rfl, rfl, Nat.le_refl _, fun _ _ => rfl⟩)⟩
      · rw [hxy] at qe
        have HH : Hid (hasB ws x = true) := hide (by
          rw [hasB_iff, eqW_iff.1 hxy]; exact unhide HY)
        clear hms hxy
        go_wp2_with fail
        go_quiet (fail)
        go_wp2_with fail
        go_ret
        exact ⟨⟨k, rfl, by rw [unhide HH]; simp⟩, (unhide HBw).trans ⟨rfl, rfl, rfl, Nat.le_refl _, fun _ _ => rfl⟩⟩
    · obtain rfl : k = ws.length := by omega
      rw [List.take_length] at hh
      go_wp2_with fail
      go_ret
      exact ⟨⟨-1, rfl, by rw [unhide hh]; rfl⟩, unhide HBw⟩
set_option maxHeartbeats 1000000 in
theorem hcon_any (v : Value) (ws : List Wa) (x : Wa) (w : World) (hv : SeqV w v ws) (hl : ws.length ≤ 140737488355328) :
    Calls Tryd.prog 15 #[v, waV x] w fun e w' => e = .returned (.bool (hasB ws x)) ∧ Below w.heap.size w w' := by
  have C := hin_any v ws x (w.alloc (.cells #[.int .i64 x.s, .int .i64 x.k, .string ⟨x.p.toArray⟩] 24)) (hv.alloc _) hl
  obtain ⟨va, vc, rfl⟩ := seq_slice hv
  generalize hasB ws x = r at C ⊢
  clear hv
  unfold waV at C
  unfold waV
  go_enter Tryd.func15, Tryd.ntmps15
  go_wp2_with fail
  refine C.mono ?_
  rintro e w1 ⟨⟨i, rfl, hi⟩, hb1⟩
  have HB := hide (nbox_then hb1)
  have HI := hide hi
  clear C hb1 hi
  go_wp2_with fail
  go_ret
  exact ⟨hret_bool (unhide HI), unhide HB⟩
set_option maxHeartbeats 2000000 in
theorem hadm_any (x : Wa) (w : World) :
    Calls Tryd.prog 14 #[waV x] w fun e w' => e = .returned (.int .i64 (admW x)) ∧ Below w.heap.size w w' := by
  obtain ⟨s, k, p⟩ := x
  have C := fun W => good_any ⟨p.toArray⟩ W
  have HE := hide (show ∀ r : Int, r = (if k ≠ 1 ∧ k ≠ 2 then 4 else if goodB p = false then 2 else if s < 1 ∨ 2147483647 < s then 3 else 0) → r = admW ⟨s, k, p⟩ from fun r h => h)
  unfold waV
  simp only
  obtain ⟨r, hr⟩ : ∃ r, admW ⟨s, k, p⟩ = r := ⟨_, rfl⟩
  have HR := hide hr
  rw [hr]
  clear hr
  rw [unhide HR] at HE
  by_cases hk : k ≠ 1 ∧ k ≠ 2
  · have h1 : (k != 1) = true := by simpa using hk.1
    have h2 : (k != 2) = true := by simpa using hk.2
    have h12 : (k != 1 && k != 2) = true := by rw [h1, h2]; rfl
    have h3 : r = 4 := (unhide HE 4 (by rw [if_pos hk])).symm
    subst h3
    clear hk
    go_enter Tryd.func14, Tryd.ntmps14
    go_wp2_with fail
    go_ret
    exact ⟨rfl, allocB _ _⟩
  · have hkk : k = 1 ∨ k = 2 := by
      by_cases h : k = 1
      · exact .inl h
      · by_cases h' : k = 2
        · exact .inr h'
        · exact absurd ⟨h, h'⟩ hk
    have HE2 := hide (fun r' (h : r' = (if goodB p = false then 2 else if s < 1 ∨ 2147483647 < s then 3 else 0)) => unhide HE r' (by rw [if_neg hk]; exact h))
    clear HE hk
    cases hg : goodB p
    · have h3 : r = 2 := (unhide HE2 2 (by rw [hg]; rfl)).symm
      subst h3
      have Hg := hide hg
      clear hg
      rcases hkk with rfl | rfl
      all_goals
        go_enter Tryd.func14, Tryd.ntmps14
        go_wp2_with fail
        refine (C _).mono ?_
        rintro e w1 ⟨rfl, hb1⟩
        have HB := hide (nbox_then hb1)
        rw [unhide Hg]
        clear hb1
        go_wp2_with fail
        go_ret
        exact ⟨rfl, unhide HB⟩
    · have h3 := unhide HE2
      rw [hg] at h3
      simp only [Bool.true_eq_false, if_false] at h3
      have Hg := hide hg
      clear hg HE2
      by_cases hs1 : s < 1
      · have h4 : r = 3 := (h3 3 (by rw [if_pos (.inl hs1)])).symm
        subst h4
        clear h3
        rcases hkk with rfl | rfl
        all_goals
          go_enter Tryd.func14, Tryd.ntmps14
          go_wp2_with fail
          refine (C _).mono ?_
          rintro e w1 ⟨rfl, hb1⟩
          have HB := hide (nbox_then hb1)
          have c0 : w1.cell? ⟨w.heap.size, 0, none⟩ = some (.int .i64 s) := by rw [hb1.cell (p := ⟨w.heap.size, 0, none⟩) (by simp)]; simp
          rw [unhide Hg]
          clear hb1
          go_wp2_with fail
          go_ret
          exact ⟨rfl, unhide HB⟩
      · by_cases hs2 : 2147483647 < s
        · have h4 : r = 3 := (h3 3 (by rw [if_pos (.inr hs2)])).symm
          subst h4
          clear h3
          rcases hkk with rfl | rfl
          all_goals
            go_enter Tryd.func14, Tryd.ntmps14
            go_wp2_with fail
            refine (C _).mono ?_
            rintro e w1 ⟨rfl, hb1⟩
            have HB := hide (nbox_then hb1)
            have c0 : w1.cell? ⟨w.heap.size, 0, none⟩ = some (.int .i64 s) := by rw [hb1.cell (p := ⟨w.heap.size, 0, none⟩) (by simp)]; simp
            rw [unhide Hg]
            clear hb1
            go_wp2_with fail
            go_ret
            exact ⟨rfl, unhide HB⟩
        · have h4 : r = 0 := (h3 0 (by rw [if_neg (by omega)])).symm
          subst h4
          clear h3
          rcases hkk with rfl | rfl
          all_goals
            go_enter Tryd.func14, Tryd.ntmps14
            go_wp2_with fail
            refine (C _).mono ?_
            rintro e w1 ⟨rfl, hb1⟩
            have HB := hide (nbox_then hb1)
            have c0 : w1.cell? ⟨w.heap.size, 0, none⟩ = some (.int .i64 s) := by rw [hb1.cell (p := ⟨w.heap.size, 0, none⟩) (by simp)]; simp
            rw [unhide Hg]
            clear hb1
            go_wp2_with fail
            go_ret
            exact ⟨rfl, unhide HB⟩

end Go.Proofs.YtppmkgehdblbdaaDoor

namespace Go.Proofs.YtppmkgehdblbdaaDoor
open Go.RowKit

theorem step_app_wa {w : World} {ops : Array Oper} {o : Oper} {a : Act} {K : Act → World → Prop} {Q : Exit → Act → World → Prop} {E : Prop} (hgd : Region.wanted o (yielded ops a.tmps) = true) (s x : Operand)
    (ho : o.op = .call { callee := .builtin .append, args := #[s, x], argTypes := #[22, 22] })
    (v : Value) (ns : List Wa) (hs : a.eval s = v) (hown : OwnS w 0 v ns)
    (q : Nat) (hx : a.eval x = .slice (some ⟨q, 0, none⟩) 1 1) (t : Wa) (hnews : OneR w q t) (hl : (ns.length + 1) * 32 ≤ 140737488355328)
    (h : ∀ a' c' w', OwnS w' 0 (.slice a' (ns.length + 1) c') (ns ++ [t]) → w.grownBy w' v.ownBlock → ((Value.slice a' (ns.length + 1) c').ownBlock = v.ownBlock ∨ (Value.slice a' (ns.length + 1) c').ownBlock = some w.heap.size) → K (a.put o.dst (.slice a' (ns.length + 1) c')) w') :
    if Region.wanted o (yielded ops a.tmps) = true then Oper.wp Tryd.prog o a w K Q else E := by
  rw [if_pos hgd]
  obtain ⟨i0, hi0, hz0, hz1, hz2⟩ := winfo
  obtain ⟨v', w', hr, h2, h3, _, h5⟩ := run_append_own_at (P := Tryd.prog) w 0 22 o.type 24 i0 _ 3 32 Tryd.underlying22 hi0 hz0 hz1 hz2 rfl (by decide) v ns.length (cellsL ns) hown.row ⟨q, 0, none⟩ 1 1 (wcells t) rfl (one_news hnews) (Lay.one t) (by simp only [maxLen]; omega) hl (Nat.zero_le _)
  have h2' : OwnS w' 0 v' (ns ++ [t]) := OwnS.of_row (by rw [List.length_append, cellsL_snoc]; exact h2)
  obtain ⟨a', c', rfl, _⟩ := h2'.slice
  have hlen : (ns ++ [t]).length = ns.length + 1 := by simp
  rw [hlen] at h2' hr h5
  unfold Oper.wp execOp
  simp only [ho, resolve, invoke, builtin, Sem.run_bind, Sem.run_pure, Result.andThen_ok, List.map_toArray, List.map_cons, List.map_nil, hs, hx, hr]
  exact h a' c' w' h2' h3 h5
theorem addE_adm {ws : List Wa} {x : Wa} (h : admW x ≠ 0) : addE ws x = admW x ∧ addL ws x = [] := by
  have e : addE ws x = admW x := by rw [addE, if_pos h]
  exact ⟨e, by rw [addL, e, if_pos h]⟩
theorem addE_has {ws : List Wa} {x : Wa} (h : admW x = 0) (hh : hasB ws x = true) : addE ws x = 0 ∧ addL ws x = ws := by
  have e : addE ws x = 0 := by rw [addE, if_neg (by simp [h]), if_pos hh]
  exact ⟨e, by rw [addL, e, if_neg (by simp), if_pos hh]⟩
theorem addE_full {ws : List Wa} {x : Wa} (h : admW x = 0) (hh : hasB ws x = false) (hf : 400 ≤ ws.length) : addE ws x = 6 ∧ addL ws x = [] := by
  have e : addE ws x = 6 := by rw [addE, if_neg (by simp [h]), if_neg (by simp [hh]), if_pos hf]
  exact ⟨e, by rw [addL, e, if_pos (by decide)]⟩
theorem addE_new {ws : List Wa} {x : Wa} (h : admW x = 0) (hh : hasB ws x = false) (hf : ¬ 400 ≤ ws.length) : addE ws x = 0 ∧ addL ws x = ws ++ [x] := by
  have e : addE ws x = 0 := by rw [addE, if_neg (by simp [h]), if_neg (by simp [hh]), if_neg hf]
  exact ⟨e, by rw [addL, e, if_neg (by simp), if_neg (by simp [hh])]⟩

theorem add_end {w : World} {ws : List Wa} {x : Wa} (g3 : Nat) (w4 w5 : World) (a5 : Option Addr) (c5 : Nat) (hg : w.heap.size ≤ g3) (hb : Below w.heap.size w w4) (ho : OwnS w5 0 (.slice a5 (ws.length + 1) c5) (ws ++ [x])) (hg5 : (w4.alloc (.cells #[.int .i64 x.s, .int .i64 x.k, .string ⟨x.p.toArray⟩] 24)).grownBy w5 (Value.slice (some ⟨g3, 0, none⟩) ws.length (ws.length + 1)).ownBlock)
    (hl : (Value.slice a5 (ws.length + 1) c5).ownBlock = (Value.slice (some ⟨g3, 0, none⟩) ws.length (ws.length + 1)).ownBlock ∨ (Value.slice a5 (ws.length + 1) c5).ownBlock = some (w4.alloc (.cells #[.int .i64 x.s, .int .i64 x.k, .string ⟨x.p.toArray⟩] 24)).heap.size) :
    OwnS w5 w.heap.size (.slice a5 (ws.length + 1) c5) (ws ++ [x]) ∧ Below w.heap.size w w5 := by
  have hB := nnext hb (allocB w4 (.cells #[.int .i64 x.s, .int .i64 x.k, .string ⟨x.p.toArray⟩] 24))
  refine ⟨ownS_base ho (fun j hj => ?_), hB.grown hg5 hB.size (fun j hj => by cases hj; exact hg)⟩
  rcases hl with h | h
  · rw [h] at hj; cases hj; exact hg
  · rw [h] at hj; cases hj; exact hB.size

set_option maxRecDepth 20000 in
set_option maxHeartbeats 4000000 in
theorem add_any (v : Value) (ws : List Wa) (x : Wa) (w : World) (hv : SeqV w v ws) (hs : Short ws) (hx : x.p.length ≤ 140737488355328) (hl : ws.length * 32 ≤ 140737488351232) :
    Calls Tryd.prog 5 #[v, waV x] w fun r w' => ∃ vl, r = .returned (.tuple #[vl, .int .i64 (addE ws x)]) ∧ OwnS w' w.heap.size vl (addL ws x) ∧ Below w.heap.size w w' := by
  have CA := fun W => hadm_any x W
  have CC := hide (fun W (hW : Below w.heap.size w W) => hcopied_any v ws W (hv.next hW) hs hl)
  have CK := hide (fun W (hW : Below w.heap.size w W) => hcon_any v ws x W (hv.next hW) (by omega))
  have CO := fun W => wown_any x W hx
  obtain ⟨va, vc, rfl⟩ := seq_slice hv
  have HBX : Hid (∀ W, Below (w.heap.size + 1) (w.alloc (.cells #[.int .i64 x.s, .int .i64 x.k, .string ⟨x.p.toArray⟩] 24)) W → (W.cell? ⟨w.heap.size, 0, none⟩ = some (.int .i64 x.s) ∧ W.cell? ⟨w.heap.size, 1, none⟩ = some (.int .i64 x.k) ∧ W.cell? ⟨w.heap.size, 2, none⟩ = some (.string ⟨x.p.toArray⟩)) ∧ Below w.heap.size w W ∧ w.heap.size < W.heap.size) := hide (fun W h => ⟨box_w h, (allocB _ _).trans (h.mono (Nat.le_succ _)), by have := h.size; simp at this; omega⟩)
  clear hv hs hx
  unfold waV at CA CK CO
  unfold waV
  by_cases ha : admW x = 0
  · rw [ha] at CA
    cases hh : hasB ws x
    · rw [hh] at CK
      by_cases hf : 400 ≤ ws.length
      · obtain ⟨e1, e2⟩ := addE_full ha hh hf
        rw [e1, e2]
        have hfi : (400 : Int) ≤ (ws.length : Int) := by omega
        clear ha hh e1 e2
        go_enter Tryd.func5, Tryd.ntmps5
        go_wp2_with fail
        refine (CA _).mono ?_
        rintro e w1 ⟨rfl, hb1⟩
        rw [show (w.alloc (.cells #[.int .i64 x.s, .int .i64 x.k, .string ⟨x.p.toArray⟩] 24)).heap.size = w.heap.size + 1 by simp] at hb1
        obtain ⟨⟨c0, c1, c2⟩, hB1, hz1⟩ := unhide HBX w1 hb1
        have HB1 := hide hB1
        clear hb1 hB1
        go_wp2_with fail
        refine (unhide CK w1 (unhide HB1)).mono ?_
        rintro e w2 ⟨rfl, hb2⟩
        have HB2 := hide (nnext (unhide HB1) hb2)
        clear hb2
        go_wp2_with fail
        go_ret2
        exact ⟨_, rfl, .inl ⟨rfl, rfl⟩, unhide HB2⟩
      · obtain ⟨e1, e2⟩ := addE_new ha hh hf
        rw [e1, e2]
        have hfi : ¬ ((400 : Int) ≤ (ws.length : Int)) := by omega
        have hfd : decide ((400 : Int) ≤ (ws.length : Int)) = false := by simp; omega
        clear ha hh e1 e2
        go_enter Tryd.func5, Tryd.ntmps5
        go_wp2_with fail
        refine (CA _).mono ?_
        rintro e w1 ⟨rfl, hb1⟩
        rw [show (w.alloc (.cells #[.int .i64 x.s, .int .i64 x.k, .string ⟨x.p.toArray⟩] 24)).heap.size = w.heap.size + 1 by simp] at hb1
        obtain ⟨⟨c0, c1, c2⟩, hB1, hz1⟩ := unhide HBX w1 hb1
        have HB1 := hide hB1
        have HC1 := hide hb1
        clear hb1 hB1
        go_wp2_with fail
        refine (unhide CK w1 (unhide HB1)).mono ?_
        rintro e w2 ⟨rfl, hb2⟩
        have hC2 := (unhide HC1).trans (hb2.mono (by omega))
        obtain ⟨⟨m0, m1, m2⟩, hB2, hz2⟩ := unhide HBX w2 hC2
        have HB2 := hide hB2
        have HC2 := hide hC2
        have K1 : Hid (∀ w3, Below w2.heap.size w2 w3 → (w3.cell? ⟨w.heap.size, 0, none⟩ = some (.int .i64 x.s) ∧ w3.cell? ⟨w.heap.size, 1, none⟩ = some (.int .i64 x.k) ∧ w3.cell? ⟨w.heap.size, 2, none⟩ = some (.string ⟨x.p.toArray⟩)) ∧ Below w.heap.size w w3) := hide (fun w3 hb3 => by
          obtain ⟨h1, h2, _⟩ := unhide HBX w3 ((unhide HC2).trans (hb3.mono (by omega)))
          exact ⟨h1, h2⟩)
        have CC2 := hide (fun W (hW : Below w2.heap.size w2 W) => unhide CC W (nnext (unhide HB2) hW))
        have hBs := (unhide HB2).size
        have HK5 := hide (@add_end w ws x)
        clear hb2 hB2 hC2 c0 c1 c2
        go_wp2_with fail
        go_region_law (first
          | (refine step_app_wa (by kernel_rfl) _ _ (by rfl) (.slice (some ⟨g3, 0, none⟩) ws.length (ws.length + 1)) ws (by rfl) (unhide HO4) w4.heap.size (by rfl) x (one_newW w4 x) (by omega) ?_; intro a5 c5 w5 ho5 hg5 hl5; obtain ⟨o5, b5⟩ := unhide HK5 g3 w4 w5 a5 c5 hg3 (unhide HB4) ho5 hg5 hl5; have HO5 := hide o5; have HB5 := hide b5; clear o5 b5; clear ho5 hg5 hl5)
          | (go_simp; refine (unhide CC2 _ (by first | exact Below.refl _ _ | exact (Below.refl _ _).drew)).mono ?_; rintro e w3 ⟨g3, rfl, hg3', ho3, hb3⟩; have hg3 : w.heap.size ≤ g3 := Nat.le_trans hBs hg3'; have HB23 : Hid (Below w2.heap.size w2 w3) := (by first | exact hb3 | exact nbelow_drew hb3); obtain ⟨⟨p0, p1, p2⟩, hB3⟩ := unhide K1 w3 (unhide HB23); have HB3 := hide hB3; have HO3 := hide ho3; clear hb3 hB3 ho3 hg3')
          | (go_simp; refine (CO _).mono ?_; rintro e w4 ⟨rfl, hb4⟩; have HB4 := hide (nnext (unhide HB3) hb4); have HO4 : Hid (OwnS (w4.alloc (.cells #[.int .i64 x.s, .int .i64 x.k, .string ⟨x.p.toArray⟩] 24)) 0 (.slice (some ⟨g3, 0, none⟩) ws.length (ws.length + 1)) ws) := hide (.inr ⟨g3, _, rfl, Nat.zero_le _, ((unhide HO3).next hb4).next (allocB _ _)⟩); clear hb4))
        all_goals go_wp2_with fail
        all_goals go_ret2
        all_goals exact ⟨_, rfl, unhide HO5, unhide HB5⟩
    · rw [hh] at CK
      obtain ⟨e1, e2⟩ := addE_has ha hh
      rw [e1, e2]
      clear ha hh e1 e2
      go_enter Tryd.func5, Tryd.ntmps5
      go_wp2_with fail
      refine (CA _).mono ?_
      rintro e w1 ⟨rfl, hb1⟩
      rw [show (w.alloc (.cells #[.int .i64 x.s, .int .i64 x.k, .string ⟨x.p.toArray⟩] 24)).heap.size = w.heap.size + 1 by simp] at hb1
      obtain ⟨⟨c0, c1, c2⟩, hB1, hz1⟩ := unhide HBX w1 hb1
      have HB1 := hide hB1
      clear hb1 hB1
      go_wp2_with fail
      refine (unhide CK w1 (unhide HB1)).mono ?_
      rintro e w2 ⟨rfl, hb2⟩
      have HB2 := hide (nnext (unhide HB1) hb2)
      clear hb2
      go_wp2_with fail
      refine (unhide CC w2 (unhide HB2)).mono ?_
      rintro e w3 ⟨g, rfl, hg, ho, hb3⟩
      have HB3 := hide (nnext (unhide HB2) hb3)
      have hBs := (unhide HB2).size
      clear hb3
      go_wp2_with fail
      go_ret2
      exact ⟨_, rfl, .inr ⟨g, _, rfl, by omega, ho⟩, unhide HB3⟩
  · obtain ⟨e1, e2⟩ := addE_adm (ws := ws) ha
    rw [e1, e2]
    generalize admW x = r at CA ha ⊢
    have hrb : (r == 0) = false := by simpa using ha
    clear e1 e2
    go_enter Tryd.func5, Tryd.ntmps5
    go_wp2_with fail
    refine (CA _).mono ?_
    rintro e w1 ⟨rfl, hb1⟩
    have HB1 := hide (nbox_then hb1)
    clear hb1
    go_wp2_with fail
    go_ret2
    exact ⟨_, rfl, .inl ⟨rfl, rfl⟩, unhide HB1⟩

end Go.Proofs.YtppmkgehdblbdaaDoor
