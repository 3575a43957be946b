/-
  The law WatchOnce: the walk.
-/
import Derived.Test.YtppmkgehdblbdaaHE
namespace Go.Proofs.Ytppmkgehdblbdaa
open Go.RowKit

theorem short_fire {ws : List Wa} (h : Short ws) (es : List Ev) : Short (fireW ws es) := fun x hx => h x (fireW_sub ws es x hx)
theorem run_app_none {P : Program} {w : World} (base : Nat) (t ty e : TypeId) (i : TypeInfo) (size : Nat) (ht : P.underlying t = some (.slice e)) (hi : P.info? e = some i)
    (v : Value) (n : Nat) (xs : List Value) (hown : w.ownsRow base e size v n xs) (c : Nat) :
    (Builtin.append_ #[t, t] ty #[v, .slice none 0 c]).run P w = .ok v w := by
  rcases hown.2 with ⟨rfl, rfl⟩ | ⟨g, cap, cur, rfl, _, _, hnc, _⟩
  · simp [Builtin.append_, run_underlying ht, sizeOf, typeInfo, hi, Builtin.lenOf, Builtin.firstCells]
  · simp [Builtin.append_, run_underlying ht, sizeOf, typeInfo, hi, Builtin.lenOf, Builtin.firstCells, hnc, storeCells]
/-- events behind events -/
theorem wpList_app_evs {w : World} {ops : Array Oper} {rest : List Oper} {o : Oper} {a : Act} {Q : Exit → Act → World → Prop} (hgd : o.guard = none) (s x : Operand)
    (ho : o.op = .call { callee := .builtin .append, args := #[s, x], argTypes := #[23, 23] })
    (v u : Value) (ns ms : List Ev) (B : Nat) (hs : a.eval s = v) (hown : OwnS w B v ns) (hB : B ≤ w.heap.size) (hx : a.eval x = u) (hu : SeqV w u ms) (hl : (ns.length + ms.length) * 24 ≤ 140737488355328)
    (h : ∀ a' c' w', OwnS w' B (.slice a' (ns.length + ms.length) c') (ns ++ ms) → w.grownBy w' v.ownBlock → wpList Try.prog ops Q rest (a.put o.dst (.slice a' (ns.length + ms.length) c')) w') :
    wpList Try.prog ops Q (o :: rest) a w := by
  refine wpList_plain hgd fun K hK => ?_
  obtain ⟨i0, hi0, hz0, hz1, hz2⟩ := einfo
  have some_case : ∀ (ad : Addr) (cap : Nat), u = .slice (some ad) ms.length cap → (∀ j y, (cellsL ms)[j]? = some y → w.cell? (ad.add j) = some y) → Oper.wp Try.prog o a w K Q := by
    intro ad cap hu' hc
    obtain ⟨v', w', hrun, h2, h3, _, h5⟩ := run_append_own_at (P := Try.prog) w B 23 o.type 31 i0 _ 2 24 Try.underlying23 hi0 hz0 hz1 hz2 rfl (by decide) v ns.length (cellsL ns) hown.row ad ms.length cap (cellsL ms) (cellsL_length ms) hc (cellsL_one ms) (by simp only [maxLen]; omega) hl hB
    have h2' : OwnS w' B v' (ns ++ ms) := OwnS.of_row (by rw [List.length_append, cellsL_append]; exact h2)
    obtain ⟨a', c', rfl, _⟩ := h2'.slice
    rw [List.length_append] at h2' hrun h5
    subst hu'
    unfold Oper.wp execOp
    simp only [ho, resolve, invoke, builtin, Sem.run_bind, Sem.run_pure, Result.andThen_ok, List.map_toArray, List.map_cons, List.map_nil, hs, hx, hrun]
    exact hK _ _ (h a' c' w' h2' h3)
  rcases hu with ⟨ao, cap, rfl, rfl, _⟩ | ⟨b, off, cap, rfl, _, _, hb, _, hr⟩
  · cases ao with
    | none =>
      obtain ⟨a', c', rfl, _⟩ := hown.slice
      have hrun := run_app_none (P := Try.prog) (w := w) B 23 o.type 31 i0 2 Try.underlying23 hi0 _ ns.length (cellsL ns) hown.row cap
      unfold Oper.wp execOp
      simp only [ho, resolve, invoke, builtin, Sem.run_bind, Sem.run_pure, Result.andThen_ok, List.map_toArray, List.map_cons, List.map_nil, hs, hx, hrun]
      exact hK _ _ (h a' c' w (by rw [List.append_nil]; exact hown) (World.grownBy.refl _ _))
    | some ad => exact some_case ad cap rfl (fun j y hj => by simp [cellsL_nil] at hj)
  · exact some_case ⟨b, off, none⟩ cap rfl (fun j y hj => by rw [Addr.add_lit]; exact hr j y hj)
def matchB (n : Nt) (x : Wa) : Bool := (x.s == n.s) && (x.p == n.p)
theorem match_snoc {ws : List Wa} {k : Nat} {x : Wa} (n : Nt) (h : ws[k]? = some x) : (ws.take (k + 1)).any (matchB n) = ((ws.take k).any (matchB n) || matchB n x) := by
  rw [snoc_take h]; simp
theorem match_all {ws : List Wa} {n : Nt} (h : ∃ x ∈ ws, x.s = n.s ∧ x.p = n.p) : (ws.take ws.length).any (matchB n) = true := by
  rw [List.take_length, List.any_eq_true]
  obtain ⟨x, hx, h1, h2⟩ := h
  exact ⟨x, hx, by simp [matchB, h1, h2]⟩
theorem lists_len {a b n : Nat} (h : a + b = n) : (a : Int) + (b : Int) = (n : Int) := by omega

set_option maxRecDepth 20000 in
set_option maxHeartbeats 4000000 in
theorem watchOnce_walk (v u : Value) (ws : List Wa) (es : List Ev) (w : World) (hv : SeqV w v ws) (hu : SeqV w u es) (hs : Short ws) (he : ShortE es) (hl : ws.length * 32 ≤ 140737488351232) (hle : es.length * 24 ≤ 140737488351232) :
    Calls Try.prog 4 #[v, u] w fun e w' => e = .returned (.bool true) ∧ Below w.heap.size w w' := by
  have C1 := kept_any v ws w hv (by omega)
  have hfl := fire_len es ws
  have hag := fire_again ws es
  have CF := hide (fun W v' u' (h : SeqV W v' ws) (h' : SeqV W u' es) => fire_any v' u' ws es W h h' hs he hl (by omega))
  have C3 := hide (fun W v' (h : SeqV W v' (fireW ws es)) => kept_any v' (fireW ws es) W h (by omega))
  have CG := hide (fun W v' u' (h : SeqV W v' (fireW ws es)) (h' : SeqV W u' es) => fire_any v' u' (fireW ws es) es W h h' (short_fire hs es) he (by omega) (by omega))
  rw [hag.1, hag.2] at CG
  have C5 := hide (fun W va vb (h : SeqV W va (fireW ws es)) (h' : SeqV W vb (fireW ws es)) => ksameW_any va vb (fireW ws es) W h h' (by omega))
  have KR : ∀ W, Below w.heap.size w W → ∀ k x, ws[k]? = some x → ∃ b off cap, v = .slice (some ⟨b, off, none⟩) ws.length cap ∧ b < w.heap.size ∧ RowAt W b off (cellsL ws) := fun W hW k x hx => by
    obtain ⟨b, off, cap, e, hb, hr, _, _⟩ := seq_row hv (fun h0 => by obtain ⟨h1, _⟩ := List.getElem?_eq_some_iff.1 hx; rw [h0] at h1; simp at h1)
    exact ⟨b, off, cap, e, hb, hr.kept hW hb⟩
  have HKR := hide KR
  have HM := hide (fun n (h : n ∈ fireN ws es) => mem_fireN es ws n h)
  have HU := hide (fun W (hW : Below w.heap.size w W) => hu.next hW)
  obtain ⟨va, vc, rfl⟩ := seq_slice hv
  obtain ⟨ua, uc, rfl⟩ := seq_slice hu
  obtain ⟨N, hN⟩ : ∃ N, fireN ws es = N := ⟨_, rfl⟩
  obtain ⟨L, hL⟩ : ∃ L, fireW ws es = L := ⟨_, rfl⟩
  rw [hN] at CF HM hfl
  rw [hL] at CF C3 CG C5 hfl
  have hfl' := lists_len hfl
  clear hv hu hs he KR hN hL hag
  go_enter Try.func4, Try.ntmps4
  go_wp2_with fail
  refine C1.mono ?_
  rintro e w1 ⟨v1, rfl, ho1, hb1⟩
  have HB1 := hide hb1
  have HS1 := hide (fun W (hW : Below w1.heap.size w1 W) => ho1.seq.next hW)
  obtain ⟨a1, c1, rfl, _⟩ := ho1.slice
  clear C1 ho1 hb1
  go_wp2_with (at_builtin; refine wpList_app_evs rfl _ _ rfl (.slice none 0 0) (.slice ua es.length uc) [] es w1.heap.size rfl (.inl ⟨rfl, rfl⟩) (Nat.le_refl _) rfl (unhide HU _ (unhide HB1)) (by simp; omega) ?_)
  intro a2 c2 w2 ho2 hg2
  have hb2 : Below w1.heap.size w1 w2 := grownO hg2 _ (Nat.le_refl _) (by intro k hk; cases hk)
  have CF1 := unhide CF w2 _ _ (unhide HS1 w2 hb2) ho2.seq
  have HB2 := hide (nnext (unhide HB1) hb2)
  clear ho2 hg2 hb2 HS1
  try simp only [List.length_nil, Nat.zero_add, List.nil_append] at CF1
  try simp only [List.length_nil, Nat.zero_add]
  go_wp2_with fail
  refine CF1.mono ?_
  rintro e w3 ⟨vn3, vl3, rfl, hn3, ⟨g3, rfl, hg3, ho3⟩, hb3⟩
  have HB3 := hide (nnext (unhide HB2) hb3)
  have C31 := unhide C3 w3 _ (ownr_seq ho3)
  have HN3 := hide (fun W (hW : Below w3.heap.size w3 W) => hn3.seq.next hW)
  have HO3 := hide (fun W (hW : Below w3.heap.size w3 W) => (ownr_seq ho3).next hW)
  obtain ⟨na3, nc3, rfl, _⟩ := hn3.slice
  clear CF1 hn3 ho3 hb3
  go_wp2_with fail
  refine C31.mono ?_
  rintro e w4 ⟨v4, rfl, ho4, hb4⟩
  have HB34 := hide hb4
  have HB4 := hide (nnext (unhide HB3) hb4)
  have HS4 := hide (fun W (hW : Below w4.heap.size w4 W) => ho4.seq.next hW)
  obtain ⟨a4, c4, rfl, _⟩ := ho4.slice
  clear C31 ho4 hb4
  go_wp2_with (at_builtin; refine wpList_app_evs rfl _ _ rfl (.slice none 0 0) (.slice ua es.length uc) [] es w4.heap.size rfl (.inl ⟨rfl, rfl⟩) (Nat.le_refl _) rfl (unhide HU _ (unhide HB4)) (by simp; omega) ?_)
  intro a5 c5 w5 ho5 hg5
  have hb5 : Below w4.heap.size w4 w5 := grownO hg5 _ (Nat.le_refl _) (by intro k hk; cases hk)
  have CG1 := unhide CG w5 _ _ (unhide HS4 w5 hb5) ho5.seq
  have HB35 := hide (nnext (unhide HB34) hb5)
  have HB5 := hide (nnext (unhide HB4) hb5)
  clear ho5 hg5 hb5 HS4 HB34
  try simp only [List.length_nil, Nat.zero_add, List.nil_append] at CG1
  try simp only [List.length_nil, Nat.zero_add]
  go_wp2_with fail
  refine CG1.mono ?_
  rintro e w6 ⟨vn6, vl6, rfl, hn6, ⟨g6, rfl, hg6, ho6⟩, hb6⟩
  have HB36 := hide (nnext (unhide HB35) hb6)
  have HB6 := hide (nnext (unhide HB5) hb6)
  have C51 := unhide C5 w6 _ _ (unhide HO3 w6 (unhide HB36)) (ownr_seq ho6)
  obtain ⟨na6, nc6, rfl, _⟩ := hn6.slice
  clear CG1 hn6 ho6 hb6
  simp only [List.length_nil]
  go_wp2_with fail
  refine C51.mono ?_
  rintro e w7 ⟨rfl, hb7⟩
  have HB37 := hide (nnext (unhide HB36) hb7)
  have HB7 := hide (nnext (unhide HB6) hb7)
  clear C51 hb7
  go_wp2_with fail
  refine (tells_any _).mono ?_
  rintro e w8 ⟨rfl, hb8⟩
  have HB38 := hide (nnext (unhide HB37) hb8)
  have HB8 := hide (nnext (unhide HB7) hb8)
  have HKN : Hid (∀ W, Below w8.heap.size w8 W → ∀ k x, N[k]? = some x → ∃ b off cap, Value.slice na3 N.length nc3 = .slice (some ⟨b, off, none⟩) N.length cap ∧ RowAt W b off (cellsL N)) := hide (fun W hW k x hx => by
    obtain ⟨b, off, cap, e, _, hr, _, _⟩ := seq_row (unhide HN3 W (nnext (unhide HB38) hW)) (fun h0 => by obtain ⟨h1, _⟩ := List.getElem?_eq_some_iff.1 hx; rw [h0] at h1; simp at h1)
    exact ⟨b, off, cap, e, hr⟩)
  clear hb8
  go_wp2_with fail
  go_loopg [9] N.length (fun kx s9 wr => ∃ i : Nat, s9 = .int .i64 i ∧ i ≤ N.length ∧ N.length - i ≤ kx ∧ Hid (Below w8.heap.size w8 wr))
  case atStart => exact ⟨0, rfl, Nat.zero_le _, Nat.le_refl _, hide (Below.refl _ _)⟩
  case round =>
    obtain ⟨i, rfl, hi, hgi, hB⟩ := hrel
    by_cases hlt : i < N.length
    · obtain ⟨n, hn⟩ : ∃ n, N[i]? = some n := ⟨_, List.getElem?_eq_getElem hlt⟩
      have HIN := hide hn
      have HMA := hide (match_all (unhide HM n (List.mem_of_getElem? hn)))
      have hii : (i : Int) < (N.length : Int) := by omega
      clear hn
      go_wp2_with fail
      go_loopg [10, 11] ws.length (fun kx s10 s11 wq => ∃ (k : Nat) (b : Bool), s10 = .bool b ∧ s11 = .int .i64 k ∧ k ≤ ws.length ∧ ws.length - k ≤ kx ∧ Hid ((ws.take k).any (matchB n) = b) ∧ Hid (Below w8.heap.size w8 wq))
      case atStart => exact ⟨0, false, rfl, rfl, Nat.zero_le _, Nat.le_refl _, hide rfl, hB⟩
      case round =>
        obtain ⟨k, b, rfl, rfl, hk, hgk, hm, hB2⟩ := hrel
        by_cases hlk : k < ws.length
        · obtain ⟨x, hx⟩ : ∃ x, ws[k]? = some x := ⟨_, List.getElem?_eq_getElem hlk⟩
          have hms := match_snoc n hx
          rw [unhide hm] at hms
          obtain ⟨b1, o1, cc1, he, hb1, q1⟩ := unhide HKR wr (nnext (unhide HB8) (unhide hB2)) k x hx
          simp only [Value.slice.injEq] at he
          obtain ⟨rfl, _, rfl⟩ := he
          obtain ⟨b2, o2, cc2, he, q2⟩ := unhide HKN wr (unhide hB2) i n (unhide HIN)
          simp only [Value.slice.injEq] at he
          obtain ⟨rfl, _, rfl⟩ := he
          have d0 := q1.w0 hx
          have d1 := q1.w1 hx
          have d2 := q1.w2 hx
          have r0 := q2.t0 (unhide HIN)
          have r1 := q2.t1 (unhide HIN)
          have r2 := q2.t2 (unhide HIN)
          have hkk : (k : Int) < (ws.length : Int) := by omega
          clear q1 q2 hx
          cases b
          · by_cases hxs : x.s = n.s
            · have hxb : (x.s == n.s) = true := by simpa using hxs
              have hxd : decide (x.s = n.s) = true := by simpa using hxs
              have HMS : Hid ((ws.take (k + 1)).any (matchB n) = (x.p == n.p)) := hide (by rw [hms, matchB, hxb]; rfl)
              clear hms hxs
              go_wp2_with fail
              go_quiet (fail)
              go_wp2_with fail
              go_roundg (ws.length - (k + 1))
              case measure => omega
              case rel => exact ⟨k + 1, _, rfl, rfl, by omega, Nat.le_refl _, HMS, hide (nnext (unhide hB2) ⟨rfl, rfl, rfl, Nat.le_refl _, fun _ _ => rfl⟩)⟩
            · have hxb : (x.s == n.s) = false := by simpa using hxs
              have hxd : decide (x.s = n.s) = false := by simpa using hxs
              have HMS : Hid ((ws.take (k + 1)).any (matchB n) = false) := hide (by rw [hms, matchB, hxb]; rfl)
              clear hms hxs
              go_wp2_with fail
              go_quiet (fail)
              go_wp2_with fail
              go_roundg (ws.length - (k + 1))
              case measure => omega
              case rel => exact ⟨k + 1, _, rfl, rfl, by omega, Nat.le_refl _, HMS, hide (nnext (unhide hB2) ⟨rfl, rfl, rfl, Nat.le_refl _, fun _ _ => rfl⟩)⟩
          · have HMS : Hid ((ws.take (k + 1)).any (matchB n) = true) := hide (by rw [hms]; rfl)
            clear hms
            go_wp2_with fail
            go_quiet (fail)
            go_wp2_with fail
            go_roundg (ws.length - (k + 1))
            case measure => omega
            case rel => exact ⟨k + 1, _, rfl, rfl, by omega, Nat.le_refl _, HMS, hide (nnext (unhide hB2) ⟨rfl, rfl, rfl, Nat.le_refl _, fun _ _ => rfl⟩)⟩
        · obtain rfl : k = ws.length := by omega
          obtain rfl : b = true := (unhide hm).symm.trans (unhide HMA)
          go_wp2_with fail
          go_roundg (N.length - (i + 1))
          case measure => omega
          case rel => exact ⟨i + 1, rfl, by omega, Nat.le_refl _, hB2⟩
    · obtain rfl : i = N.length := by omega
      have HBe := hide (nnext (unhide HB8) (unhide hB))
      go_wp2_with fail
      go_ret
      exact ⟨rfl, unhide HBe⟩

end Go.Proofs.Ytppmkgehdblbdaa
