/-
  What aviaryref.Read, CopyDisk and SameDisk answer: the walks.
  aviaryref.CopyServer: the walk.
  What wire.unfold answers, for every text: the walk.
  What aviaryref.Last and aviaryref.Scan answer: the walks.
-/
import Derived.Test.YtfejpbkapikdiaaGreatDoorSCG
import Derived.Test.YtfejpbkapikdiaaGreatDoorSCR
import Derived.Laws.StructEq
import Derived.Test.YtfejpbkapikdiaaGreatDoorSCL
import Derived.Test.YtfejpbkapikdiaaGreatDoorSCAJ
import Derived.Test.YtfejpbkapikdiaaGreatDoorSCK
import Derived.Deep.LoopGhost
namespace Go.Proofs.YtfejpbkapikdiaaGreatDoor
open Go.RowKit

theorem disk_len {w : World} {v : Value} {fs : List DF} (hv : DiskV w v fs) : (∃ a c, v = .slice a 0 c ∧ fs = []) ∨ ∃ b off c, v = .slice (some ⟨b, off, none⟩) fs.length c ∧ b < w.heap.size ∧ RowAt w b off (cellsF fs) ∧ fs ≠ [] := by
  rcases hv with ⟨a, cap, rfl, rfl, _⟩ | ⟨b, off, cap, rfl, _, _, hb, h0, hr⟩
  · exact .inl ⟨a, cap, rfl, rfl⟩
  · exact .inr ⟨b, off, cap, rfl, hb, hr, h0⟩

set_option maxRecDepth 10000 in
set_option maxHeartbeats 1000000 in
theorem rcopy_some (a : Addr) (cap : Nat) (fs : List DF) (w : World) (hl : fs.length * 48 ≤ 140737488355328) (hc : ∀ j u, (cellsF fs)[j]? = some u → w.cell? (a.add j) = some u) :
    Calls Tryz.prog 15 #[.agg #[.slice (some a) fs.length cap]] w fun e w' => ∃ v', e = .returned (.agg #[v']) ∧ OwnV w' w.heap.size v' fs ∧ Below w.heap.size w w' := by
  obtain ⟨i0, hi0, hz0, hz1, hz2⟩ := info_file
  have HR := hide hc
  clear hc
  go_enter Tryz.func15, Tryz.ntmps15
  go_wp2_with (at_builtin; refine wpList_append_own _ rfl _ _ 22 rfl (w.heap.size + 2) 67 i0 _ 3 48 Tryz.underlying22 hi0 hz0 hz1 hz2 rfl (by decide) _ 0 [] rfl (World.ownsRow_nil _ _ _ _) a fs.length cap (cellsF fs) rfl (cellsF_length fs) ?qc2 (cellsF_one fs) ?qc4 ?qc5 ?qc6 ?_)
  case qc2 =>
    intro j u hj
    exact Lib.cell?_alloc_some _ (Lib.cell?_alloc_some _ (unhide HR j u hj))
  case qc4 => simp only [maxLen]; omega
  case qc5 => omega
  case qc6 => simp
  intro v' w1 hown hgrow _
  have X := (Boxes.start w (.slice (some a) fs.length cap) 24 24).grownO hgrow (fun k e => by cases e)
  have ho := OwnV.of_row (B := w.heap.size + 2) (by simpa using hown)
  have cr := X.cr
  have fr := X.fr
  have HB := hide X.below
  have HO := hide ho
  obtain ⟨a5, c5, rfl, _⟩ := own_slice ho
  clear X ho hown hgrow
  go_wp2
  refine bodyPost_ret (v := .agg #[.slice a5 fs.length c5]) (by simp [results, Tryz.results15, go_sem, cr]) rfl ⟨_, rfl, ?_, (unhide HB).setCell (by simp) _⟩
  rcases unhide HO with h | ⟨g, c, e, h1, h2⟩
  · exact .inl h
  · exact .inr ⟨g, c, e, by omega, h2.other (by show g ≠ w.heap.size + 1; omega) _⟩

set_option maxRecDepth 10000 in
set_option maxHeartbeats 400000 in
theorem rcopy_nil (cap : Nat) (w : World) :
    Calls Tryz.prog 15 #[.agg #[.slice none 0 cap]] w fun e w' => ∃ v', e = .returned (.agg #[v']) ∧ OwnV w' w.heap.size v' [] ∧ Below w.heap.size w w' := by
  have X := Boxes.start w (.slice none 0 cap) 24 24
  have cr := X.cr
  have HB := hide X.below
  clear X
  go_enter Tryz.func15, Tryz.ntmps15
  go_wp2_with fail
  exact bodyPost_ret (v := .agg #[.slice none 0 0]) (by simp [results, Tryz.results15, go_sem]) rfl ⟨_, rfl, .inl ⟨rfl, rfl⟩, unhide HB⟩

theorem rcopy_any (v : Value) (fs : List DF) (w : World) (hv : DiskV w v fs) (hl : fs.length * 48 ≤ 140737488355328) :
    Calls Tryz.prog 15 #[.agg #[v]] w fun e w' => ∃ v', e = .returned (.agg #[v']) ∧ OwnV w' w.heap.size v' fs ∧ Below w.heap.size w w' := by
  rcases hv with ⟨a, cap, rfl, rfl, _⟩ | ⟨b, off, cap, rfl, _, _, hb, _, hr⟩
  · cases a with
    | none => exact rcopy_nil cap w
    | some a => exact rcopy_some a cap [] w (by simp) (fun j u h => by simp [cellsF] at h)
  · exact rcopy_some ⟨b, off, none⟩ cap fs w hl (fun j u h => by rw [Addr.add_lit]; exact hr j u h)

set_option maxRecDepth 10000 in
set_option maxHeartbeats 400000 in
theorem rsame_none (a a' : Option Addr) (c c' : Nat) (w : World) :
    Calls Tryz.prog 20 #[.agg #[.slice a 0 c], .agg #[.slice a' 0 c']] w fun e w' => e = .returned (.bool true) ∧ Below w.heap.size w w' := by
  go_enter Tryz.func20, Tryz.ntmps20
  go_wp2_with fail
  go_loopg [16] 1 (fun _ s wr => s = .int .i64 0 ∧ wr = (w.alloc (.cells #[.slice a 0 c] 24)).alloc (.cells #[.slice a' 0 c'] 24))
  case atStart => exact ⟨rfl, rfl⟩
  case round =>
    obtain ⟨rfl, rfl⟩ := hrel
    go_wp2_with fail
    go_ret
    exact ⟨rfl, ((Below.refl _ _).alloc (Nat.le_refl _) _).alloc (by simp) _⟩

set_option maxRecDepth 10000 in
set_option maxHeartbeats 1000000 in
theorem rsame_some (b off c b' off' c' : Nat) (fs : List DF) (w : World) (hl : fs.length ≤ 1000000) (hb : b < w.heap.size) (hb' : b' < w.heap.size) (hr : RowAt w b off (cellsF fs)) (hr' : RowAt w b' off' (cellsF fs)) :
    Calls Tryz.prog 20 #[.agg #[.slice (some ⟨b, off, none⟩) fs.length c], .agg #[.slice (some ⟨b', off', none⟩) fs.length c']] w fun e w' => e = .returned (.bool true) ∧ Below w.heap.size w w' := by
  have HR := hide hr
  have HR' := hide hr'
  have hb1 : b ≠ w.heap.size := by omega
  have hb2 : b' ≠ w.heap.size := by omega
  clear hr hr'
  go_enter Tryz.func20, Tryz.ntmps20
  go_wp2_with fail
  obtain ⟨W0, hW0⟩ : ∃ W, W = (w.alloc (.cells #[.slice (some ⟨b, off, none⟩) fs.length c] 24)).alloc (.cells #[.slice (some ⟨b', off', none⟩) fs.length c'] 24) := ⟨_, rfl⟩
  have ca : W0.cell? ⟨w.heap.size, 0, none⟩ = some (.slice (some ⟨b, off, none⟩) fs.length c) := by rw [hW0]; simp
  have cb : W0.cell? ⟨w.heap.size + 1, 0, none⟩ = some (.slice (some ⟨b', off', none⟩) fs.length c') := by rw [hW0]; simp
  have hB0 : Below w.heap.size w W0 := by rw [hW0]; exact ((Below.refl _ _).alloc (Nat.le_refl _) _).alloc (by simp) _
  rw [← hW0]
  have HB := hide hB0
  clear hW0 hB0
  go_loopg [16] fs.length (fun kx s wr => ∃ (k : Nat) (q : Nat), s = .int .i64 k ∧ k ≤ fs.length ∧ fs.length - k ≤ kx ∧ wr = W0.drewN q)
  case atStart => exact ⟨0, 0, rfl, Nat.zero_le _, by omega, rfl⟩
  case round =>
    obtain ⟨k, q, rfl, hk, hkx, rfl⟩ := hrel
    by_cases hlt : k < fs.length
    · obtain ⟨f, hf⟩ : ∃ f, fs[k]? = some f := ⟨_, List.getElem?_eq_getElem hlt⟩
      have r := (unhide HR).kept (unhide HB) hb
      have e0 := r.c0 hf
      have e1 := r.c1 hf
      have e2 := r.c2 hf
      have r' := (unhide HR').kept (unhide HB) hb'
      have e0' := r'.c0 hf
      have e1' := r'.c1 hf
      have e2' := r'.c2 hf
      have hlti : (k : Int) < (fs.length : Int) := by omega
      clear r r' hf
      go_wp2_with fail
      go_region
      go_wp2_with fail
      go_roundg (fs.length - (k + 1))
      case measure => omega
      case rel => exact ⟨k + 1, q + 1, rfl, by omega, Nat.le_refl _, rfl⟩
    · have hki : ¬ ((k : Int) < (fs.length : Int)) := by omega
      go_wp2_with fail
      go_ret
      exact ⟨rfl, (unhide HB).trans ⟨rfl, rfl, rfl, Nat.le_refl _, fun _ _ => rfl⟩⟩

theorem rsame_any (v v' : Value) (fs : List DF) (w : World) (hl : fs.length ≤ 1000000) (hv : DiskV w v fs) (hv' : DiskV w v' fs) :
    Calls Tryz.prog 20 #[.agg #[v], .agg #[v']] w fun e w' => e = .returned (.bool true) ∧ Below w.heap.size w w' := by
  rcases disk_len hv with ⟨a, c, rfl, h0⟩ | ⟨b, off, c, rfl, hb, hr, h0⟩
  · rcases disk_len hv' with ⟨a', c', rfl, _⟩ | ⟨b', off', c', rfl, hb', hr', h0'⟩
    · exact rsame_none a a' c c' w
    · exact absurd h0 h0'
  · rcases disk_len hv' with ⟨a', c', rfl, h0'⟩ | ⟨b', off', c', rfl, hb', hr', h0'⟩
    · exact absurd h0' h0
    · exact rsame_some b off c b' off' c' fs w hl hb hb' hr hr'

end Go.Proofs.YtfejpbkapikdiaaGreatDoor

namespace Go.Proofs.YtfejpbkapikdiaaGreatDoor
open Go.RowKit

/- append(nil, l...) at transactions and watches -/
theorem run_copyT (W : World) (ty : TypeId) (v : Value) (xs : List WTxn) (hv : SeqV W v xs) (hl : xs.length * 72 ≤ 140737488355328) :
    ∃ v' w', (Builtin.append_ #[25, 25] ty #[.slice none 0 0, v]).run Tryz.prog W = .ok v' w' ∧ OwnS w' W.heap.size v' xs ∧ W.grownBy w' none := by
  obtain ⟨i0, hi0, hz0, hz1, hz2⟩ := info_txn
  have main : ∀ (a : Addr) (cap : Nat), v = .slice (some a) xs.length cap → (∀ j u, (cellsL xs)[j]? = some u → W.cell? (a.add j) = some u) →
      ∃ v' w', (Builtin.append_ #[25, 25] ty #[.slice none 0 0, v]).run Tryz.prog W = .ok v' w' ∧ OwnS w' W.heap.size v' xs ∧ W.grownBy w' none := by
    intro a cap e hc
    subst e
    obtain ⟨v', w', h1, h2, h3, _⟩ := run_append_own (P := Tryz.prog) W W.heap.size 25 ty 45 i0 _ 7 72 Tryz.underlying25 hi0 hz0 hz1 hz2 rfl (by decide) (.slice none 0 0) 0 [] (World.ownsRow_nil _ _ _ _) a xs.length cap (cellsL xs) (cellsL_length xs) hc (cellsL_one xs)
      (by simp only [maxLen]; omega) (by omega) (Nat.le_refl _)
    refine ⟨v', w', h1, OwnS.of_row (by first | exact h2 | (simp only [List.nil_append, Nat.zero_add] at h2; exact h2) | simpa using h2), h3⟩
  rcases hv with ⟨a, cap, rfl, rfl, _⟩ | ⟨b, off, cap, rfl, _, _, _, _, hr⟩
  · cases a with
    | none =>
      refine ⟨.slice none 0 0, W, ?_, .inl ⟨rfl, rfl⟩, ⟨rfl, rfl, rfl, Nat.le_refl _, fun _ _ _ => rfl⟩⟩
      simp [Builtin.append_, run_underlying Tryz.underlying25, sizeOf, typeInfo, hi0, Builtin.lenOf, Builtin.firstCells]
    | some a => exact main a cap rfl (fun j u h => by simp [cellsL] at h)
  · exact main ⟨b, off, none⟩ cap rfl (fun j u h => by rw [Addr.add_lit]; exact hr j u h)
theorem wpList_copyT {w : World} {ops : Array Oper} {rest : List Oper} {o : Oper} {a : Act} {Q : Exit → Act → World → Prop} (hgd : Region.wanted o (yielded ops a.tmps) = true) (s x : Operand)
    (ho : o.op = .call { callee := .builtin .append, args := #[s, x], argTypes := #[25, 25] })
    (hs : a.eval s = .slice none 0 0) (v : Value) (hx : a.eval x = v) (xs : List WTxn) (hv : SeqV w v xs) (hl : xs.length * 72 ≤ 140737488355328)
    (h : ∀ v' w', OwnS w' w.heap.size v' xs → w.grownBy w' none → wpList Tryz.prog ops Q rest (a.put o.dst v') w') : wpList Tryz.prog ops Q (o :: rest) a w := by
  obtain ⟨v', w', hr, h2, h3⟩ := run_copyT w o.type v xs hv hl
  refine wpList_step fun K hK => ?_
  rw [if_pos hgd]
  unfold Oper.wp execOp
  simp only [ho, resolve, invoke, builtin, Sem.run_bind, Sem.run_pure, Result.andThen_ok, List.map_toArray, List.map_cons, List.map_nil, hs, hx, hr]
  exact hK _ _ (h v' w' h2 h3)
theorem run_copyW (W : World) (ty : TypeId) (v : Value) (xs : List Wa) (hv : SeqV W v xs) (hl : xs.length * 32 ≤ 140737488355328) :
    ∃ v' w', (Builtin.append_ #[32, 32] ty #[.slice none 0 0, v]).run Tryz.prog W = .ok v' w' ∧ OwnS w' W.heap.size v' xs ∧ W.grownBy w' none := by
  obtain ⟨i0, hi0, hz0, hz1, hz2⟩ := winfo
  have main : ∀ (a : Addr) (cap : Nat), v = .slice (some a) xs.length cap → (∀ j u, (cellsL xs)[j]? = some u → W.cell? (a.add j) = some u) →
      ∃ v' w', (Builtin.append_ #[32, 32] ty #[.slice none 0 0, v]).run Tryz.prog W = .ok v' w' ∧ OwnS w' W.heap.size v' xs ∧ W.grownBy w' none := by
    intro a cap e hc
    subst e
    obtain ⟨v', w', h1, h2, h3, _⟩ := run_append_own (P := Tryz.prog) W W.heap.size 32 ty 80 i0 _ 3 32 Tryz.underlying32 hi0 hz0 hz1 hz2 rfl (by decide) (.slice none 0 0) 0 [] (World.ownsRow_nil _ _ _ _) a xs.length cap (cellsL xs) (cellsL_length xs) hc (cellsL_one xs)
      (by simp only [maxLen]; omega) (by omega) (Nat.le_refl _)
    refine ⟨v', w', h1, OwnS.of_row (by first | exact h2 | (simp only [List.nil_append, Nat.zero_add] at h2; exact h2) | simpa using h2), h3⟩
  rcases hv with ⟨a, cap, rfl, rfl, _⟩ | ⟨b, off, cap, rfl, _, _, _, _, hr⟩
  · cases a with
    | none =>
      refine ⟨.slice none 0 0, W, ?_, .inl ⟨rfl, rfl⟩, ⟨rfl, rfl, rfl, Nat.le_refl _, fun _ _ _ => rfl⟩⟩
      simp [Builtin.append_, run_underlying Tryz.underlying32, sizeOf, typeInfo, hi0, Builtin.lenOf, Builtin.firstCells]
    | some a => exact main a cap rfl (fun j u h => by simp [cellsL] at h)
  · exact main ⟨b, off, none⟩ cap rfl (fun j u h => by rw [Addr.add_lit]; exact hr j u h)
theorem wpList_copyW {w : World} {ops : Array Oper} {rest : List Oper} {o : Oper} {a : Act} {Q : Exit → Act → World → Prop} (hgd : Region.wanted o (yielded ops a.tmps) = true) (s x : Operand)
    (ho : o.op = .call { callee := .builtin .append, args := #[s, x], argTypes := #[32, 32] })
    (hs : a.eval s = .slice none 0 0) (v : Value) (hx : a.eval x = v) (xs : List Wa) (hv : SeqV w v xs) (hl : xs.length * 32 ≤ 140737488355328)
    (h : ∀ v' w', OwnS w' w.heap.size v' xs → w.grownBy w' none → wpList Tryz.prog ops Q rest (a.put o.dst v') w') : wpList Tryz.prog ops Q (o :: rest) a w := by
  obtain ⟨v', w', hr, h2, h3⟩ := run_copyW w o.type v xs hv hl
  refine wpList_step fun K hK => ?_
  rw [if_pos hgd]
  unfold Oper.wp execOp
  simp only [ho, resolve, invoke, builtin, Sem.run_bind, Sem.run_pure, Result.andThen_ok, List.map_toArray, List.map_cons, List.map_nil, hs, hx, hr]
  exact hK _ _ (h v' w' h2 h3)
theorem own_seqF {W : World} {B : Nat} {v : Value} {fs : List DF} (h : OwnV W B v fs) : OwnS W B v fs := OwnS.of_row (by have := h.row; rw [← cellsF_L] at this; exact this)

set_option maxRecDepth 10000 in
set_option maxHeartbeats 4000000 in
theorem rcopyS_any (s : Sv) (v : Value) (w : World) (hv : SvV w v s) (hf : Fits s) :
    Calls Tryz.prog 5 #[v] w (GivesC w s) := by
  obtain ⟨ad, nd, cd, al, cl, an, cn, ai, ci, aw, cw, rfl, d1, l1, n1, s1, k1⟩ := hv.five
  have CD := fun W (hW : Below w.heap.size w W) => rcopy_any _ s.fs W (d1.next hW) hf.d
  have CL := fun W (hW : Below w.heap.size w W) => seq_log.2 (l1.next hW)
  have CT := fun W (hW : Below w.heap.size w W) => rcopyT_any s.tr _ _ W (n1.next hW) (s1.next hW) hf.n (by have := hf.si; omega)
  have CW := fun W (hW : Below w.heap.size w W) => k1.next hW
  have hll := hf.l
  have hlw := hf.wa
  have HD := hide CD
  have HL := hide CL
  have HT := hide CT
  have HW := hide CW
  clear CD CL CT CW hv d1 l1 n1 s1 k1 hf
  obtain ⟨up, fs, id, ep, ts, dn, ⟨tz, tns, tss⟩, ws⟩ := s
  simp only at *
  unfold GivesT at HT
  simp only at HT
  go_enter Tryz.func5, Tryz.ntmps5
  go_wp2_with fail
  have X0 := CB.start w up id ep dn tz (.slice ad nd cd) (.slice al ts.length cl) (.slice an tns.length cn) (.slice ai tss.length ci) (.slice aw ws.length cw)
  generalize (w.alloc (.cells #[.bool up, .slice ad nd cd, .int .i64 id, .int .i64 ep, .slice al ts.length cl, .int .i64 dn, .int .i64 tz, .slice an tns.length cn, .slice ai tss.length ci, .slice aw ws.length cw] 34)).alloc (.cells #[.bool false, .slice none 0 0, .int .i64 0, .int .i64 0, .slice none 0 0, .int .i64 0, .int .i64 0, .slice none 0 0, .slice none 0 0, .slice none 0 0] 34) = W0 at *
  have HX0 := hide X0
  obtain ⟨x0, x1, x2, x3, x4, x5, x6, x7, x8, x9⟩ := X0.s.cells
  clear X0
  refine (unhide HD _ (unhide HX0).below).mono ?_
  rintro e w1 ⟨v1, rfl, o1', hb1⟩
  have o1 := own_seqF o1'
  obtain ⟨a1, c1, rfl, _⟩ := o1.slice
  have z1 := (unhide HX0).lt
  have X1 := (unhide HX0).next hb1
  have Y1 := X1.put 1 (.slice a1 fs.length c1) rfl
  obtain ⟨y0, y1, y2, y3, y4, y5, y6, y7, y8, y9⟩ := X1.s.cells
  have g1 := X1.s.froz 1
  have O1 := hide (own_set (j := 1) (u := .slice a1 fs.length c1) o1 (by omega : w.heap.size < _))
  have b1 := hide (fun k hk => OwnS.low o1 k hk)
  have S1 := hide (show w.heap.size + 1 < W0.heap.size by omega)
  have Z1 := hide (show w.heap.size ≤ W0.heap.size by omega)
  have K1 := hide (show W0.heap.size ≤ (w1.setCell ⟨w.heap.size, 1, none⟩ (.slice a1 fs.length c1)).heap.size by have := hb1.size; simp [World.setCell] at *; omega)
  have L1 := hide (show w1.heap.size = (w1.setCell ⟨w.heap.size, 1, none⟩ (.slice a1 fs.length c1)).heap.size by simp [World.setCell])
  clear X1 o1 o1' hb1 z1 HX0 HD x0 x1 x2 x3 x4 x5 x6 x7 x8 x9
  have HX1 := hide Y1
  obtain ⟨x0, x1, x2, x3, x4, x5, x6, x7, x8, x9⟩ := Y1.s.cells
  clear Y1
  go_upto_region 2 with fail
  generalize w1.setCell ⟨w.heap.size, 1, none⟩ (.slice a1 fs.length c1) = V1 at *
  clear y0 y1 y2 y3 y4 y5 y6 y7 y8 y9 g1
  go_wp2_with (at_builtin; refine wpList_copyT (by kernel_rfl) _ _ rfl rfl (.slice al ts.length cl) rfl ts (unhide HL _ (unhide HX1).below) hll ?_)
  intro v2 w2 o2 hg2
  have hb2 := grown_below hg2
  obtain ⟨a2, c2, rfl, _⟩ := o2.slice
  have z2 := (unhide HX1).lt
  have X2 := (unhide HX1).next hb2
  have Y2 := X2.put 4 (.slice a2 ts.length c2) rfl
  obtain ⟨y0, y1, y2, y3, y4, y5, y6, y7, y8, y9⟩ := X2.s.cells
  have g2 := X2.s.froz 4
  have O2 := hide (own_set (j := 4) (u := .slice a2 ts.length c2) o2 (by omega : w.heap.size < _))
  have b2 := hide (fun k hk => OwnS.low o2 k hk)
  have P1 := hide (own_set (j := 4) (u := .slice a2 ts.length c2) ((unhide O1).next hb2) (Nat.lt_of_succ_lt (unhide S1)))
  have S2 := hide (show w.heap.size + 1 < V1.heap.size by omega)
  have K2 := hide (show V1.heap.size ≤ (w2.setCell ⟨w.heap.size, 4, none⟩ (.slice a2 ts.length c2)).heap.size by have := hb2.size; simp [World.setCell] at *; omega)
  have L2 := hide (show w2.heap.size = (w2.setCell ⟨w.heap.size, 4, none⟩ (.slice a2 ts.length c2)).heap.size by simp [World.setCell])
  clear X2 o2 hb2 hg2 z2 HX1 HL x0 x1 x2 x3 x4 x5 x6 x7 x8 x9 O1
  have O1 := P1
  clear P1
  have HX2 := hide Y2
  obtain ⟨x0, x1, x2, x3, x4, x5, x6, x7, x8, x9⟩ := Y2.s.cells
  clear Y2
  go_upto_region 3 with fail
  generalize w2.setCell ⟨w.heap.size, 4, none⟩ (.slice a2 ts.length c2) = V2 at *
  clear y0 y1 y2 y3 y4 y5 y6 y7 y8 y9 g2
  go_wp2_with fail
  refine (unhide HT _ (unhide HX2).below).mono ?_
  rintro e w3 ⟨v3, v4, rfl, o3, o4, hb3⟩
  obtain ⟨a3, c3, rfl, _⟩ := o3.slice
  obtain ⟨a4, c4, rfl, _⟩ := o4.slice
  have z3 := (unhide HX2).lt
  have X3 := (unhide HX2).next hb3
  have Y3 := ((X3.put 6 (.int .i64 tz) rfl).put 7 (.slice a3 tns.length c3) rfl).put 8 (.slice a4 tss.length c4) rfl
  obtain ⟨y0, y1, y2, y3, y4, y5, y6, y7, y8, y9⟩ := X3.s.cells
  have g6 := X3.s.froz 6
  have g7 := X3.s.froz 7
  have g8 := X3.s.froz 8
  have three : ∀ {α : Type} [Lay α] {B : Nat} {u : Value} {xs : List α}, OwnS w3 B u xs → w.heap.size < B → OwnS (((w3.setCell ⟨w.heap.size, 6, none⟩ (.int .i64 tz)).setCell ⟨w.heap.size, 7, none⟩ (.slice a3 tns.length c3)).setCell ⟨w.heap.size, 8, none⟩ (.slice a4 tss.length c4)) B u xs := fun h hk => own_set (own_set (own_set h hk) hk) hk
  have O3 := hide (three o3 (by omega))
  have O4 := hide (three o4 (by omega))
  have P1 := hide (three ((unhide O1).next hb3) (Nat.lt_of_succ_lt (unhide S1)))
  have P2 := hide (three ((unhide O2).next hb3) (Nat.lt_of_succ_lt (unhide S2)))
  have S3 := hide (show w.heap.size + 1 < V2.heap.size by omega)
  have K3 := hide (show V2.heap.size ≤ (((w3.setCell ⟨w.heap.size, 6, none⟩ (.int .i64 tz)).setCell ⟨w.heap.size, 7, none⟩ (.slice a3 tns.length c3)).setCell ⟨w.heap.size, 8, none⟩ (.slice a4 tss.length c4)).heap.size by have := hb3.size; simp [World.setCell] at *; omega)
  clear X3 o3 o4 hb3 z3 HX2 HT x0 x1 x2 x3 x4 x5 x6 x7 x8 x9 O1 O2 three
  have O1 := P1
  have O2 := P2
  clear P1 P2
  have HX3 := hide Y3
  obtain ⟨x0, x1, x2, x3, x4, x5, x6, x7, x8, x9⟩ := Y3.s.cells
  clear Y3
  go_upto_region 4 with fail
  generalize ((w3.setCell ⟨w.heap.size, 6, none⟩ (.int .i64 tz)).setCell ⟨w.heap.size, 7, none⟩ (.slice a3 tns.length c3)).setCell ⟨w.heap.size, 8, none⟩ (.slice a4 tss.length c4) = V3 at *
  clear y0 y1 y2 y3 y4 y5 y6 y7 y8 y9 g6 g7 g8
  go_wp2_with (at_builtin; refine wpList_copyW (by kernel_rfl) _ _ rfl rfl (.slice aw ws.length cw) rfl ws (unhide HW _ (unhide HX3).below) hlw ?_)
  intro v5 w5 o5 hg5
  have hb5 := grown_below hg5
  obtain ⟨a5, c5, rfl, _⟩ := o5.slice
  have z5 := (unhide HX3).lt
  have X5 := (unhide HX3).next hb5
  have Y5 := X5.put 9 (.slice a5 ws.length c5) rfl
  obtain ⟨y0, y1, y2, y3, y4, y5, y6, y7, y8, y9⟩ := X5.s.cells
  have g5 := X5.s.froz 9
  have O5 := hide (own_set (j := 9) (u := .slice a5 ws.length c5) o5 (by omega : w.heap.size < _))
  have P1 := hide (own_set (j := 9) (u := .slice a5 ws.length c5) ((unhide O1).next hb5) (Nat.lt_of_succ_lt (unhide S1)))
  have P2 := hide (own_set (j := 9) (u := .slice a5 ws.length c5) ((unhide O2).next hb5) (Nat.lt_of_succ_lt (unhide S2)))
  have P3 := hide (own_set (j := 9) (u := .slice a5 ws.length c5) ((unhide O3).next hb5) (Nat.lt_of_succ_lt (unhide S3)))
  have P4 := hide (own_set (j := 9) (u := .slice a5 ws.length c5) ((unhide O4).next hb5) (Nat.lt_of_succ_lt (unhide S3)))
  have S5 := hide (show w.heap.size + 1 < V3.heap.size by omega)
  have K5 := hide (show V3.heap.size ≤ (w5.setCell ⟨w.heap.size, 9, none⟩ (.slice a5 ws.length c5)).heap.size by have := hb5.size; simp [World.setCell] at *; omega)
  have L5 := hide (show w5.heap.size = (w5.setCell ⟨w.heap.size, 9, none⟩ (.slice a5 ws.length c5)).heap.size by simp [World.setCell])
  clear X5 o5 hb5 hg5 z5 HX3 HW x0 x1 x2 x3 x4 x5 x6 x7 x8 x9 O1 O2 O3 O4
  have O1 := P1
  have O2 := P2
  have O3 := P3
  have O4 := P4
  clear P1 P2 P3 P4
  have HX5 := hide Y5
  obtain ⟨x0, x1, x2, x3, x4, x5, x6, x7, x8, x9⟩ := Y5.s.cells
  obtain ⟨r0, r1, r2, r3, r4, r5, r6, r7, r8, r9⟩ := Y5.r.cells
  have rf0 := Y5.r.froz 0
  have rf1 := Y5.r.froz 1
  have rf2 := Y5.r.froz 2
  have rf3 := Y5.r.froz 3
  have rf4 := Y5.r.froz 4
  have rf5 := Y5.r.froz 5
  have rf6 := Y5.r.froz 6
  have rf7 := Y5.r.froz 7
  have rf8 := Y5.r.froz 8
  have rf9 := Y5.r.froz 9
  have Y5b := Y5.below
  clear Y5
  have HF := hide (put10_below Y5b (by omega : w.heap.size ≤ w.heap.size + 1) (.bool up) (.slice a1 fs.length c1) (.int .i64 id) (.int .i64 ep) (.slice a2 ts.length c2) (.int .i64 dn) (.int .i64 tz) (.slice a3 tns.length c3) (.slice a4 tss.length c4) (.slice a5 ws.length c5))
  have Q1 := hide (own_put10 (unhide O1) (unhide S1) (.bool up) (.slice a1 fs.length c1) (.int .i64 id) (.int .i64 ep) (.slice a2 ts.length c2) (.int .i64 dn) (.int .i64 tz) (.slice a3 tns.length c3) (.slice a4 tss.length c4) (.slice a5 ws.length c5))
  have Q2 := hide (own_put10 (unhide O2) (unhide S2) (.bool up) (.slice a1 fs.length c1) (.int .i64 id) (.int .i64 ep) (.slice a2 ts.length c2) (.int .i64 dn) (.int .i64 tz) (.slice a3 tns.length c3) (.slice a4 tss.length c4) (.slice a5 ws.length c5))
  have Q3 := hide (own_put10 (unhide O3) (unhide S3) (.bool up) (.slice a1 fs.length c1) (.int .i64 id) (.int .i64 ep) (.slice a2 ts.length c2) (.int .i64 dn) (.int .i64 tz) (.slice a3 tns.length c3) (.slice a4 tss.length c4) (.slice a5 ws.length c5))
  have Q4 := hide (own_put10 (unhide O4) (unhide S3) (.bool up) (.slice a1 fs.length c1) (.int .i64 id) (.int .i64 ep) (.slice a2 ts.length c2) (.int .i64 dn) (.int .i64 tz) (.slice a3 tns.length c3) (.slice a4 tss.length c4) (.slice a5 ws.length c5))
  have Q5 := hide (own_put10 (unhide O5) (unhide S5) (.bool up) (.slice a1 fs.length c1) (.int .i64 id) (.int .i64 ep) (.slice a2 ts.length c2) (.int .i64 dn) (.int .i64 tz) (.slice a3 tns.length c3) (.slice a4 tss.length c4) (.slice a5 ws.length c5))
  clear Y5b O1 O2 O3 O4 O5
  go_wp2_with fail
  refine bodyPost_ret (v := .agg #[.bool up, .slice a1 fs.length c1, .int .i64 id, .int .i64 ep, .slice a2 ts.length c2, .int .i64 dn, .int .i64 tz, .slice a3 tns.length c3, .slice a4 tss.length c4, .slice a5 ws.length c5]) (by simp [results, Tryz.results5, go_sem, r0, r1, r2, r3, r4, r5, r6, r7, r8, r9]) rfl ?_
  have k1 := unhide K1
  have k2 := unhide K2
  have k3 := unhide K3
  have z1 := unhide Z1
  exact ⟨a1, fs.length, c1, a2, c2, a3, c3, a4, c4, a5, c5, V1.heap.size, V2.heap.size, rfl, by omega, k2, (unhide Q1).lower z1, fun k hk => (unhide L1) ▸ unhide b1 k hk, unhide Q2, fun k hk => (unhide L2) ▸ unhide b2 k hk, unhide Q3, unhide Q4, (unhide Q5).lower k3, unhide HF⟩

end Go.Proofs.YtfejpbkapikdiaaGreatDoor

namespace Go.Proofs.YtfejpbkapikdiaaGreatDoor
open Go.RowKit

/-- the seven cells of a transaction -/
def TxnAt (W : World) (g : Nat) (t : WTxn) : Prop := W.heap[g]? = some (.cells #[.int .i64 t.z, .int .i64 t.o, .int .i64 t.s, .string ⟨t.p.toArray⟩, .string ⟨t.d.toArray⟩, .int .i64 t.v, .int .i64 t.w] 45 (0, 0))
theorem TxnAt.c0 {W : World} {g : Nat} {t : WTxn} (h : TxnAt W g t) : W.cell? ⟨g, 0, none⟩ = some (.int .i64 t.z) := by unfold TxnAt at h; simp [World.cell?, h]
theorem TxnAt.c1 {W : World} {g : Nat} {t : WTxn} (h : TxnAt W g t) : W.cell? ⟨g, 1, none⟩ = some (.int .i64 t.o) := by unfold TxnAt at h; simp [World.cell?, h]
theorem TxnAt.c2 {W : World} {g : Nat} {t : WTxn} (h : TxnAt W g t) : W.cell? ⟨g, 2, none⟩ = some (.int .i64 t.s) := by unfold TxnAt at h; simp [World.cell?, h]
theorem TxnAt.c3 {W : World} {g : Nat} {t : WTxn} (h : TxnAt W g t) : W.cell? ⟨g, 3, none⟩ = some (.string ⟨t.p.toArray⟩) := by unfold TxnAt at h; simp [World.cell?, h]
theorem TxnAt.c4 {W : World} {g : Nat} {t : WTxn} (h : TxnAt W g t) : W.cell? ⟨g, 4, none⟩ = some (.string ⟨t.d.toArray⟩) := by unfold TxnAt at h; simp [World.cell?, h]
theorem TxnAt.c5 {W : World} {g : Nat} {t : WTxn} (h : TxnAt W g t) : W.cell? ⟨g, 5, none⟩ = some (.int .i64 t.v) := by unfold TxnAt at h; simp [World.cell?, h]
theorem TxnAt.c6 {W : World} {g : Nat} {t : WTxn} (h : TxnAt W g t) : W.cell? ⟨g, 6, none⟩ = some (.int .i64 t.w) := by unfold TxnAt at h; simp [World.cell?, h]
theorem TxnAt.f {W : World} {g : Nat} {t : WTxn} (h : TxnAt W g t) (j : Nat) : W.frozen? ⟨g, j, none⟩ = false := by unfold TxnAt at h; simp [World.frozen?, h]
theorem TxnAt.kept {W V : World} {g B : Nat} {t : WTxn} (h : TxnAt W g t) (hb : Below B W V) (hg : g < B) : TxnAt V g t := (hb.block _ hg).trans h
theorem TxnAt.other {W V : World} {g k : Nat} {t : WTxn} (h : TxnAt W g t) (ho : Only k W V) (hg : g ≠ k) : TxnAt V g t := (ho.block _ hg).trans h
theorem only_set (g : Nat) (w : World) (j : Nat) (v : Value) : Only g w (w.setCell ⟨g, j, none⟩ v) := (Only.refl g w).setCell j v

/-- how far unfold has come: the result's cells, the cursor, the transaction -/
structure Unf (w W : World) (r : List UInt8) (b : Bool) (t : WTxn) : Prop where
  res : TxnAt W w.heap.size t0
  cur : Cur W (w.heap.size + 1) r b
  txn : TxnAt W (w.heap.size + 1 + 1) t
  size : w.heap.size + 3 ≤ W.heap.size
  below : Below w.heap.size w W
theorem Unf.kept {w W V : World} {r : List UInt8} {b : Bool} {t : WTxn} (h : Unf w W r b t) (hb : Below W.heap.size W V) : Unf w V r b t :=
  ⟨h.res.kept hb (by have := h.size; omega), h.cur.kept hb (by have := h.size; omega), h.txn.kept hb (by have := h.size; omega), Nat.le_trans h.size hb.size, h.below.trans (hb.mono h.below.size)⟩
theorem Unf.put {w W : World} {r : List UInt8} {b : Bool} {t : WTxn} (h : Unf w W r b t) (j : Nat) (v : Value) {t' : WTxn} (ht : TxnAt (W.setCell ⟨w.heap.size + 1 + 1, j, none⟩ v) (w.heap.size + 1 + 1) t') : Unf w (W.setCell ⟨w.heap.size + 1 + 1, j, none⟩ v) r b t' :=
  ⟨h.res.other (only_set _ _ _ _) (by omega), h.cur.other (only_set _ _ _ _) (by omega), ht, by rw [(only_set _ W j v).size]; exact h.size, (only_set _ _ _ _).below h.below (by omega)⟩
theorem Unf.z {w W : World} {r : List UInt8} {b : Bool} {t : WTxn} (h : Unf w W r b t) (x : Int) : Unf w (W.setCell ⟨w.heap.size + 1 + 1, 0, none⟩ (.int .i64 x)) r b { t with z := x } := h.put 0 _ (cur_set _ h.txn)
theorem Unf.o {w W : World} {r : List UInt8} {b : Bool} {t : WTxn} (h : Unf w W r b t) (x : Int) : Unf w (W.setCell ⟨w.heap.size + 1 + 1, 1, none⟩ (.int .i64 x)) r b { t with o := x } := h.put 1 _ (cur_set _ h.txn)
theorem Unf.s {w W : World} {r : List UInt8} {b : Bool} {t : WTxn} (h : Unf w W r b t) (x : Int) : Unf w (W.setCell ⟨w.heap.size + 1 + 1, 2, none⟩ (.int .i64 x)) r b { t with s := x } := h.put 2 _ (cur_set _ h.txn)
theorem Unf.p {w W : World} {r : List UInt8} {b : Bool} {t : WTxn} (h : Unf w W r b t) (x : List UInt8) : Unf w (W.setCell ⟨w.heap.size + 1 + 1, 3, none⟩ (.string ⟨x.toArray⟩)) r b { t with p := x } := h.put 3 _ (cur_set _ h.txn)
theorem Unf.d {w W : World} {r : List UInt8} {b : Bool} {t : WTxn} (h : Unf w W r b t) (x : List UInt8) : Unf w (W.setCell ⟨w.heap.size + 1 + 1, 4, none⟩ (.string ⟨x.toArray⟩)) r b { t with d := x } := h.put 4 _ (cur_set _ h.txn)
theorem Unf.v {w W : World} {r : List UInt8} {b : Bool} {t : WTxn} (h : Unf w W r b t) (x : Int) : Unf w (W.setCell ⟨w.heap.size + 1 + 1, 5, none⟩ (.int .i64 x)) r b { t with v := x } := h.put 5 _ (cur_set _ h.txn)
theorem Unf.w {w W : World} {r : List UInt8} {b : Bool} {t : WTxn} (h : Unf w W r b t) (x : Int) : Unf w (W.setCell ⟨w.heap.size + 1 + 1, 6, none⟩ (.int .i64 x)) r b { t with w := x } := h.put 6 _ (cur_set _ h.txn)

/-- a transaction stored whole -/
def putTxn (W : World) (g : Nat) (t : WTxn) : World :=
  ((((((W.setCell ⟨g, 0, none⟩ (.int .i64 t.z)).setCell ⟨g, 1, none⟩ (.int .i64 t.o)).setCell ⟨g, 2, none⟩ (.int .i64 t.s)).setCell ⟨g, 3, none⟩ (.string ⟨t.p.toArray⟩)).setCell ⟨g, 4, none⟩ (.string ⟨t.d.toArray⟩)).setCell ⟨g, 5, none⟩ (.int .i64 t.v)).setCell ⟨g, 6, none⟩ (.int .i64 t.w)
theorem TxnAt.s0 {W : World} {g : Nat} {t : WTxn} (h : TxnAt W g t) (x : Int) : TxnAt (W.setCell ⟨g, 0, none⟩ (.int .i64 x)) g { t with z := x } := cur_set _ h
theorem TxnAt.s1 {W : World} {g : Nat} {t : WTxn} (h : TxnAt W g t) (x : Int) : TxnAt (W.setCell ⟨g, 1, none⟩ (.int .i64 x)) g { t with o := x } := cur_set _ h
theorem TxnAt.s2 {W : World} {g : Nat} {t : WTxn} (h : TxnAt W g t) (x : Int) : TxnAt (W.setCell ⟨g, 2, none⟩ (.int .i64 x)) g { t with s := x } := cur_set _ h
theorem TxnAt.s3 {W : World} {g : Nat} {t : WTxn} (h : TxnAt W g t) (x : List UInt8) : TxnAt (W.setCell ⟨g, 3, none⟩ (.string ⟨x.toArray⟩)) g { t with p := x } := cur_set _ h
theorem TxnAt.s4 {W : World} {g : Nat} {t : WTxn} (h : TxnAt W g t) (x : List UInt8) : TxnAt (W.setCell ⟨g, 4, none⟩ (.string ⟨x.toArray⟩)) g { t with d := x } := cur_set _ h
theorem TxnAt.s5 {W : World} {g : Nat} {t : WTxn} (h : TxnAt W g t) (x : Int) : TxnAt (W.setCell ⟨g, 5, none⟩ (.int .i64 x)) g { t with v := x } := cur_set _ h
theorem TxnAt.s6 {W : World} {g : Nat} {t : WTxn} (h : TxnAt W g t) (x : Int) : TxnAt (W.setCell ⟨g, 6, none⟩ (.int .i64 x)) g { t with w := x } := cur_set _ h
theorem TxnAt.store {W : World} {g : Nat} {t : WTxn} (h : TxnAt W g t) (t' : WTxn) : TxnAt (putTxn W g t') g t' :=
  ((((((h.s0 t'.z).s1 t'.o).s2 t'.s).s3 t'.p).s4 t'.d).s5 t'.v).s6 t'.w
theorem only_put (W : World) (g : Nat) (t : WTxn) : Only g W (putTxn W g t) :=
  (((((((Only.refl g W).setCell 0 _).setCell 1 _).setCell 2 _).setCell 3 _).setCell 4 _).setCell 5 _).setCell 6 _
end Go.Proofs.YtfejpbkapikdiaaGreatDoor

namespace Go.Proofs.YtfejpbkapikdiaaGreatDoor
open Go.RowKit
/-- what stands at each round of aviaryref.Scan -/
structure RSc (w W : World) (g : Nat) (v : Value) (ts : List WTxn) : Prop where
  below : Below w.heap.size w W
  own : OwnL W (g + 1) v ts
  at_ : ∃ t, TxnAt W g t
  le : w.heap.size ≤ g
theorem RSc.next {w W V : World} {g : Nat} {v : Value} {ts : List WTxn} (h : RSc w W g v ts) (hb : Below W.heap.size W V) : RSc w V g v ts := by
  obtain ⟨t, ht⟩ := h.at_
  exact ⟨below_next2 h.below hb, h.own.next hb, ⟨t, ht.kept hb (by unfold TxnAt at ht; exact (Array.getElem?_eq_some_iff.1 ht).1)⟩, h.le⟩
theorem OwnL.other {W V : World} {B g : Nat} {v : Value} {ts : List WTxn} (h : OwnL W B v ts) (ho : Only g W V) (hg : g < B) : OwnL V B v ts := by
  obtain ⟨hl, h | ⟨q, cap, cur, e, hB, hq, hr⟩⟩ := h
  · exact ⟨hl, .inl h⟩
  · exact ⟨hl, .inr ⟨q, cap, cur, e, hB, (ho.block _ (by omega)).trans hq, hr⟩⟩
theorem RSc.put {w W : World} {g : Nat} {v : Value} {ts : List WTxn} (h : RSc w W g v ts) (t : WTxn) : RSc w (putTxn W g t) g v ts ∧ TxnAt (putTxn W g t) g t := by
  obtain ⟨t', ht⟩ := h.at_
  exact ⟨⟨(only_put W g t).below h.below h.le, h.own.other (only_put W g t) (Nat.lt_succ_self g), ⟨t, ht.store t⟩, h.le⟩, ht.store t⟩
end Go.Proofs.YtfejpbkapikdiaaGreatDoor
