/-
  The law ClientTold: the walk.
  A slice of elements that are laid in a row, as an argument: opened, with what is known of each.
  An end, lists of entries, of notes and of numbers, and one entry, as arguments: opened; what their weights say of their lengths.
-/
import Derived.Test.YtdefdbejaabpdaaQDC
import Derived.Test.YtdefdbejaabpdaaQDD
import Derived.Test.YtdefdbejaabpdaaQDA
import Derived.Test.YtdefdbejaabpdaaRows
import Derived.ProofKit
import Derived.OpenShut
import Derived.SizedLaws
import Derived.Deep.Slices
import Derived.Carry
namespace Go.Proofs.Ytdefdbejaabpdaa
open Go.RowKit

/- append(nil, notes...) -/
theorem run_copyN (W : World) (ty : TypeId) (v : Value) (xs : List Nt) (hv : SeqV W v xs) (hl : xs.length * 32 ≤ 140737488355328) :
    ∃ v' w', (Builtin.append_ #[33, 33] ty #[.slice none 0 0, v]).run Try.prog W = .ok v' w' ∧ OwnS w' W.heap.size v' xs ∧ W.grownBy w' none := by
  obtain ⟨i0, hi0, hz0, hz1, hz2⟩ := tinfo
  have main : ∀ (a : Addr) (cap : Nat), v = .slice (some a) xs.length cap → (∀ j u, (cellsL xs)[j]? = some u → W.cell? (a.add j) = some u) →
      ∃ v' w', (Builtin.append_ #[33, 33] ty #[.slice none 0 0, v]).run Try.prog W = .ok v' w' ∧ OwnS w' W.heap.size v' xs ∧ W.grownBy w' none := by
    intro a cap e hc
    subst e
    obtain ⟨v', w', h1, h2, h3, _⟩ := run_append_own (P := Try.prog) W W.heap.size 33 ty 48 i0 _ 3 32 Try.underlying33 hi0 hz0 hz1 hz2 rfl (by decide) (.slice none 0 0) 0 [] (World.ownsRow_nil _ _ _ _) a xs.length cap (cellsL xs) (cellsL_length xs) hc (cellsL_one xs)
      (by simp only [maxLen]; omega) (by omega) (Nat.le_refl _)
    refine ⟨v', w', h1, OwnS.of_row (by first | exact h2 | (simp only [List.nil_append, Nat.zero_add] at h2; exact h2) | simpa using h2), h3⟩
  rcases hv with ⟨a, cap, rfl, rfl, _⟩ | ⟨b, off, cap, rfl, _, _, _, _, hr⟩
  · cases a with
    | none =>
      refine ⟨.slice none 0 0, W, ?_, .inl ⟨rfl, rfl⟩, ⟨rfl, rfl, rfl, Nat.le_refl _, fun _ _ _ => rfl⟩⟩
      simp [Builtin.append_, run_underlying Try.underlying33, sizeOf, typeInfo, hi0, Builtin.lenOf, Builtin.firstCells]
    | some a => exact main a cap rfl (fun j u h => by simp [cellsL] at h)
  · exact main ⟨b, off, none⟩ cap rfl (fun j u h => by rw [Addr.add_lit]; exact hr j u h)
theorem step_copyN {w : World} {ops : Array Oper} {o : Oper} {a : Act} {K : Act → World → Prop} {Q : Exit → Act → World → Prop} {E : Prop} (hgd : Region.wanted o (yielded ops a.tmps) = true) (s x : Operand)
    (ho : o.op = .call { callee := .builtin .append, args := #[s, x], argTypes := #[33, 33] })
    (hs : a.eval s = .slice none 0 0) (v : Value) (hx : a.eval x = v) (xs : List Nt) (hv : SeqV w v xs) (hl : xs.length * 32 ≤ 140737488355328)
    (h : ∀ a' c' w', OwnS w' w.heap.size (.slice a' xs.length c') xs → Below w.heap.size w w' → K (a.put o.dst (.slice a' xs.length c')) w') :
    if Region.wanted o (yielded ops a.tmps) = true then Oper.wp Try.prog o a w K Q else E := by
  rw [if_pos hgd]
  obtain ⟨v', w', hr, h2, h3⟩ := run_copyN w o.type v xs hv hl
  obtain ⟨a', c', rfl, _⟩ := h2.slice
  unfold Oper.wp execOp
  simp only [ho, resolve, invoke, builtin, Sem.run_bind, Sem.run_pure, Result.andThen_ok, List.map_toArray, List.map_cons, List.map_nil, hs, hx, hr]
  exact h a' c' w' h2 ⟨h3.os, h3.tape, h3.output, h3.size, fun k hk => h3.block k hk (by simp)⟩
theorem told_step {s : Int} {l : List Nt} {p : List UInt8} {k : Nat} {n : Nt} (h : l[k]? = some n) : toldE s (l.take (k + 1)) p = (toldE s (l.take k) p || (decide (n.s = s) && !decide (n.k = 4) && decide (n.p = p))) := by
  rw [snoc_take h]
  simp [toldE, List.any_append]

theorem seq_put3 {α : Type} [Lay α] {W : World} {B k : Nat} {v : Value} {xs : List α} (h : OwnS W B v xs) (hk : k < B) (x y z : Value) : SeqV (((W.setCell ⟨k, 0, none⟩ x).setCell ⟨k, 1, none⟩ y).setCell ⟨k, 2, none⟩ z) v xs :=
  (((h.otherz hk x).otherz hk y).otherz hk z).seq

set_option maxRecDepth 20000 in
set_option maxHeartbeats 4000000 in
theorem clientTold_walk (v vl : Value) (l : List En) (ns : List Nt) (p : List UInt8) (w : World) (hv : SeqV w v l) (hs : ShortC l) (hvn : SeqV w vl ns) (hnl : ns.length * 32 ≤ 140737488355328) :
    Calls Try.prog 7 #[v, vl, .string ⟨p.toArray⟩] w fun e w' => e = .returned (.bool true) ∧ Below w.heap.size w w' := by
  have CC := fun W (hW : Below w.heap.size w W) => caching_any 3 v l W (hv.next hW) hs
  have hal : (cacheE (l.take 60)).length ≤ 60 := Nat.le_trans (cache_len _) (by simp; omega)
  have hsh := short_cache (short_take hs 60)
  have has := cache_asc (l.take 60)
  obtain ⟨es, hes⟩ : ∃ es, cacheE (l.take 60) = es := ⟨_, rfl⟩
  rw [hes] at hal hsh has CC
  have CT := hide (fun W v' u (h : SeqV W v' es) (h2 : SeqV W u ns) => ctell_any 3 0 v' u es ns W h hsh (by omega) h2 hnl)
  have CL1 := hide (fun W v' (h : SeqV W v' es) => clook_any 3 0 v' es p W h hsh (by omega) has)
  have hTl : (tellE 3 ns es).length ≤ es.length := List.length_filter_le _ _
  have CL3 := hide (fun W v' (h : SeqV W v' (tellE 3 ns es)) => clook_any 3 0 v' (tellE 3 ns es) p W h (short_tell hsh) (by omega) (tell_asc has))
  have HL := tell_look 3 ns es p
  obtain ⟨T, hT⟩ : ∃ D, tellE 3 ns es = D := ⟨_, rfl⟩
  rw [hT] at CT CL3 HL
  obtain ⟨tb, htb⟩ : ∃ b, toldE 3 ns p = b := ⟨_, rfl⟩
  rw [htb] at HL
  obtain ⟨ew, hew⟩ : ∃ e, entE (lookE es p) = e := ⟨_, rfl⟩
  obtain ⟨bw, hbw⟩ : ∃ b, (lookE es p).isSome = b := ⟨_, rfl⟩
  obtain ⟨en, hen⟩ : ∃ e, entE (lookE T p) = e := ⟨_, rfl⟩
  obtain ⟨bn, hbn⟩ : ∃ b, (lookE T p).isSome = b := ⟨_, rfl⟩
  rw [hew, hbw] at CL1
  rw [hen, hbn] at CL3
  have HP1 : Hid (tb = true → en = noneE ∧ bn = false) := hide fun h => by rw [← hen, ← hbn, HL, if_pos h]; exact ⟨rfl, rfl⟩
  have HP2 : Hid (tb = false → en = ew ∧ bn = bw) := hide fun h => by rw [← hen, ← hbn, HL, if_neg (by rw [h]; decide), hew, hbw]; exact ⟨rfl, rfl⟩
  have HTB := hide htb
  clear hew hbw hen hbn HL hT hes has hsh htb hTl
  have KR := hide (crow hvn)
  have HVN := hide (fun W (hW : Below w.heap.size w W) => hvn.next hW)
  obtain ⟨va, vc, rfl⟩ := seq_slice hv
  obtain ⟨na, nc, rfl⟩ := seq_slice hvn
  unfold clV at CC CT CL1 CL3
  unfold enV at CL1 CL3
  clear hv hs hvn
  go_enter Try.func7, Try.ntmps7
  go_wp2_with fail
  refine (CC _ (Below.refl _ _)).mono ?_
  rintro e w1 ⟨v1, rfl, ho1, hb1⟩
  obtain ⟨a1, c1, rfl, _⟩ := ho1.slice
  have hal1 := allocB w1 (.cells #[.int .i64 3, .int .i64 0, .slice a1 es.length c1] 24)
  have HB1 := hide (nnext hb1 hal1)
  have HS1 := hide (ho1.next hal1).seq
  have HC1 := hide (CBox.new w1 3 0 (.slice a1 es.length c1))
  clear CC ho1 hb1 hal1
  have g0 := (unhide HC1).c0
  have g1 := (unhide HC1).c1
  have g2 := (unhide HC1).c2
  go_upto_region 2 with fail
  generalize w1.heap.size = q7 at *
  generalize w1.alloc (.cells #[.int .i64 3, .int .i64 0, .slice a1 es.length c1] 24) = W1 at *
  go_wp2_with fail
  refine (unhide CL1 _ _ (unhide HS1)).mono ?_
  rintro e w2 ⟨rfl, hb2⟩
  have hal2 := allocB w2 (.cells #[.string ⟨ew.p.toArray⟩, .string ⟨ew.d.toArray⟩, .bool ew.t] 36)
  have HB2 := hide (nnext (nnext (unhide HB1) hb2) hal2)
  have HS2 := hide (((unhide HS1).next hb2).next hal2)
  have HC2 := hide (((unhide HC1).next hb2).next hal2)
  have HW2 := hide (one_newC w2 ew)
  clear hb2 hal2 HB1 HS1 HC1 g0 g1 g2
  go_upto_region 3 with fail
  generalize w2.heap.size = q8 at *
  generalize w2.alloc (.cells #[.string ⟨ew.p.toArray⟩, .string ⟨ew.d.toArray⟩, .bool ew.t] 36) = W2 at *
  have HKS : Hid (∀ W, Below W2.heap.size W2 W → W.cell? ⟨q7, 0, none⟩ = some (.int .i64 3) ∧ W.cell? ⟨q7, 1, none⟩ = some (.int .i64 0) ∧ W.cell? ⟨q7, 2, none⟩ = some (.slice a1 es.length c1)) := hide fun W hW => by
    have X := (unhide HC2).next hW
    exact ⟨X.c0, X.c1, X.c2⟩
  have KN : Hid (∀ W, Below W2.heap.size W2 W → SeqV W (.slice na ns.length nc) ns) := hide fun W hW => unhide HVN W (nnext (unhide HB2) hW)
  have KE : Hid (∀ W, Below W2.heap.size W2 W → SeqV W (.slice a1 es.length c1) es) := hide fun W hW => (unhide HS2).next hW
  obtain ⟨x0, x1, x2⟩ := unhide HKS W2 (Below.refl _ _)
  go_cut [10] from 25 (fun t10 wx => ∃ q a' c', t10 = .pointer (some ⟨q, 0, none⟩) ∧ Hid (BoxX W2 wx q 3 0 (.slice a' T.length c') ∧ SeqV wx (.slice a' T.length c') T))
  case first =>
    go_region_held3 (fun w' => w'.cell? ⟨q7, 0, none⟩ = some (.int .i64 3) ∧ w'.cell? ⟨q7, 1, none⟩ = some (.int .i64 0) ∧ w'.cell? ⟨q7, 2, none⟩ = some (.slice a1 es.length c1)) (first | with_reducible exact unhide HKS _ (by first | with_reducible exact Below.refl _ _ | with_reducible exact (Below.refl _ _).drew | with_reducible exact allocB _ _ | with_reducible exact (allocB _ _).drew | with_reducible exact nnext (Below.refl _ _).drew (allocB _ _) | with_reducible exact unhide aB0 | with_reducible exact nnext (unhide aB0) (allocB _ _) | with_reducible exact unhide aB1 | with_reducible exact nnext (unhide aB1) (allocB _ _) | with_reducible exact (((unhide aB1).setCell (Nat.le_refl _) _).setCell (Nat.le_refl _) _).setCell (Nat.le_refl _) _ | with_reducible exact (((unhide aB1).setCell (unhide aB0).size _).setCell (unhide aB0).size _).setCell (unhide aB0).size _)) (first
      | (refine step_copyN (by kernel_rfl) _ _ (by rfl) (by rfl) (.slice na ns.length nc) (by rfl) ns (unhide KN _ (by first | with_reducible exact Below.refl _ _ | with_reducible exact (Below.refl _ _).drew | with_reducible exact allocB _ _ | with_reducible exact (allocB _ _).drew | with_reducible exact nnext (Below.refl _ _).drew (allocB _ _))) hnl ?_; intro xa xc aw0 ho0 hb0; have aB0 : Hid (Below W2.heap.size W2 aw0) := hide (nnext (by first | with_reducible exact Below.refl _ _ | with_reducible exact (Below.refl _ _).drew | with_reducible exact allocB _ _ | with_reducible exact (allocB _ _).drew | with_reducible exact nnext (Below.refl _ _).drew (allocB _ _)) hb0); have aO0 := hide ho0.seq; (try (have aZ0 : Hid (CBox aw0 W2.heap.size 0 0 (.slice none 0 0)) := hide ((hb0.block _ (by simp)).trans (heap_alloc_new W2 _)))); clear ho0 hb0)
      | (go_at_call 19; refine (unhide CT _ _ _ (unhide KE _ (by first | with_reducible exact Below.refl _ _ | with_reducible exact (Below.refl _ _).drew | with_reducible exact allocB _ _ | with_reducible exact (allocB _ _).drew | with_reducible exact nnext (Below.refl _ _).drew (allocB _ _) | with_reducible exact unhide aB0 | with_reducible exact nnext (unhide aB0) (allocB _ _))) (by first | with_reducible exact unhide aO0 | with_reducible exact (unhide aO0).next (Below.refl _ _).drew | with_reducible exact (unhide aO0).next (allocB _ _))).mono ?_; rintro e aw1 ⟨v1, rfl, ho1, hb1⟩; obtain ⟨ta, tc, rfl, _⟩ := ho1.slice; have aB1 : Hid (Below W2.heap.size W2 aw1) := hide (nnext (by first | with_reducible exact Below.refl _ _ | with_reducible exact (Below.refl _ _).drew | with_reducible exact allocB _ _ | with_reducible exact (allocB _ _).drew | with_reducible exact nnext (Below.refl _ _).drew (allocB _ _) | with_reducible exact unhide aB0 | with_reducible exact nnext (unhide aB0) (allocB _ _)) hb1); have aT1 := hide ho1.seq; have aO1 := hide ho1; (try (have aZ1 := hide ((unhide aZ0).next hb1); have z0 := (unhide aZ1).c0; have z1 := (unhide aZ1).c1; have z2 := (unhide aZ1).c2; have z3 := (unhide aZ1).fr 0; have z4 := (unhide aZ1).fr 1; have z5 := (unhide aZ1).fr 2)); (try (have aZ2 : Hid (CBox aw1 aw0.heap.size 0 0 (.slice none 0 0)) := hide ((hb1.block _ (by simp)).trans (heap_alloc_new aw0 _)); have z6 := (unhide aZ2).c0; have z7 := (unhide aZ2).c1; have z8 := (unhide aZ2).c2; have z9 := (unhide aZ2).fr 0; have z10 := (unhide aZ2).fr 1; have z11 := (unhide aZ2).fr 2)); clear hb1 ho1))
    all_goals go_wp2_with fail
    all_goals go_meet
    all_goals first
      | exact ⟨_, ta, tc, rfl, hide ⟨boxx_new _ _ _ (unhide aB1), (unhide aT1).next (allocB _ _)⟩⟩
      | exact ⟨_, ta, tc, rfl, hide ⟨boxx_put _ _ _ (unhide aB1) (Nat.le_refl _) (unhide aZ1), seq_put3 (unhide aO1) (by have := (unhide aZ0).lt; simp; omega) _ _ _⟩⟩
      | exact ⟨_, ta, tc, rfl, hide ⟨boxx_put _ _ _ (unhide aB1) (unhide aB0).size (unhide aZ2), seq_put3 (unhide aO1) (by simp) _ _ _⟩⟩
  case rest =>
    obtain ⟨q10, a3, c3, rfl, hY⟩ := hcut
    have HB3 := hide (nnext (unhide HB2) (unhide hY).1.b)
    have HS3 := hide ((unhide HS2).next (unhide hY).1.b)
    have HC3 := hide ((unhide HC2).next (unhide hY).1.b)
    have HW3 := hide ((unhide HW2).nextz (unhide hY).1.b)
    have HD3 := hide (unhide hY).1.box
    have HT3 := hide (unhide hY).2
    clear x0 x1 x2 HKS KN KE HB2 HS2 HC2 HW2 hY CT
    have g0 := (unhide HD3).c0
    have g1 := (unhide HD3).c1
    have g2 := (unhide HD3).c2
    go_wp2_with fail
    refine (unhide CL3 _ _ (unhide HT3)).mono ?_
    rintro e w5 ⟨rfl, hb5⟩
    have hal5 := allocB w5 (.cells #[.string ⟨en.p.toArray⟩, .string ⟨en.d.toArray⟩, .bool en.t] 36)
    have HB5 := hide (nnext (nnext (unhide HB3) hb5) hal5)
    have HS5 := hide (((unhide HS3).next hb5).next hal5)
    have HC5 := hide (((unhide HC3).next hb5).next hal5)
    have HW5 := hide (((unhide HW3).nextz hb5).nextz hal5)
    have HN5 := hide (one_newC w5 en)
    clear hb5 hal5 HB3 HS3 HC3 HW3 HD3 HT3 g0 g1 g2
    have g0 := (unhide HC5).c0
    have g1 := (unhide HC5).c1
    have g2 := (unhide HC5).c2
    go_upto_region 5 with fail
    generalize w5.heap.size = q11 at *
    generalize w5.alloc (.cells #[.string ⟨en.p.toArray⟩, .string ⟨en.d.toArray⟩, .bool en.t] 36) = W5 at *
    go_wp2_with fail
    refine (unhide CL1 _ _ (unhide HS5)).mono ?_
    rintro e w7 ⟨rfl, hb7⟩
    have hal7 := allocB w7 (.cells #[.string ⟨ew.p.toArray⟩, .string ⟨ew.d.toArray⟩, .bool ew.t] 36)
    have HB7 := hide (nnext (nnext (unhide HB5) hb7) hal7)
    have HW7 := hide (((unhide HW5).nextz hb7).nextz hal7)
    have HN7 := hide (((unhide HN5).nextz hb7).nextz hal7)
    have HO7 := hide (one_newC w7 ew)
    clear hb7 hal7 HB5 HS5 HC5 HW5 HN5 g0 g1 g2
    have u0 := (unhide HO7).e0
    have u1 := (unhide HO7).e1
    have u2 := (unhide HO7).e2
    have u3 := (unhide HW7).e0
    have u4 := (unhide HW7).e1
    have u5 := (unhide HW7).e2
    go_upto_region 6 with fail
    generalize w7.heap.size = q13 at *
    generalize w7.alloc (.cells #[.string ⟨ew.p.toArray⟩, .string ⟨ew.d.toArray⟩, .bool ew.t] 36) = W7 at *
    go_wp2_with fail
    go_loopg [15, 16] ns.length (fun kx s15 s16 wr => ∃ (i : Nat) (b : Bool), s16 = .int .i64 i ∧ s15 = .bool b ∧ i ≤ ns.length ∧ ns.length - i ≤ kx ∧ Hid (toldE 3 (ns.take i) p = b) ∧ wr = W7)
    case atStart => exact ⟨0, false, rfl, rfl, Nat.zero_le _, Nat.le_refl _, hide rfl, rfl⟩
    case round =>
      obtain ⟨i, b, rfl, rfl, hi, hg, hb, rfl⟩ := hrel
      by_cases hlt : i < ns.length
      · obtain ⟨n, hn⟩ : ∃ n, ns[i]? = some n := ⟨_, List.getElem?_eq_getElem hlt⟩
        obtain ⟨bb, off, cap, he, hbb, qr⟩ := unhide KR wr (unhide HB7) i n hn
        simp only [Value.slice.injEq] at he
        obtain ⟨rfl, _, rfl⟩ := he
        have d0 := qr.t0 hn
        have d1 := qr.t1 hn
        have d2 := qr.t2 hn
        have hii : (i : Int) < (ns.length : Int) := by omega
        have HST := hide (told_step (s := 3) (p := p) hn)
        rw [unhide hb] at HST
        clear qr hn
        cases b with
        | true =>
          go_wp2_with fail
          go_roundg (ns.length - (i + 1))
          case measure => omega
          case rel => exact ⟨i + 1, true, rfl, rfl, by omega, Nat.le_refl _, hide (by rw [unhide HST]; rfl), rfl⟩
        | false =>
          by_cases h1 : n.s = 3
          · have f1 : (n.s == 3) = true := by simpa using h1
            by_cases h2 : n.k = 4
            · have f2 : (n.k != 4) = false := by simp [h2]
              have HF : Hid (toldE 3 (ns.take (i + 1)) p = false) := hide (by rw [unhide HST]; simp [h2])
              clear h1 h2 HST
              go_wp2_with fail
              go_roundg (ns.length - (i + 1))
              case measure => omega
              case rel => exact ⟨i + 1, false, rfl, rfl, by omega, Nat.le_refl _, HF, rfl⟩
            · have f2 : (n.k != 4) = true := by simp [h2]
              by_cases h3 : n.p = p
              · have f3 : (n.p == p) = true := by simpa using h3
                have HF : Hid (toldE 3 (ns.take (i + 1)) p = true) := hide (by rw [unhide HST]; simp [h1, h2, h3])
                clear h1 h2 h3 HST
                go_wp2_with fail
                go_roundg (ns.length - (i + 1))
                case measure => omega
                case rel => exact ⟨i + 1, true, rfl, rfl, by omega, Nat.le_refl _, HF, rfl⟩
              · have f3 : (n.p == p) = false := by simpa using h3
                have HF : Hid (toldE 3 (ns.take (i + 1)) p = false) := hide (by rw [unhide HST]; simp [h3])
                clear h1 h2 h3 HST
                go_wp2_with fail
                go_roundg (ns.length - (i + 1))
                case measure => omega
                case rel => exact ⟨i + 1, false, rfl, rfl, by omega, Nat.le_refl _, HF, rfl⟩
          · have f1 : (n.s == 3) = false := by simpa using h1
            have HF : Hid (toldE 3 (ns.take (i + 1)) p = false) := hide (by rw [unhide HST]; simp [h1])
            clear h1 HST
            go_wp2_with fail
            go_roundg (ns.length - (i + 1))
            case measure => omega
            case rel => exact ⟨i + 1, false, rfl, rfl, by omega, Nat.le_refl _, HF, rfl⟩
      · obtain rfl : i = ns.length := by omega
        have hbt : b = tb := by have := unhide hb; rw [List.take_length, unhide HTB] at this; exact this.symm
        subst hbt
        go_wp2_with fail
        refine (cstarts_any _).mono ?_
        rintro e w9 ⟨rfl, hb9⟩
        have HB9 := hide (nnext (unhide HB7) hb9)
        have v0 := ((unhide HN7).nextz hb9).e0
        have v1 := ((unhide HN7).nextz hb9).e1
        have v2 := ((unhide HN7).nextz hb9).e2
        have v3 := ((unhide HW7).nextz hb9).e0
        have v4 := ((unhide HW7).nextz hb9).e1
        have v5 := ((unhide HW7).nextz hb9).e2
        clear hb9
        cases b with
        | true =>
          obtain ⟨e1, e2⟩ := unhide HP1 rfl
          subst e1 e2
          simp only [noneE] at v0 v1 v2
          go_wp2_with fail
          go_ret
          exact ⟨rfl, unhide HB9⟩
        | false =>
          obtain ⟨e1, e2⟩ := unhide HP2 rfl
          subst e1 e2
          go_wp2_with fail
          go_ret
          exact ⟨rfl, unhide HB9⟩
end Go.Proofs.Ytdefdbejaabpdaa

namespace Go.Proofs.Ytdefdbejaabpdaa
open Go.ChangeShapes Go.WideShapes Go.ChangeAt Go.RowKit Go.ChangeMaps

theorem zlaidOut : laidOutB Try.prog = true := by kernel_rfl
theorem zlist_of (s : ByteArray) : ∃ l : List UInt8, s = ⟨l.toArray⟩ := ⟨s.data.toList, rfl⟩
section
variable {H : Type} {enc : TypeId × Value → H} {W : World} {base : Nat} {spare : Nat → Bool} {held : Bool}
theorem zweightsAll_mem {e : TypeId} : ∀ (l : List (DataW H)) (d : DataW H) (x : Nat), d ∈ l → x ∈ DataW.weights Try.prog e d → x ∈ DataW.weightsAll Try.prog e l
  | d' :: r, d, x, h, hx => by
    rw [DataW.weightsAll]
    rcases List.mem_cons.1 h with rfl | h
    · exact List.mem_append.2 (.inl hx)
    · exact List.mem_append.2 (.inr (zweightsAll_mem r d x h hx))
set_option maxRecDepth 10000 in
/-- a slice of elements that are laid in a row, and what is known of each -/
theorem open_seqP {α : Type} [Lay α] (al : α) {T E : TypeId} (hU : Try.prog.underlying T = some (.slice E)) (hk : Try.prog.cellsOf E = Lay.k α) (hk0 : 0 < Lay.k α) {bytes : Nat} (hby : Try.prog.bytesOf E = bytes) (P : α → Prop) (Q : Nat → α → Prop)
    (ho : ∀ {n : Nat} {cs : List Value} {x : DataW H × List MemPlace}, cs.length = Lay.k α → DataW.trod enc Try.prog W base spare held n E cs = some x → ∃ f : α, cs = Lay.cs f ∧ P f ∧ ∀ M, (∀ y ∈ DataW.weights Try.prog E x.1, y ≤ M) → Q M f)
    {fuel : Nat} {v : Value} {y : DataW H × List MemPlace} (h : DataW.trod enc Try.prog W base spare held fuel T [v] = some y) :
    ∃ xs : List α, SeqV W v xs ∧ (∀ x ∈ xs, P x) ∧ ∀ M, (∀ x ∈ DataW.weights Try.prog T y.1, x ≤ M) → xs.length * bytes ≤ M ∧ ∀ x ∈ xs, Q M x := by
  rcases Go.Deep.open_slice hU h with ⟨h1, hx⟩ | ⟨a, len, cap, m, k, D, Pl, h1, hb, hl, hm, hmm, hx, hel⟩
  · simp only [List.cons.injEq, and_true] at h1
    rw [h1]
    exact ⟨[], SeqV.nil W, by simp, fun M _ => ⟨by simp, by simp⟩⟩
  · simp only [List.cons.injEq, and_true] at h1
    rw [h1]
    subst hx
    have hlm : len ≤ m := by rw [hmm]; split <;> omega
    have each : ∀ i, i < len → ∃ f : α, (∀ c, c < Lay.k α → W.cell? (a.add (i * Lay.k α + c)) = (Lay.cs f)[c]?) ∧ P f ∧ ∀ M, (∀ y ∈ DataW.weights Try.prog E (D i), y ≤ M) → Q M f := by
      intro i hi
      obtain ⟨cs', g1, g2⟩ := hel i (by omega)
      rw [hk] at g1
      obtain ⟨_, hlen, hcell⟩ := World.cells?_some g1
      obtain ⟨f, rfl, hp, hq⟩ := ho hlen g2
      refine ⟨f, fun c hc => ?_, hp, hq⟩
      have := hcell c hc
      rwa [Go.Deep.add_add] at this
    have : Inhabited α := ⟨al⟩
    obtain ⟨F, hF⟩ := Go.Deep.choose_lt each
    refine ⟨(List.range len).map F, ?_, ?_, ?_⟩
    · by_cases h0 : len = 0
      · subst h0
        exact .inl ⟨some a, cap, rfl, rfl, hm⟩
      · have c0 := (hF 0 (by omega)).1 0 hk0
        obtain ⟨y, hy⟩ : ∃ y, (Lay.cs (F 0))[0]? = some y := ⟨_, List.getElem?_eq_getElem (by rw [Lay.len]; exact hk0)⟩
        rw [hy] at c0
        obtain ⟨b, off, sp⟩ := a
        have hsp : sp = none := by
          cases sp with
          | none => rfl
          | some s => simp [World.cell?, Addr.add] at c0; split at c0 <;> simp at c0
        subst hsp
        have hblt : b < W.heap.size := World.block_lt_of_cell? W _ (show W.cell? ((⟨b, off, none⟩ : Addr).add (0 * Lay.k α + 0)) = some _ from c0) |> fun h => by simpa [Addr.add] using h
        refine .inr ⟨b, off, cap, by simp, by simpa using hl, hm, hblt, by simp; omega, fun j u hj => ?_⟩
        have hjl : j < len * Lay.k α := by
          have := (List.getElem?_eq_some_iff.1 hj).1
          rw [cellsL_length, List.length_map, List.length_range] at this
          exact this
        have hi : j / Lay.k α < len := Nat.div_lt_of_lt_mul (by rw [Nat.mul_comm]; exact hjl)
        have hm' : j % Lay.k α < Lay.k α := Nat.mod_lt _ hk0
        have hdm : j / Lay.k α * Lay.k α + j % Lay.k α = j := by rw [Nat.mul_comm]; exact Nat.div_add_mod j _
        have hg := cellsL_get ((List.range len).map F) (j / Lay.k α) (F (j / Lay.k α)) (by rw [List.getElem?_map, List.getElem?_range hi]; rfl) (j % Lay.k α) hm'
        rw [hdm, hj] at hg
        have := (hF (j / Lay.k α) hi).1 (j % Lay.k α) hm'
        rw [hdm, Addr.add_lit, ← hg] at this
        exact this
    · intro x hx
      obtain ⟨i, hi, rfl⟩ := List.mem_map.1 hx
      exact (hF i (by simpa using hi)).2.1
    · intro M hM
      have hw' : DataW.weights Try.prog T (.slice ((List.range len).map D) ((List.range (m - len)).map fun j => D (len + j)) : DataW H) =
          (len + (m - len)) * bytes :: (DataW.weightsAll Try.prog E ((List.range len).map D) ++ DataW.weightsAll Try.prog E ((List.range (m - len)).map fun j => D (len + j))) := by
        simp [DataW.weights, hU, hby]
      rw [hw'] at hM
      refine ⟨?_, fun f hf => ?_⟩
      · have := hM _ (List.mem_cons_self ..)
        simp only [List.length_map, List.length_range]
        exact Nat.le_trans (Nat.mul_le_mul_right _ (by omega)) this
      · obtain ⟨i, hi, rfl⟩ := List.mem_map.1 hf
        have hi' : i < len := by simpa using hi
        exact (hF i hi').2.2 M fun x hx => hM x (List.mem_cons_of_mem _ (List.mem_append.2 (.inl (zweightsAll_mem _ (D i) x (List.mem_map.2 ⟨i, hi, rfl⟩) hx))))
theorem zsized {ts : List TypeId} {ds : List (DataW H)} (h : (DataW.weightsEach Try.prog ts ds).all (· ≤ reachBytes) = true) {j : Nat} {T : TypeId} {d : DataW H} (ht : ts[j]? = some T) (hd : ds[j]? = some d) : ∀ x ∈ DataW.weights Try.prog T d, x ≤ 140737488351232 := by
  intro x hx
  have e : reachBytes = 140737488351232 := by decide
  have h1 := List.all_eq_true.1 h _ (DataW.weights_mem_each ht hd x hx)
  rw [e] at h1
  simpa using h1
end
end Go.Proofs.Ytdefdbejaabpdaa

namespace Go.Proofs.Ytdefdbejaabpdaa
open Go.ChangeShapes Go.WideShapes Go.ChangeAt Go.RowKit Go.ChangeMaps

theorem ccellsStr : Try.prog.cellsOf 9 = 1 := by kernel_rfl
theorem ccellsInt : Try.prog.cellsOf 3 = 1 := by kernel_rfl
theorem ccellsBool : Try.prog.cellsOf 4 = 1 := by kernel_rfl
theorem ccellsEn : Try.prog.cellsOf 36 = 3 := by kernel_rfl
theorem ccellsEv : Try.prog.cellsOf 46 = 2 := by kernel_rfl
theorem ccellsNt : Try.prog.cellsOf 48 = 3 := by kernel_rfl
theorem cbytesEn : Try.prog.bytesOf 36 = 40 := by kernel_rfl
theorem cbytesNt : Try.prog.bytesOf 48 = 32 := by kernel_rfl
section
variable {H : Type} {enc : TypeId × Value → H} {W : World} {base : Nat} {spare : Nat → Bool} {held : Bool}
set_option maxRecDepth 10000 in
theorem copen_en {n : Nat} {cs : List Value} {x : DataW H × List MemPlace} (hl : cs.length = 3) (h : DataW.trod enc Try.prog W base spare held n 36 cs = some x) :
    ∃ f : En, cs = encells f ∧ True ∧ ∀ M, (∀ y ∈ DataW.weights Try.prog 36 x.1, y ≤ M) → f.p.length ≤ M ∧ f.d.length ≤ M := by
  match cs, hl with
  | [c0, c1, c2], _ =>
    obtain ⟨xs, k, _, hx, _, hlen, hfs⟩ := DataW.trod_struct Try.underlying36 h
    match xs, hlen with
    | [y0, y1, y2], _ =>
      obtain ⟨s0, e0, rfl, _⟩ := DataW.trod_string Try.underlying9 (show DataW.trod enc Try.prog W base spare held k 9 [c0] = some y0 by simpa [ccellsStr] using hfs 0 _ rfl)
      obtain ⟨s1, e1, rfl, _⟩ := DataW.trod_string Try.underlying9 (show DataW.trod enc Try.prog W base spare held k 9 [c1] = some y1 by simpa [ccellsStr] using hfs 1 _ rfl)
      obtain ⟨b, e2, rfl⟩ := DataW.trod_bool Try.underlying4 (show DataW.trod enc Try.prog W base spare held k 4 [c2] = some y2 by simpa [ccellsStr, ccellsBool] using hfs 2 _ rfl)
      simp only [List.cons.injEq, and_true] at e0 e1 e2
      subst e0 e1 e2
      obtain ⟨l0, rfl⟩ := zlist_of s0
      obtain ⟨l1, rfl⟩ := zlist_of s1
      subst hx
      refine ⟨⟨l0, l1, b⟩, rfl, trivial, fun M hM => ?_⟩
      simp only [DataW.weights, Try.underlying36, List.map_cons, List.map_nil, DataW.weightsEach] at hM
      simpa using hM
theorem copen_es {fuel : Nat} {v : Value} {y : DataW H × List MemPlace} (h : DataW.trod enc Try.prog W base spare held fuel 22 [v] = some y) :
    ∃ es : List En, SeqV W v es ∧ ∀ M, (∀ x ∈ DataW.weights Try.prog 22 y.1, x ≤ M) → es.length * 40 ≤ M ∧ ∀ x ∈ es, x.p.length ≤ M ∧ x.d.length ≤ M := by
  obtain ⟨es, h1, _, h3⟩ := open_seqP noneE Try.underlying22 ccellsEn (by decide) cbytesEn (fun _ => True) (fun M x => x.p.length ≤ M ∧ x.d.length ≤ M) copen_en h
  exact ⟨es, h1, h3⟩
theorem open_entries {r : Reach} {b0 : Nat} {v : Value} {d : DataW H} {p : List MemPlace} (hv : Value.okWide Try.prog W r b0 22 v) (h : DataW.Trod enc Try.prog W base spare held 22 v d p) :
    ∃ es : List En, SeqV W v es ∧ ∀ M, (∀ x ∈ DataW.weights Try.prog 22 d, x ≤ M) → es.length * 40 ≤ M ∧ ∀ x ∈ es, x.p.length ≤ M ∧ x.d.length ≤ M := by
  obtain ⟨fuel, hf⟩ := h
  obtain ⟨sa, sl, sc, rfl⟩ := okWide_slice Try.underlying22 hv
  exact copen_es (y := (d, p)) (show DataW.trod enc Try.prog W base spare held fuel 22 [.slice sa sl sc] = some (d, p) by simpa [Value.cells] using hf)
set_option maxRecDepth 10000 in
theorem copen_nt {n : Nat} {cs : List Value} {x : DataW H × List MemPlace} (hl : cs.length = 3) (h : DataW.trod enc Try.prog W base spare held n 48 cs = some x) :
    ∃ f : Nt, cs = ntcells f ∧ True ∧ ∀ M, (∀ y ∈ DataW.weights Try.prog 48 x.1, y ≤ M) → True := by
  match cs, hl with
  | [c0, c1, c2], _ =>
    obtain ⟨xs, k, _, hx, _, hlen, hfs⟩ := DataW.trod_struct Try.underlying48 h
    match xs, hlen with
    | [y0, y1], _ =>
      obtain ⟨s, e0, rfl, _⟩ := DataW.trod_int Try.underlying3 (show DataW.trod enc Try.prog W base spare held k 3 [c0] = some y0 by simpa [ccellsInt] using hfs 0 _ rfl)
      have he : DataW.trod enc Try.prog W base spare held k 46 [c1, c2] = some y1 := by simpa [ccellsInt, ccellsEv] using hfs 1 _ rfl
      obtain ⟨xs2, k2, _, _, _, hlen2, hfs2⟩ := DataW.trod_struct Try.underlying46 he
      match xs2, hlen2 with
      | [u0, u1], _ =>
        obtain ⟨kd, e1, rfl, _⟩ := DataW.trod_int Try.underlying3 (show DataW.trod enc Try.prog W base spare held k2 3 [c1] = some u0 by simpa [ccellsInt] using hfs2 0 _ rfl)
        obtain ⟨pp, e2, rfl, _⟩ := DataW.trod_string Try.underlying9 (show DataW.trod enc Try.prog W base spare held k2 9 [c2] = some u1 by simpa [ccellsInt, ccellsStr] using hfs2 1 _ rfl)
        simp only [List.cons.injEq, and_true] at e0 e1 e2
        subst e0 e1 e2
        obtain ⟨l2, rfl⟩ := zlist_of pp
        exact ⟨⟨s, kd, l2⟩, rfl, trivial, fun _ _ => trivial⟩
theorem open_notes {r : Reach} {b0 : Nat} {v : Value} {d : DataW H} {p : List MemPlace} (hv : Value.okWide Try.prog W r b0 33 v) (h : DataW.Trod enc Try.prog W base spare held 33 v d p) :
    ∃ ns : List Nt, SeqV W v ns ∧ ∀ M, (∀ x ∈ DataW.weights Try.prog 33 d, x ≤ M) → ns.length * 32 ≤ M := by
  obtain ⟨fuel, hf⟩ := h
  obtain ⟨sa, sl, sc, rfl⟩ := okWide_slice Try.underlying33 hv
  obtain ⟨ns, h1, _, h3⟩ := open_seqP (⟨0, 0, []⟩ : Nt) Try.underlying33 ccellsNt (by decide) cbytesNt (fun _ => True) (fun _ _ => True) copen_nt (y := (d, p)) (show DataW.trod enc Try.prog W base spare held fuel 33 [.slice sa sl sc] = some (d, p) by simpa [Value.cells] using hf)
  exact ⟨ns, h1, fun M hM => (h3 M hM).1⟩
end
end Go.Proofs.Ytdefdbejaabpdaa
