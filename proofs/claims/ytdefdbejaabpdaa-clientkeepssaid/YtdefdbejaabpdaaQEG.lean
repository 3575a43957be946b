/-
  The law ClientKeeps: the walk.
  A slice of elements that are laid in a row, as an argument: opened, with what is known of each.
  An end, lists of entries, of notes and of numbers, and one entry, as arguments: opened; what their weights say of their lengths.
-/
import Derived.Test.YtdefdbejaabpdaaQED
import Derived.Test.YtdefdbejaabpdaaQEF
import Derived.Test.YtdefdbejaabpdaaQEA
import Derived.Test.YtdefdbejaabpdaaRows
import Derived.ProofKit
import Derived.OpenShut
import Derived.SizedLaws
import Derived.Deep.Slices
import Derived.Carry
namespace Go.Proofs.Ytdefdbejaabpdaa
open Go.RowKit

/-- the two ends of the loop, in their boxes -/
structure TwoX (w W : World) (va vb : Value) : Prop where
  old : Below w.heap.size w W
  size : w.heap.size + 2 ≤ W.heap.size
  a : CBox W w.heap.size 3 0 va
  b : CBox W (w.heap.size + 1) 3 0 vb
theorem TwoX.next {w W V : World} {va vb : Value} (h : TwoX w W va vb) (hb : Below W.heap.size W V) : TwoX w V va vb :=
  ⟨nnext h.old hb, Nat.le_trans h.size hb.size, h.a.next hb, h.b.next hb⟩
theorem TwoX.put {w W : World} {va vb : Value} (h : TwoX w W va vb) (ua ub : Value) : TwoX w ((W.setCell ⟨w.heap.size, 2, none⟩ ua).setCell ⟨w.heap.size + 1, 2, none⟩ ub) ua ub :=
  ⟨(h.old.setCell (by simp) _).setCell (by simp) _, by have := h.size; simp [World.setCell]; omega, (h.a.set2).other (by simp) _, (h.b.other (by simp) _).set2⟩
theorem own_put2 {α : Type} [Lay α] {W : World} {B i j : Nat} {v : Value} {xs : List α} (h : OwnS W B v xs) (hi : i < B) (hj : j < B) (x y : Value) : OwnS ((W.setCell ⟨i, 2, none⟩ x).setCell ⟨j, 2, none⟩ y) B v xs :=
  (h.otherz hi x).otherz hj y

set_option maxRecDepth 20000 in
set_option maxHeartbeats 4000000 in
theorem clientKeeps_walk (v vl : Value) (l : List En) (p : List UInt8) (ns : List Nt) (w : World) (hv : SeqV w v l) (hs : ShortC l) (hvn : SeqV w vl ns) (hnl : ns.length * 32 ≤ 140737488355328) :
    Calls Try.prog 4 #[v, .string ⟨p.toArray⟩, vl] w fun e w' => e = .returned (.bool true) ∧ Below w.heap.size w w' := by
  have KR := hide (crow hv)
  have HS := hide hs
  have HVN := hide (fun W (hW : Below w.heap.size w W) => hvn.next hW)
  have HP : Hid (∀ (i : Nat), i ≤ 60 → (cacheE (l.take i)).length ≤ 60) := hide fun i hi => Nat.le_trans (cache_len _) (by simp; omega)
  obtain ⟨va, vc, rfl⟩ := seq_slice hv
  obtain ⟨na, nc, rfl⟩ := seq_slice hvn
  clear hv hs hvn
  have HX0 : Hid (TwoX w ((w.alloc (.cells #[.int .i64 3, .int .i64 0, .slice none 0 0] 24)).alloc (.cells #[.int .i64 3, .int .i64 0, .slice none 0 0] 24)) (.slice none 0 0) (.slice none 0 0)) := hide ⟨nnext (allocB _ _) (allocB _ _), by simp, (CBox.new w 3 0 _).next (allocB _ _), by
    have := CBox.new (w.alloc (.cells #[.int .i64 3, .int .i64 0, .slice none 0 0] 24)) 3 0 (.slice none 0 0)
    rwa [show (w.alloc (.cells #[.int .i64 3, .int .i64 0, .slice none 0 0] 24)).heap.size = w.heap.size + 1 by simp] at this⟩
  go_enter Try.func4, Try.ntmps4
  go_wp2_with fail
  generalize (w.alloc (.cells #[.int .i64 3, .int .i64 0, .slice none 0 0] 24)).alloc (.cells #[.int .i64 3, .int .i64 0, .slice none 0 0] 24) = W0 at *
  go_loopg [9] l.length (fun kx s9 wr => ∃ (k n : Nat) (a : Option Addr) (c : Nat) (a' : Option Addr) (c' : Nat), s9 = .int .i64 k ∧ k ≤ l.length ∧ k ≤ 60 ∧ l.length - k ≤ kx ∧ Hid ((cacheE (l.take k)).length = n) ∧ Hid (TwoX w wr (.slice a n c) (.slice a' n c')) ∧ Hid (OwnS wr (w.heap.size + 2) (.slice a n c) (cacheE (l.take k))) ∧ Hid (OwnS wr (w.heap.size + 2) (.slice a' n c') (cacheE (l.take k))))
  case atStart => exact ⟨0, 0, none, 0, none, 0, rfl, Nat.zero_le _, Nat.zero_le _, Nat.le_refl _, hide rfl, HX0, hide (.inl ⟨rfl, rfl⟩), hide (.inl ⟨rfl, rfl⟩)⟩
  case round =>
    obtain ⟨k, n, a, c, a', c', rfl, hk, hk6, hg, hn, hX, hO, hO'⟩ := hrel
    by_cases hlt : k < l.length
    by_cases h60 : k < 60
    · skip
      obtain ⟨x, hx⟩ : ∃ x, l[k]? = some x := ⟨_, List.getElem?_eq_getElem hlt⟩
      obtain ⟨b, off, cap, he, hb, q⟩ := unhide KR wr (unhide hX).old k x hx
      simp only [Value.slice.injEq] at he
      obtain ⟨rfl, _, rfl⟩ := he
      have hbw : b < wr.heap.size := Nat.lt_of_lt_of_le hb (unhide hX).old.size
      have hlti : (k : Int) < (l.length : Int) := by omega
      have h60i : (k : Int) < 60 := by omega
      have d0 := q.en0 hx
      have d1 := q.en1 hx
      have d2 := q.en2 hx
      have hxs := unhide HS x (List.mem_of_getElem? hx)
      have hcl : (cacheE (l.take k)).length ≤ 100 := by have := unhide HP k (by omega); omega
      have HE : Hid (cacheE (l.take (k + 1)) = keepE (cacheE (l.take k)) x) := hide (by rw [show l.take (k + 1) = l.take k ++ [x] from snoc_take hx, cache_snoc])
      have CK := fun W (hW : Below wr.heap.size wr W) => ckeep_any 3 0 _ _ x W ((unhide hO).next hW).seq (short_cache (short_take (unhide HS) k)) hcl (cache_asc _) hxs
      have CR := fun W (hW : Below wr.heap.size wr W) => rkeep_any 3 0 _ _ x W ((unhide hO').next hW).seq hcl (cache_asc _)
      rw [← unhide HE] at CK CR
      unfold clV enV at CK CR
      have HCK := hide CK
      have HCR := hide CR
      have HKS : Hid (∀ W, Below wr.heap.size wr W → (W.cell? ⟨b, off + k * 3, none⟩ = some (.string ⟨x.p.toArray⟩) ∧ W.cell? ⟨b, off + k * 3 + 1, none⟩ = some (.string ⟨x.d.toArray⟩) ∧ W.cell? ⟨b, off + k * 3 + 2, none⟩ = some (.bool x.t)) ∧ (W.cell? ⟨w.heap.size, 0, none⟩ = some (.int .i64 3) ∧ W.cell? ⟨w.heap.size, 1, none⟩ = some (.int .i64 0) ∧ W.cell? ⟨w.heap.size, 2, none⟩ = some (.slice a n c)) ∧ W.cell? ⟨w.heap.size + 1, 0, none⟩ = some (.int .i64 3) ∧ W.cell? ⟨w.heap.size + 1, 1, none⟩ = some (.int .i64 0) ∧ W.cell? ⟨w.heap.size + 1, 2, none⟩ = some (.slice a' n c')) := hide fun W hW => by
        have r := q.kept hW hbw
        have X := (unhide hX).next hW
        exact ⟨⟨r.en0 hx, r.en1 hx, r.en2 hx⟩, ⟨X.a.c0, X.a.c1, X.a.c2⟩, X.b.c0, X.b.c1, X.b.c2⟩
      have HKF : Hid (∀ W, Below wr.heap.size wr W → ∀ j, W.frozen? ⟨w.heap.size, j, none⟩ = false ∧ W.frozen? ⟨w.heap.size + 1, j, none⟩ = false) := hide fun W hW j => by
        have X := (unhide hX).next hW
        exact ⟨X.a.fr j, X.b.fr j⟩
      obtain ⟨_, ⟨x0, x1, x2⟩, x3, x4, x5⟩ := unhide HKS wr (Below.refl _ _)
      have hwz := (unhide hX).size
      clear q hx CK CR hcl hxs
      go_upto_region 5 with fail
      have hS0 : (fun W : World => W.cell? ⟨b, off + k * 3, none⟩ = some (.string ⟨x.p.toArray⟩) ∧ W.cell? ⟨b, off + k * 3 + 1, none⟩ = some (.string ⟨x.d.toArray⟩) ∧ W.cell? ⟨b, off + k * 3 + 2, none⟩ = some (.bool x.t) ∧ W.cell? ⟨w.heap.size, 0, none⟩ = some (.int .i64 3) ∧ W.cell? ⟨w.heap.size, 1, none⟩ = some (.int .i64 0) ∧ W.cell? ⟨w.heap.size, 2, none⟩ = some (.slice a n c) ∧ W.cell? ⟨w.heap.size + 1, 0, none⟩ = some (.int .i64 3) ∧ W.cell? ⟨w.heap.size + 1, 1, none⟩ = some (.int .i64 0) ∧ W.cell? ⟨w.heap.size + 1, 2, none⟩ = some (.slice a' n c')) wr.drew := by
        obtain ⟨⟨m0, m1, m2⟩, ⟨m3, m4, m5⟩, m6, m7, m8⟩ := unhide HKS _ ((Below.refl wr.heap.size wr).drew)
        exact ⟨m0, m1, m2, m3, m4, m5, m6, m7, m8⟩
      refine wp_region_K (S := fun W : World => W.cell? ⟨b, off + k * 3, none⟩ = some (.string ⟨x.p.toArray⟩) ∧ W.cell? ⟨b, off + k * 3 + 1, none⟩ = some (.string ⟨x.d.toArray⟩) ∧ W.cell? ⟨b, off + k * 3 + 2, none⟩ = some (.bool x.t) ∧ W.cell? ⟨w.heap.size, 0, none⟩ = some (.int .i64 3) ∧ W.cell? ⟨w.heap.size, 1, none⟩ = some (.int .i64 0) ∧ W.cell? ⟨w.heap.size, 2, none⟩ = some (.slice a n c) ∧ W.cell? ⟨w.heap.size + 1, 0, none⟩ = some (.int .i64 3) ∧ W.cell? ⟨w.heap.size + 1, 1, none⟩ = some (.int .i64 0) ∧ W.cell? ⟨w.heap.size + 1, 2, none⟩ = some (.slice a' n c')) 11 (by kernel_rfl) ?_
      refine wpAnyK_take (i := 0) (oi := _) (v := ?v0) rfl (by kernel_rfl) (by kernel_rfl) (by kernel_rfl) (by kernel_rfl) (by kernel_rfl) (fun _ _ _ h => h) (Or.inl ⟨by rfl, ?hy0⟩) hS0 ?rest0
      case hy0 =>
        intro W hSw
        obtain ⟨h0, h1, h2, h3, h4, h5, h6, h7, h8⟩ := hSw
        go_simp
        try with_reducible rfl
      try simp only [Act.put, List.setIfInBounds_toArray]
      refine wpAnyK_take (i := 1) (oi := _) (v := ?v1) rfl (by kernel_rfl) (by kernel_rfl) (by kernel_rfl) (by kernel_rfl) (by kernel_rfl) (fun _ _ _ h => h) (Or.inl ⟨by rfl, ?hy1⟩) hS0 ?rest1
      case hy1 =>
        intro W hSw
        obtain ⟨h0, h1, h2, h3, h4, h5, h6, h7, h8⟩ := hSw
        go_simp
        try with_reducible rfl
      try simp only [Act.put]
      refine wpAnyK_take (i := 2) (oi := _) (v := ?v2) rfl (by kernel_rfl) (by kernel_rfl) (by kernel_rfl) (by kernel_rfl) (by kernel_rfl) (fun _ _ _ h => h) (Or.inl ⟨by rfl, ?hy2⟩) hS0 ?rest2
      case hy2 =>
        intro W hSw
        obtain ⟨h0, h1, h2, h3, h4, h5, h6, h7, h8⟩ := hSw
        go_simp
        try with_reducible rfl
      try simp only [Act.put]
      refine wpAnyK_take (i := 3) (oi := _) (v := ?v3) rfl (by kernel_rfl) (by kernel_rfl) (by kernel_rfl) (by kernel_rfl) (by kernel_rfl) (fun _ _ _ h => h) (Or.inl ⟨by rfl, ?hy3⟩) hS0 ?rest3
      case hy3 =>
        intro W hSw
        obtain ⟨h0, h1, h2, h3, h4, h5, h6, h7, h8⟩ := hSw
        go_simp
        try with_reducible rfl
      try simp only [Act.put]
      refine wpAnyK_take (i := 4) (oi := _) (v := ?v4) rfl (by kernel_rfl) (by kernel_rfl) (by kernel_rfl) (by kernel_rfl) (by kernel_rfl) (fun _ _ _ h => h) (Or.inl ⟨by rfl, ?hy4⟩) hS0 ?rest4
      case hy4 =>
        intro W hSw
        obtain ⟨h0, h1, h2, h3, h4, h5, h6, h7, h8⟩ := hSw
        go_simp
        try with_reducible rfl
      try simp only [Act.put]
      refine wpAnyK_take (i := 6) (oi := _) (v := ?v6) rfl (by kernel_rfl) (by kernel_rfl) (by kernel_rfl) (by kernel_rfl) (by kernel_rfl) (fun _ _ _ h => h) (Or.inl ⟨by rfl, ?hy6⟩) hS0 ?rest6
      case hy6 =>
        intro W hSw
        obtain ⟨h0, h1, h2, h3, h4, h5, h6, h7, h8⟩ := hSw
        go_simp
        try with_reducible rfl
      try simp only [Act.put]
      refine wpAnyK_take (i := 7) (oi := _) (v := ?v7) rfl (by kernel_rfl) (by kernel_rfl) (by kernel_rfl) (by kernel_rfl) (by kernel_rfl) (fun _ _ _ h => h) (Or.inl ⟨by rfl, ?hy7⟩) hS0 ?rest7
      case hy7 =>
        intro W hSw
        obtain ⟨h0, h1, h2, h3, h4, h5, h6, h7, h8⟩ := hSw
        go_simp
        try with_reducible rfl
      try simp only [Act.put]
      refine wpAnyK_take (i := 8) (oi := _) (v := ?v8) rfl (by kernel_rfl) (by kernel_rfl) (by kernel_rfl) (by kernel_rfl) (by kernel_rfl) (fun _ _ _ h => h) (Or.inl ⟨by rfl, ?hy8⟩) hS0 ?rest8
      case hy8 =>
        intro W hSw
        obtain ⟨h0, h1, h2, h3, h4, h5, h6, h7, h8⟩ := hSw
        go_simp
        try with_reducible rfl
      try simp only [Act.put]
      refine wpAnyK_take (i := 9) (oi := _) (v := ?v9) rfl (by kernel_rfl) (by kernel_rfl) (by kernel_rfl) (by kernel_rfl) (by kernel_rfl) (fun _ _ _ h => h) (Or.inl ⟨by rfl, ?hy9⟩) hS0 ?rest9
      case hy9 =>
        intro W hSw
        obtain ⟨h0, h1, h2, h3, h4, h5, h6, h7, h8⟩ := hSw
        go_simp
        try with_reducible rfl
      try simp only [Act.put]
      refine wpAnyK_take (i := 10) (oi := _) (v := ?v10) rfl (by kernel_rfl) (by kernel_rfl) (by kernel_rfl) (by kernel_rfl) (by kernel_rfl) (fun _ _ _ h => h) (Or.inl ⟨by rfl, ?hy10⟩) hS0 ?rest10
      case hy10 =>
        intro W hSw
        obtain ⟨h0, h1, h2, h3, h4, h5, h6, h7, h8⟩ := hSw
        go_simp
        try with_reducible rfl
      try simp only [Act.put]
      clear hS0
      refine wpAnyK_ready (rs := [5]) (by kernel_rfl) (by simp) ?_
      refine AllReadyK.cons (o := _) rfl (fun K hK => ?_) AllReadyK.nil
      go_simp
      refine (unhide HCK _ (Below.refl _ _).drew).mono ?_
      rintro e kw ⟨v1, rfl, ho1, hb1⟩
      obtain ⟨a1, c1, rfl, _⟩ := ho1.slice
      have kB : Hid (Below wr.heap.size wr kw) := hide (nbelow_drew hb1)
      have kO := hide (ho1.lower (C := w.heap.size + 2) hwz)
      clear ho1 hb1
      refine hK.out _ _ (fun _ => ?_) ?_
      · obtain ⟨⟨m0, m1, m2⟩, ⟨m3, m4, m5⟩, m6, m7, m8⟩ := unhide HKS _ (unhide kB)
        exact ⟨m0, m1, m2, m3, m4, m5, m6, m7, m8⟩
      clear hK K
      try simp only [Act.put, List.setIfInBounds_toArray, List.set_cons_zero, List.set_cons_succ]
      refine wpAnyK_ready (rs := [11]) (by kernel_rfl) (by simp) ?_
      refine AllReadyK.cons (o := _) rfl (fun K hK => ?_) AllReadyK.nil
      go_simp
      refine (unhide HCR _ (unhide kB)).mono ?_
      rintro e rw ⟨v2, rfl, ho2, hb2⟩
      obtain ⟨a2, c2, rfl, _⟩ := ho2.slice
      have rB := hide (nnext (unhide kB) hb2)
      have rO := hide (ho2.lower (C := w.heap.size + 2) (Nat.le_trans hwz (unhide kB).size))
      have kO := hide ((unhide kO).next hb2)
      clear ho2 hb2
      obtain ⟨⟨m0, m1, m2⟩, ⟨m3, m4, m5⟩, m6, m7, m8⟩ := unhide HKS rw (unhide rB)
      refine hK.out _ _ (fun _ => ⟨m0, m1, m2, m3, m4, m5, m6, m7, m8⟩) ?_
      clear hK K
      have mf0 := (unhide HKF rw (unhide rB) 0).1
      have mf1 := (unhide HKF rw (unhide rB) 1).1
      have mf2 := (unhide HKF rw (unhide rB) 2).1
      have mg0 := (unhide HKF rw (unhide rB) 0).2
      have mg1 := (unhide HKF rw (unhide rB) 1).2
      have mg2 := (unhide HKF rw (unhide rB) 2).2
      have ms0 := nset_same m3
      have ms1 := nset_same m4
      have ms2 := nset_same m6
      have ms3 := nset_same m7
      have XB := (((unhide hX).next (unhide rB)).b).other (a := ⟨w.heap.size, 2, none⟩) (by simp) (.slice a1 (cacheE (l.take (k + 1))).length c1)
      have ms4 := nset_same XB.c0
      have ms5 := nset_same XB.c1
      have mb2 := XB.c2
      have mh0 := XB.fr 0
      have mh1 := XB.fr 1
      have mh2 := XB.fr 2
      clear XB
      try simp only [Act.put, List.setIfInBounds_toArray, List.set_cons_zero, List.set_cons_succ]
      refine wpAnyK_ready (rs := [12]) (by kernel_rfl) (by simp) ?_
      refine AllReadyK.cons (o := _) rfl (fun K hK => ?_) AllReadyK.nil
      go_simp
      refine hK.out _ _ (fun h => absurd h (by decide)) ?_
      clear hK K
      try simp only [Act.put, List.setIfInBounds_toArray, List.set_cons_zero, List.set_cons_succ]
      refine wpAnyK_ready (rs := [13]) (by kernel_rfl) (by simp) ?_
      refine AllReadyK.cons (o := _) rfl (fun K hK => ?_) AllReadyK.nil
      go_simp
      refine hK.out _ _ (fun h => absurd h (by decide)) ?_
      clear hK K
      try simp only [Act.put, List.setIfInBounds_toArray, List.set_cons_zero, List.set_cons_succ]
      refine wpAnyK_done (by kernel_rfl) ?_ _
      have hX3 := hide (((unhide hX).next (unhide rB)).put (.slice a1 (cacheE (l.take (k + 1))).length c1) (.slice a2 (cacheE (l.take (k + 1))).length c2))
      have kO2 := hide (own_put2 (unhide kO) (i := w.heap.size) (j := w.heap.size + 1) (by omega) (by omega) (.slice a1 (cacheE (l.take (k + 1))).length c1) (.slice a2 (cacheE (l.take (k + 1))).length c2))
      have rO2 := hide (own_put2 (unhide rO) (i := w.heap.size) (j := w.heap.size + 1) (by omega) (by omega) (.slice a1 (cacheE (l.take (k + 1))).length c1) (.slice a2 (cacheE (l.take (k + 1))).length c2))
      clear m0 m1 m2 m3 m4 m5 m6 m7 m8 mf0 mf1 mf2 mg0 mg1 mg2 ms0 ms1 ms2 ms3 ms4 ms5 mb2 mh0 mh1 mh2
      go_wp2_with fail
      go_roundg (l.length - (k + 1))
      case measure => omega
      case rel => exact ⟨k + 1, _, a1, c1, a2, c2, rfl, by omega, by omega, Nat.le_refl _, hide rfl, hX3, kO2, rO2⟩
    · have h60i : ¬ (k : Int) < 60 := by omega
      have hsh := short_cache (short_take (unhide HS) k)
      have has := cache_asc (l.take k)
      have hal : (cacheE (l.take k)).length ≤ 60 := unhide HP k hk6
      obtain ⟨es, hes⟩ : ∃ es, cacheE (l.take k) = es := ⟨_, rfl⟩
      rw [hes] at hn hO hO' hsh has hal
      have hnn := unhide hn
      subst hnn
      clear hes hn
      have CC := hide (fun W (h : Below wr.heap.size wr W) => rcopyC_any 3 0 (.slice a es.length c) es W ((unhide hO).next h).seq (by omega))
      have CL := hide (fun W u (h : SeqV W u es) => clook_any 3 0 u es p W h hsh (by omega) has)
      have CRL := hide (fun W (h : Below wr.heap.size wr W) => rlook_any 3 0 (.slice a' es.length c') es p W ((unhide hO').next h).seq (by omega))
      have hTl : (tellE 3 ns es).length ≤ es.length := List.length_filter_le _ _
      have CT := hide (fun W u (h : Below wr.heap.size wr W) (h2 : SeqV W u ns) => ctell_any 3 0 (.slice a es.length c) u es ns W ((unhide hO).next h).seq hsh (by omega) h2 hnl)
      have CRT := hide (fun W (h : Below wr.heap.size wr W) => rtell_any 3 0 (.slice a' es.length c') (.slice na ns.length nc) es ns W ((unhide hO').next h).seq (by omega) (unhide HVN W (nnext (unhide hX).old h)) hnl)
      have CS1 := hide (fun W (h : Below wr.heap.size wr W) => rsameC_any 3 0 (.slice a es.length c) (.slice a' es.length c') es W ((unhide hO).next h).seq ((unhide hO').next h).seq (by omega))
      have CS2 := hide (fun W u u' (h : SeqV W u (tellE 3 ns es)) (h' : SeqV W u' (tellE 3 ns es)) => rsameC_any 3 0 u u' (tellE 3 ns es) W h h' (by omega))
      obtain ⟨T, hT⟩ : ∃ D, tellE 3 ns es = D := ⟨_, rfl⟩
      rw [hT] at CT CRT CS2
      obtain ⟨ew, hew⟩ : ∃ e, entE (lookE es p) = e := ⟨_, rfl⟩
      obtain ⟨bw, hbw⟩ : ∃ b, (lookE es p).isSome = b := ⟨_, rfl⟩
      rw [hew, hbw] at CL CRL
      unfold clV at CC CL CRL CT CRT CS1 CS2
      unfold enV at CL CRL
      clear hew hbw hT has hsh hTl
      have g0 := (unhide hX).a.c0
      have g1 := (unhide hX).a.c1
      have g2 := (unhide hX).a.c2
      go_wp2_with fail
      refine (unhide CC _ (Below.refl _ _)).mono ?_
      rintro e w1 ⟨v1, rfl, ho1, hb1⟩
      obtain ⟨a1, c1, rfl, _⟩ := ho1.slice
      have HB1 := hide hb1
      have HO1 := hide ho1.seq
      clear ho1 hb1 g0 g1 g2
      go_wp2_with fail
      refine (unhide CL _ _ (unhide HO1)).mono ?_
      rintro e w2 ⟨rfl, hb2⟩
      have hal2 := allocB w2 (.cells #[.string ⟨ew.p.toArray⟩, .string ⟨ew.d.toArray⟩, .bool ew.t] 36)
      have HB2 := hide (nnext (nnext (unhide HB1) hb2) hal2)
      have HW2 := hide (one_newC w2 ew)
      clear hb2 hal2 HB1 HO1
      have X2 := (unhide hX).next (unhide HB2)
      have g0 := X2.b.c0
      have g1 := X2.b.c1
      have g2 := X2.b.c2
      clear X2
      go_upto_region 7 with fail
      generalize w2.heap.size = q10 at *
      generalize w2.alloc (.cells #[.string ⟨ew.p.toArray⟩, .string ⟨ew.d.toArray⟩, .bool ew.t] 36) = W2 at *
      go_wp2_with fail
      refine (unhide CRL _ (unhide HB2)).mono ?_
      rintro e w3 ⟨rfl, hb3⟩
      have hal3 := allocB w3 (.cells #[.string ⟨ew.p.toArray⟩, .string ⟨ew.d.toArray⟩, .bool ew.t] 36)
      have HB3 := hide (nnext (nnext (unhide HB2) hb3) hal3)
      have HW3 := hide (((unhide HW2).nextz hb3).nextz hal3)
      have HV3 := hide (one_newC w3 ew)
      clear hb3 hal3 HB2 HW2 g0 g1 g2
      go_upto_region 8 with fail
      generalize w3.heap.size = q12 at *
      generalize w3.alloc (.cells #[.string ⟨ew.p.toArray⟩, .string ⟨ew.d.toArray⟩, .bool ew.t] 36) = W3 at *
      have HKS : Hid (∀ w', Below W3.heap.size W3 w' → w'.cell? ⟨w.heap.size, 0, none⟩ = some (.int .i64 3) ∧ w'.cell? ⟨w.heap.size, 1, none⟩ = some (.int .i64 0) ∧ w'.cell? ⟨w.heap.size, 2, none⟩ = some (.slice a es.length c) ∧ w'.cell? ⟨w.heap.size + 1, 0, none⟩ = some (.int .i64 3) ∧ w'.cell? ⟨w.heap.size + 1, 1, none⟩ = some (.int .i64 0) ∧ w'.cell? ⟨w.heap.size + 1, 2, none⟩ = some (.slice a' es.length c') ∧ w'.cell? ⟨q10, 0, none⟩ = some (.string ⟨ew.p.toArray⟩) ∧ w'.cell? ⟨q10, 1, none⟩ = some (.string ⟨ew.d.toArray⟩) ∧ w'.cell? ⟨q10, 2, none⟩ = some (.bool ew.t) ∧ w'.cell? ⟨q12, 0, none⟩ = some (.string ⟨ew.p.toArray⟩) ∧ w'.cell? ⟨q12, 1, none⟩ = some (.string ⟨ew.d.toArray⟩) ∧ w'.cell? ⟨q12, 2, none⟩ = some (.bool ew.t)) := hide fun w' hW => by
        have X := (unhide hX).next (nnext (unhide HB3) hW)
        have Y := (unhide HW3).nextz hW
        have Z := (unhide HV3).nextz hW
        exact ⟨X.a.c0, X.a.c1, X.a.c2, X.b.c0, X.b.c1, X.b.c2, Y.e0, Y.e1, Y.e2, Z.e0, Z.e1, Z.e2⟩
      have KB : Hid (∀ W, Below W3.heap.size W3 W → Below wr.heap.size wr W) := hide fun W h => nnext (unhide HB3) h
      have KN : Hid (∀ W, Below W3.heap.size W3 W → SeqV W (.slice na ns.length nc) ns) := hide fun W hW => unhide HVN W (nnext (unhide hX).old (nnext (unhide HB3) hW))
      obtain ⟨x0, x1, x2, x3, x4, x5, x6, x7, x8, x9, x10, x11⟩ := unhide HKS W3 (Below.refl _ _)
      go_region_held3 (fun w' => w'.cell? ⟨w.heap.size, 0, none⟩ = some (.int .i64 3) ∧ w'.cell? ⟨w.heap.size, 1, none⟩ = some (.int .i64 0) ∧ w'.cell? ⟨w.heap.size, 2, none⟩ = some (.slice a es.length c) ∧ w'.cell? ⟨w.heap.size + 1, 0, none⟩ = some (.int .i64 3) ∧ w'.cell? ⟨w.heap.size + 1, 1, none⟩ = some (.int .i64 0) ∧ w'.cell? ⟨w.heap.size + 1, 2, none⟩ = some (.slice a' es.length c') ∧ w'.cell? ⟨q10, 0, none⟩ = some (.string ⟨ew.p.toArray⟩) ∧ w'.cell? ⟨q10, 1, none⟩ = some (.string ⟨ew.d.toArray⟩) ∧ w'.cell? ⟨q10, 2, none⟩ = some (.bool ew.t) ∧ w'.cell? ⟨q12, 0, none⟩ = some (.string ⟨ew.p.toArray⟩) ∧ w'.cell? ⟨q12, 1, none⟩ = some (.string ⟨ew.d.toArray⟩) ∧ w'.cell? ⟨q12, 2, none⟩ = some (.bool ew.t)) (first | with_reducible exact unhide HKS _ (by first | with_reducible exact Below.refl _ _ | with_reducible exact (Below.refl _ _).drew | with_reducible exact unhide eB | with_reducible exact unhide s2B | with_reducible exact unhide tB | with_reducible exact unhide rB | with_reducible exact unhide aB | with_reducible exact unhide s1B)) (first
        | (go_at_call 13; with_reducible refine (unhide CS1 _ (unhide KB _ (by first | with_reducible exact Below.refl _ _ | with_reducible exact (Below.refl _ _).drew | with_reducible exact unhide eB | with_reducible exact unhide s2B | with_reducible exact unhide tB | with_reducible exact unhide rB | with_reducible exact unhide aB | with_reducible exact unhide s1B))).mono ?_; rintro e s1 ⟨rfl, hb⟩; have s1B : Hid (Below W3.heap.size W3 s1) := hide (nnext (by first | with_reducible exact Below.refl _ _ | with_reducible exact (Below.refl _ _).drew | with_reducible exact unhide eB | with_reducible exact unhide s2B | with_reducible exact unhide tB | with_reducible exact unhide rB | with_reducible exact unhide aB | with_reducible exact unhide s1B) hb); clear hb)
        | (go_at_call 13; with_reducible refine (unhide CS2 _ _ _ (unhide tO) (unhide rO)).mono ?_; rintro e s2 ⟨rfl, hb⟩; have s2B : Hid (Below W3.heap.size W3 s2) := hide (nnext (by first | with_reducible exact Below.refl _ _ | with_reducible exact (Below.refl _ _).drew | with_reducible exact unhide eB | with_reducible exact unhide s2B | with_reducible exact unhide tB | with_reducible exact unhide rB | with_reducible exact unhide aB | with_reducible exact unhide s1B) hb); clear hb)
        | (refine step_copyN (by kernel_rfl) _ _ (by rfl) (by rfl) (.slice na ns.length nc) (by rfl) ns (unhide KN _ (by first | with_reducible exact Below.refl _ _ | with_reducible exact (Below.refl _ _).drew | with_reducible exact unhide eB | with_reducible exact unhide s2B | with_reducible exact unhide tB | with_reducible exact unhide rB | with_reducible exact unhide aB | with_reducible exact unhide s1B)) hnl ?_; intro xa xc aw0 ho0 hb0; have aB : Hid (Below W3.heap.size W3 aw0) := hide (nnext (by first | with_reducible exact Below.refl _ _ | with_reducible exact (Below.refl _ _).drew | with_reducible exact unhide eB | with_reducible exact unhide s2B | with_reducible exact unhide tB | with_reducible exact unhide rB | with_reducible exact unhide aB | with_reducible exact unhide s1B) hb0); have aO := hide ho0.seq; (try (have rO := hide ((unhide rO).next hb0))); clear ho0 hb0)
        | (go_at_call 19; refine (unhide CT _ _ (unhide KB _ (by first | with_reducible exact Below.refl _ _ | with_reducible exact (Below.refl _ _).drew | with_reducible exact unhide eB | with_reducible exact unhide s2B | with_reducible exact unhide tB | with_reducible exact unhide rB | with_reducible exact unhide aB | with_reducible exact unhide s1B)) (unhide aO)).mono ?_; rintro e tw ⟨v5, rfl, ho5, hb5⟩; obtain ⟨ta, tc, rfl, _⟩ := ho5.slice; have tB : Hid (Below W3.heap.size W3 tw) := hide (nnext (by first | with_reducible exact Below.refl _ _ | with_reducible exact (Below.refl _ _).drew | with_reducible exact unhide eB | with_reducible exact unhide s2B | with_reducible exact unhide tB | with_reducible exact unhide rB | with_reducible exact unhide aB | with_reducible exact unhide s1B) hb5); have tO := hide ho5.seq; (try (have rO := hide ((unhide rO).next hb5))); clear ho5 hb5)
        | (go_at_call 20; refine (unhide CRT _ (unhide KB _ (by first | with_reducible exact Below.refl _ _ | with_reducible exact (Below.refl _ _).drew | with_reducible exact unhide eB | with_reducible exact unhide s2B | with_reducible exact unhide tB | with_reducible exact unhide rB | with_reducible exact unhide aB | with_reducible exact unhide s1B))).mono ?_; rintro e uw ⟨v6, rfl, ho6, hb6⟩; obtain ⟨ra, rc, rfl, _⟩ := ho6.slice; have rB : Hid (Below W3.heap.size W3 uw) := hide (nnext (by first | with_reducible exact Below.refl _ _ | with_reducible exact (Below.refl _ _).drew | with_reducible exact unhide eB | with_reducible exact unhide s2B | with_reducible exact unhide tB | with_reducible exact unhide rB | with_reducible exact unhide aB | with_reducible exact unhide s1B) hb6); have rO := hide ho6.seq; (try (have tO := hide ((unhide tO).next hb6))); (try (have aO := hide ((unhide aO).next hb6))); clear ho6 hb6)
        | (go_at_call 14; refine (cends_any _).mono ?_; rintro e ew9 ⟨rfl, hb9⟩; have eB : Hid (Below W3.heap.size W3 ew9) := hide (nnext (by first | with_reducible exact Below.refl _ _ | with_reducible exact (Below.refl _ _).drew | with_reducible exact unhide eB | with_reducible exact unhide s2B | with_reducible exact unhide tB | with_reducible exact unhide rB | with_reducible exact unhide aB | with_reducible exact unhide s1B) hb9); clear hb9))
      all_goals go_wp2_with fail
      all_goals go_ret
      all_goals exact ⟨rfl, nnext (unhide hX).old (nnext (unhide HB3) (unhide eB))⟩
    · have hki : ¬ (k : Int) < (l.length : Int) := by omega
      have hsh := short_cache (short_take (unhide HS) k)
      have has := cache_asc (l.take k)
      have hal : (cacheE (l.take k)).length ≤ 60 := unhide HP k hk6
      obtain ⟨es, hes⟩ : ∃ es, cacheE (l.take k) = es := ⟨_, rfl⟩
      rw [hes] at hn hO hO' hsh has hal
      have hnn := unhide hn
      subst hnn
      clear hes hn
      have CC := hide (fun W (h : Below wr.heap.size wr W) => rcopyC_any 3 0 (.slice a es.length c) es W ((unhide hO).next h).seq (by omega))
      have CL := hide (fun W u (h : SeqV W u es) => clook_any 3 0 u es p W h hsh (by omega) has)
      have CRL := hide (fun W (h : Below wr.heap.size wr W) => rlook_any 3 0 (.slice a' es.length c') es p W ((unhide hO').next h).seq (by omega))
      have hTl : (tellE 3 ns es).length ≤ es.length := List.length_filter_le _ _
      have CT := hide (fun W u (h : Below wr.heap.size wr W) (h2 : SeqV W u ns) => ctell_any 3 0 (.slice a es.length c) u es ns W ((unhide hO).next h).seq hsh (by omega) h2 hnl)
      have CRT := hide (fun W (h : Below wr.heap.size wr W) => rtell_any 3 0 (.slice a' es.length c') (.slice na ns.length nc) es ns W ((unhide hO').next h).seq (by omega) (unhide HVN W (nnext (unhide hX).old h)) hnl)
      have CS1 := hide (fun W (h : Below wr.heap.size wr W) => rsameC_any 3 0 (.slice a es.length c) (.slice a' es.length c') es W ((unhide hO).next h).seq ((unhide hO').next h).seq (by omega))
      have CS2 := hide (fun W u u' (h : SeqV W u (tellE 3 ns es)) (h' : SeqV W u' (tellE 3 ns es)) => rsameC_any 3 0 u u' (tellE 3 ns es) W h h' (by omega))
      obtain ⟨T, hT⟩ : ∃ D, tellE 3 ns es = D := ⟨_, rfl⟩
      rw [hT] at CT CRT CS2
      obtain ⟨ew, hew⟩ : ∃ e, entE (lookE es p) = e := ⟨_, rfl⟩
      obtain ⟨bw, hbw⟩ : ∃ b, (lookE es p).isSome = b := ⟨_, rfl⟩
      rw [hew, hbw] at CL CRL
      unfold clV at CC CL CRL CT CRT CS1 CS2
      unfold enV at CL CRL
      clear hew hbw hT has hsh hTl
      have g0 := (unhide hX).a.c0
      have g1 := (unhide hX).a.c1
      have g2 := (unhide hX).a.c2
      go_wp2_with fail
      refine (unhide CC _ (Below.refl _ _)).mono ?_
      rintro e w1 ⟨v1, rfl, ho1, hb1⟩
      obtain ⟨a1, c1, rfl, _⟩ := ho1.slice
      have HB1 := hide hb1
      have HO1 := hide ho1.seq
      clear ho1 hb1 g0 g1 g2
      go_wp2_with fail
      refine (unhide CL _ _ (unhide HO1)).mono ?_
      rintro e w2 ⟨rfl, hb2⟩
      have hal2 := allocB w2 (.cells #[.string ⟨ew.p.toArray⟩, .string ⟨ew.d.toArray⟩, .bool ew.t] 36)
      have HB2 := hide (nnext (nnext (unhide HB1) hb2) hal2)
      have HW2 := hide (one_newC w2 ew)
      clear hb2 hal2 HB1 HO1
      have X2 := (unhide hX).next (unhide HB2)
      have g0 := X2.b.c0
      have g1 := X2.b.c1
      have g2 := X2.b.c2
      clear X2
      go_upto_region 7 with fail
      generalize w2.heap.size = q10 at *
      generalize w2.alloc (.cells #[.string ⟨ew.p.toArray⟩, .string ⟨ew.d.toArray⟩, .bool ew.t] 36) = W2 at *
      go_wp2_with fail
      refine (unhide CRL _ (unhide HB2)).mono ?_
      rintro e w3 ⟨rfl, hb3⟩
      have hal3 := allocB w3 (.cells #[.string ⟨ew.p.toArray⟩, .string ⟨ew.d.toArray⟩, .bool ew.t] 36)
      have HB3 := hide (nnext (nnext (unhide HB2) hb3) hal3)
      have HW3 := hide (((unhide HW2).nextz hb3).nextz hal3)
      have HV3 := hide (one_newC w3 ew)
      clear hb3 hal3 HB2 HW2 g0 g1 g2
      go_upto_region 8 with fail
      generalize w3.heap.size = q12 at *
      generalize w3.alloc (.cells #[.string ⟨ew.p.toArray⟩, .string ⟨ew.d.toArray⟩, .bool ew.t] 36) = W3 at *
      have HKS : Hid (∀ w', Below W3.heap.size W3 w' → w'.cell? ⟨w.heap.size, 0, none⟩ = some (.int .i64 3) ∧ w'.cell? ⟨w.heap.size, 1, none⟩ = some (.int .i64 0) ∧ w'.cell? ⟨w.heap.size, 2, none⟩ = some (.slice a es.length c) ∧ w'.cell? ⟨w.heap.size + 1, 0, none⟩ = some (.int .i64 3) ∧ w'.cell? ⟨w.heap.size + 1, 1, none⟩ = some (.int .i64 0) ∧ w'.cell? ⟨w.heap.size + 1, 2, none⟩ = some (.slice a' es.length c') ∧ w'.cell? ⟨q10, 0, none⟩ = some (.string ⟨ew.p.toArray⟩) ∧ w'.cell? ⟨q10, 1, none⟩ = some (.string ⟨ew.d.toArray⟩) ∧ w'.cell? ⟨q10, 2, none⟩ = some (.bool ew.t) ∧ w'.cell? ⟨q12, 0, none⟩ = some (.string ⟨ew.p.toArray⟩) ∧ w'.cell? ⟨q12, 1, none⟩ = some (.string ⟨ew.d.toArray⟩) ∧ w'.cell? ⟨q12, 2, none⟩ = some (.bool ew.t)) := hide fun w' hW => by
        have X := (unhide hX).next (nnext (unhide HB3) hW)
        have Y := (unhide HW3).nextz hW
        have Z := (unhide HV3).nextz hW
        exact ⟨X.a.c0, X.a.c1, X.a.c2, X.b.c0, X.b.c1, X.b.c2, Y.e0, Y.e1, Y.e2, Z.e0, Z.e1, Z.e2⟩
      have KB : Hid (∀ W, Below W3.heap.size W3 W → Below wr.heap.size wr W) := hide fun W h => nnext (unhide HB3) h
      have KN : Hid (∀ W, Below W3.heap.size W3 W → SeqV W (.slice na ns.length nc) ns) := hide fun W hW => unhide HVN W (nnext (unhide hX).old (nnext (unhide HB3) hW))
      obtain ⟨x0, x1, x2, x3, x4, x5, x6, x7, x8, x9, x10, x11⟩ := unhide HKS W3 (Below.refl _ _)
      go_region_held3 (fun w' => w'.cell? ⟨w.heap.size, 0, none⟩ = some (.int .i64 3) ∧ w'.cell? ⟨w.heap.size, 1, none⟩ = some (.int .i64 0) ∧ w'.cell? ⟨w.heap.size, 2, none⟩ = some (.slice a es.length c) ∧ w'.cell? ⟨w.heap.size + 1, 0, none⟩ = some (.int .i64 3) ∧ w'.cell? ⟨w.heap.size + 1, 1, none⟩ = some (.int .i64 0) ∧ w'.cell? ⟨w.heap.size + 1, 2, none⟩ = some (.slice a' es.length c') ∧ w'.cell? ⟨q10, 0, none⟩ = some (.string ⟨ew.p.toArray⟩) ∧ w'.cell? ⟨q10, 1, none⟩ = some (.string ⟨ew.d.toArray⟩) ∧ w'.cell? ⟨q10, 2, none⟩ = some (.bool ew.t) ∧ w'.cell? ⟨q12, 0, none⟩ = some (.string ⟨ew.p.toArray⟩) ∧ w'.cell? ⟨q12, 1, none⟩ = some (.string ⟨ew.d.toArray⟩) ∧ w'.cell? ⟨q12, 2, none⟩ = some (.bool ew.t)) (first | with_reducible exact unhide HKS _ (by first | with_reducible exact Below.refl _ _ | with_reducible exact (Below.refl _ _).drew | with_reducible exact unhide eB | with_reducible exact unhide s2B | with_reducible exact unhide tB | with_reducible exact unhide rB | with_reducible exact unhide aB | with_reducible exact unhide s1B)) (first
        | (go_at_call 13; with_reducible refine (unhide CS1 _ (unhide KB _ (by first | with_reducible exact Below.refl _ _ | with_reducible exact (Below.refl _ _).drew | with_reducible exact unhide eB | with_reducible exact unhide s2B | with_reducible exact unhide tB | with_reducible exact unhide rB | with_reducible exact unhide aB | with_reducible exact unhide s1B))).mono ?_; rintro e s1 ⟨rfl, hb⟩; have s1B : Hid (Below W3.heap.size W3 s1) := hide (nnext (by first | with_reducible exact Below.refl _ _ | with_reducible exact (Below.refl _ _).drew | with_reducible exact unhide eB | with_reducible exact unhide s2B | with_reducible exact unhide tB | with_reducible exact unhide rB | with_reducible exact unhide aB | with_reducible exact unhide s1B) hb); clear hb)
        | (go_at_call 13; with_reducible refine (unhide CS2 _ _ _ (unhide tO) (unhide rO)).mono ?_; rintro e s2 ⟨rfl, hb⟩; have s2B : Hid (Below W3.heap.size W3 s2) := hide (nnext (by first | with_reducible exact Below.refl _ _ | with_reducible exact (Below.refl _ _).drew | with_reducible exact unhide eB | with_reducible exact unhide s2B | with_reducible exact unhide tB | with_reducible exact unhide rB | with_reducible exact unhide aB | with_reducible exact unhide s1B) hb); clear hb)
        | (refine step_copyN (by kernel_rfl) _ _ (by rfl) (by rfl) (.slice na ns.length nc) (by rfl) ns (unhide KN _ (by first | with_reducible exact Below.refl _ _ | with_reducible exact (Below.refl _ _).drew | with_reducible exact unhide eB | with_reducible exact unhide s2B | with_reducible exact unhide tB | with_reducible exact unhide rB | with_reducible exact unhide aB | with_reducible exact unhide s1B)) hnl ?_; intro xa xc aw0 ho0 hb0; have aB : Hid (Below W3.heap.size W3 aw0) := hide (nnext (by first | with_reducible exact Below.refl _ _ | with_reducible exact (Below.refl _ _).drew | with_reducible exact unhide eB | with_reducible exact unhide s2B | with_reducible exact unhide tB | with_reducible exact unhide rB | with_reducible exact unhide aB | with_reducible exact unhide s1B) hb0); have aO := hide ho0.seq; (try (have rO := hide ((unhide rO).next hb0))); clear ho0 hb0)
        | (go_at_call 19; refine (unhide CT _ _ (unhide KB _ (by first | with_reducible exact Below.refl _ _ | with_reducible exact (Below.refl _ _).drew | with_reducible exact unhide eB | with_reducible exact unhide s2B | with_reducible exact unhide tB | with_reducible exact unhide rB | with_reducible exact unhide aB | with_reducible exact unhide s1B)) (unhide aO)).mono ?_; rintro e tw ⟨v5, rfl, ho5, hb5⟩; obtain ⟨ta, tc, rfl, _⟩ := ho5.slice; have tB : Hid (Below W3.heap.size W3 tw) := hide (nnext (by first | with_reducible exact Below.refl _ _ | with_reducible exact (Below.refl _ _).drew | with_reducible exact unhide eB | with_reducible exact unhide s2B | with_reducible exact unhide tB | with_reducible exact unhide rB | with_reducible exact unhide aB | with_reducible exact unhide s1B) hb5); have tO := hide ho5.seq; (try (have rO := hide ((unhide rO).next hb5))); clear ho5 hb5)
        | (go_at_call 20; refine (unhide CRT _ (unhide KB _ (by first | with_reducible exact Below.refl _ _ | with_reducible exact (Below.refl _ _).drew | with_reducible exact unhide eB | with_reducible exact unhide s2B | with_reducible exact unhide tB | with_reducible exact unhide rB | with_reducible exact unhide aB | with_reducible exact unhide s1B))).mono ?_; rintro e uw ⟨v6, rfl, ho6, hb6⟩; obtain ⟨ra, rc, rfl, _⟩ := ho6.slice; have rB : Hid (Below W3.heap.size W3 uw) := hide (nnext (by first | with_reducible exact Below.refl _ _ | with_reducible exact (Below.refl _ _).drew | with_reducible exact unhide eB | with_reducible exact unhide s2B | with_reducible exact unhide tB | with_reducible exact unhide rB | with_reducible exact unhide aB | with_reducible exact unhide s1B) hb6); have rO := hide ho6.seq; (try (have tO := hide ((unhide tO).next hb6))); (try (have aO := hide ((unhide aO).next hb6))); clear ho6 hb6)
        | (go_at_call 14; refine (cends_any _).mono ?_; rintro e ew9 ⟨rfl, hb9⟩; have eB : Hid (Below W3.heap.size W3 ew9) := hide (nnext (by first | with_reducible exact Below.refl _ _ | with_reducible exact (Below.refl _ _).drew | with_reducible exact unhide eB | with_reducible exact unhide s2B | with_reducible exact unhide tB | with_reducible exact unhide rB | with_reducible exact unhide aB | with_reducible exact unhide s1B) hb9); clear hb9))
      all_goals go_wp2_with fail
      all_goals go_ret
      all_goals exact ⟨rfl, nnext (unhide hX).old (nnext (unhide HB3) (unhide eB))⟩
end Go.Proofs.Ytdefdbejaabpdaa

namespace Go.Proofs.Ytdefdbejaabpdaa
open Go.ChangeShapes Go.WideShapes Go.ChangeAt Go.RowKit Go.ChangeMaps

theorem zlaidOut : laidOutB Try.prog = true := by kernel_rfl
theorem zlist_of (s : ByteArray) : ∃ l : List UInt8, s = ⟨l.toArray⟩ := ⟨s.data.toList, rfl⟩
section
variable {H : Type} {enc : TypeId × Value → H} {W : World} {base : Nat} {spare : Nat → Bool} {held : Bool}
theorem zweightsAll_mem {e : TypeId} : ∀ (l : List (DataW H)) (d : DataW H) (x : Nat), d ∈ l → x ∈ DataW.weights Try.prog e d → x ∈ DataW.weightsAll Try.prog e l
  | d' :: r, d, x, h, hx => by
    rw [DataW.weightsAll]
    rcases List.mem_cons.1 h with rfl | h
    · exact List.mem_append.2 (.inl hx)
    · exact List.mem_append.2 (.inr (zweightsAll_mem r d x h hx))
set_option maxRecDepth 10000 in
/-- a slice of elements that are laid in a row, and what is known of each -/
theorem open_seqP {α : Type} [Lay α] (al : α) {T E : TypeId} (hU : Try.prog.underlying T = some (.slice E)) (hk : Try.prog.cellsOf E = Lay.k α) (hk0 : 0 < Lay.k α) {bytes : Nat} (hby : Try.prog.bytesOf E = bytes) (P : α → Prop) (Q : Nat → α → Prop)
    (ho : ∀ {n : Nat} {cs : List Value} {x : DataW H × List MemPlace}, cs.length = Lay.k α → DataW.trod enc Try.prog W base spare held n E cs = some x → ∃ f : α, cs = Lay.cs f ∧ P f ∧ ∀ M, (∀ y ∈ DataW.weights Try.prog E x.1, y ≤ M) → Q M f)
    {fuel : Nat} {v : Value} {y : DataW H × List MemPlace} (h : DataW.trod enc Try.prog W base spare held fuel T [v] = some y) :
    ∃ xs : List α, SeqV W v xs ∧ (∀ x ∈ xs, P x) ∧ ∀ M, (∀ x ∈ DataW.weights Try.prog T y.1, x ≤ M) → xs.length * bytes ≤ M ∧ ∀ x ∈ xs, Q M x := by
  rcases Go.Deep.open_slice hU h with ⟨h1, hx⟩ | ⟨a, len, cap, m, k, D, Pl, h1, hb, hl, hm, hmm, hx, hel⟩
  · simp only [List.cons.injEq, and_true] at h1
    rw [h1]
    exact ⟨[], SeqV.nil W, by simp, fun M _ => ⟨by simp, by simp⟩⟩
  · simp only [List.cons.injEq, and_true] at h1
    rw [h1]
    subst hx
    have hlm : len ≤ m := by rw [hmm]; split <;> omega
    have each : ∀ i, i < len → ∃ f : α, (∀ c, c < Lay.k α → W.cell? (a.add (i * Lay.k α + c)) = (Lay.cs f)[c]?) ∧ P f ∧ ∀ M, (∀ y ∈ DataW.weights Try.prog E (D i), y ≤ M) → Q M f := by
      intro i hi
      obtain ⟨cs', g1, g2⟩ := hel i (by omega)
      rw [hk] at g1
      obtain ⟨_, hlen, hcell⟩ := World.cells?_some g1
      obtain ⟨f, rfl, hp, hq⟩ := ho hlen g2
      refine ⟨f, fun c hc => ?_, hp, hq⟩
      have := hcell c hc
      rwa [Go.Deep.add_add] at this
    have : Inhabited α := ⟨al⟩
    obtain ⟨F, hF⟩ := Go.Deep.choose_lt each
    refine ⟨(List.range len).map F, ?_, ?_, ?_⟩
    · by_cases h0 : len = 0
      · subst h0
        exact .inl ⟨some a, cap, rfl, rfl, hm⟩
      · have c0 := (hF 0 (by omega)).1 0 hk0
        obtain ⟨y, hy⟩ : ∃ y, (Lay.cs (F 0))[0]? = some y := ⟨_, List.getElem?_eq_getElem (by rw [Lay.len]; exact hk0)⟩
        rw [hy] at c0
        obtain ⟨b, off, sp⟩ := a
        have hsp : sp = none := by
          cases sp with
          | none => rfl
          | some s => simp [World.cell?, Addr.add] at c0; split at c0 <;> simp at c0
        subst hsp
        have hblt : b < W.heap.size := World.block_lt_of_cell? W _ (show W.cell? ((⟨b, off, none⟩ : Addr).add (0 * Lay.k α + 0)) = some _ from c0) |> fun h => by simpa [Addr.add] using h
        refine .inr ⟨b, off, cap, by simp, by simpa using hl, hm, hblt, by simp; omega, fun j u hj => ?_⟩
        have hjl : j < len * Lay.k α := by
          have := (List.getElem?_eq_some_iff.1 hj).1
          rw [cellsL_length, List.length_map, List.length_range] at this
          exact this
        have hi : j / Lay.k α < len := Nat.div_lt_of_lt_mul (by rw [Nat.mul_comm]; exact hjl)
        have hm' : j % Lay.k α < Lay.k α := Nat.mod_lt _ hk0
        have hdm : j / Lay.k α * Lay.k α + j % Lay.k α = j := by rw [Nat.mul_comm]; exact Nat.div_add_mod j _
        have hg := cellsL_get ((List.range len).map F) (j / Lay.k α) (F (j / Lay.k α)) (by rw [List.getElem?_map, List.getElem?_range hi]; rfl) (j % Lay.k α) hm'
        rw [hdm, hj] at hg
        have := (hF (j / Lay.k α) hi).1 (j % Lay.k α) hm'
        rw [hdm, Addr.add_lit, ← hg] at this
        exact this
    · intro x hx
      obtain ⟨i, hi, rfl⟩ := List.mem_map.1 hx
      exact (hF i (by simpa using hi)).2.1
    · intro M hM
      have hw' : DataW.weights Try.prog T (.slice ((List.range len).map D) ((List.range (m - len)).map fun j => D (len + j)) : DataW H) =
          (len + (m - len)) * bytes :: (DataW.weightsAll Try.prog E ((List.range len).map D) ++ DataW.weightsAll Try.prog E ((List.range (m - len)).map fun j => D (len + j))) := by
        simp [DataW.weights, hU, hby]
      rw [hw'] at hM
      refine ⟨?_, fun f hf => ?_⟩
      · have := hM _ (List.mem_cons_self ..)
        simp only [List.length_map, List.length_range]
        exact Nat.le_trans (Nat.mul_le_mul_right _ (by omega)) this
      · obtain ⟨i, hi, rfl⟩ := List.mem_map.1 hf
        have hi' : i < len := by simpa using hi
        exact (hF i hi').2.2 M fun x hx => hM x (List.mem_cons_of_mem _ (List.mem_append.2 (.inl (zweightsAll_mem _ (D i) x (List.mem_map.2 ⟨i, hi, rfl⟩) hx))))
theorem zsized {ts : List TypeId} {ds : List (DataW H)} (h : (DataW.weightsEach Try.prog ts ds).all (· ≤ reachBytes) = true) {j : Nat} {T : TypeId} {d : DataW H} (ht : ts[j]? = some T) (hd : ds[j]? = some d) : ∀ x ∈ DataW.weights Try.prog T d, x ≤ 140737488351232 := by
  intro x hx
  have e : reachBytes = 140737488351232 := by decide
  have h1 := List.all_eq_true.1 h _ (DataW.weights_mem_each ht hd x hx)
  rw [e] at h1
  simpa using h1
end
end Go.Proofs.Ytdefdbejaabpdaa

namespace Go.Proofs.Ytdefdbejaabpdaa
open Go.ChangeShapes Go.WideShapes Go.ChangeAt Go.RowKit Go.ChangeMaps

theorem ccellsStr : Try.prog.cellsOf 9 = 1 := by kernel_rfl
theorem ccellsInt : Try.prog.cellsOf 3 = 1 := by kernel_rfl
theorem ccellsBool : Try.prog.cellsOf 4 = 1 := by kernel_rfl
theorem ccellsEn : Try.prog.cellsOf 36 = 3 := by kernel_rfl
theorem ccellsEv : Try.prog.cellsOf 46 = 2 := by kernel_rfl
theorem ccellsNt : Try.prog.cellsOf 48 = 3 := by kernel_rfl
theorem cbytesEn : Try.prog.bytesOf 36 = 40 := by kernel_rfl
theorem cbytesNt : Try.prog.bytesOf 48 = 32 := by kernel_rfl
section
variable {H : Type} {enc : TypeId × Value → H} {W : World} {base : Nat} {spare : Nat → Bool} {held : Bool}
set_option maxRecDepth 10000 in
theorem copen_en {n : Nat} {cs : List Value} {x : DataW H × List MemPlace} (hl : cs.length = 3) (h : DataW.trod enc Try.prog W base spare held n 36 cs = some x) :
    ∃ f : En, cs = encells f ∧ True ∧ ∀ M, (∀ y ∈ DataW.weights Try.prog 36 x.1, y ≤ M) → f.p.length ≤ M ∧ f.d.length ≤ M := by
  match cs, hl with
  | [c0, c1, c2], _ =>
    obtain ⟨xs, k, _, hx, _, hlen, hfs⟩ := DataW.trod_struct Try.underlying36 h
    match xs, hlen with
    | [y0, y1, y2], _ =>
      obtain ⟨s0, e0, rfl, _⟩ := DataW.trod_string Try.underlying9 (show DataW.trod enc Try.prog W base spare held k 9 [c0] = some y0 by simpa [ccellsStr] using hfs 0 _ rfl)
      obtain ⟨s1, e1, rfl, _⟩ := DataW.trod_string Try.underlying9 (show DataW.trod enc Try.prog W base spare held k 9 [c1] = some y1 by simpa [ccellsStr] using hfs 1 _ rfl)
      obtain ⟨b, e2, rfl⟩ := DataW.trod_bool Try.underlying4 (show DataW.trod enc Try.prog W base spare held k 4 [c2] = some y2 by simpa [ccellsStr, ccellsBool] using hfs 2 _ rfl)
      simp only [List.cons.injEq, and_true] at e0 e1 e2
      subst e0 e1 e2
      obtain ⟨l0, rfl⟩ := zlist_of s0
      obtain ⟨l1, rfl⟩ := zlist_of s1
      subst hx
      refine ⟨⟨l0, l1, b⟩, rfl, trivial, fun M hM => ?_⟩
      simp only [DataW.weights, Try.underlying36, List.map_cons, List.map_nil, DataW.weightsEach] at hM
      simpa using hM
theorem copen_es {fuel : Nat} {v : Value} {y : DataW H × List MemPlace} (h : DataW.trod enc Try.prog W base spare held fuel 22 [v] = some y) :
    ∃ es : List En, SeqV W v es ∧ ∀ M, (∀ x ∈ DataW.weights Try.prog 22 y.1, x ≤ M) → es.length * 40 ≤ M ∧ ∀ x ∈ es, x.p.length ≤ M ∧ x.d.length ≤ M := by
  obtain ⟨es, h1, _, h3⟩ := open_seqP noneE Try.underlying22 ccellsEn (by decide) cbytesEn (fun _ => True) (fun M x => x.p.length ≤ M ∧ x.d.length ≤ M) copen_en h
  exact ⟨es, h1, h3⟩
theorem open_entries {r : Reach} {b0 : Nat} {v : Value} {d : DataW H} {p : List MemPlace} (hv : Value.okWide Try.prog W r b0 22 v) (h : DataW.Trod enc Try.prog W base spare held 22 v d p) :
    ∃ es : List En, SeqV W v es ∧ ∀ M, (∀ x ∈ DataW.weights Try.prog 22 d, x ≤ M) → es.length * 40 ≤ M ∧ ∀ x ∈ es, x.p.length ≤ M ∧ x.d.length ≤ M := by
  obtain ⟨fuel, hf⟩ := h
  obtain ⟨sa, sl, sc, rfl⟩ := okWide_slice Try.underlying22 hv
  exact copen_es (y := (d, p)) (show DataW.trod enc Try.prog W base spare held fuel 22 [.slice sa sl sc] = some (d, p) by simpa [Value.cells] using hf)
set_option maxRecDepth 10000 in
theorem copen_nt {n : Nat} {cs : List Value} {x : DataW H × List MemPlace} (hl : cs.length = 3) (h : DataW.trod enc Try.prog W base spare held n 48 cs = some x) :
    ∃ f : Nt, cs = ntcells f ∧ True ∧ ∀ M, (∀ y ∈ DataW.weights Try.prog 48 x.1, y ≤ M) → True := by
  match cs, hl with
  | [c0, c1, c2], _ =>
    obtain ⟨xs, k, _, hx, _, hlen, hfs⟩ := DataW.trod_struct Try.underlying48 h
    match xs, hlen with
    | [y0, y1], _ =>
      obtain ⟨s, e0, rfl, _⟩ := DataW.trod_int Try.underlying3 (show DataW.trod enc Try.prog W base spare held k 3 [c0] = some y0 by simpa [ccellsInt] using hfs 0 _ rfl)
      have he : DataW.trod enc Try.prog W base spare held k 46 [c1, c2] = some y1 := by simpa [ccellsInt, ccellsEv] using hfs 1 _ rfl
      obtain ⟨xs2, k2, _, _, _, hlen2, hfs2⟩ := DataW.trod_struct Try.underlying46 he
      match xs2, hlen2 with
      | [u0, u1], _ =>
        obtain ⟨kd, e1, rfl, _⟩ := DataW.trod_int Try.underlying3 (show DataW.trod enc Try.prog W base spare held k2 3 [c1] = some u0 by simpa [ccellsInt] using hfs2 0 _ rfl)
        obtain ⟨pp, e2, rfl, _⟩ := DataW.trod_string Try.underlying9 (show DataW.trod enc Try.prog W base spare held k2 9 [c2] = some u1 by simpa [ccellsInt, ccellsStr] using hfs2 1 _ rfl)
        simp only [List.cons.injEq, and_true] at e0 e1 e2
        subst e0 e1 e2
        obtain ⟨l2, rfl⟩ := zlist_of pp
        exact ⟨⟨s, kd, l2⟩, rfl, trivial, fun _ _ => trivial⟩
theorem open_notes {r : Reach} {b0 : Nat} {v : Value} {d : DataW H} {p : List MemPlace} (hv : Value.okWide Try.prog W r b0 33 v) (h : DataW.Trod enc Try.prog W base spare held 33 v d p) :
    ∃ ns : List Nt, SeqV W v ns ∧ ∀ M, (∀ x ∈ DataW.weights Try.prog 33 d, x ≤ M) → ns.length * 32 ≤ M := by
  obtain ⟨fuel, hf⟩ := h
  obtain ⟨sa, sl, sc, rfl⟩ := okWide_slice Try.underlying33 hv
  obtain ⟨ns, h1, _, h3⟩ := open_seqP (⟨0, 0, []⟩ : Nt) Try.underlying33 ccellsNt (by decide) cbytesNt (fun _ => True) (fun _ _ => True) copen_nt (y := (d, p)) (show DataW.trod enc Try.prog W base spare held fuel 33 [.slice sa sl sc] = some (d, p) by simpa [Value.cells] using hf)
  exact ⟨ns, h1, fun M hM => (h3 M hM).1⟩
end
end Go.Proofs.Ytdefdbejaabpdaa
