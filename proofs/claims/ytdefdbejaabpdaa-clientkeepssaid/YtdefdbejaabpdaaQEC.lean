/-
  What client.Keep answers: the walk.
  What client.Look, client.New and client.See answer: the walks.
  What aviaryref's CopyClient, SameClient (of alike ones), NewClient and See answer, and ends, starts: the walks.
  The law ClientKept: the walk.
-/
import Derived.Test.YtdefdbejaabpdaaQEB
import Derived.Deep.RegionHeld3
import Derived.Deep.CutRange
namespace Go.Proofs.Ytdefdbejaabpdaa
open Go.RowKit

/-- the end of Keep: the entry is stored in its place -/
structure KeepAt (w W : World) (k q g cap : Nat) (s z : Int) (x : En) (A : List En) (y : En) (B : List En) : Prop where
  hk : w.heap.size = k
  old : Below w.heap.size w W
  res : CBox W (k + 2) 0 0 (.slice none 0 0)
  one : OneR W (k + 1) x
  box : CBox W q s z (.slice (some ⟨g, 0, none⟩) (A ++ y :: B).length cap)
  hq : k + 3 ≤ q
  hg : k + 3 ≤ g
  own : OwnR W g cap (A ++ y :: B)
  ne : g ≠ q
theorem KeepAt.next {w W V : World} {k q g cap : Nat} {s z : Int} {x y : En} {A B : List En} (h : KeepAt w W k q g cap s z x A y B) (hb : Below W.heap.size W V) : KeepAt w V k q g cap s z x A y B :=
  ⟨h.hk, nnext h.old hb, h.res.next hb, h.one.keptz hb h.one.ltz, h.box.next hb, h.hq, h.hg, h.own.next hb, h.ne⟩
theorem KeepAt.fin {w W : World} {k q g cap : Nat} {s z : Int} {x y : En} {A B : List En} (h : KeepAt w W k q g cap s z x A y B) :
    CBox (((W.setCell ⟨g, A.length * 3, none⟩ (.string ⟨x.p.toArray⟩)).setCell ⟨g, A.length * 3 + 1, none⟩ (.string ⟨x.d.toArray⟩)).setCell ⟨g, A.length * 3 + 2, none⟩ (.bool x.t)) q s z (.slice (some ⟨g, 0, none⟩) (A ++ y :: B).length cap) ∧
    CBox (((W.setCell ⟨g, A.length * 3, none⟩ (.string ⟨x.p.toArray⟩)).setCell ⟨g, A.length * 3 + 1, none⟩ (.string ⟨x.d.toArray⟩)).setCell ⟨g, A.length * 3 + 2, none⟩ (.bool x.t)) (k + 2) 0 0 (.slice none 0 0) ∧
    OwnR (((W.setCell ⟨g, A.length * 3, none⟩ (.string ⟨x.p.toArray⟩)).setCell ⟨g, A.length * 3 + 1, none⟩ (.string ⟨x.d.toArray⟩)).setCell ⟨g, A.length * 3 + 2, none⟩ (.bool x.t)) g cap (A ++ x :: B) ∧
    Below w.heap.size w (((W.setCell ⟨g, A.length * 3, none⟩ (.string ⟨x.p.toArray⟩)).setCell ⟨g, A.length * 3 + 1, none⟩ (.string ⟨x.d.toArray⟩)).setCell ⟨g, A.length * 3 + 2, none⟩ (.bool x.t)) := by
  have h1 := h.ne
  have h2 := h.hg
  have h3 := h.hk
  refine ⟨((h.box.other (by simp only; omega) _).other (by simp only; omega) _).other (by simp only; omega) _, ((h.res.other (by simp only; omega) _).other (by simp only; omega) _).other (by simp only; omega) _, h.own.swap1 x, ?_⟩
  exact ((h.old.setCell (by simp only; omega) _).setCell (by simp only; omega) _).setCell (by simp only; omega) _
theorem keep_new (w : World) (s z : Int) (v : Value) (x : En) : ∃ W, W = ((w.alloc (.cells #[.int .i64 s, .int .i64 z, v] 24)).alloc (.cells #[.string ⟨x.p.toArray⟩, .string ⟨x.d.toArray⟩, .bool x.t] 36)).alloc (.cells #[.int .i64 0, .int .i64 0, .slice none 0 0] 24) ∧
    Below w.heap.size w W ∧ CBox W w.heap.size s z v ∧ OneR W (w.heap.size + 1) x ∧ CBox W (w.heap.size + 2) 0 0 (.slice none 0 0) ∧ W.heap.size = w.heap.size + 3 := by
  refine ⟨_, rfl, nnext (nnext (allocB _ _) (allocB _ _)) (allocB _ _), ((CBox.new w s z v).next (allocB _ _)).next (allocB _ _), ?_, ?_, by simp⟩
  · have := (one_newC (w.alloc (.cells #[.int .i64 s, .int .i64 z, v] 24)) x).keptz (allocB _ (.cells #[.int .i64 0, .int .i64 0, .slice none 0 0] 24)) (by simp)
    simpa using this
  · have := CBox.new ((w.alloc (Obj.cells #[.int .i64 s, .int .i64 z, v] 24)).alloc (Obj.cells #[Value.string (ByteArray.mk x.p.toArray), .string (ByteArray.mk x.d.toArray), .bool x.t] 36)) 0 0 (.slice none 0 0)
    simpa using this
set_option maxRecDepth 10000 in
set_option maxHeartbeats 4000000 in
theorem ckeep_any (s z : Int) (v : Value) (es : List En) (x : En) (w : World) (hv : SeqV w v es) (hs : ShortC es) (hl : es.length ≤ 100) (ha : EAsc es) (hx : x.p.length ≤ 140737488355328 ∧ x.d.length ≤ 140737488355328) :
    Calls Try.prog 15 #[clV s z v, enV x] w fun e w' => ∃ v', e = .returned (clV s z v') ∧ OwnS w' w.heap.size v' (keepE es x) ∧ Below w.heap.size w w' := by
  have CC := fun W (hW : Below w.heap.size w W) => ccopied_any s z v es W (hv.next hW) hs (by omega)
  have CO := fun W => ownC_any (normE x) W (short_norm hx).1 (short_norm hx).2
  have HW := hide (ewhere x.p es ha)
  obtain ⟨a, c, rfl⟩ := seq_slice hv
  unfold clV at CC ⊢
  unfold enV
  clear hv hs ha hx
  obtain ⟨k, hk⟩ : ∃ k, k = w.heap.size := ⟨_, rfl⟩
  go_enter Try.func15, Try.ntmps15
  cases ht : x.t with
  | true =>
    obtain ⟨W, hW, B0, K0, K1, K2, hz⟩ := keep_new w s z (.slice a es.length c) x
    have K1 : OneR W (w.heap.size + 1) (normE x) := by rw [normE_yes ht]; exact K1
    rw [ht] at hW
    have q0 := K1.e2
    go_wp2_with fail
    rw [← hW]
    refine (CC _ B0).mono ?_
    rintro e w1 ⟨v1, rfl, ho1, hb1⟩
    have B1 := nnext B0 hb1
    have K1' := (K1.keptz hb1 K1.ltz).keptz (allocB w1 (.cells #[.int .i64 s, .int .i64 z, v1] 24)) (Nat.lt_of_lt_of_le K1.ltz hb1.size)
    have K2' := (K2.next hb1).next (allocB w1 (.cells #[.int .i64 s, .int .i64 z, v1] 24))
    have ho2 := ho1.next (allocB w1 (.cells #[.int .i64 s, .int .i64 z, v1] 24))
    have K3 := CBox.new w1 s z v1
    have B2 := nnext B1 (allocB w1 (.cells #[.int .i64 s, .int .i64 z, v1] 24))
    have hz1 := hb1.size
    have hlow := ho1.low
    have HNP := hide (normE_p x)
    have hq0 := K3.c2
    have hq1 := K1'.e0
    rw [unhide HNP] at hq1
    obtain ⟨q, hq⟩ : ∃ q, q = w1.heap.size := ⟨_, rfl⟩
    have hzq : (w1.alloc (.cells #[.int .i64 s, .int .i64 z, v1] 24)).heap.size = w1.heap.size + 1 := by simp
    have hab := ho1.above
    obtain ⟨a1, c1, rfl, _⟩ := ho1.slice
    have HC := hide K3
    have HK1 := hide K1'
    have HK2 := hide K2'
    have HB2 := hide B2
    have HO := hide ho2
    clear K1 K2 K1' K2' K3 ho1 ho2 hb1 B1 B2 B0 CC K0
    rcases unhide HW with ⟨A, f, B, T⟩ | ⟨A, B, G⟩
    · have CF := efind_there (.slice a1 es.length c1) es A B f x.p _ (unhide HO).seq (by omega) T
      go_wp2_with fail
      generalize w1.alloc (.cells #[.int .i64 s, .int .i64 z, .slice a1 es.length c1] 24) = W1 at *
      refine CF.mono ?_
      rintro e w2 ⟨rfl, hb2⟩
      have O3 := (unhide HO).next hb2
      rw [T.eq] at O3
      rcases O3 with ⟨_, h0⟩ | ⟨g, cap, hga, hgB, O3⟩
      · simp at h0
      have HT : Hid (keepE es x = A ++ normE x :: B) := hide T.keep
      have ST : KeepAt w w2 k q g cap s z (normE x) A f B := ⟨hk.symm, nnext (unhide HB2) hb2, by have := (unhide HK2).next hb2; rw [hk]; exact this, by rw [hk]; exact (unhide HK1).keptz hb2 (unhide HK1).ltz,
        by have := (unhide HC).next hb2; rw [← hga, hq, ← T.eq]; exact this, by omega, by omega, O3, fun e => by have := hlow g (by rw [← T.eq] at hga; rw [hga]; rfl); omega⟩
      clear CF O3 hgB hb2
      have hAl : A.length < es.length := by rw [T.eq]; simp
      have hAi : (A.length : Int) < (es.length : Int) := by omega
      rw [← T.eq] at hga
      have HEl := hide (congrArg List.length T.eq)
      clear T hq0 hq1
      simp only [Value.slice.injEq] at hga
      obtain ⟨rfl, _, rfl⟩ := hga
      have HS := hide ST
      have HX := hide hz
      have HY := hide hk
      clear hz hk
      have p0 := ST.box.c2
      rw [← unhide HEl] at p0
      have p1 := ST.one.e0
      have p2 := ST.one.e1
      have p3 := ST.one.e2
      rw [unhide HY] at p1 p2 p3
      rw [hq] at p0
      have KB : ∀ W2, Below w2.heap.size w2 W2 → W2.cell? ⟨w1.heap.size, 2, none⟩ = some (.slice (some ⟨g, 0, none⟩) es.length c1) ∧ (∃ u, W2.cell? ⟨g, A.length * 3, none⟩ = some u) ∧ (∃ u, W2.cell? ⟨g, A.length * 3 + 1, none⟩ = some u) ∧ (∃ u, W2.cell? ⟨g, A.length * 3 + 2, none⟩ = some u) ∧ (∀ j, W2.frozen? ⟨g, j, none⟩ = false) ∧
          W2.cell? ⟨w.heap.size + 1, 0, none⟩ = some (.string ⟨(normE x).p.toArray⟩) ∧ W2.cell? ⟨w.heap.size + 1, 1, none⟩ = some (.string ⟨(normE x).d.toArray⟩) ∧ W2.cell? ⟨w.heap.size + 1, 2, none⟩ = some (.bool (normE x).t) := fun W2 hb => by
        have S2 := (unhide HS).next hb
        have b0 := S2.box.c2
        rw [← unhide HEl, hq] at b0
        have r := S2.own.row
        have b1 := S2.one.e0
        have b2 := S2.one.e1
        have b3 := S2.one.e2
        rw [unhide HY] at b1 b2 b3
        have r0 : W2.cell? ⟨g, A.length * 3, none⟩ = some (.string ⟨f.p.toArray⟩) := by have := r.en0 (i := A.length) (x := f) (by simp); simpa using this
        have r1 : W2.cell? ⟨g, A.length * 3 + 1, none⟩ = some (.string ⟨f.d.toArray⟩) := by have := r.en1 (i := A.length) (x := f) (by simp); simpa using this
        have r2 : W2.cell? ⟨g, A.length * 3 + 2, none⟩ = some (.bool f.t) := by have := r.en2 (i := A.length) (x := f) (by simp); simpa using this
        exact ⟨b0, ⟨_, r0⟩, ⟨_, r1⟩, ⟨_, r2⟩, S2.own.frozen, b1, b2, b3⟩
      have HKB := hide KB
      clear ST KB
      go_wp2_with fail
      have KS : ∀ W2, Below w2.heap.size w2 W2 → W2.cell? ⟨w1.heap.size, 2, none⟩ = some (.slice (some ⟨g, 0, none⟩) es.length c1) ∧ W2.cell? ⟨w.heap.size + 1, 0, none⟩ = some (.string ⟨(normE x).p.toArray⟩) ∧ W2.cell? ⟨w.heap.size + 1, 1, none⟩ = some (.string ⟨(normE x).d.toArray⟩) ∧ W2.cell? ⟨w.heap.size + 1, 2, none⟩ = some (.bool (normE x).t) := fun W2 hb => by
        obtain ⟨b0, _, _, _, _, b4, b5, b6⟩ := unhide HKB W2 hb
        exact ⟨b0, b4, b5, b6⟩
      have HKS := hide KS
      have HKT : Hid (∀ W2, Below w2.heap.size w2 W2 → (((W2.setCell ⟨g, A.length * 3, none⟩ (.string ⟨(normE x).p.toArray⟩)).setCell ⟨g, A.length * 3 + 1, none⟩ (.string ⟨(normE x).d.toArray⟩)).setCell ⟨g, A.length * 3 + 2, none⟩ (.bool (normE x).t)).cell? ⟨w1.heap.size, 2, none⟩ = some (.slice (some ⟨g, 0, none⟩) es.length c1) ∧ (((W2.setCell ⟨g, A.length * 3, none⟩ (.string ⟨(normE x).p.toArray⟩)).setCell ⟨g, A.length * 3 + 1, none⟩ (.string ⟨(normE x).d.toArray⟩)).setCell ⟨g, A.length * 3 + 2, none⟩ (.bool (normE x).t)).cell? ⟨w.heap.size + 1, 0, none⟩ = some (.string ⟨(normE x).p.toArray⟩) ∧ (((W2.setCell ⟨g, A.length * 3, none⟩ (.string ⟨(normE x).p.toArray⟩)).setCell ⟨g, A.length * 3 + 1, none⟩ (.string ⟨(normE x).d.toArray⟩)).setCell ⟨g, A.length * 3 + 2, none⟩ (.bool (normE x).t)).cell? ⟨w.heap.size + 1, 1, none⟩ = some (.string ⟨(normE x).d.toArray⟩) ∧ (((W2.setCell ⟨g, A.length * 3, none⟩ (.string ⟨(normE x).p.toArray⟩)).setCell ⟨g, A.length * 3 + 1, none⟩ (.string ⟨(normE x).d.toArray⟩)).setCell ⟨g, A.length * 3 + 2, none⟩ (.bool (normE x).t)).cell? ⟨w.heap.size + 1, 2, none⟩ = some (.bool (normE x).t)) := hide fun W2 hb => by
        have S2 := (unhide HS).next hb
        have hne := S2.ne
        have hgk := S2.hg
        have b0 := ((S2.box.other (a := ⟨g, A.length * 3, none⟩) (by simp only; omega) (.string ⟨(normE x).p.toArray⟩)).other (a := ⟨g, A.length * 3 + 1, none⟩) (by simp only; omega) (.string ⟨(normE x).d.toArray⟩)).other (a := ⟨g, A.length * 3 + 2, none⟩) (by simp only; omega) (.bool (normE x).t) |>.c2
        have o1 := ((S2.one.otherz (a := ⟨g, A.length * 3, none⟩) (by simp only; omega) (.string ⟨(normE x).p.toArray⟩)).otherz (a := ⟨g, A.length * 3 + 1, none⟩) (by simp only; omega) (.string ⟨(normE x).d.toArray⟩)).otherz (a := ⟨g, A.length * 3 + 2, none⟩) (by simp only; omega) (.bool (normE x).t)
        have b1 := o1.e0
        have b2 := o1.e1
        have b3 := o1.e2
        rw [← unhide HEl, hq] at b0
        rw [unhide HY] at b1 b2 b3
        exact ⟨b0, b1, b2, b3⟩
      clear KS
      go_region_held3 (fun w' => w'.cell? ⟨w1.heap.size, 2, none⟩ = some (.slice (some ⟨g, 0, none⟩) es.length c1) ∧ w'.cell? ⟨w.heap.size + 1, 0, none⟩ = some (.string ⟨(normE x).p.toArray⟩) ∧ w'.cell? ⟨w.heap.size + 1, 1, none⟩ = some (.string ⟨(normE x).d.toArray⟩) ∧ w'.cell? ⟨w.heap.size + 1, 2, none⟩ = some (.bool (normE x).t)) (first | with_reducible exact unhide HKS _ (Below.refl _ _) | with_reducible exact unhide HKS _ (Below.refl _ _).drew | with_reducible exact unhide HKS _ (unhide HB5) | with_reducible exact unhide HKT _ (unhide HB5)) (first
        | (go_at_call 26; with_reducible refine (CO _).mono ?_; rintro e w4 ⟨rfl, hb4⟩; have HB5 : Hid (Below w2.heap.size w2 w4) := hide (nbelow_drew hb4); obtain ⟨b0, ⟨u1, b1⟩, ⟨u2, b2⟩, ⟨u3, b3⟩, bf, b4, b5, b6⟩ := unhide HKB w4 (unhide HB5); have bf0 := bf (A.length * 3); have bf1 := bf (A.length * 3 + 1); have bf2 := bf (A.length * 3 + 2); clear bf hb4))
      all_goals
        obtain ⟨V1, V2, V3, V4⟩ := ((unhide HS).next (unhide HB5)).fin
        rw [← unhide HEl, hq] at V1
        rw [unhide HY] at V2
        have HV3 := hide V3
        have HV4 := hide V4
        have v0 := V1.c0
        have v1 := V1.c1
        have v2 := V1.c2
        have v3 := V2.c0
        have v4 := V2.c1
        have v5 := V2.c2
        have v6 := V2.fr 0
        have v7 := V2.fr 1
        have v8 := V2.fr 2
        have hgk := (unhide HS).hg
        rw [unhide HY] at hgk
        clear V1 V2 V3 V4
        generalize ((w4.setCell ⟨g, A.length * 3, none⟩ (.string ⟨(normE x).p.toArray⟩)).setCell ⟨g, A.length * 3 + 1, none⟩ (.string ⟨(normE x).d.toArray⟩)).setCell ⟨g, A.length * 3 + 2, none⟩ (.bool (normE x).t) = w5 at *
        go_wp2_with fail
        refine bodyPost_ret (v := .agg #[.int .i64 s, .int .i64 z, .slice (some ⟨g, 0, none⟩) es.length c1]) (by simp [results, Try.results15, go_sem, v3, v4, v5]) rfl ⟨_, rfl, .inr ⟨g, c1, ?_, by omega, ?_⟩, ?_⟩
        · rw [unhide HT, unhide HEl]; simp
        · rw [unhide HT]
          exact (((unhide HV3).other (by simp only; omega) _).other (by simp only; omega) _).other (by simp only; omega) _
        · exact (((unhide HV4).setCell (by simp only; omega) _).setCell (by simp only; omega) _).setCell (by simp only; omega) _
    · have CF := efind_gap (.slice a1 es.length c1) es A B x.p _ (unhide HO).seq (by omega) G
      go_wp2_with fail
      generalize w1.alloc (.cells #[.int .i64 s, .int .i64 z, .slice a1 es.length c1] 24) = W1 at *
      refine CF.mono ?_
      rintro e w2 ⟨rfl, hb2⟩
      have O3 := (unhide HO).next hb2
      rw [G.eq] at O3
      have C3 := (unhide HC).next hb2
      have c3 := C3.c2
      have f3 := C3.fr 2
      have HT : Hid (keepE es x = A ++ normE x :: B) := hide G.keep
      have HE2 := hide (congrArg List.length G.eq)
      have N3 := one_newC w2 noneE
      have O4 := O3.next (allocB w2 (.cells #[.string ⟨(noneE.p).toArray⟩, .string ⟨(noneE.d).toArray⟩, .bool noneE.t] 36))
      have CI := cinsert_any _ A B noneE w2.heap.size _ (O4.lower (Nat.zero_le _)) (by rw [← unhide HE2]; omega) N3 (fun e => by have := O3.low _ e; omega)
      rw [← unhide HE2] at CI
      have HS0 := hide ((unhide HK2).next hb2)
      have HS1 := hide ((unhide HK1).keptz hb2 (unhide HK1).ltz)
      have HS2 := hide (nnext (unhide HB2) hb2)
      have hz2 := hb2.size
      clear CF O3 O4 hb2 hq0 hq1 G
      have HC3 := hide C3
      clear C3
      simp only [noneE] at CI
      go_wp2_with fail
      refine CI.mono ?_
      rintro e w3 ⟨v3, rfl, ho3, hg3, hl3⟩
      have hg4 : w2.grownBy w3 (Value.slice a1 es.length c1).ownBlock := ⟨hg3.os, hg3.tape, hg3.output, Nat.le_trans (by simp) hg3.size, fun j hj hne => (hg3.block j (by simp; omega) hne).trans (Below.block (allocB w2 _) j hj)⟩
      have hne : ∀ j, j < k + 3 → some j ≠ (Value.slice a1 es.length c1).ownBlock := fun j hj e => by have := hab j e.symm; omega
      have hnq : some q ≠ (Value.slice a1 es.length c1).ownBlock := fun e => by have := hlow q e.symm; omega
      have C4 := (unhide HC3).grown hg4 (by rw [← hq]; exact hnq)
      have c4 := C4.c2
      have f4 := C4.fr 2
      have R4 := (unhide HS0).grown hg4 (hne _ (by omega))
      have E4 : OneR w3 (w.heap.size + 1) (normE x) := (hg4.block _ (unhide HS1).ltz (hne _ (by omega))).trans (unhide HS1)
      have B4 := (unhide HS2).grown hg4 (unhide HS2).size (fun j e => by have := hab j e; omega)
      have hgp : ∀ j, v3.ownBlock = some j → k + 3 ≤ j ∧ j ≠ q := fun j e => by
        rcases hl3 with h | ⟨i, hi, h⟩
        · rw [e] at h
          exact ⟨by have := hab j h.symm; omega, fun e2 => hnq (by rw [← e2]; exact h)⟩
        · rw [e] at h
          cases h
          simp at hi
          exact ⟨by omega, by omega⟩
      rcases ho3 with ⟨_, h0⟩ | ⟨g, cap, rfl, _, O4⟩
      · simp at h0
      obtain ⟨hg5, hg6⟩ := hgp g rfl
      have ST : KeepAt w (w3.setCell ⟨w1.heap.size, 2, none⟩ (.slice (some ⟨g, 0, none⟩) (A ++ (⟨[], [], false⟩ : En) :: B).length cap)) k q g cap s z (normE x) A ⟨[], [], false⟩ B :=
        ⟨hk.symm, B4.setCell (by simp only; omega) _, by rw [hk]; exact R4.other (by simp only; omega) _, by rw [hk]; exact E4.otherz (by simp only; omega) _, by rw [hq]; exact C4.set2, by omega, by omega, O4.other (by simp only; omega) _, by omega⟩
      clear CI C4 R4 E4 B4 O4 hgp hl3 hg3 hg4 hne hnq N3 c3 f3
      obtain ⟨n, hn⟩ : ∃ n, (A ++ (⟨[], [], false⟩ : En) :: B).length = n := ⟨_, rfl⟩
      have hAl : A.length < n := by rw [← hn]; simp
      have hAi : (A.length : Int) < (n : Int) := by omega
      have hn2 : n ≤ 200 := by have := unhide HE2; rw [List.length_append] at this; rw [← hn, List.length_append, List.length_cons]; omega
      have HEl := hide hn.symm
      rw [hn] at ST ⊢
      clear hn
      go_upto_region 7 with fail
      generalize w3.setCell ⟨w1.heap.size, 2, none⟩ (.slice (some ⟨g, 0, none⟩) n cap) = w2 at *
      have HS := hide ST
      have HX := hide hz
      have HY := hide hk
      clear hz hk
      have p0 := ST.box.c2
      rw [← unhide HEl] at p0
      have p1 := ST.one.e0
      have p2 := ST.one.e1
      have p3 := ST.one.e2
      rw [unhide HY] at p1 p2 p3
      rw [hq] at p0
      have KB : ∀ W2, Below w2.heap.size w2 W2 → W2.cell? ⟨w1.heap.size, 2, none⟩ = some (.slice (some ⟨g, 0, none⟩) n cap) ∧ (∃ u, W2.cell? ⟨g, A.length * 3, none⟩ = some u) ∧ (∃ u, W2.cell? ⟨g, A.length * 3 + 1, none⟩ = some u) ∧ (∃ u, W2.cell? ⟨g, A.length * 3 + 2, none⟩ = some u) ∧ (∀ j, W2.frozen? ⟨g, j, none⟩ = false) ∧
          W2.cell? ⟨w.heap.size + 1, 0, none⟩ = some (.string ⟨(normE x).p.toArray⟩) ∧ W2.cell? ⟨w.heap.size + 1, 1, none⟩ = some (.string ⟨(normE x).d.toArray⟩) ∧ W2.cell? ⟨w.heap.size + 1, 2, none⟩ = some (.bool (normE x).t) := fun W2 hb => by
        have S2 := (unhide HS).next hb
        have b0 := S2.box.c2
        rw [← unhide HEl, hq] at b0
        have r := S2.own.row
        have b1 := S2.one.e0
        have b2 := S2.one.e1
        have b3 := S2.one.e2
        rw [unhide HY] at b1 b2 b3
        have r0 : W2.cell? ⟨g, A.length * 3, none⟩ = some (.string ⟨(⟨[], [], false⟩ : En).p.toArray⟩) := by have := r.en0 (i := A.length) (x := (⟨[], [], false⟩ : En)) (by simp); simpa using this
        have r1 : W2.cell? ⟨g, A.length * 3 + 1, none⟩ = some (.string ⟨(⟨[], [], false⟩ : En).d.toArray⟩) := by have := r.en1 (i := A.length) (x := (⟨[], [], false⟩ : En)) (by simp); simpa using this
        have r2 : W2.cell? ⟨g, A.length * 3 + 2, none⟩ = some (.bool (⟨[], [], false⟩ : En).t) := by have := r.en2 (i := A.length) (x := (⟨[], [], false⟩ : En)) (by simp); simpa using this
        exact ⟨b0, ⟨_, r0⟩, ⟨_, r1⟩, ⟨_, r2⟩, S2.own.frozen, b1, b2, b3⟩
      have HKB := hide KB
      clear ST KB
      go_wp2_with fail
      have KS : ∀ W2, Below w2.heap.size w2 W2 → W2.cell? ⟨w1.heap.size, 2, none⟩ = some (.slice (some ⟨g, 0, none⟩) n cap) ∧ W2.cell? ⟨w.heap.size + 1, 0, none⟩ = some (.string ⟨(normE x).p.toArray⟩) ∧ W2.cell? ⟨w.heap.size + 1, 1, none⟩ = some (.string ⟨(normE x).d.toArray⟩) ∧ W2.cell? ⟨w.heap.size + 1, 2, none⟩ = some (.bool (normE x).t) := fun W2 hb => by
        obtain ⟨b0, _, _, _, _, b4, b5, b6⟩ := unhide HKB W2 hb
        exact ⟨b0, b4, b5, b6⟩
      have HKS := hide KS
      have HKT : Hid (∀ W2, Below w2.heap.size w2 W2 → (((W2.setCell ⟨g, A.length * 3, none⟩ (.string ⟨(normE x).p.toArray⟩)).setCell ⟨g, A.length * 3 + 1, none⟩ (.string ⟨(normE x).d.toArray⟩)).setCell ⟨g, A.length * 3 + 2, none⟩ (.bool (normE x).t)).cell? ⟨w1.heap.size, 2, none⟩ = some (.slice (some ⟨g, 0, none⟩) n cap) ∧ (((W2.setCell ⟨g, A.length * 3, none⟩ (.string ⟨(normE x).p.toArray⟩)).setCell ⟨g, A.length * 3 + 1, none⟩ (.string ⟨(normE x).d.toArray⟩)).setCell ⟨g, A.length * 3 + 2, none⟩ (.bool (normE x).t)).cell? ⟨w.heap.size + 1, 0, none⟩ = some (.string ⟨(normE x).p.toArray⟩) ∧ (((W2.setCell ⟨g, A.length * 3, none⟩ (.string ⟨(normE x).p.toArray⟩)).setCell ⟨g, A.length * 3 + 1, none⟩ (.string ⟨(normE x).d.toArray⟩)).setCell ⟨g, A.length * 3 + 2, none⟩ (.bool (normE x).t)).cell? ⟨w.heap.size + 1, 1, none⟩ = some (.string ⟨(normE x).d.toArray⟩) ∧ (((W2.setCell ⟨g, A.length * 3, none⟩ (.string ⟨(normE x).p.toArray⟩)).setCell ⟨g, A.length * 3 + 1, none⟩ (.string ⟨(normE x).d.toArray⟩)).setCell ⟨g, A.length * 3 + 2, none⟩ (.bool (normE x).t)).cell? ⟨w.heap.size + 1, 2, none⟩ = some (.bool (normE x).t)) := hide fun W2 hb => by
        have S2 := (unhide HS).next hb
        have hne := S2.ne
        have hgk := S2.hg
        have b0 := ((S2.box.other (a := ⟨g, A.length * 3, none⟩) (by simp only; omega) (.string ⟨(normE x).p.toArray⟩)).other (a := ⟨g, A.length * 3 + 1, none⟩) (by simp only; omega) (.string ⟨(normE x).d.toArray⟩)).other (a := ⟨g, A.length * 3 + 2, none⟩) (by simp only; omega) (.bool (normE x).t) |>.c2
        have o1 := ((S2.one.otherz (a := ⟨g, A.length * 3, none⟩) (by simp only; omega) (.string ⟨(normE x).p.toArray⟩)).otherz (a := ⟨g, A.length * 3 + 1, none⟩) (by simp only; omega) (.string ⟨(normE x).d.toArray⟩)).otherz (a := ⟨g, A.length * 3 + 2, none⟩) (by simp only; omega) (.bool (normE x).t)
        have b1 := o1.e0
        have b2 := o1.e1
        have b3 := o1.e2
        rw [← unhide HEl, hq] at b0
        rw [unhide HY] at b1 b2 b3
        exact ⟨b0, b1, b2, b3⟩
      clear KS
      go_region_held3 (fun w' => w'.cell? ⟨w1.heap.size, 2, none⟩ = some (.slice (some ⟨g, 0, none⟩) n cap) ∧ w'.cell? ⟨w.heap.size + 1, 0, none⟩ = some (.string ⟨(normE x).p.toArray⟩) ∧ w'.cell? ⟨w.heap.size + 1, 1, none⟩ = some (.string ⟨(normE x).d.toArray⟩) ∧ w'.cell? ⟨w.heap.size + 1, 2, none⟩ = some (.bool (normE x).t)) (first | with_reducible exact unhide HKS _ (Below.refl _ _) | with_reducible exact unhide HKS _ (Below.refl _ _).drew | with_reducible exact unhide HKS _ (unhide HB5) | with_reducible exact unhide HKT _ (unhide HB5)) (first
        | (go_at_call 26; with_reducible refine (CO _).mono ?_; rintro e w4 ⟨rfl, hb4⟩; have HB5 : Hid (Below w2.heap.size w2 w4) := hide (nbelow_drew hb4); obtain ⟨b0, ⟨u1, b1⟩, ⟨u2, b2⟩, ⟨u3, b3⟩, bf, b4, b5, b6⟩ := unhide HKB w4 (unhide HB5); have bf0 := bf (A.length * 3); have bf1 := bf (A.length * 3 + 1); have bf2 := bf (A.length * 3 + 2); clear bf hb4))
      all_goals
        obtain ⟨V1, V2, V3, V4⟩ := ((unhide HS).next (unhide HB5)).fin
        rw [← unhide HEl, hq] at V1
        rw [unhide HY] at V2
        have HV3 := hide V3
        have HV4 := hide V4
        have v0 := V1.c0
        have v1 := V1.c1
        have v2 := V1.c2
        have v3 := V2.c0
        have v4 := V2.c1
        have v5 := V2.c2
        have v6 := V2.fr 0
        have v7 := V2.fr 1
        have v8 := V2.fr 2
        have hgk := (unhide HS).hg
        rw [unhide HY] at hgk
        clear V1 V2 V3 V4
        generalize ((w4.setCell ⟨g, A.length * 3, none⟩ (.string ⟨(normE x).p.toArray⟩)).setCell ⟨g, A.length * 3 + 1, none⟩ (.string ⟨(normE x).d.toArray⟩)).setCell ⟨g, A.length * 3 + 2, none⟩ (.bool (normE x).t) = w5 at *
        go_wp2_with fail
        refine bodyPost_ret (v := .agg #[.int .i64 s, .int .i64 z, .slice (some ⟨g, 0, none⟩) n cap]) (by simp [results, Try.results15, go_sem, v3, v4, v5]) rfl ⟨_, rfl, .inr ⟨g, cap, ?_, by omega, ?_⟩, ?_⟩
        · rw [unhide HT, unhide HEl]; simp
        · rw [unhide HT]
          exact (((unhide HV3).other (by simp only; omega) _).other (by simp only; omega) _).other (by simp only; omega) _
        · exact (((unhide HV4).setCell (by simp only; omega) _).setCell (by simp only; omega) _).setCell (by simp only; omega) _
  | false =>
    obtain ⟨W, hW, B0, K0, K1, K2, hz⟩ := keep_new w s z (.slice a es.length c) ⟨x.p, [], false⟩
    have K1 : OneR W (w.heap.size + 1) (normE x) := by rw [normE_no ht, ht]; exact K1
    go_wp2_with fail
    rw [← hW]
    refine (CC _ B0).mono ?_
    rintro e w1 ⟨v1, rfl, ho1, hb1⟩
    have B1 := nnext B0 hb1
    have K1' := (K1.keptz hb1 K1.ltz).keptz (allocB w1 (.cells #[.int .i64 s, .int .i64 z, v1] 24)) (Nat.lt_of_lt_of_le K1.ltz hb1.size)
    have K2' := (K2.next hb1).next (allocB w1 (.cells #[.int .i64 s, .int .i64 z, v1] 24))
    have ho2 := ho1.next (allocB w1 (.cells #[.int .i64 s, .int .i64 z, v1] 24))
    have K3 := CBox.new w1 s z v1
    have B2 := nnext B1 (allocB w1 (.cells #[.int .i64 s, .int .i64 z, v1] 24))
    have hz1 := hb1.size
    have hlow := ho1.low
    have HNP := hide (normE_p x)
    have hq0 := K3.c2
    have hq1 := K1'.e0
    rw [unhide HNP] at hq1
    obtain ⟨q, hq⟩ : ∃ q, q = w1.heap.size := ⟨_, rfl⟩
    have hzq : (w1.alloc (.cells #[.int .i64 s, .int .i64 z, v1] 24)).heap.size = w1.heap.size + 1 := by simp
    have hab := ho1.above
    obtain ⟨a1, c1, rfl, _⟩ := ho1.slice
    have HC := hide K3
    have HK1 := hide K1'
    have HK2 := hide K2'
    have HB2 := hide B2
    have HO := hide ho2
    clear K1 K2 K1' K2' K3 ho1 ho2 hb1 B1 B2 B0 CC K0
    rcases unhide HW with ⟨A, f, B, T⟩ | ⟨A, B, G⟩
    · have CF := efind_there (.slice a1 es.length c1) es A B f x.p _ (unhide HO).seq (by omega) T
      go_wp2_with fail
      generalize w1.alloc (.cells #[.int .i64 s, .int .i64 z, .slice a1 es.length c1] 24) = W1 at *
      refine CF.mono ?_
      rintro e w2 ⟨rfl, hb2⟩
      have O3 := (unhide HO).next hb2
      rw [T.eq] at O3
      rcases O3 with ⟨_, h0⟩ | ⟨g, cap, hga, hgB, O3⟩
      · simp at h0
      have HT : Hid (keepE es x = A ++ normE x :: B) := hide T.keep
      have ST : KeepAt w w2 k q g cap s z (normE x) A f B := ⟨hk.symm, nnext (unhide HB2) hb2, by have := (unhide HK2).next hb2; rw [hk]; exact this, by rw [hk]; exact (unhide HK1).keptz hb2 (unhide HK1).ltz,
        by have := (unhide HC).next hb2; rw [← hga, hq, ← T.eq]; exact this, by omega, by omega, O3, fun e => by have := hlow g (by rw [← T.eq] at hga; rw [hga]; rfl); omega⟩
      clear CF O3 hgB hb2
      have hAl : A.length < es.length := by rw [T.eq]; simp
      have hAi : (A.length : Int) < (es.length : Int) := by omega
      rw [← T.eq] at hga
      have HEl := hide (congrArg List.length T.eq)
      clear T hq0 hq1
      simp only [Value.slice.injEq] at hga
      obtain ⟨rfl, _, rfl⟩ := hga
      have HS := hide ST
      have HX := hide hz
      have HY := hide hk
      clear hz hk
      have p0 := ST.box.c2
      rw [← unhide HEl] at p0
      have p1 := ST.one.e0
      have p2 := ST.one.e1
      have p3 := ST.one.e2
      rw [unhide HY] at p1 p2 p3
      rw [hq] at p0
      have KB : ∀ W2, Below w2.heap.size w2 W2 → W2.cell? ⟨w1.heap.size, 2, none⟩ = some (.slice (some ⟨g, 0, none⟩) es.length c1) ∧ (∃ u, W2.cell? ⟨g, A.length * 3, none⟩ = some u) ∧ (∃ u, W2.cell? ⟨g, A.length * 3 + 1, none⟩ = some u) ∧ (∃ u, W2.cell? ⟨g, A.length * 3 + 2, none⟩ = some u) ∧ (∀ j, W2.frozen? ⟨g, j, none⟩ = false) ∧
          W2.cell? ⟨w.heap.size + 1, 0, none⟩ = some (.string ⟨(normE x).p.toArray⟩) ∧ W2.cell? ⟨w.heap.size + 1, 1, none⟩ = some (.string ⟨(normE x).d.toArray⟩) ∧ W2.cell? ⟨w.heap.size + 1, 2, none⟩ = some (.bool (normE x).t) := fun W2 hb => by
        have S2 := (unhide HS).next hb
        have b0 := S2.box.c2
        rw [← unhide HEl, hq] at b0
        have r := S2.own.row
        have b1 := S2.one.e0
        have b2 := S2.one.e1
        have b3 := S2.one.e2
        rw [unhide HY] at b1 b2 b3
        have r0 : W2.cell? ⟨g, A.length * 3, none⟩ = some (.string ⟨f.p.toArray⟩) := by have := r.en0 (i := A.length) (x := f) (by simp); simpa using this
        have r1 : W2.cell? ⟨g, A.length * 3 + 1, none⟩ = some (.string ⟨f.d.toArray⟩) := by have := r.en1 (i := A.length) (x := f) (by simp); simpa using this
        have r2 : W2.cell? ⟨g, A.length * 3 + 2, none⟩ = some (.bool f.t) := by have := r.en2 (i := A.length) (x := f) (by simp); simpa using this
        exact ⟨b0, ⟨_, r0⟩, ⟨_, r1⟩, ⟨_, r2⟩, S2.own.frozen, b1, b2, b3⟩
      have HKB := hide KB
      clear ST KB
      go_wp2_with fail
      have KS : ∀ W2, Below w2.heap.size w2 W2 → W2.cell? ⟨w1.heap.size, 2, none⟩ = some (.slice (some ⟨g, 0, none⟩) es.length c1) ∧ W2.cell? ⟨w.heap.size + 1, 0, none⟩ = some (.string ⟨(normE x).p.toArray⟩) ∧ W2.cell? ⟨w.heap.size + 1, 1, none⟩ = some (.string ⟨(normE x).d.toArray⟩) ∧ W2.cell? ⟨w.heap.size + 1, 2, none⟩ = some (.bool (normE x).t) := fun W2 hb => by
        obtain ⟨b0, _, _, _, _, b4, b5, b6⟩ := unhide HKB W2 hb
        exact ⟨b0, b4, b5, b6⟩
      have HKS := hide KS
      have HKT : Hid (∀ W2, Below w2.heap.size w2 W2 → (((W2.setCell ⟨g, A.length * 3, none⟩ (.string ⟨(normE x).p.toArray⟩)).setCell ⟨g, A.length * 3 + 1, none⟩ (.string ⟨(normE x).d.toArray⟩)).setCell ⟨g, A.length * 3 + 2, none⟩ (.bool (normE x).t)).cell? ⟨w1.heap.size, 2, none⟩ = some (.slice (some ⟨g, 0, none⟩) es.length c1) ∧ (((W2.setCell ⟨g, A.length * 3, none⟩ (.string ⟨(normE x).p.toArray⟩)).setCell ⟨g, A.length * 3 + 1, none⟩ (.string ⟨(normE x).d.toArray⟩)).setCell ⟨g, A.length * 3 + 2, none⟩ (.bool (normE x).t)).cell? ⟨w.heap.size + 1, 0, none⟩ = some (.string ⟨(normE x).p.toArray⟩) ∧ (((W2.setCell ⟨g, A.length * 3, none⟩ (.string ⟨(normE x).p.toArray⟩)).setCell ⟨g, A.length * 3 + 1, none⟩ (.string ⟨(normE x).d.toArray⟩)).setCell ⟨g, A.length * 3 + 2, none⟩ (.bool (normE x).t)).cell? ⟨w.heap.size + 1, 1, none⟩ = some (.string ⟨(normE x).d.toArray⟩) ∧ (((W2.setCell ⟨g, A.length * 3, none⟩ (.string ⟨(normE x).p.toArray⟩)).setCell ⟨g, A.length * 3 + 1, none⟩ (.string ⟨(normE x).d.toArray⟩)).setCell ⟨g, A.length * 3 + 2, none⟩ (.bool (normE x).t)).cell? ⟨w.heap.size + 1, 2, none⟩ = some (.bool (normE x).t)) := hide fun W2 hb => by
        have S2 := (unhide HS).next hb
        have hne := S2.ne
        have hgk := S2.hg
        have b0 := ((S2.box.other (a := ⟨g, A.length * 3, none⟩) (by simp only; omega) (.string ⟨(normE x).p.toArray⟩)).other (a := ⟨g, A.length * 3 + 1, none⟩) (by simp only; omega) (.string ⟨(normE x).d.toArray⟩)).other (a := ⟨g, A.length * 3 + 2, none⟩) (by simp only; omega) (.bool (normE x).t) |>.c2
        have o1 := ((S2.one.otherz (a := ⟨g, A.length * 3, none⟩) (by simp only; omega) (.string ⟨(normE x).p.toArray⟩)).otherz (a := ⟨g, A.length * 3 + 1, none⟩) (by simp only; omega) (.string ⟨(normE x).d.toArray⟩)).otherz (a := ⟨g, A.length * 3 + 2, none⟩) (by simp only; omega) (.bool (normE x).t)
        have b1 := o1.e0
        have b2 := o1.e1
        have b3 := o1.e2
        rw [← unhide HEl, hq] at b0
        rw [unhide HY] at b1 b2 b3
        exact ⟨b0, b1, b2, b3⟩
      clear KS
      go_region_held3 (fun w' => w'.cell? ⟨w1.heap.size, 2, none⟩ = some (.slice (some ⟨g, 0, none⟩) es.length c1) ∧ w'.cell? ⟨w.heap.size + 1, 0, none⟩ = some (.string ⟨(normE x).p.toArray⟩) ∧ w'.cell? ⟨w.heap.size + 1, 1, none⟩ = some (.string ⟨(normE x).d.toArray⟩) ∧ w'.cell? ⟨w.heap.size + 1, 2, none⟩ = some (.bool (normE x).t)) (first | with_reducible exact unhide HKS _ (Below.refl _ _) | with_reducible exact unhide HKS _ (Below.refl _ _).drew | with_reducible exact unhide HKS _ (unhide HB5) | with_reducible exact unhide HKT _ (unhide HB5)) (first
        | (go_at_call 26; with_reducible refine (CO _).mono ?_; rintro e w4 ⟨rfl, hb4⟩; have HB5 : Hid (Below w2.heap.size w2 w4) := hide (nbelow_drew hb4); obtain ⟨b0, ⟨u1, b1⟩, ⟨u2, b2⟩, ⟨u3, b3⟩, bf, b4, b5, b6⟩ := unhide HKB w4 (unhide HB5); have bf0 := bf (A.length * 3); have bf1 := bf (A.length * 3 + 1); have bf2 := bf (A.length * 3 + 2); clear bf hb4))
      all_goals
        obtain ⟨V1, V2, V3, V4⟩ := ((unhide HS).next (unhide HB5)).fin
        rw [← unhide HEl, hq] at V1
        rw [unhide HY] at V2
        have HV3 := hide V3
        have HV4 := hide V4
        have v0 := V1.c0
        have v1 := V1.c1
        have v2 := V1.c2
        have v3 := V2.c0
        have v4 := V2.c1
        have v5 := V2.c2
        have v6 := V2.fr 0
        have v7 := V2.fr 1
        have v8 := V2.fr 2
        have hgk := (unhide HS).hg
        rw [unhide HY] at hgk
        clear V1 V2 V3 V4
        generalize ((w4.setCell ⟨g, A.length * 3, none⟩ (.string ⟨(normE x).p.toArray⟩)).setCell ⟨g, A.length * 3 + 1, none⟩ (.string ⟨(normE x).d.toArray⟩)).setCell ⟨g, A.length * 3 + 2, none⟩ (.bool (normE x).t) = w5 at *
        go_wp2_with fail
        refine bodyPost_ret (v := .agg #[.int .i64 s, .int .i64 z, .slice (some ⟨g, 0, none⟩) es.length c1]) (by simp [results, Try.results15, go_sem, v3, v4, v5]) rfl ⟨_, rfl, .inr ⟨g, c1, ?_, by omega, ?_⟩, ?_⟩
        · rw [unhide HT, unhide HEl]; simp
        · rw [unhide HT]
          exact (((unhide HV3).other (by simp only; omega) _).other (by simp only; omega) _).other (by simp only; omega) _
        · exact (((unhide HV4).setCell (by simp only; omega) _).setCell (by simp only; omega) _).setCell (by simp only; omega) _
    · have CF := efind_gap (.slice a1 es.length c1) es A B x.p _ (unhide HO).seq (by omega) G
      go_wp2_with fail
      generalize w1.alloc (.cells #[.int .i64 s, .int .i64 z, .slice a1 es.length c1] 24) = W1 at *
      refine CF.mono ?_
      rintro e w2 ⟨rfl, hb2⟩
      have O3 := (unhide HO).next hb2
      rw [G.eq] at O3
      have C3 := (unhide HC).next hb2
      have c3 := C3.c2
      have f3 := C3.fr 2
      have HT : Hid (keepE es x = A ++ normE x :: B) := hide G.keep
      have HE2 := hide (congrArg List.length G.eq)
      have N3 := one_newC w2 noneE
      have O4 := O3.next (allocB w2 (.cells #[.string ⟨(noneE.p).toArray⟩, .string ⟨(noneE.d).toArray⟩, .bool noneE.t] 36))
      have CI := cinsert_any _ A B noneE w2.heap.size _ (O4.lower (Nat.zero_le _)) (by rw [← unhide HE2]; omega) N3 (fun e => by have := O3.low _ e; omega)
      rw [← unhide HE2] at CI
      have HS0 := hide ((unhide HK2).next hb2)
      have HS1 := hide ((unhide HK1).keptz hb2 (unhide HK1).ltz)
      have HS2 := hide (nnext (unhide HB2) hb2)
      have hz2 := hb2.size
      clear CF O3 O4 hb2 hq0 hq1 G
      have HC3 := hide C3
      clear C3
      simp only [noneE] at CI
      go_wp2_with fail
      refine CI.mono ?_
      rintro e w3 ⟨v3, rfl, ho3, hg3, hl3⟩
      have hg4 : w2.grownBy w3 (Value.slice a1 es.length c1).ownBlock := ⟨hg3.os, hg3.tape, hg3.output, Nat.le_trans (by simp) hg3.size, fun j hj hne => (hg3.block j (by simp; omega) hne).trans (Below.block (allocB w2 _) j hj)⟩
      have hne : ∀ j, j < k + 3 → some j ≠ (Value.slice a1 es.length c1).ownBlock := fun j hj e => by have := hab j e.symm; omega
      have hnq : some q ≠ (Value.slice a1 es.length c1).ownBlock := fun e => by have := hlow q e.symm; omega
      have C4 := (unhide HC3).grown hg4 (by rw [← hq]; exact hnq)
      have c4 := C4.c2
      have f4 := C4.fr 2
      have R4 := (unhide HS0).grown hg4 (hne _ (by omega))
      have E4 : OneR w3 (w.heap.size + 1) (normE x) := (hg4.block _ (unhide HS1).ltz (hne _ (by omega))).trans (unhide HS1)
      have B4 := (unhide HS2).grown hg4 (unhide HS2).size (fun j e => by have := hab j e; omega)
      have hgp : ∀ j, v3.ownBlock = some j → k + 3 ≤ j ∧ j ≠ q := fun j e => by
        rcases hl3 with h | ⟨i, hi, h⟩
        · rw [e] at h
          exact ⟨by have := hab j h.symm; omega, fun e2 => hnq (by rw [← e2]; exact h)⟩
        · rw [e] at h
          cases h
          simp at hi
          exact ⟨by omega, by omega⟩
      rcases ho3 with ⟨_, h0⟩ | ⟨g, cap, rfl, _, O4⟩
      · simp at h0
      obtain ⟨hg5, hg6⟩ := hgp g rfl
      have ST : KeepAt w (w3.setCell ⟨w1.heap.size, 2, none⟩ (.slice (some ⟨g, 0, none⟩) (A ++ (⟨[], [], false⟩ : En) :: B).length cap)) k q g cap s z (normE x) A ⟨[], [], false⟩ B :=
        ⟨hk.symm, B4.setCell (by simp only; omega) _, by rw [hk]; exact R4.other (by simp only; omega) _, by rw [hk]; exact E4.otherz (by simp only; omega) _, by rw [hq]; exact C4.set2, by omega, by omega, O4.other (by simp only; omega) _, by omega⟩
      clear CI C4 R4 E4 B4 O4 hgp hl3 hg3 hg4 hne hnq N3 c3 f3
      obtain ⟨n, hn⟩ : ∃ n, (A ++ (⟨[], [], false⟩ : En) :: B).length = n := ⟨_, rfl⟩
      have hAl : A.length < n := by rw [← hn]; simp
      have hAi : (A.length : Int) < (n : Int) := by omega
      have hn2 : n ≤ 200 := by have := unhide HE2; rw [List.length_append] at this; rw [← hn, List.length_append, List.length_cons]; omega
      have HEl := hide hn.symm
      rw [hn] at ST ⊢
      clear hn
      go_upto_region 7 with fail
      generalize w3.setCell ⟨w1.heap.size, 2, none⟩ (.slice (some ⟨g, 0, none⟩) n cap) = w2 at *
      have HS := hide ST
      have HX := hide hz
      have HY := hide hk
      clear hz hk
      have p0 := ST.box.c2
      rw [← unhide HEl] at p0
      have p1 := ST.one.e0
      have p2 := ST.one.e1
      have p3 := ST.one.e2
      rw [unhide HY] at p1 p2 p3
      rw [hq] at p0
      have KB : ∀ W2, Below w2.heap.size w2 W2 → W2.cell? ⟨w1.heap.size, 2, none⟩ = some (.slice (some ⟨g, 0, none⟩) n cap) ∧ (∃ u, W2.cell? ⟨g, A.length * 3, none⟩ = some u) ∧ (∃ u, W2.cell? ⟨g, A.length * 3 + 1, none⟩ = some u) ∧ (∃ u, W2.cell? ⟨g, A.length * 3 + 2, none⟩ = some u) ∧ (∀ j, W2.frozen? ⟨g, j, none⟩ = false) ∧
          W2.cell? ⟨w.heap.size + 1, 0, none⟩ = some (.string ⟨(normE x).p.toArray⟩) ∧ W2.cell? ⟨w.heap.size + 1, 1, none⟩ = some (.string ⟨(normE x).d.toArray⟩) ∧ W2.cell? ⟨w.heap.size + 1, 2, none⟩ = some (.bool (normE x).t) := fun W2 hb => by
        have S2 := (unhide HS).next hb
        have b0 := S2.box.c2
        rw [← unhide HEl, hq] at b0
        have r := S2.own.row
        have b1 := S2.one.e0
        have b2 := S2.one.e1
        have b3 := S2.one.e2
        rw [unhide HY] at b1 b2 b3
        have r0 : W2.cell? ⟨g, A.length * 3, none⟩ = some (.string ⟨(⟨[], [], false⟩ : En).p.toArray⟩) := by have := r.en0 (i := A.length) (x := (⟨[], [], false⟩ : En)) (by simp); simpa using this
        have r1 : W2.cell? ⟨g, A.length * 3 + 1, none⟩ = some (.string ⟨(⟨[], [], false⟩ : En).d.toArray⟩) := by have := r.en1 (i := A.length) (x := (⟨[], [], false⟩ : En)) (by simp); simpa using this
        have r2 : W2.cell? ⟨g, A.length * 3 + 2, none⟩ = some (.bool (⟨[], [], false⟩ : En).t) := by have := r.en2 (i := A.length) (x := (⟨[], [], false⟩ : En)) (by simp); simpa using this
        exact ⟨b0, ⟨_, r0⟩, ⟨_, r1⟩, ⟨_, r2⟩, S2.own.frozen, b1, b2, b3⟩
      have HKB := hide KB
      clear ST KB
      go_wp2_with fail
      have KS : ∀ W2, Below w2.heap.size w2 W2 → W2.cell? ⟨w1.heap.size, 2, none⟩ = some (.slice (some ⟨g, 0, none⟩) n cap) ∧ W2.cell? ⟨w.heap.size + 1, 0, none⟩ = some (.string ⟨(normE x).p.toArray⟩) ∧ W2.cell? ⟨w.heap.size + 1, 1, none⟩ = some (.string ⟨(normE x).d.toArray⟩) ∧ W2.cell? ⟨w.heap.size + 1, 2, none⟩ = some (.bool (normE x).t) := fun W2 hb => by
        obtain ⟨b0, _, _, _, _, b4, b5, b6⟩ := unhide HKB W2 hb
        exact ⟨b0, b4, b5, b6⟩
      have HKS := hide KS
      have HKT : Hid (∀ W2, Below w2.heap.size w2 W2 → (((W2.setCell ⟨g, A.length * 3, none⟩ (.string ⟨(normE x).p.toArray⟩)).setCell ⟨g, A.length * 3 + 1, none⟩ (.string ⟨(normE x).d.toArray⟩)).setCell ⟨g, A.length * 3 + 2, none⟩ (.bool (normE x).t)).cell? ⟨w1.heap.size, 2, none⟩ = some (.slice (some ⟨g, 0, none⟩) n cap) ∧ (((W2.setCell ⟨g, A.length * 3, none⟩ (.string ⟨(normE x).p.toArray⟩)).setCell ⟨g, A.length * 3 + 1, none⟩ (.string ⟨(normE x).d.toArray⟩)).setCell ⟨g, A.length * 3 + 2, none⟩ (.bool (normE x).t)).cell? ⟨w.heap.size + 1, 0, none⟩ = some (.string ⟨(normE x).p.toArray⟩) ∧ (((W2.setCell ⟨g, A.length * 3, none⟩ (.string ⟨(normE x).p.toArray⟩)).setCell ⟨g, A.length * 3 + 1, none⟩ (.string ⟨(normE x).d.toArray⟩)).setCell ⟨g, A.length * 3 + 2, none⟩ (.bool (normE x).t)).cell? ⟨w.heap.size + 1, 1, none⟩ = some (.string ⟨(normE x).d.toArray⟩) ∧ (((W2.setCell ⟨g, A.length * 3, none⟩ (.string ⟨(normE x).p.toArray⟩)).setCell ⟨g, A.length * 3 + 1, none⟩ (.string ⟨(normE x).d.toArray⟩)).setCell ⟨g, A.length * 3 + 2, none⟩ (.bool (normE x).t)).cell? ⟨w.heap.size + 1, 2, none⟩ = some (.bool (normE x).t)) := hide fun W2 hb => by
        have S2 := (unhide HS).next hb
        have hne := S2.ne
        have hgk := S2.hg
        have b0 := ((S2.box.other (a := ⟨g, A.length * 3, none⟩) (by simp only; omega) (.string ⟨(normE x).p.toArray⟩)).other (a := ⟨g, A.length * 3 + 1, none⟩) (by simp only; omega) (.string ⟨(normE x).d.toArray⟩)).other (a := ⟨g, A.length * 3 + 2, none⟩) (by simp only; omega) (.bool (normE x).t) |>.c2
        have o1 := ((S2.one.otherz (a := ⟨g, A.length * 3, none⟩) (by simp only; omega) (.string ⟨(normE x).p.toArray⟩)).otherz (a := ⟨g, A.length * 3 + 1, none⟩) (by simp only; omega) (.string ⟨(normE x).d.toArray⟩)).otherz (a := ⟨g, A.length * 3 + 2, none⟩) (by simp only; omega) (.bool (normE x).t)
        have b1 := o1.e0
        have b2 := o1.e1
        have b3 := o1.e2
        rw [← unhide HEl, hq] at b0
        rw [unhide HY] at b1 b2 b3
        exact ⟨b0, b1, b2, b3⟩
      clear KS
      go_region_held3 (fun w' => w'.cell? ⟨w1.heap.size, 2, none⟩ = some (.slice (some ⟨g, 0, none⟩) n cap) ∧ w'.cell? ⟨w.heap.size + 1, 0, none⟩ = some (.string ⟨(normE x).p.toArray⟩) ∧ w'.cell? ⟨w.heap.size + 1, 1, none⟩ = some (.string ⟨(normE x).d.toArray⟩) ∧ w'.cell? ⟨w.heap.size + 1, 2, none⟩ = some (.bool (normE x).t)) (first | with_reducible exact unhide HKS _ (Below.refl _ _) | with_reducible exact unhide HKS _ (Below.refl _ _).drew | with_reducible exact unhide HKS _ (unhide HB5) | with_reducible exact unhide HKT _ (unhide HB5)) (first
        | (go_at_call 26; with_reducible refine (CO _).mono ?_; rintro e w4 ⟨rfl, hb4⟩; have HB5 : Hid (Below w2.heap.size w2 w4) := hide (nbelow_drew hb4); obtain ⟨b0, ⟨u1, b1⟩, ⟨u2, b2⟩, ⟨u3, b3⟩, bf, b4, b5, b6⟩ := unhide HKB w4 (unhide HB5); have bf0 := bf (A.length * 3); have bf1 := bf (A.length * 3 + 1); have bf2 := bf (A.length * 3 + 2); clear bf hb4))
      all_goals
        obtain ⟨V1, V2, V3, V4⟩ := ((unhide HS).next (unhide HB5)).fin
        rw [← unhide HEl, hq] at V1
        rw [unhide HY] at V2
        have HV3 := hide V3
        have HV4 := hide V4
        have v0 := V1.c0
        have v1 := V1.c1
        have v2 := V1.c2
        have v3 := V2.c0
        have v4 := V2.c1
        have v5 := V2.c2
        have v6 := V2.fr 0
        have v7 := V2.fr 1
        have v8 := V2.fr 2
        have hgk := (unhide HS).hg
        rw [unhide HY] at hgk
        clear V1 V2 V3 V4
        generalize ((w4.setCell ⟨g, A.length * 3, none⟩ (.string ⟨(normE x).p.toArray⟩)).setCell ⟨g, A.length * 3 + 1, none⟩ (.string ⟨(normE x).d.toArray⟩)).setCell ⟨g, A.length * 3 + 2, none⟩ (.bool (normE x).t) = w5 at *
        go_wp2_with fail
        refine bodyPost_ret (v := .agg #[.int .i64 s, .int .i64 z, .slice (some ⟨g, 0, none⟩) n cap]) (by simp [results, Try.results15, go_sem, v3, v4, v5]) rfl ⟨_, rfl, .inr ⟨g, cap, ?_, by omega, ?_⟩, ?_⟩
        · rw [unhide HT, unhide HEl]; simp
        · rw [unhide HT]
          exact (((unhide HV3).other (by simp only; omega) _).other (by simp only; omega) _).other (by simp only; omega) _
        · exact (((unhide HV4).setCell (by simp only; omega) _).setCell (by simp only; omega) _).setCell (by simp only; omega) _
end Go.Proofs.Ytdefdbejaabpdaa

namespace Go.Proofs.Ytdefdbejaabpdaa
open Go.RowKit

set_option maxRecDepth 10000 in
set_option maxHeartbeats 2000000 in
theorem clook_any (s z : Int) (v : Value) (es : List En) (p : List UInt8) (w : World) (hv : SeqV w v es) (hs : ShortC es) (hl : es.length ≤ 100000) (ha : EAsc es) :
    Calls Try.prog 17 #[clV s z v, .string ⟨p.toArray⟩] w fun e w' => e = .returned (.tuple #[enV (entE (lookE es p)), .bool (lookE es p).isSome]) ∧ Below w.heap.size w w' := by
  have KR := hide (crow hv)
  have HW := hide (ewhere p es ha)
  have HV := hide hv
  have HS := hide hs
  obtain ⟨a, c, rfl⟩ := seq_slice hv
  unfold clV enV
  clear hv hs ha
  rcases unhide HW with ⟨A, f, B, T⟩ | ⟨A, B, G⟩
  · rw [T.look]
    simp only [entE, Option.isSome_some]
    have hAl : A.length < es.length := by rw [T.eq]; simp
    have hAi : (A.length : Int) < (es.length : Int) := by omega
    have hf : es[A.length]? = some f := by rw [T.eq]; simp
    have CF := fun W (hW : Below w.heap.size w W) => efind_there _ es A B f p W ((unhide HV).next hW) hl T
    have CO := fun W => ownC_any f W (unhide HS f (List.mem_of_getElem? hf)).1 (unhide HS f (List.mem_of_getElem? hf)).2
    have HF := hide hf
    clear T HW hf
    go_enter Try.func17, Try.ntmps17
    go_wp2_with fail
    refine (CF _ (nnext (allocB _ _) (allocB _ _))).mono ?_
    rintro e w1 ⟨rfl, hb1⟩
    have HB1 := hide (nnext (nnext (allocB w _) (allocB _ _)) hb1)
    obtain ⟨b, off, cap, he, hb, r⟩ := unhide KR w1 (unhide HB1) A.length f (unhide HF)
    simp only [Value.slice.injEq] at he
    obtain ⟨rfl, _, rfl⟩ := he
    have d0 := r.en0 (unhide HF)
    have d1 := r.en1 (unhide HF)
    have d2 := r.en2 (unhide HF)
    have X1 := ((CBox.new w s z (.slice (some ⟨b, off, none⟩) es.length c)).next (allocB _ (.cells #[.string ⟨#[]⟩, .string ⟨#[]⟩, .bool false] 36))).next hb1
    have X2 := (one_newC (w.alloc (.cells #[.int .i64 s, .int .i64 z, .slice (some ⟨b, off, none⟩) es.length c] 24)) noneE).keptz hb1 (by simp)
    have hs1 : (w.alloc (.cells #[.int .i64 s, .int .i64 z, .slice (some ⟨b, off, none⟩) es.length c] 24)).heap.size = w.heap.size + 1 := by simp
    rw [hs1] at X2
    have c2 := X1.c2
    have hz1 := hb1.size
    have HX2 := hide X2
    clear X1 X2 CF hb1 r
    go_wp2_with fail
    refine (CO _).mono ?_
    rintro e w2 ⟨rfl, hb2⟩
    have Y2 := (unhide HX2).keptz hb2 (unhide HX2).ltz
    have r0 := Y2.e0
    have r1 := Y2.e1
    have r2 := Y2.e2
    have f0 := Y2.frz 0
    have f1 := Y2.frz 1
    have f2 := Y2.frz 2
    have HB2 := hide (nnext (unhide HB1) hb2)
    clear CO hb2 Y2
    go_wp2_with fail
    refine bodyPost_ret (v := .tuple #[.agg #[.string ⟨f.p.toArray⟩, .string ⟨f.d.toArray⟩, .bool f.t], .bool true]) (by simp [results, Try.results17, go_sem, r0, r1, r2]) rfl ⟨rfl, ?_⟩
    exact (((unhide HB2).setCell (by simp) _).setCell (by simp) _).setCell (by simp) _
  · rw [G.look]
    simp only [entE, Option.isSome_none, noneE]
    have CF := fun W (hW : Below w.heap.size w W) => efind_gap _ es A B p W ((unhide HV).next hW) hl G
    clear G HW
    go_enter Try.func17, Try.ntmps17
    go_wp2_with fail
    refine (CF _ (nnext (allocB _ _) (allocB _ _))).mono ?_
    rintro e w1 ⟨rfl, hb1⟩
    have HB1 := hide (nnext (nnext (allocB w _) (allocB _ _)) hb1)
    have X2 := (one_newC (w.alloc (.cells #[.int .i64 s, .int .i64 z, .slice a es.length c] 24)) noneE).keptz hb1 (by simp)
    have hs1 : (w.alloc (.cells #[.int .i64 s, .int .i64 z, .slice a es.length c] 24)).heap.size = w.heap.size + 1 := by simp
    rw [hs1] at X2
    have r0 := X2.e0
    have r1 := X2.e1
    have r2 := X2.e2
    have f0 := X2.frz 0
    have f1 := X2.frz 1
    have f2 := X2.frz 2
    simp only [noneE] at r0 r1 r2
    clear CF hb1 X2
    go_wp2_with fail
    refine bodyPost_ret (v := .tuple #[.agg #[.string ⟨[].toArray⟩, .string ⟨[].toArray⟩, .bool false], .bool false]) (by simp [results, Try.results17, go_sem, r0, r1, r2]) rfl ⟨rfl, ?_⟩
    exact (((unhide HB1).setCell (by simp) _).setCell (by simp) _).setCell (by simp) _

set_option maxRecDepth 10000 in
set_option maxHeartbeats 1000000 in
theorem cnew_yes (s : Int) (w : World) (h1 : 1 ≤ s) (h2 : s ≤ 2147483647) :
    Calls Try.prog 11 #[.int .i64 s] w fun e w' => e = .returned (.tuple #[clV s 0 (.slice none 0 0), .int .i64 0]) ∧ Below w.heap.size w w' := by
  unfold clV
  go_enter Try.func11, Try.ntmps11
  go_wp2_with fail
  refine bodyPost_ret (v := .tuple #[.agg #[.int .i64 s, .int .i64 0, .slice none 0 0], .int .i64 0]) (by simp [results, Try.results11, go_sem]) rfl ⟨rfl, ?_⟩
  first | exact allocB _ _ | exact (((allocB w _).setCell (by simp) _).setCell (by simp) _).setCell (by simp) _
end Go.Proofs.Ytdefdbejaabpdaa

namespace Go.Proofs.Ytdefdbejaabpdaa
open Go.RowKit

set_option maxRecDepth 10000 in
set_option maxHeartbeats 2000000 in
theorem rcopyC_some (s z : Int) (a : Addr) (cap : Nat) (xs : List En) (w : World) (hl : xs.length * 40 ≤ 140737488355328) (hc : ∀ j u, (cellsL xs)[j]? = some u → w.cell? (a.add j) = some u) :
    Calls Try.prog 9 #[clV s z (.slice (some a) xs.length cap)] w fun e w' => ∃ v', e = .returned (clV s z v') ∧ OwnS w' w.heap.size v' xs ∧ Below w.heap.size w w' := by
  have H := hide hc
  clear hc
  obtain ⟨i0, hi0, hz0, hz1, hz2⟩ := cinfo
  have hB0 : Below w.heap.size w ((w.alloc (.cells #[.int .i64 s, .int .i64 z, .slice (some a) xs.length cap] 24)).alloc (.cells #[.int .i64 0, .int .i64 0, .slice none 0 0] 24)) := nnext (allocB _ _) (allocB _ _)
  have K0 := (CBox.new w s z (.slice (some a) xs.length cap)).next (allocB _ (.cells #[.int .i64 0, .int .i64 0, .slice none 0 0] 24))
  have K1 := CBox.new (w.alloc (.cells #[.int .i64 s, .int .i64 z, .slice (some a) xs.length cap] 24)) 0 0 (.slice none 0 0)
  have hz0' : ((w.alloc (.cells #[.int .i64 s, .int .i64 z, .slice (some a) xs.length cap] 24)).alloc (.cells #[.int .i64 0, .int .i64 0, .slice none 0 0] 24)).heap.size = w.heap.size + 2 := by simp
  rw [show (w.alloc (.cells #[.int .i64 s, .int .i64 z, .slice (some a) xs.length cap] 24)).heap.size = w.heap.size + 1 by simp] at K1
  have HB0 := hide hB0
  have HK0 := hide K0
  have HK1 := hide K1
  clear hB0 K0 K1
  unfold clV
  go_enter Try.func9, Try.ntmps9
  go_wp2_with (at_builtin; refine wpList_append_own _ rfl _ _ 22 rfl (w.heap.size + 2) 36 i0 _ 3 40 Try.underlying22 hi0 hz0 hz1 hz2 rfl (by decide) _ 0 [] rfl (World.ownsRow_nil _ _ _ _) a xs.length cap (cellsL xs) rfl (cellsL_length xs) ?qc2 (cellsL_one xs) ?qc4 ?qc5 ?qc6 ?_)
  case qc2 =>
    intro j u hj
    exact Lib.cell?_alloc_some _ (Lib.cell?_alloc_some _ (unhide H j u hj))
  case qc4 => simp only [maxLen]; omega
  case qc5 => omega
  case qc6 => simp
  intro v' w1 hown hgrow _
  have O1 : OwnS w1 (w.heap.size + 2) v' xs := OwnS.of_row (α := En) hown
  have hg : Below (w.heap.size + 2) ((w.alloc (.cells #[.int .i64 s, .int .i64 z, .slice (some a) xs.length cap] 24)).alloc (.cells #[.int .i64 0, .int .i64 0, .slice none 0 0] 24)) w1 := grownO hgrow _ (by simp) (by intro k hk; cases hk)
  have X0 := (unhide HK0).kept hg (by omega)
  have X1 := ((unhide HK1).kept hg (by omega)).other (a := ⟨w.heap.size, 2, none⟩) (by simp) v'
  have c2 := X0.c2
  have f2 := X0.fr 2
  have Y0 := X0.set2 (v' := v')
  have B1 := ((unhide HB0).trans (hg.mono (by omega))).setCell (p := ⟨w.heap.size, 2, none⟩) (by simp) v'
  have O2 := O1.otherz (k := w.heap.size) (j := 2) (by omega) v'
  obtain ⟨a2, c2', rfl, _⟩ := O1.slice
  have q0 := Y0.c0
  have q1 := Y0.c1
  have q2 := Y0.c2
  have r0 := X1.c0
  have r1 := X1.c1
  have r2 := X1.c2
  have t0 := X1.fr 0
  have t1 := X1.fr 1
  have t2 := X1.fr 2
  have HB1 := hide B1
  have HO2 := hide O2
  clear hown hgrow O1 O2 hg X0 X1 Y0 B1
  go_upto_region 2 with fail
  generalize w1.setCell ⟨w.heap.size, 2, none⟩ (.slice a2 xs.length c2') = W at *
  go_wp2_with fail
  refine bodyPost_ret (v := .agg #[.int .i64 s, .int .i64 z, .slice a2 xs.length c2']) (by simp [results, Try.results9, go_sem, r0, r1, r2]) rfl ⟨_, rfl, ?_, ?_⟩
  · exact ((((unhide HO2).otherz (by omega) _).otherz (by omega) _).otherz (by omega) _).lower (by omega)
  · exact (((unhide HB1).setCell (by simp) _).setCell (by simp) _).setCell (by simp) _
set_option maxRecDepth 10000 in
set_option maxHeartbeats 1000000 in
theorem rcopyC_nil (s z : Int) (c : Nat) (w : World) :
    Calls Try.prog 9 #[clV s z (.slice none 0 c)] w fun e w' => ∃ v', e = .returned (clV s z v') ∧ OwnS w' w.heap.size v' ([] : List En) ∧ Below w.heap.size w w' := by
  unfold clV
  go_enter Try.func9, Try.ntmps9
  go_wp2_with fail
  refine bodyPost_ret (v := .agg #[.int .i64 s, .int .i64 z, .slice none 0 0]) (by simp [results, Try.results9, go_sem]) rfl ⟨_, rfl, .inl ⟨rfl, rfl⟩, ?_⟩
  exact nnext (allocB _ _) (allocB _ _)
theorem rcopyC_any (s z : Int) (v : Value) (xs : List En) (w : World) (hv : SeqV w v xs) (hl : xs.length * 40 ≤ 140737488355328) :
    Calls Try.prog 9 #[clV s z v] w fun e w' => ∃ v', e = .returned (clV s z v') ∧ OwnS w' w.heap.size v' xs ∧ Below w.heap.size w w' := by
  rcases hv with ⟨a, cap, rfl, rfl, _⟩ | ⟨b, off, cap, rfl, _, _, hb, _, hr⟩
  · cases a with
    | none => exact rcopyC_nil s z cap w
    | some a => exact rcopyC_some s z a cap [] w (by simp) (fun j u h => by simp [cellsL_nil] at h)
  · exact rcopyC_some s z ⟨b, off, none⟩ cap xs w hl (fun j u h => by rw [Addr.add_lit]; exact hr j u h)

set_option maxRecDepth 20000 in
set_option maxHeartbeats 2000000 in
theorem rsameC_any (s z : Int) (va vb : Value) (es : List En) (w : World) (ha : SeqV w va es) (hb : SeqV w vb es) (hl : es.length ≤ 140737488355328) :
    Calls Try.prog 13 #[clV s z va, clV s z vb] w fun e w' => e = .returned (.bool true) ∧ Below w.heap.size w w' := by
  have K1 := hide (crow ha)
  have K2 := hide (crow hb)
  obtain ⟨aa, ac, rfl⟩ := seq_slice ha
  obtain ⟨ba, bc, rfl⟩ := seq_slice hb
  unfold clV
  clear ha hb
  have B0 : Below w.heap.size w ((w.alloc (.cells #[.int .i64 s, .int .i64 z, .slice aa es.length ac] 24)).alloc (.cells #[.int .i64 s, .int .i64 z, .slice ba es.length bc] 24)) := nnext (allocB _ _) (allocB _ _)
  have X0 := (CBox.new w s z (.slice aa es.length ac)).next (allocB _ (.cells #[.int .i64 s, .int .i64 z, .slice ba es.length bc] 24))
  have X1 := CBox.new (w.alloc (.cells #[.int .i64 s, .int .i64 z, .slice aa es.length ac] 24)) s z (.slice ba es.length bc)
  rw [show (w.alloc (.cells #[.int .i64 s, .int .i64 z, .slice aa es.length ac] 24)).heap.size = w.heap.size + 1 by simp] at X1
  have HB0 := hide B0
  have HX0 := hide X0
  have HX1 := hide X1
  clear B0 X0 X1
  go_enter Try.func13, Try.ntmps13
  go_wp2_with fail
  generalize (w.alloc (.cells #[.int .i64 s, .int .i64 z, .slice aa es.length ac] 24)).alloc (.cells #[.int .i64 s, .int .i64 z, .slice ba es.length bc] 24) = W0 at *
  go_loopg [30] es.length (fun kx s30 wr => ∃ k : Nat, s30 = .int .i64 k ∧ k ≤ es.length ∧ es.length - k ≤ kx ∧ Hid (Below W0.heap.size W0 wr))
  case atStart => exact ⟨0, rfl, Nat.zero_le _, Nat.le_refl _, hide (Below.refl _ _)⟩
  case round =>
    obtain ⟨k, rfl, hk, hg, hB⟩ := hrel
    have HBw := hide (nnext (unhide HB0) (unhide hB))
    by_cases hlt : k < es.length
    · obtain ⟨x, hx⟩ : ∃ x, es[k]? = some x := ⟨_, List.getElem?_eq_getElem hlt⟩
      obtain ⟨b1, o1, cc1, he, hb1, q1⟩ := unhide K1 wr (unhide HBw) k x hx
      simp only [Value.slice.injEq] at he
      obtain ⟨rfl, _, rfl⟩ := he
      obtain ⟨b2, o2, cc2, he, hb2, q2⟩ := unhide K2 wr (unhide HBw) k x hx
      simp only [Value.slice.injEq] at he
      obtain ⟨rfl, _, rfl⟩ := he
      have d0 := q1.en0 hx
      have d1 := q1.en1 hx
      have d2 := q1.en2 hx
      have r0 := q2.en0 hx
      have r1 := q2.en1 hx
      have r2 := q2.en2 hx
      have m1 := ((unhide HX0).next (unhide hB)).c2
      have m2 := ((unhide HX1).next (unhide hB)).c2
      have hlti : (k : Int) < (es.length : Int) := by omega
      clear q1 q2 hx
      go_wp2_with fail
      go_region
      go_wp2_with fail
      go_roundg (es.length - (k + 1))
      case measure => omega
      case rel => exact ⟨k + 1, rfl, by omega, Nat.le_refl _, hide (nnext (unhide hB) (Below.refl _ _).drew)⟩
    · obtain rfl : k = es.length := by omega
      go_wp2_with fail
      go_ret
      exact ⟨rfl, unhide HBw⟩

set_option maxRecDepth 10000 in
set_option maxHeartbeats 1000000 in
theorem cends_any (w : World) : Calls Try.prog 14 #[] w fun e w' => e = .returned (.bool true) ∧ Below w.heap.size w w' := by
  have C := fun W => cnew_yes 7 W (by decide) (by decide)
  unfold clV at C
  go_enter Try.func14, Try.ntmps14
  go_wp2_with fail
  refine (C _).mono ?_
  rintro e w1 ⟨rfl, hb1⟩
  go_wp2_with fail
  go_ret
  exact ⟨rfl, nnext hb1 (allocB _ _)⟩
end Go.Proofs.Ytdefdbejaabpdaa

namespace Go.Proofs.Ytdefdbejaabpdaa
open Go.RowKit

theorem OneR.nextz {α : Type} [Lay α] {W V : World} {b : Nat} {x : α} (h : OneR W b x) (hb : Below W.heap.size W V) : OneR V b x := h.keptz hb h.ltz
end Go.Proofs.Ytdefdbejaabpdaa
