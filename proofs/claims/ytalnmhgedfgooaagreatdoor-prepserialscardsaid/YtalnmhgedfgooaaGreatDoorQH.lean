/-
  PrepSerials: plain.
  What zxid's functions on numbers answer, for every number: the walks.
  What zxid.Next and zxid.Begin answer, for every number: the walks.
  What aviarykeep.pick answers: the walk.
  PrepSerials: the walk.
-/
import Derived.Test.YtalnmhgedfgooaaGreatDoorQA
import Derived.Test.YtalnmhgedfgooaaGreatDoorMI
import Derived.Test.YtalnmhgedfgooaaGreatDoorRows
import Derived.Test.YtalnmhgedfgooaaGreatDoorMA
import Derived.WalkKit
import Derived.WalkSpells
import Derived.WalkLawsBesides
import Derived.Test.YtalnmhgedfgooaaGreatDoorQC
namespace Go.Proofs.YtalnmhgedfgooaaGreatDoor
open Go.RowKit

/-- PrepSerials -/
structure SerP (t : Tr) (z : Int) (r : Rq) (x : WTxn) : Prop where
  g : GoodT t
  app : appE t x = 0
  ga : GoodT (appT t x)
  new : lookN t.ns x.p = none
  len : x.p.length = r.p.length + 10
  pre : x.p.take r.p.length = r.p
  next : ∀ z', prpE (appT t x) z' r = 0 → (prpX (appT t x) z' r).p.length = x.p.length ∧ Op.bytesLess x.p (prpX (appT t x) z' r).p = true ∧ Op.bytesLess (prpX (appT t x) z' r).p x.p = false ∧ ((prpX (appT t x) z' r).p == x.p) = false
theorem serials_plain {t : Tr} {z : Int} {r : Rq} (h : prpE t z r = 0) (ho : r.o = 3) (hf : 2 ≤ r.f) : SerP t z r (prpX t z r) := by
  obtain ⟨hh, hfe, ha⟩ := prp_zero h
  have hg := (headB_true.1 hh).1
  rw [(fil_cre (z := z) ho).1] at hfe
  obtain ⟨hfl, hp, ms, hnum⟩ := fcr_zero hfe
  obtain ⟨u, hu, k0, k1, hP, hD⟩ := num_zero hp.1 hp.2 (hnum hf)
  have hx : prpX t z r = fcrX t z r := by rw [prpX_ok h, (fil_cre ho).2]
  have hxp : (prpX t z r).p = r.p ++ ten u.k.toNat := by rw [hx]; show (if 2 ≤ r.f then numP t r else r.p) = _; rw [if_pos hf, hP]
  have hxo : (prpX t z r).o = 3 := by rw [hx]; exact ho
  rw [← prpX_ok h] at ha
  obtain ⟨_, _, _, ⟨A, B, G⟩, ⟨u', hu', hup⟩, hns, _, _, _, _⟩ := make_parts ha hxo
  have hdx : dirOf (prpX t z r).p = dirOf r.p := by rw [hxp, ← hP]; exact hD
  obtain ⟨ga, _, _⟩ := app_good ha
  refine ⟨hg, ha, ga, G.look, by rw [hxp]; simp [ten_length], by rw [hxp]; simp, fun z' h' => ?_⟩
  obtain ⟨hh', hfe', ha'⟩ := prp_zero h'
  rw [(fil_cre (z := z') ho).1] at hfe'
  obtain ⟨_, _, _, hnum'⟩ := fcr_zero hfe'
  obtain ⟨v, hv, k0', k1', hP', _⟩ := num_zero hp.1 hp.2 (hnum' hf)
  have hy : (prpX (appT t (prpX t z r)) z' r).p = r.p ++ ten v.k.toNat := by
    rw [prpX_ok h', (fil_cre ho).2]; show (if 2 ≤ r.f then numP _ r else r.p) = _; rw [if_pos hf, hP']
  have hvk : v.k = u.k + 1 := by
    obtain ⟨hum, hupp⟩ := lookN_some hu
    have huu : bump (prpX t z r).z 1 u ∈ (appT t (prpX t z r)).ns := by
      rw [hns, hdx]
      refine bumpAt_mem ?_ hupp
      rw [G.ins (x := newN (prpX t z r))]
      rw [G.eq] at hum
      rcases List.mem_append.1 hum with h1 | h1
      · exact List.mem_append.2 (.inl h1)
      · exact List.mem_append.2 (.inr (List.mem_cons_of_mem _ h1))
    have := look_mem ga.nod.asc huu
    rw [show (bump (prpX t z r).z 1 u).p = dirOf r.p from hupp, hv] at this
    simp only [Option.some.injEq] at this
    rw [this]; rfl
  rw [hy, hxp]
  refine ⟨by simp [ten_length], ?_, ?_, ?_⟩
  · rw [less_serial _ _ _ (by omega) (by omega)]
    simp only [decide_eq_true_eq]
    omega
  · rw [less_serial _ _ _ (by omega) (by omega)]
    simp only [decide_eq_false_iff_not]
    omega
  · refine beq_eq_false_iff_ne.2 (fun h => ?_)
    have := (same_serial _ _ _ (by omega) (by omega)).1 h
    omega

end Go.Proofs.YtalnmhgedfgooaaGreatDoor

namespace Go.Proofs.YtalnmhgedfgooaaGreatDoor
open Go.RowKit
set_option maxHeartbeats 400000 in
theorem zcount_any (z : Int) (w : World) :
    Calls Tryz.prog 40 #[.int .i64 z] w fun e w' => e = .returned (.int .i64 (zCount z)) ∧ w' = w := by
  cases hg : zGood z
  · have H := hide (zCount_no hg)
    have Hg := hide hg
    clear hg
    go_enter Tryz.func40, Tryz.ntmps40
    go_wp2_with fail
    refine (zgood_any z _).mono ?_
    rintro e w1 ⟨rfl, rfl⟩
    rw [unhide Hg]
    go_wp2_with fail
    go_ret
    exact ⟨ret_int (unhide H).symm, rfl⟩
  · have H := hide (zCount_yes hg)
    have Hg := hide hg
    clear hg
    go_enter Tryz.func40, Tryz.ntmps40
    go_wp2_with fail
    refine (zgood_any z _).mono ?_
    rintro e w1 ⟨rfl, rfl⟩
    rw [unhide Hg]
    go_wp2_with fail
    go_ret
    have h := zGood_iff.1 (unhide Hg)
    exact ⟨ret_int ((and_mask h.1 h.2).trans (unhide H).symm), rfl⟩

end Go.Proofs.YtalnmhgedfgooaaGreatDoor

namespace Go.Proofs.YtalnmhgedfgooaaGreatDoor
open Go.RowKit

set_option maxHeartbeats 400000 in
theorem znext_any (z : Int) (w : World) :
    Calls Tryz.prog 18 #[.int .i64 z] w fun e w' => e = .returned (.tuple #[.int .i64 (zNext z), .int .i64 (zNextE z)]) ∧ w' = w := by
  cases hg : zGood z
  · have H := hide (zNext_bad hg)
    have Hg := hide hg
    clear hg
    go_enter Tryz.func18, Tryz.ntmps18
    go_wp2_with fail
    refine (zgood_any z _).mono ?_
    rintro e w1 ⟨rfl, rfl⟩
    rw [unhide Hg]
    go_wp2_with fail
    go_ret2
    exact ⟨ret_int2 (unhide H).1.symm (unhide H).2.symm, rfl⟩
  have hz := zGood_iff.1 hg
  have h0 := hz.1
  have h1 := hz.2
  clear hz
  cases hi : zIn (z % 2147483648 + 1)
  · have H := hide (zNext_full hg hi)
    have Hg := hide hg
    have hf : (z % 2147483648 == 2147483647) = true := by
      rw [beq_iff_eq]
      have := Int.emod_nonneg z (show (2147483648 : Int) ≠ 0 by decide)
      have := Int.emod_lt_of_pos z (show (0 : Int) < 2147483648 by decide)
      by_cases h : z % 2147483648 = 2147483647
      · exact h
      · rw [zIn_iff.2 (by omega)] at hi; exact absurd hi (by decide)
    clear hg hi
    go_enter Tryz.func18, Tryz.ntmps18
    go_wp2_with fail
    refine (zgood_any z _).mono ?_
    rintro e w1 ⟨rfl, rfl⟩
    rw [unhide Hg]
    go_wp2_with fail
    refine (zcount_any z _).mono ?_
    rintro e w2 ⟨rfl, rfl⟩
    rw [zCount_yes (unhide Hg)]
    go_wp2_with fail
    go_ret2
    exact ⟨ret_int2 (unhide H).1.symm (unhide H).2.symm, rfl⟩
  · have H := hide (zNext_ok hg hi)
    have Hg := hide hg
    have hf : (z % 2147483648 == 2147483647) = false := by
      rw [beq_eq_false_iff_ne]
      have := (zIn_iff.1 hi).2
      omega
    clear hg hi
    go_enter Tryz.func18, Tryz.ntmps18
    go_wp2_with fail
    refine (zgood_any z _).mono ?_
    rintro e w1 ⟨rfl, rfl⟩
    rw [unhide Hg]
    go_wp2_with fail
    refine (zcount_any z _).mono ?_
    rintro e w2 ⟨rfl, rfl⟩
    rw [zCount_yes (unhide Hg)]
    go_wp2_with fail
    go_ret2
    exact ⟨ret_int2 (unhide H).1.symm (unhide H).2.symm, rfl⟩

end Go.Proofs.YtalnmhgedfgooaaGreatDoor

namespace Go.Proofs.YtalnmhgedfgooaaGreatDoor
open Go.RowKit

theorem ret_pick {a b : Int} (h : a = b) : Ending.returned (.int .i64 a) = .returned (.int .i64 b) := by rw [h]

theorem tmod_cases (k n : Int) (hn : 0 < n) : k.tmod n = k % n ∨ k.tmod n = k % n - n := by
  rw [Int.tmod_eq_emod]
  split
  · left; omega
  · right; omega

set_option maxHeartbeats 400000 in
theorem pick_any (k n : Int) (w : World) (hn : 0 < n) (hn1 : n ≤ 1048576) (hk : -9223372036854775808 ≤ k) (hk1 : k ≤ 9223372036854775807) :
    Calls Tryz.prog 17 #[.int .i64 k, .int .i64 n] w fun e w' => e = .returned (.int .i64 (k % n)) ∧ w' = w := by
  have hm1 := Int.emod_nonneg k (show n ≠ 0 by omega)
  have hm2 := Int.emod_lt_of_pos k hn
  by_cases h0 : 0 ≤ k
  · go_enter Tryz.func17, Tryz.ntmps17
    go_wp2
    go_ret
    exact ⟨rfl, rfl⟩
  · have HT := hide (tmod_cases k n hn)
    go_enter Tryz.func17, Tryz.ntmps17
    go_wp2
    all_goals go_ret
    all_goals refine ⟨ret_pick ?_, rfl⟩
    all_goals (have hT := unhide HT; clear HT; first | omega | (unfold wrap64; omega))

end Go.Proofs.YtalnmhgedfgooaaGreatDoor

namespace Go.Proofs.YtalnmhgedfgooaaGreatDoor
open Go.RowKit

set_option maxRecDepth 20000 in
set_option maxHeartbeats 8000000 in
theorem prepSerials_walk (t : Tr) (vn vs : Value) (z : Int) (r : Rq) (w : World) (hn : SeqV w vn t.ns) (hs : SeqV w vs t.ss) (hw : WfT t) (hl : t.ns.length * 88 ≤ 140737488355328) (hls : t.ss.length * 8 ≤ 140737488355328) (hp : r.p.length ≤ 140737488351232) (hd : r.d.length ≤ 140737488351232) (hf : -9223372036854775808 ≤ r.f ∧ r.f ≤ 9223372036854775807) (htab : Lib.TabIs Tryz.prog w "internal/strconv.uint64pow10" .u64 Lib.pow10Tab) :
    Calls Tryz.prog 6 #[.agg #[.int .i64 t.z, vn, vs], .int .i64 z, rqV r] w fun e w' => e = .returned (.bool true) ∧ Below w.heap.size w w' := by
  have CO := hide (fun W1 (h1 : Below w.heap.size w W1) W (hW : Below W1.heap.size W1 W) => own_any t vn vs W (hn.next (nnext h1 hW)) (hs.next (nnext h1 hW)) hl hls)
  have CM := hide (fun W (h1 : Below w.heap.size w W) => makes_true W (tab_kept htab h1))
  have CQ := hide (fun (q : Rq) (h1 : q.p.length ≤ 140737488351232) (h2 : q.d.length ≤ 140737488351232) W1 (h1 : Below w.heap.size w W1) W (hW : Below W1.heap.size W1 W) (vn vs : Value) (hn : SeqV W vn t.ns) (hs : SeqV W vs t.ss) => prepare_any t z vn vs q W hn hs hw (by omega) (by omega) (tab_kept htab (nnext h1 hW)))
  have CY := hide (fun (T : Tr) (g : GoodT T) (q : Rq) (h1 : q.p.length ≤ 140737488351232) (h2 : q.d.length ≤ 140737488351232) (z' : Int) W (hW : Below w.heap.size w W) (vn vs : Value) (hn : SeqV W vn T.ns) (hs : SeqV W vs T.ss) => prepare_any T z' vn vs q W hn hs g.wf (by omega) (by omega) (tab_kept htab hW))
  have CA := hide (fun (x : WTxn) (hx : x.d.length ≤ 140737488355328) (W : World) (vn vs : Value) (hn : SeqV W vn t.ns) (hs : SeqV W vs t.ss) => apply_any t vn vs x W hn hs hw hx)
  have CG := hide (fun (gt : GoodT t) (p : List UInt8) W (hW : Below w.heap.size w W) => tget_any t vn vs p W gt (hn.next hW))
  have CK := hide (fun W => pick_any r.f 2 W (by decide) (by decide) hf.1 hf.2)
  have CZ := hide (fun W => znext_any z W)
  have hf2 : r.f % 2 = 0 ∨ r.f % 2 = 1 := by omega
  obtain ⟨na, nc, rfl⟩ := seq_slice hn
  obtain ⟨sa, sc, rfl⟩ := seq_slice hs
  clear hn hs hw htab hl hls hf
  obtain ⟨ro, rs, rp, rd, rv, rf⟩ := r
  unfold rqV at *
  simp only at *
  have R00 := hide (TR.new w t.z (.slice na t.ns.length nc) (.slice sa t.ss.length sc) ⟨ro, rs, rp, rd, rv, rf⟩)
  have B00 : Hid (Below w.heap.size w ((w.alloc (.cells #[.int .i64 t.z, .slice na t.ns.length nc, .slice sa t.ss.length sc] 25)).alloc (.cells #[.int .i64 ro, .int .i64 rs, .string ⟨rp.toArray⟩, .string ⟨rd.toArray⟩, .int .i64 rv, .int .i64 rf] 27))) := hide (nnext (allocB _ _) (allocB _ _))
  simp only at R00
  obtain ⟨a0, a1, a2, a3, a4, a5, a6, a7, a8⟩ := (unhide R00).nine
  simp only at a0 a1 a2 a3 a4 a5 a6 a7 a8
  have fr := (unhide R00).fr
  have fr0 := fr 0
  have fr5 := fr 5
  clear fr
  go_enter Tryz.func6, Tryz.ntmps6
  go_upto_region 1 with fail
  obtain ⟨w0, hw0⟩ : ∃ w0, ((w.alloc (.cells #[.int .i64 t.z, .slice na t.ns.length nc, .slice sa t.ss.length sc] 25)).alloc (.cells #[.int .i64 ro, .int .i64 rs, .string ⟨rp.toArray⟩, .string ⟨rd.toArray⟩, .int .i64 rv, .int .i64 rf] 27)) = w0 := ⟨_, rfl⟩
  rw [hw0] at R00 B00 a0 a1 a2 a3 a4 a5 a6 a7 a8 fr0 fr5 ⊢
  clear hw0
  go_cut [6] from 18 (fun t6 wx => t6 = .bool false ∧ ∃ fl, (fl = 2 ∨ fl = 3) ∧ Hid (TR wx w.heap.size t.z (.slice na t.ns.length nc) (.slice sa t.ss.length sc) ⟨3, rs, rp, rd, rv, fl⟩) ∧ Hid (Below w.heap.size w wx))
  case first =>
    clear CO CM CQ CG CY CA CZ
    rcases hf2 with h | h
    all_goals
      rw [h] at CK
      clear h
      go_wp2_with fail
      refine (unhide CK _).mono ?_
      rintro e ww ⟨rfl, rfl⟩
      go_wp2_with fail
      go_meet
      exact ⟨rfl, _, by first | exact .inl (by decide) | exact .inr (by decide), hide (((unhide R00).seto 3).setf _), hide (((unhide B00).setCell (by simp) _).setCell (by simp) _)⟩
  case rest =>
  obtain ⟨rfl, fl, hfl, R2, B2⟩ := hcut
  clear a0 a1 a2 a3 a4 a5 a6 a7 a8 fr0 fr5 R00 B00 CK hf2
  rename_i w0'
  obtain ⟨w1, hw1⟩ : ∃ w1, wc = w1 := ⟨_, rfl⟩
  rw [hw1] at R2 B2 ⊢
  clear hw1
  go_upto_region 2 with fail
  have hq := (unhide R2).lt
  have C1 := hide (unhide CO w1 (unhide B2))
  have C2 := hide (unhide CQ ⟨3, rs, rp, rd, rv, fl⟩ hp hd w1 (unhide B2))
  have KS : Hid (prpE t z ⟨3, rs, rp, rd, rv, fl⟩ = 0 → SerP t z ⟨3, rs, rp, rd, rv, fl⟩ (prpX t z ⟨3, rs, rp, rd, rv, fl⟩)) := hide (fun h => serials_plain h rfl (by simp only; omega))
  have hxd : Hid ((prpX t z ⟨3, rs, rp, rd, rv, fl⟩).d.length ≤ 140737488355328) := hide (by
    by_cases h : prpE t z ⟨3, rs, rp, rd, rv, fl⟩ = 0
    · rw [prpX_ok h]; have := filX_d t z ⟨3, rs, rp, rd, rv, fl⟩; simp only at this; omega
    · rw [prpX_no h]; decide)
  unfold GivesP txnV at C2
  generalize prpE t z ⟨3, rs, rp, rd, rv, fl⟩ = E at C2 KS
  generalize prpX t z ⟨3, rs, rp, rd, rv, fl⟩ = X at C2 KS hxd
  have CA1 := hide (unhide CA X (unhide hxd))
  obtain ⟨xz, xo, xs, xp, xd, xv, xw⟩ := X
  simp only at C2
  go_cut [7, 8] from 18 (fun tx te wx => ∃ q, tx = .pointer (some ⟨q, 0, none⟩) ∧ te = .int .i64 E ∧ Hid (PrX w1 wx q ⟨xz, xo, xs, xp, xd, xv, xw⟩))
  case first =>
    clear CO CM CQ CG CY CA CZ KS hfl hxd CA1
    go_region_held3 (fun w' => w'.cell? ⟨w.heap.size, 0, none⟩ = some (.int .i64 t.z) ∧ w'.cell? ⟨w.heap.size, 1, none⟩ = some (.slice na t.ns.length nc) ∧ w'.cell? ⟨w.heap.size, 2, none⟩ = some (.slice sa t.ss.length sc) ∧ w'.cell? ⟨w.heap.size + 1, 0, none⟩ = some (.int .i64 3) ∧ w'.cell? ⟨w.heap.size + 1, 1, none⟩ = some (.int .i64 rs) ∧ w'.cell? ⟨w.heap.size + 1, 2, none⟩ = some (.string ⟨rp.toArray⟩) ∧ w'.cell? ⟨w.heap.size + 1, 3, none⟩ = some (.string ⟨rd.toArray⟩) ∧ w'.cell? ⟨w.heap.size + 1, 4, none⟩ = some (.int .i64 rv) ∧ w'.cell? ⟨w.heap.size + 1, 5, none⟩ = some (.int .i64 fl)) (first | with_reducible exact (unhide R2).nine | with_reducible exact (unhide R2).drew.nine | with_reducible exact ((unhide R2).next (allocB _ _)).nine | with_reducible exact ((unhide R2).next (allocB _ _)).drew.nine | with_reducible exact ((unhide R2).drew.next (allocB _ _)).nine | with_reducible exact (unhide aX1).nine | with_reducible exact ((unhide aX1).next (allocB _ _)).nine | with_reducible exact (unhide aX2).nine | with_reducible exact ((unhide aX2).next (allocB _ _)).nine | with_reducible exact ((((((((unhide aX2).other _ (by simp only; omega)).other _ (by simp only; omega)).other _ (by simp only; omega)).other _ (by simp only; omega)).other _ (by simp only; omega)).other _ (by simp only; omega)).other _ (by simp only; omega)).nine) (first
      | (go_at_call 12; refine (unhide C1 _ (by first | with_reducible exact (Below.refl _ _).drew | with_reducible exact (allocB _ _).drew | with_reducible exact nnext (Below.refl _ _).drew (allocB _ _))).mono ?_; rintro e aw1 ⟨avn1, avs1, rfl, on1, os1, hb1⟩; have aB1 : Hid (Below w1.heap.size w1 aw1) := hide (nnext (by first | with_reducible exact (Below.refl _ _).drew | with_reducible exact (allocB _ _).drew | with_reducible exact nnext (Below.refl _ _).drew (allocB _ _)) hb1); have aN1 := hide on1.seq; have aS1 := hide os1.seq; have aX1 := hide ((unhide R2).next (unhide aB1)); have ah1 := (unhide aB1).size; (try have aZ1 : Hid (TAt aw1 w1.heap.size t0) := hide ((hb1.block _ (by simp)).trans (heap_alloc_new w1 _))); clear on1 os1 hb1)
      | (go_at_call 7; refine (unhide C2 _ (by first | with_reducible exact unhide aB1 | with_reducible exact nnext (unhide aB1) (allocB _ _)) _ _ (by first | with_reducible exact unhide aN1 | with_reducible exact (unhide aN1).next (allocB _ _)) (by first | with_reducible exact unhide aS1 | with_reducible exact (unhide aS1).next (allocB _ _))).mono ?_; rintro e aw2 ⟨rfl, hb2⟩; have aB2 : Hid (Below w1.heap.size w1 aw2) := (by first | with_reducible exact hide (nnext (unhide aB1) hb2) | with_reducible exact hide (nnext (unhide aB1) (nbox_then hb2))); have aX2 := hide ((unhide R2).next (unhide aB2)); have ah2 := hb2.size; (try (have ak1 := (unhide aZ1).lt; have aZ2 : Hid (TAt aw2 w1.heap.size t0) := hide ((hb2.block _ ak1).trans (unhide aZ1)); obtain ⟨⟨az0, az1, az2, az3, az4, az5, az6⟩, af0, af1, af2, af3, af4, af5, af6⟩ := zcells7 (unhide aZ2))); (try (have aY2 : Hid (TAt aw2 aw1.heap.size t0) := hide ((hb2.block _ (by simp)).trans (heap_alloc_new aw1 _)); obtain ⟨⟨ay0, ay1, ay2, ay3, ay4, ay5, ay6⟩, ag0, ag1, ag2, ag3, ag4, ag5, ag6⟩ := zcells7 (unhide aY2))); clear hb2))
    all_goals go_wp2_with fail
    all_goals go_meet
    all_goals refine ⟨_, rfl, rfl, hide ?_⟩
    all_goals first
      | with_reducible exact px_newF xz xo xs xp xd xv xw (unhide aB2)
      | with_reducible exact px_putF xz xo xs xp xd xv xw (unhide aB2) ah1 (unhide aY2)
      | with_reducible exact px_putF xz xo xs xp xd xv xw (unhide aB2) (Nat.le_refl _) (unhide aZ2)
  case rest =>
  rename_i wd
  obtain ⟨q, rfl, rfl, A1⟩ := hcut
  have R3 := hide ((unhide R2).next (unhide A1).b)
  have B3 := hide (nnext (unhide B2) (unhide A1).b)
  clear C1 C2 R2 B2 CQ CA hxd
  by_cases hE : E = 0
  · have P := unhide KS hE
    subst hE
    have hxl := P.len
    have hxt := P.pre
    simp only at hxl hxt
    obtain ⟨tl, htl, hxe⟩ : ∃ tl : List UInt8, tl.length = 10 ∧ xp = rp ++ tl := ⟨xp.drop rp.length, by simp; omega, by
      have h := (List.take_append_drop rp.length xp).symm
      rw [hxt] at h
      exact h⟩
    subst hxe
    obtain ⟨_, hge⟩ := get_none P.new
    obtain ⟨hgn, _⟩ := get_none P.new
    have CG1 := hide (unhide CG P.g (rp ++ tl))
    simp only at hge hgn
    rw [hgn, hge] at CG1
    unfold nodeV nzero at CG1
    simp only at CG1
    have HT := hide P.ga
    have HNX := hide P.next
    have HAP := hide P.app
    unfold GivesA at CA1
    rw [unhide HAP] at CA1
    generalize appT t ⟨xz, xo, xs, rp ++ tl, xd, xv, xw⟩ = T at CA1 HT HNX
    generalize appV t ⟨xz, xo, xs, rp ++ tl, xd, xv, xw⟩ = V at CA1
    unfold txnV at CA1
    simp only at CA1
    clear KS P CG hge hgn hxl hxt HAP
    go_wp2_with fail
    refine (unhide CM _ (unhide B3)).mono ?_
    rintro e w2 ⟨rfl, hb2⟩
    have R4 := hide ((unhide R3).next hb2)
    have B4 := hide (nnext (unhide B3) hb2)
    have A2 := hide ((unhide A1).next hb2)
    obtain ⟨b0, b1, b2, b3, b4, b5, b6, b7, b8⟩ := (unhide R4).nine
    obtain ⟨x0, x1, x2, x3, x4, x5, x6⟩ := (unhide A2).box.seven
    simp only at b0 b1 b2 b3 b4 b5 b6 b7 b8 x0 x1 x2 x3 x4 x5 x6
    clear hb2 R3 B3 A1
    go_wp2_with fail
    refine (unhide CG1 _ (unhide B4)).mono ?_
    rintro e w3 ⟨rfl, hb3⟩
    have R5 := hide ((unhide R4).next (nnext hb3 (allocB w3 (.cells #[.string ⟨#[]⟩, .string ⟨#[]⟩, .int .i64 0, .int .i64 0, .int .i64 0, .int .i64 0, .int .i64 0, .int .i64 0, .int .i64 0] 46))))
    have B5 := hide (nnext (unhide B4) (nnext hb3 (allocB w3 (.cells #[.string ⟨#[]⟩, .string ⟨#[]⟩, .int .i64 0, .int .i64 0, .int .i64 0, .int .i64 0, .int .i64 0, .int .i64 0, .int .i64 0] 46))))
    have A3 := hide ((unhide A2).next (nnext hb3 (allocB w3 (.cells #[.string ⟨#[]⟩, .string ⟨#[]⟩, .int .i64 0, .int .i64 0, .int .i64 0, .int .i64 0, .int .i64 0, .int .i64 0, .int .i64 0] 46))))
    clear hb3 R4 B4 A2 b0 b1 b2 b3 b4 b5 b6 b7 b8 x0 x1 x2 x3 x4 x5 x6 CG1
    obtain ⟨b0, b1, b2, b3, b4, b5, b6, b7, b8⟩ := (unhide R5).nine
    obtain ⟨x0, x1, x2, x3, x4, x5, x6⟩ := (unhide A3).box.seven
    simp only at b0 b1 b2 b3 b4 b5 b6 b7 b8 x0 x1 x2 x3 x4 x5 x6
    go_upto_region 6 with fail
    obtain ⟨w4, hw4⟩ : ∃ w4, w3.alloc (.cells #[.string ⟨#[]⟩, .string ⟨#[]⟩, .int .i64 0, .int .i64 0, .int .i64 0, .int .i64 0, .int .i64 0, .int .i64 0, .int .i64 0] 46) = w4 := ⟨_, rfl⟩
    rw [hw4] at R5 B5 A3 b0 b1 b2 b3 b4 b5 b6 b7 b8 x0 x1 x2 x3 x4 x5 x6 ⊢
    clear hw4
    go_cut [68] from 18 (fun t68 wx => t68 = .bool false ∧ Hid (Below w4.heap.size w4 wx))
    case first =>
      clear CO CM CY CZ CA1 HT HNX
      have hl1 : (rp ++ tl).length = rp.length + 10 := by simp [htl]
      have hl2 : (((rp ++ tl).length : Int) != (rp.length : Int) + 10) = false := by rw [hl1]; simp
      have htk : (rp ++ tl).take rp.length = rp := by simp
      go_quiet (fail)
      go_wp2_with fail
      go_meet
      refine ⟨?_, hide ⟨rfl, rfl, rfl, Nat.le_refl _, fun _ _ => rfl⟩⟩
      have hx : ((ByteArray.mk (rp ++ tl).toArray).extract 0 rp.length).toList = rp := by rw [cut_front, htk, Lib.toList_data]
      rw [hx]
      simp
    case rest =>
    rename_i we
    obtain ⟨rfl, hb4⟩ := hcut
    have R6 := hide ((unhide R5).next (unhide hb4))
    have B6 := hide (nnext (unhide B5) (unhide hb4))
    have A4 := hide ((unhide A3).next (unhide hb4))
    have X6 : Hid (TX wc w.heap.size q t.z (.slice na t.ns.length nc) (.slice sa t.ss.length sc) ⟨xz, xo, xs, rp ++ tl, xd, xv, xw⟩) := hide ⟨(unhide R6).t, (unhide A4).box⟩
    have hqb := (unhide A4).qb
    clear R5 B5 A3 hb4 b0 b1 b2 b3 b4 b5 b6 b7 b8 x0 x1 x2 x3 x4 x5 x6
    obtain ⟨w5, hw5⟩ : ∃ w5, wc = w5 := ⟨_, rfl⟩
    rw [hw5] at R6 B6 A4 X6 ⊢
    clear hw5
    obtain ⟨hq1, hq2⟩ := (unhide X6).lt
    have C3 := hide (unhide CO w5 (unhide B6))
    go_upto_region 8 with fail
    go_cut [11, 12, 13] from 18 (fun ta tv te wx => ∃ q an cn ai ci ae ce, ta = .pointer (some ⟨q, 0, none⟩) ∧ tv = .slice ae (V).length ce ∧ te = .int .i64 0 ∧ Hid (AppX w5 wx q T V (.slice an (T).ns.length cn) (.slice ai (T).ss.length ci) (.slice ae (V).length ce)))
    case first =>
      clear CO CM CY CZ HT HNX hfl
      go_region_held3 (fun w' => w'.cell? ⟨w.heap.size, 0, none⟩ = some (.int .i64 t.z) ∧ w'.cell? ⟨w.heap.size, 1, none⟩ = some (.slice na t.ns.length nc) ∧ w'.cell? ⟨w.heap.size, 2, none⟩ = some (.slice sa t.ss.length sc) ∧ w'.cell? ⟨q, 0, none⟩ = some (.int .i64 xz) ∧ w'.cell? ⟨q, 1, none⟩ = some (.int .i64 xo) ∧ w'.cell? ⟨q, 2, none⟩ = some (.int .i64 xs) ∧ w'.cell? ⟨q, 3, none⟩ = some (.string ⟨(rp ++ tl).toArray⟩) ∧ w'.cell? ⟨q, 4, none⟩ = some (.string ⟨xd.toArray⟩) ∧ w'.cell? ⟨q, 5, none⟩ = some (.int .i64 xv) ∧ w'.cell? ⟨q, 6, none⟩ = some (.int .i64 xw)) (first | with_reducible exact (unhide X6).ten | with_reducible exact (unhide X6).drew.ten | with_reducible exact ((unhide X6).next (allocB _ _)).ten | with_reducible exact ((unhide X6).next (allocB _ _)).drew.ten | with_reducible exact ((unhide X6).drew.next (allocB _ _)).ten | with_reducible exact (unhide bX1).ten | with_reducible exact ((unhide bX1).next (allocB _ _)).ten | with_reducible exact (unhide bX2).ten | with_reducible exact ((unhide bX2).next (allocB _ _)).ten | with_reducible exact ((((unhide bX2).other _ (by simp only; omega) (by simp only; omega)).other _ (by simp only; omega) (by simp only; omega)).other _ (by simp only; omega) (by simp only; omega)).ten) (first
        | (go_at_call 12; refine (unhide C3 _ (by first | with_reducible exact (Below.refl _ _).drew | with_reducible exact (allocB _ _).drew | with_reducible exact nnext (Below.refl _ _).drew (allocB _ _))).mono ?_; rintro e bw1 ⟨bvn1, bvs1, rfl, on1, os1, hb1⟩; have bB1 : Hid (Below w5.heap.size w5 bw1) := hide (nnext (by first | with_reducible exact (Below.refl _ _).drew | with_reducible exact (allocB _ _).drew | with_reducible exact nnext (Below.refl _ _).drew (allocB _ _)) hb1); have bN1 := hide on1.seq; have bS1 := hide os1.seq; have bX1 := hide ((unhide X6).next (unhide bB1)); have bh1 := (unhide bB1).size; (try have bZ1 : Hid (bw1.heap[w5.heap.size]? = some (.cells #[.int .i64 0, .slice none 0 0, .slice none 0 0] 25 (0, 0))) := hide ((hb1.block _ (by simp)).trans (heap_alloc_new w5 _))); clear on1 os1 hb1)
        | (go_at_call 14; refine (unhide CA1 _ _ _ (by first | with_reducible exact unhide bN1 | with_reducible exact (unhide bN1).next (allocB _ _)) (by first | with_reducible exact unhide bS1 | with_reducible exact (unhide bS1).next (allocB _ _))).mono ?_; rintro e bw2 ⟨bvn2, bvs2, bve2, rfl, n2, s2, e2, hb2⟩; have bB2 : Hid (Below w5.heap.size w5 bw2) := (by first | with_reducible exact hide (nnext (unhide bB1) hb2) | with_reducible exact hide (nnext (unhide bB1) (nbox_then hb2))); have bX2 := hide ((unhide X6).next (unhide bB2)); have bh2 := hb2.size; (try (have bk1 := (Array.getElem?_eq_some_iff.1 (unhide bZ1)).1; have bZ2 := hide ((hb2.block _ bk1).trans (unhide bZ1)); obtain ⟨bz0, bz1, bz2, bz3, bz4, bz5⟩ := zcells (unhide bZ2))); (try (have bY2 : Hid (bw2.heap[bw1.heap.size]? = some (.cells #[.int .i64 0, .slice none 0 0, .slice none 0 0] 25 (0, 0))) := hide ((hb2.block _ (by simp)).trans (heap_alloc_new bw1 _)); obtain ⟨by0, by1, by2, by3, by4, by5⟩ := zcells (unhide bY2))); obtain ⟨ban, bcn, rfl, _⟩ := n2.slice; obtain ⟨bai, bci, rfl, _⟩ := s2.slice; obtain ⟨bae, bce, rfl, _⟩ := e2.slice; have bn2 := hide n2; have bs2 := hide s2; have be2 := hide e2; clear n2 s2 e2 hb2))
      all_goals go_wp2_with fail
      all_goals go_meet
      all_goals first
        | exact ⟨_, ban, bcn, bai, bci, bae, bce, rfl, rfl, rfl, hide (app_new (unhide bB2) bh1 (unhide bn2) (unhide bs2) (unhide be2))⟩
        | exact ⟨_, ban, bcn, bai, bci, bae, bce, rfl, rfl, rfl, hide (app_put (unhide bB2) bh1 (by simp) (unhide bY2) (unhide bn2) (unhide bs2) (unhide be2))⟩
        | exact ⟨_, ban, bcn, bai, bci, bae, bce, rfl, rfl, rfl, hide (app_put (unhide bB2) (Nat.le_refl _) bk1 (unhide bZ2) (unhide bn2) (unhide bs2) (unhide be2))⟩
    case rest =>
    rename_i wf
    obtain ⟨q2, an2, cn2, ai2, ci2, ae2, ce2, rfl, rfl, rfl, A5⟩ := hcut
    have X7 := hide ((unhide X6).next (unhide A5).b)
    have R7 := hide ((unhide R6).next (unhide A5).b)
    have B7 := hide (nnext (unhide B6) (unhide A5).b)
    clear X6 R6 B6 C3 CA1 CO CM A4
    go_wp2_with fail
    refine (unhide CZ _).mono ?_
    rintro e w6 ⟨rfl, rfl⟩
    clear CZ
    by_cases hg : zNextE z = 0
    · rw [hg]
      obtain ⟨nx, hnx⟩ : ∃ nx, zNext z = nx := ⟨_, rfl⟩
      rw [hnx]
      clear hnx hg
      obtain ⟨d0, d1, d2⟩ := (unhide A5).cells
      obtain ⟨b0, b1, b2, b3, b4, b5, b6, b7, b8⟩ := (unhide R7).nine
      simp only at b3 b4 b5 b6 b7 b8
      have C9 := hide (unhide CY T (unhide HT) ⟨3, rs, rp, rd, rv, fl⟩ hp hd nx)
      have KN := hide (unhide HNX nx)
      unfold GivesP txnV at C9
      simp only at C9 KN
      generalize prpE T nx ⟨3, rs, rp, rd, rv, fl⟩ = F at C9 KN
      generalize prpX T nx ⟨3, rs, rp, rd, rv, fl⟩ = Y at C9 KN
      obtain ⟨yz, yo, ys, yp, yd, yv, yw⟩ := Y
      simp only at C9 KN
      clear CY HT HNX
      go_wp2_with fail
      refine (unhide C9 _ (unhide B7) _ _ (unhide A5).n.seq (unhide A5).s.seq).mono ?_
      rintro e w7 ⟨rfl, hb7⟩
      have Y8 := hide (TAt.new w7 ⟨yz, yo, ys, yp, yd, yv, yw⟩)
      have X8 := hide ((unhide X7).next (nnext hb7 (allocB w7 (.cells #[.int .i64 yz, .int .i64 yo, .int .i64 ys, .string ⟨yp.toArray⟩, .string ⟨yd.toArray⟩, .int .i64 yv, .int .i64 yw] 29))))
      have B8 := hide (nnext (unhide B7) (nnext hb7 (allocB w7 (.cells #[.int .i64 yz, .int .i64 yo, .int .i64 ys, .string ⟨yp.toArray⟩, .string ⟨yd.toArray⟩, .int .i64 yv, .int .i64 yw] 29))))
      simp only at Y8
      obtain ⟨x0, x1, x2, x3, x4, x5, x6, x7, x8, x9⟩ := (unhide X8).ten
      obtain ⟨y0, y1, y2, y3, y4, y5, y6⟩ := (unhide Y8).seven
      simp only at x3 x4 x5 x6 x7 x8 x9 y0 y1 y2 y3 y4 y5 y6
      clear hb7 C9 B7 X7 A5 R7 d0 d1 d2 b0 b1 b2 b3 b4 b5 b6 b7 b8
      by_cases hF : F = 0
      · obtain ⟨hyl, hy1, hy2, hy3⟩ := unhide KN hF
        subst hF
        clear KN
        have hyb : ((yp.length : Int) == ((rp ++ tl).length : Int)) = true := by rw [hyl]; simp
        go_upto_region 15 with fail
        obtain ⟨w8, hw8⟩ : ∃ w8, w7.alloc (.cells #[.int .i64 yz, .int .i64 yo, .int .i64 ys, .string ⟨yp.toArray⟩, .string ⟨yd.toArray⟩, .int .i64 yv, .int .i64 yw] 29) = w8 := ⟨_, rfl⟩
        rw [hw8] at X8 Y8 B8 x0 x1 x2 x3 x4 x5 x6 x7 x8 x9 y0 y1 y2 y3 y4 y5 y6 ⊢
        clear hw8 hyl htl
        generalize rp ++ tl = P at *
        first
          | (go_quiet (fail)
             go_wp2_with fail
             go_ret
             exact ⟨rfl, nnext (unhide B8) ⟨rfl, rfl, rfl, Nat.le_refl _, fun _ _ => rfl⟩⟩)
          | (go_wp2_with fail
             go_ret
             exact ⟨rfl, unhide B8⟩)
      · have hFb : (F != 0) = true := by simpa using hF
        clear KN hF
        go_wp2_with fail
        go_ret
        exact ⟨rfl, unhide B8⟩
    · have hgb : (zNextE z != 0) = true := by simpa using hg
      clear hg CY
      go_wp2_with fail
      go_ret
      exact ⟨rfl, unhide B7⟩
  · have hEb : (E != 0) = true := by simpa using hE
    clear KS CO CG CY CZ CA1 hE
    go_wp2_with fail
    refine (unhide CM _ (unhide B3)).mono ?_
    rintro e w2 ⟨rfl, hb2⟩
    have B4 := hide (nnext (unhide B3) hb2)
    clear hb2 B3 CM
    go_wp2_with fail
    go_ret
    exact ⟨rfl, unhide B4⟩

end Go.Proofs.YtalnmhgedfgooaaGreatDoor
