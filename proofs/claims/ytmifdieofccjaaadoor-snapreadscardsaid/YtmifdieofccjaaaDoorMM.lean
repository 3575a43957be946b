/-
  snap.Read: the walk.
-/
import Derived.Test.YtmifdieofccjaaaDoorML
import Derived.Test.YtmifdieofccjaaaDoorMK
namespace Go.Proofs.YtmifdieofccjaaaDoor
open Go.RowKit

/-- the answer of Read -/
def ReadG (s : List UInt8) (w : World) (e : Ending) (w' : World) : Prop :=
  ∃ vn vs, e = .returned (.tuple #[.agg #[.int .i64 (rdT s).z, vn, vs], .int .i64 (rdE s)]) ∧ OwnS w' w.heap.size vn (rdT s).ns ∧ OwnS w' w.heap.size vs (rdT s).ss ∧ Below w.heap.size w w'
theorem readG_no {s : List UInt8} {w w' : World} {E : Int} {e : Ending} (hE : rdE s = E) (h0 : E ≠ 0) (he : e = .returned (.tuple #[.agg #[.int .i64 0, .slice none 0 0, .slice none 0 0], .int .i64 E])) (hb : Below w.heap.size w w') : ReadG s w e w' := by
  have h1 := rd_none (s := s) (by rw [hE]; exact h0)
  refine ⟨.slice none 0 0, .slice none 0 0, ?_, ?_, ?_, hb⟩
  · rw [hE, h1]; exact he
  · rw [h1]; exact .inl ⟨rfl, rfl⟩
  · rw [h1]; exact .inl ⟨rfl, rfl⟩
theorem ex_mid (l : List UInt8) (n : Nat) : (ByteArray.mk l.toArray).extract 1 n = ⟨((l.take n).drop 1).toArray⟩ := by
  apply ByteArray.ext
  apply Array.toList_inj.1
  have h := Lib.extract_toList (ByteArray.mk l.toArray) 1 n
  rw [Lib.toList_data] at h
  refine h.trans ?_
  show (l.drop 1).take (n - 1) = (l.take n).drop 1
  rw [List.drop_take]

/-- the answer's box -/
structure ZB (w W : World) : Prop where
  x : W.heap[w.heap.size]? = some (.cells #[.int .i64 0, .slice none 0 0, .slice none 0 0] 25 (0, 0))
  b : Below w.heap.size w W
section
variable {w W V : World}
theorem ZB.new (w : World) : ZB w (w.alloc (.cells #[.int .i64 0, .slice none 0 0, .slice none 0 0] 25)) := ⟨heap_alloc_new w _, allocB _ _⟩
theorem ZB.lt (h : ZB w W) : w.heap.size < W.heap.size := (Array.getElem?_eq_some_iff.1 h.x).1
theorem ZB.next (h : ZB w W) (hb : Below W.heap.size W V) : ZB w V := ⟨(hb.block _ h.lt).trans h.x, nnext h.b hb⟩
theorem ZB.only {g : Nat} (h : ZB w W) (ho : Only g W V) (hg : w.heap.size < g) : ZB w V := ⟨(ho.block _ (by omega)).trans h.x, ho.below h.b (by omega)⟩
theorem ZB.past {g : Nat} (h : ZB w W) (ho : Past g W V) (hg : w.heap.size < g) : ZB w V := ⟨(ho.block _ h.lt (by omega)).trans h.x, ho.over h.b (by omega) (by have := h.lt; omega)⟩
theorem ZB.cells (h : ZB w W) : (W.cell? ⟨w.heap.size, 0, none⟩ = some (.int .i64 0) ∧ W.cell? ⟨w.heap.size, 1, none⟩ = some (.slice none 0 0) ∧ W.cell? ⟨w.heap.size, 2, none⟩ = some (.slice none 0 0)) ∧ W.frozen? ⟨w.heap.size, 0, none⟩ = false ∧ W.frozen? ⟨w.heap.size, 1, none⟩ = false ∧ W.frozen? ⟨w.heap.size, 2, none⟩ = false := by
  have h1 := h.x
  refine ⟨⟨?_, ?_, ?_⟩, ?_, ?_, ?_⟩ <;> simp [World.cell?, World.frozen?, h1]
/-- three cells are written into the box -/
theorem ZB.fill (h : ZB w W) (v0 v1 v2 : Value) (hV : V = ((W.setCell ⟨w.heap.size, 0, none⟩ v0).setCell ⟨w.heap.size, 1, none⟩ v1).setCell ⟨w.heap.size, 2, none⟩ v2) :
    (V.cell? ⟨w.heap.size, 0, none⟩ = some v0 ∧ V.cell? ⟨w.heap.size, 1, none⟩ = some v1 ∧ V.cell? ⟨w.heap.size, 2, none⟩ = some v2) ∧ Below w.heap.size w V := by
  subst hV
  refine ⟨?_, ((h.b.setCell (Nat.le_refl _) _).setCell (Nat.le_refl _) _).setCell (Nat.le_refl _) _⟩
  have h1 := cur_set (j := 2) v2 (cur_set (j := 1) v1 (cur_set (j := 0) v0 h.x))
  refine ⟨?_, ?_, ?_⟩ <;> simp [World.cell?, h1]
end
theorem pre_83 {s : List UInt8} (h : Lib.hasPrefix s [83] = true) : s.take 1 = [83] := by
  cases s with
  | nil => simp [Lib.hasPrefix] at h
  | cons c l =>
    have : 83 = c := by simpa [Lib.hasPrefix] using h
    rw [← this]
    rfl
theorem pre_no {s : List UInt8} (h : Lib.hasPrefix s [83] = false) : ¬ s.take 1 = [83] := by
  intro e
  cases s with
  | nil => simp at e
  | cons c l =>
    have : c = 83 := by simpa using e
    subst this
    simp [Lib.hasPrefix] at h

set_option maxRecDepth 20000 in
set_option maxHeartbeats 4000000 in
theorem sread_any (s : List UInt8) (w : World) (hs : s.length ≤ 140737488355328) :
    Calls Tryd.prog 12 #[.string ⟨s.toArray⟩] w (ReadG s w) := by
  have Z0 := hide (ZB.new w)
  by_cases h5 : 5 ≤ s.length
  · obtain ⟨n, hn⟩ : ∃ n, s.length = n + 4 := ⟨s.length - 4, by omega⟩
    have hz : (ByteArray.mk s.toArray).size = n + 4 := (Lib.size_eq ⟨s.toArray⟩).trans hn
    have hn1 : 1 ≤ n := by omega
    have CP := hide (fun W => Tryd.strings_HasPrefix ⟨s.toArray⟩ ⟨#[83]⟩ W)
    cases hp : Lib.hasPrefix s [83] with
    | false =>
      have hB : rdE s = 2 := by
        rw [rdE, if_neg]
        have := pre_no hp
        simp [begB, this]
      have NO := hide (fun (e : Ending) w' => readG_no (s := s) (w := w) (w' := w') (e := e) hB (by decide))
      have FIN := hide (unhide NO _ _ rfl (unhide Z0).b)
      clear hB NO
      go_enter Tryd.func12, Tryd.ntmps12
      go_wp2_with fail
      refine (unhide CP _).mono ?_
      rintro e w1 ⟨rfl, rfl⟩
      have hp' : Lib.hasPrefix (ByteArray.mk s.toArray).data.toList (ByteArray.mk #[83]).data.toList = false := hp
      go_wp2_with fail
      exact bodyPost_ret (v := .tuple #[.agg #[.int .i64 0, .slice none 0 0, .slice none 0 0], .int .i64 2]) (by simp [results, Tryd.results12, go_sem]) rfl (unhide FIN)
    | true =>
      have hbeg : begB s = true := by simp [begB, h5, pre_83 hp]
      have hx1 : (ByteArray.mk s.toArray).extract 0 n = ⟨(s.take n).toArray⟩ := ex_front s n
      have hx2 : (ByteArray.mk s.toArray).extract n (n + 4) = ⟨(s.drop n).toArray⟩ := by
        have := ex_back s n
        rwa [hn] at this
      have hx3 : (ByteArray.mk s.toArray).extract 1 n = ⟨((s.take n).drop 1).toArray⟩ := ex_mid s n
      have hin : (s.take n).drop 1 = inT s := by rw [inT, hn]; rfl
      have hseal : sealB s = (sumN (s.take n) == un (s.drop n)) := by rw [sealB, hn]; rfl
      have l4 : (s.drop n).length = 4 := by rw [List.length_drop]; omega
      have CS := hide (fun W => sum_list (s.take n) (by rw [List.length_take]; omega) W)
      have CA := hide (fun W => along_any (s.drop n) W)
      have CN := hide (fun g W (h : Cur W g (s.drop n) false) => cnumber_any g 4 (s.drop n) false W (by omega) h)
      rw [List.take_of_length_le (by omega), w64_nat (by have := un_lt (s.drop n); rw [l4, p256_4] at this; omega)] at CN
      rw [hin] at hx3
      have CA2 := hide (fun W => along_any (inT s) W)
      have CU := hide (fun g W (h : Cur W g (inT s) false) => unfolded_any g (inT s) false W h)
      unfold UnfG at CU
      have hE : sealB s = false → rdE s = 5 := fun h => by rw [rdE, if_pos hbeg, if_neg (by rw [h]; decide)]
      have hE2 : sealB s = true → rdE s = bodE (inT s) ∧ rdT s = bodR (inT s) := fun h => ⟨by rw [rdE, if_pos hbeg, if_pos h], by rw [rdT, if_pos hbeg, if_pos h]⟩
      rw [hseal] at hE hE2
      have HE := hide hE
      have HE2 := hide hE2
      have i0 : (0 : Int) ≤ (n : Int) := by omega
      have i1 : (n : Int) ≤ (n : Int) + 4 := by omega
      have hne : decide ((n : Int) + 4 < 5) = false := decide_eq_false (by omega)
      clear hin hseal l4 hE hE2 hbeg
      go_enter Tryd.func12, Tryd.ntmps12
      go_wp2_with fail
      refine (unhide CP _).mono ?_
      rintro e w1 ⟨rfl, rfl⟩
      have hp' : Lib.hasPrefix (ByteArray.mk s.toArray).data.toList (ByteArray.mk #[83]).data.toList = true := hp
      clear CP
      go_upto_region 4 with fail
      obtain ⟨w1, hw1⟩ : ∃ w1, w.alloc (.cells #[.int .i64 0, .slice none 0 0, .slice none 0 0] 25) = w1 := ⟨_, rfl⟩
      rw [hw1] at Z0 ⊢
      have hl0 := (unhide Z0).lt
      clear hw1
      go_region_held3 (fun _ => True) (trivial) (first
        | (go_at_call 24; refine (unhide CS _).mono ?_; rintro e w2 ⟨rfl, rfl⟩)
        | (go_at_call 29; refine (unhide CA _).mono ?_; rintro e w3 ⟨rfl, rfl⟩)
        | (go_at_call 30; refine (unhide CN w1.heap.size (w1.alloc (.cells #[.string ⟨(s.drop n).toArray⟩, .bool false] 83)).drew (cur_new (s.drop n) w1)).mono ?_; rintro e w4 ⟨rfl, hc4, ho4⟩; have Z4 : Hid (ZB w w4) := hide (ZB.only ((unhide Z0).next (nnext (allocB _ _) (Below.refl _ _).drew)) ho4 hl0); clear hc4 ho4))
      by_cases hq : sumN (s.take n) = un (s.drop n)
      · have hqb : (((sumN (s.take n) : Nat) : Int) != ((un (s.drop n) : Nat) : Int)) = false := by rw [hq]; simp
        obtain ⟨eE, eT⟩ := unhide HE2 (by simp [hq])
        have HEE := hide eE
        have HET := hide eT
        clear HE HE2 eE eT CS CA CN
        go_wp2_with fail
        refine (unhide CA2 _).mono ?_
        rintro e w5 ⟨rfl, rfl⟩
        clear CA2
        have Z5 := hide ((unhide Z4).next (allocB w4 (.cells #[.string ⟨(inT s).toArray⟩, .bool false] 83)))
        have hl4 := (unhide Z4).lt
        clear Z4 Z0
        go_wp2_with fail
        refine (unhide CU w4.heap.size _ (cur_new (inT s) w4)).mono ?_
        rintro e w6 ⟨T, vn, vs, r', b', rfl, hn6, hs6, hR6, hc6, hp6, hw6, _⟩
        obtain ⟨na, nc, rfl, _⟩ := hn6.slice
        obtain ⟨sa, sc, rfl, _⟩ := hs6.slice
        have Z6 := hide ((unhide Z5).past hp6 hl4)
        have lw6 : w4.heap.size + 1 ≤ w6.heap.size := by have := hp6.size; simpa using this
        obtain ⟨WH1, WH2⟩ := rdok_whole hR6
        have HC7 := hide (hc6.kept (allocB w6 (.cells #[.int .i64 T.z, .slice na T.ns.length nc, .slice sa T.ss.length sc] 25)) (by omega))
        have Z7 := hide ((unhide Z6).next (allocB w6 (.cells #[.int .i64 T.z, .slice na T.ns.length nc, .slice sa T.ss.length sc] 25)))
        have HN7 := hide ((hn6.lower (C := w4.heap.size + 1) (by simp)).next (allocB w6 (.cells #[.int .i64 T.z, .slice na T.ns.length nc, .slice sa T.ss.length sc] 25)))
        have HS7 := hide ((hs6.lower (C := w4.heap.size + 1) (by simp)).next (allocB w6 (.cells #[.int .i64 T.z, .slice na T.ns.length nc, .slice sa T.ss.length sc] 25)))
        have T7 := hide (heap_alloc_new w6 (.cells #[.int .i64 T.z, .slice na T.ns.length nc, .slice sa T.ss.length sc] 25))
        have HWF := hide hw6
        have HW1 := hide WH1
        have HW2 := hide WH2
        clear CU Z5 Z6 hn6 hs6 hR6 hc6 hp6 hw6 WH1 WH2
        go_wp2_with fail
        obtain ⟨w7, hw7⟩ : ∃ w7, w6.alloc (.cells #[.int .i64 T.z, .slice na T.ns.length nc, .slice sa T.ss.length sc] 25) = w7 := ⟨_, rfl⟩
        rw [hw7] at HC7 Z7 HN7 HS7 T7 ⊢
        obtain ⟨q, hq6⟩ : ∃ q, w6.heap.size = q := ⟨_, rfl⟩
        rw [hq6] at T7 lw6 ⊢
        clear hw7 hq6
        obtain ⟨g5, hg5⟩ : ∃ g5, w4.heap.size = g5 := ⟨_, rfl⟩
        rw [hg5] at HC7 HN7 HS7 hl4 lw6 ⊢
        clear hg5
        refine (short_any g5 r' b' _ (unhide HC7)).mono ?_
        rintro e w8 ⟨rfl, rfl⟩
        cases b' with
        | true =>
          have hE2 : rdE s = 2 := (unhide HEE).trans (unhide HW1 (.inl rfl)).1
          have NO := hide (fun (e : Ending) w' => readG_no (s := s) (w := w) (w' := w') (e := e) hE2 (by decide))
          obtain ⟨⟨z0, z1, z2⟩, z3, z4, z5⟩ := (unhide Z7).cells
          obtain ⟨W9, hW9⟩ : ∃ V, V = (((w8.setCell ⟨w.heap.size, 0, none⟩ (.int .i64 0)).setCell ⟨w.heap.size, 1, none⟩ (.slice none 0 0)).setCell ⟨w.heap.size, 2, none⟩ (.slice none 0 0)) := ⟨_, rfl⟩
          obtain ⟨⟨t0, t1, t2⟩, hb9⟩ := (unhide Z7).fill _ _ _ hW9
          have FIN := hide (unhide NO _ W9 rfl hb9)
          have HW9 := hide hW9
          clear NO hb9 hW9
          clear HEE HET HW1 HW2 HWF hE2 HN7 HS7 T7 Z7 HC7
          go_wp2_with fail
          rw [← unhide HW9]
          exact bodyPost_ret (v := .tuple #[.agg #[.int .i64 0, .slice none 0 0, .slice none 0 0], .int .i64 2]) (by simp [results, Tryd.results12, go_sem, t0, t1, t2]) rfl (unhide FIN)
        | false =>
          have CL := hide (left_any g5 r' false w8 (unhide HC7))
          cases r' with
          | cons a l =>
            have hE2 : rdE s = 2 := (unhide HEE).trans (unhide HW1 (.inr (by simp))).1
            have NO := hide (fun (e : Ending) w' => readG_no (s := s) (w := w) (w' := w') (e := e) hE2 (by decide))
            obtain ⟨⟨z0, z1, z2⟩, z3, z4, z5⟩ := (unhide Z7).cells
            obtain ⟨W9, hW9⟩ : ∃ V, V = (((w8.setCell ⟨w.heap.size, 0, none⟩ (.int .i64 0)).setCell ⟨w.heap.size, 1, none⟩ (.slice none 0 0)).setCell ⟨w.heap.size, 2, none⟩ (.slice none 0 0)) := ⟨_, rfl⟩
            obtain ⟨⟨t0, t1, t2⟩, hb9⟩ := (unhide Z7).fill _ _ _ hW9
            have FIN := hide (unhide NO _ W9 rfl hb9)
            have HW9 := hide hW9
            clear NO hb9 hW9
            have hgt : (0 : Int) < (((a :: l).length : Nat) : Int) := by rw [List.length_cons]; omega
            obtain ⟨m, hm⟩ : ∃ m, (a :: l).length = m := ⟨_, rfl⟩
            rw [hm] at CL hgt
            clear HEE HET HW1 HW2 HWF hE2 HN7 HS7 T7 Z7 HC7 hm
            go_wp2_with fail
            refine (unhide CL).mono ?_
            rintro e w9 ⟨rfl, rfl⟩
            clear CL
            go_wp2_with fail
            rw [← unhide HW9]
            exact bodyPost_ret (v := .tuple #[.agg #[.int .i64 0, .slice none 0 0, .slice none 0 0], .int .i64 2]) (by simp [results, Tryd.results12, go_sem, t0, t1, t2]) rfl (unhide FIN)
          | nil =>
            have CG := hide (tgood_any T (.slice na T.ns.length nc) (.slice sa T.ss.length sc) w8 (unhide HN7).seq (unhide HS7).seq (unhide HWF))
            have d0 : w8.cell? ⟨q, 0, none⟩ = some (.int .i64 T.z) := by have h := unhide T7; simp [World.cell?, h]
            have d1 : w8.cell? ⟨q, 1, none⟩ = some (.slice na T.ns.length nc) := by have h := unhide T7; simp [World.cell?, h]
            have d2 : w8.cell? ⟨q, 2, none⟩ = some (.slice sa T.ss.length sc) := by have h := unhide T7; simp [World.cell?, h]
            obtain ⟨H3, H4⟩ := unhide HW2 rfl rfl
            have HH3 := hide H3
            have HH4 := hide H4
            clear H3 H4 HW1 HW2 HWF HC7
            go_wp2_with fail
            refine (unhide CL).mono ?_
            rintro e w9 ⟨rfl, rfl⟩
            clear CL
            go_wp2_with fail
            refine (unhide CG).mono ?_
            rintro e wa ⟨rfl, hba⟩
            have Za := hide ((unhide Z7).next hba)
            have HNa := hide ((unhide HN7).next hba)
            have HSa := hide ((unhide HS7).next hba)
            have hq8 := (Array.getElem?_eq_some_iff.1 (unhide T7)).1
            have e0 : wa.cell? ⟨q, 0, none⟩ = some (.int .i64 T.z) := (hba.cell (p := ⟨q, 0, none⟩) hq8).trans d0
            have e1 : wa.cell? ⟨q, 1, none⟩ = some (.slice na T.ns.length nc) := (hba.cell (p := ⟨q, 1, none⟩) hq8).trans d1
            have e2 : wa.cell? ⟨q, 2, none⟩ = some (.slice sa T.ss.length sc) := (hba.cell (p := ⟨q, 2, none⟩) hq8).trans d2
            clear CG hba Z7 HN7 HS7 T7 d0 d1 d2
            by_cases hg : goodT T = true
            · obtain ⟨k1, k2⟩ := unhide HH3 hg
              have k3 := (unhide HEE).trans k1
              have k4 := (unhide HET).trans k2
              obtain ⟨⟨z0, z1, z2⟩, z3, z4, z5⟩ := (unhide Za).cells
              obtain ⟨W9, hW9⟩ : ∃ V, V = ((wa.setCell ⟨w.heap.size, 0, none⟩ (.int .i64 T.z)).setCell ⟨w.heap.size, 1, none⟩ (.slice na T.ns.length nc)).setCell ⟨w.heap.size, 2, none⟩ (.slice sa T.ss.length sc) := ⟨_, rfl⟩
              obtain ⟨⟨t0, t1, t2⟩, hb9⟩ := (unhide Za).fill _ _ _ hW9
              have nn : (Value.slice na T.ns.length nc).ownBlock ≠ some w.heap.size := fun e => by have := own_lt (unhide HNa) e; omega
              have nm : (Value.slice sa T.ss.length sc).ownBlock ≠ some w.heap.size := fun e => by have := own_lt (unhide HSa) e; omega
              have FIN : Hid (ReadG s w (.returned (.tuple #[.agg #[.int .i64 T.z, .slice na T.ns.length nc, .slice sa T.ss.length sc], .int .i64 0])) W9) := hide (by
                refine ⟨.slice na T.ns.length nc, .slice sa T.ss.length sc, by rw [k3, k4], ?_, ?_, hb9⟩
                · rw [k4, hW9]
                  exact (((((unhide HNa).other nn _).other nn _).other nn _)).lower (by omega)
                · rw [k4, hW9]
                  exact (((((unhide HSa).other nm _).other nm _).other nm _)).lower (by omega))
              have HW9 := hide hW9
              have hqw : w.heap.size ≠ q := by omega
              rw [hg]
              clear k1 k2 k3 k4 hb9 hW9 HEE HET HH3 HH4 HNa HSa Za nn nm
              go_wp2_with fail
              rw [← unhide HW9]
              exact bodyPost_ret (v := .tuple #[.agg #[.int .i64 T.z, .slice na T.ns.length nc, .slice sa T.ss.length sc], .int .i64 0]) (by simp [results, Tryd.results12, go_sem, t0, t1, t2]) rfl (unhide FIN)
            · have hg' : goodT T = false := by simpa using hg
              have hE3 : rdE s = 3 := (unhide HEE).trans (unhide HH4 hg').1
              have NO := hide (fun (e : Ending) w' => readG_no (s := s) (w := w) (w' := w') (e := e) hE3 (by decide))
              obtain ⟨⟨z0, z1, z2⟩, z3, z4, z5⟩ := (unhide Za).cells
              obtain ⟨W9, hW9⟩ : ∃ V, V = (((wa.setCell ⟨w.heap.size, 0, none⟩ (.int .i64 0)).setCell ⟨w.heap.size, 1, none⟩ (.slice none 0 0)).setCell ⟨w.heap.size, 2, none⟩ (.slice none 0 0)) := ⟨_, rfl⟩
              obtain ⟨⟨t0, t1, t2⟩, hb9⟩ := (unhide Za).fill _ _ _ hW9
              have FIN := hide (unhide NO _ W9 rfl hb9)
              have HW9 := hide hW9
              clear NO hb9 hW9
              rw [hg']
              clear HEE HET HH3 HH4 HNa HSa Za hE3 hg hg'
              go_wp2_with fail
              rw [← unhide HW9]
              exact bodyPost_ret (v := .tuple #[.agg #[.int .i64 0, .slice none 0 0, .slice none 0 0], .int .i64 3]) (by simp [results, Tryd.results12, go_sem, t0, t1, t2]) rfl (unhide FIN)
      · have hqb : (((sumN (s.take n) : Nat) : Int) != ((un (s.drop n) : Nat) : Int)) = true := by simpa using fun e => hq (by omega)
        have hE5 := unhide HE (by simpa using hq)
        have NO := hide (fun (e : Ending) w' => readG_no (s := s) (w := w) (w' := w') (e := e) hE5 (by decide))
        obtain ⟨⟨z0, z1, z2⟩, z3, z4, z5⟩ := (unhide Z4).cells
        obtain ⟨W9, hW9⟩ : ∃ V, V = (((w4.setCell ⟨w.heap.size, 0, none⟩ (.int .i64 0)).setCell ⟨w.heap.size, 1, none⟩ (.slice none 0 0)).setCell ⟨w.heap.size, 2, none⟩ (.slice none 0 0)) := ⟨_, rfl⟩
        obtain ⟨⟨t0, t1, t2⟩, hb9⟩ := (unhide Z4).fill _ _ _ hW9
        have FIN := hide (unhide NO _ W9 rfl hb9)
        have HW9 := hide hW9
        clear NO hb9 hW9
        clear HE HE2 CS CA CN CA2 CU Z0 hE5
        go_wp2_with fail
        rw [← unhide HW9]
        exact bodyPost_ret (v := .tuple #[.agg #[.int .i64 0, .slice none 0 0, .slice none 0 0], .int .i64 5]) (by simp [results, Tryd.results12, go_sem, t0, t1, t2]) rfl (unhide FIN)
  · have h5' : (s.length : Int) < 5 := by omega
    have hE2 : rdE s = 2 := by rw [rdE, if_neg]; simp [begB]; omega
    have FIN := hide (readG_no (s := s) (w := w) hE2 (by decide) rfl (unhide Z0).b)
    have hz : (ByteArray.mk s.toArray).size = s.length := Lib.size_eq ⟨s.toArray⟩
    clear hE2
    go_enter Tryd.func12, Tryd.ntmps12
    go_wp2_with fail
    exact bodyPost_ret (v := .tuple #[.agg #[.int .i64 0, .slice none 0 0, .slice none 0 0], .int .i64 2]) (by simp [results, Tryd.results12, go_sem]) rfl (unhide FIN)
end Go.Proofs.YtmifdieofccjaaaDoor
