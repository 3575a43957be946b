/-
  snap.body and snap.Write: the walks.
  snap.Write: the walk.
-/
import Derived.Test.YtmifdieofccjaaaDoorMJ
import Derived.Test.YtmifdieofccjaaaDoorMD
import Derived.Test.YtmifdieofccjaaaDoorMI
namespace Go.Proofs.YtmifdieofccjaaaDoor
open Go.RowKit

theorem bld_next {W V : World} {B b : Nat} {l : List UInt8} (h : Bld B b l W) (hb : Below W.heap.size W V) : Bld B b l V := by
  have g : W.grownBy V none := ⟨hb.os, hb.tape, hb.output, hb.size, fun k hk _ => hb.block k hk⟩
  have one : ∀ p, BldAt B b p (Lib.byteCells l) W → BldAt B b p (Lib.byteCells l) V := by
    rintro p ⟨h1, v, hx, ho, hn⟩
    refine ⟨h1, v, (hb.block _ (Array.getElem?_eq_some_iff.1 hx).1).trans hx, ho.kept g ?_, hn⟩
    cases v.ownBlock with
    | none => exact .inl rfl
    | some k => exact .inr (by simp)
  rcases h with h | h
  · exact .inl (one _ h)
  · exact .inr (one _ h)
/-- the tree's box, the builder behind it -/
structure BS (w W : World) (z : Int) (vn vs : Value) (l : List UInt8) : Prop where
  t : W.heap[w.heap.size]? = some (.cells #[.int .i64 z, vn, vs] 25 (0, 0))
  bd : Bld (w.heap.size + 1) (w.heap.size + 1) l W
  sz : w.heap.size + 2 ≤ W.heap.size
  b : Below w.heap.size w W
section
variable {w W V : World} {z : Int} {vn vs : Value} {l r : List UInt8}
theorem BS.next (h : BS w W z vn vs l) (hb : Below W.heap.size W V) : BS w V z vn vs l :=
  ⟨(hb.block _ (by have := h.sz; omega)).trans h.t, bld_next h.bd hb, Nat.le_trans h.sz hb.size, nnext h.b hb⟩
theorem BS.cells (h : BS w W z vn vs l) : W.cell? ⟨w.heap.size, 0, none⟩ = some (.int .i64 z) ∧ W.cell? ⟨w.heap.size, 1, none⟩ = some vn ∧ W.cell? ⟨w.heap.size, 2, none⟩ = some vs := by
  have h1 := h.t
  refine ⟨?_, ?_, ?_⟩ <;> simp [World.cell?, h1]
theorem BS.more (h : BS w W z vn vs l) (hb : Bld (w.heap.size + 1) (w.heap.size + 1) (l ++ r) V) (hw : Below (w.heap.size + 1) W V) : BS w V z vn vs (l ++ r) :=
  ⟨(hw.block _ (by omega)).trans h.t, hb, Nat.le_trans h.sz hw.size, h.b.trans (hw.mono (by omega))⟩
theorem BS.write (h : BS w W z vn vs l) (hl : l.length + r.length ≤ 140737488355328) :
    Calls Tryd.prog 44 #[.pointer (some ⟨w.heap.size + 1, 0, none⟩), .string ⟨r.toArray⟩] W fun e w' => e = .returned (.tuple #[.int .i64 r.length, .nilIface]) ∧ BS w w' z vn vs (l ++ r) :=
  (bwrite_any (w.heap.size + 1) (w.heap.size + 1) l r W h.bd hl (by have := h.sz; omega)).mono fun _ _ ⟨h1, h2, h3⟩ => ⟨h1, h.more h2 h3⟩
end
theorem BS.new (w : World) (z : Int) (vn vs : Value) : BS w ((w.alloc (.cells #[.int .i64 z, vn, vs] 25)).alloc (.cells #[.pointer none, .slice none 0 0] 69)) z vn vs [] := by
  refine ⟨?_, .inl ⟨Nat.le_refl _, .slice none 0 0, ?_, ?_, by simp [Value.ownBlock]⟩, by simp, nnext (allocB _ _) (allocB _ _)⟩
  · rw [(allocB _ _).block _ (by simp)]
    exact heap_alloc_new w _
  · have h := heap_alloc_new (w.alloc (.cells #[.int .i64 z, vn, vs] 25)) (.cells #[.pointer none, .slice none 0 0] 69)
    rw [show (w.alloc (.cells #[.int .i64 z, vn, vs] 25)).heap.size = w.heap.size + 1 by simp] at h
    exact h
  · exact ⟨rfl, .inl ⟨rfl, rfl⟩⟩
theorem nums_len (w : Nat) : ∀ l : List Int, (numsL w l).length = l.length * w
  | [] => by simp [numsL]
  | y :: l => by
    have h := nums_len w l
    show (be w y.toNat ++ numsL w l).length = (l.length + 1) * w
    rw [List.length_append, be_length, h, Nat.add_mul]
    omega
theorem nod_len {n : Nd} (f : Fit n) : (nodL n).length ≤ 66000 := by
  have h1 := f.p
  have h2 := f.d
  have h3 := nums_len 8 (statI n)
  have h4 : (statI n).length = 7 := rfl
  simp only [nodL, List.length_append, be_length]
  omega
theorem nods_len : ∀ l : List Nd, (∀ n ∈ l, Fit n) → (nodsL l).length ≤ l.length * 66000
  | [], _ => by simp [nodsL]
  | n :: l, h => by
    have h1 := nods_len l fun m hm => h m (List.mem_cons_of_mem _ hm)
    have h2 := nod_len (h n (List.mem_cons_self ..))
    show (nodL n ++ nodsL l).length ≤ (l.length + 1) * 66000
    rw [List.length_append]
    omega
theorem num_int {y : Int} (k : Nat) (kk : Int) (hk : kk = k) (h0 : 0 ≤ y) (h1 : y < 9223372036854775808) (h8 : k ≤ 8) (W : World) :
    Calls Tryd.prog 23 #[.int .i64 y, .int .i64 kk] W fun e w' => e = .returned (.string ⟨(be k y.toNat).toArray⟩) ∧ Below W.heap.size W w' := by
  have h := number_any y.toNat k W (by omega) h8
  rw [Int.toNat_of_nonneg h0] at h
  rw [hk]
  exact h

set_option maxRecDepth 20000 in
set_option maxHeartbeats 4000000 in
theorem sbody_any (t : Tr) (vn vs : Value) (w : World) (hn : SeqV w vn t.ns) (hs : SeqV w vs t.ss) (g : GoodT t) :
    Calls Tryd.prog 22 #[.agg #[.int .i64 t.z, vn, vs]] w fun e w' => e = .returned (.string ⟨(bodT t).toArray⟩) ∧ Below w.heap.size w w' := by
  have hz := zGood_iff.1 g.zx
  have few := g.nod.few
  have many := sasc_len g.ses
  have HB0 := hide (BS.new w t.z vn vs)
  have HFit := hide (fit_good g)
  have HSes := hide g.ses.2
  have HBod : Hid (bodT t = be 8 t.z.toNat ++ (be 4 t.ss.length ++ (numsL 4 t.ss ++ (be 4 t.ns.length ++ nodsL t.ns)))) := hide rfl
  have C0 := hide (fun W => num_int (y := t.z) 8 8 rfl (by omega) (by omega) (by omega) W)
  have C1 := hide (fun W => num_int (y := (t.ss.length : Int)) 4 4 rfl (by omega) (by omega) (by omega) W)
  have C2 := hide (fun W => num_int (y := (t.ns.length : Int)) 4 4 rfl (by omega) (by omega) (by omega) W)
  have HN := hide hn
  have HS := hide hs
  obtain ⟨na, nc, rfl⟩ := seq_slice hn
  obtain ⟨sa, sc, rfl⟩ := seq_slice hs
  clear hn hs
  go_enter Tryd.func22, Tryd.ntmps22
  go_wp2_with fail
  refine (unhide C0 _).mono ?_
  rintro e w1 ⟨rfl, hb1⟩
  have S1 := hide ((unhide HB0).next hb1)
  clear hb1 HB0 C0
  have lz := be_length 8 t.z.toNat
  obtain ⟨bz, ez⟩ : ∃ b, be 8 t.z.toNat = b := ⟨_, rfl⟩
  rw [ez] at lz HBod ⊢
  clear ez
  go_wp2_with fail
  refine ((unhide S1).write (r := bz) (by simp; omega)).mono ?_
  rintro e w2 ⟨rfl, hS2⟩
  rw [List.nil_append] at hS2
  have S2 := hide hS2
  clear hS2 S1
  obtain ⟨c0, c1, c2⟩ := (unhide S2).cells
  go_wp2_with fail
  refine (unhide C1 _).mono ?_
  rintro e w3 ⟨rfl, hb3⟩
  have S3 := hide ((unhide S2).next hb3)
  clear hb3 S2 c0 c1 c2 C1
  rw [Int.toNat_natCast]
  have ls := be_length 4 t.ss.length
  obtain ⟨bs, es⟩ : ∃ b, be 4 t.ss.length = b := ⟨_, rfl⟩
  rw [es] at ls HBod ⊢
  clear es
  go_wp2_with fail
  refine ((unhide S3).write (r := bs) (by omega)).mono ?_
  rintro e w4 ⟨rfl, hS4⟩
  have S4 := hide hS4
  clear hS4 S3
  obtain ⟨c0, c1, c2⟩ := (unhide S4).cells
  go_wp2_with fail
  clear c0 c1 c2
  go_loopg [20] t.ss.length (fun kx s20 wr => ∃ (k : Nat), s20 = .int .i64 k ∧ k ≤ t.ss.length ∧ t.ss.length - k ≤ kx ∧ Hid (BS w wr t.z (.slice na t.ns.length nc) (.slice sa t.ss.length sc) (bz ++ bs ++ numsL 4 (t.ss.take k))))
  case atStart => exact ⟨0, rfl, Nat.zero_le _, Nat.le_refl _, hide (by simpa [numsL] using unhide S4)⟩
  case round =>
    obtain ⟨k, rfl, hk, hgk, hS⟩ := hrel
    clear S4
    by_cases hlt : k < t.ss.length
    · obtain ⟨y, hy⟩ : ∃ y, t.ss[k]? = some y := ⟨_, List.getElem?_eq_getElem hlt⟩
      have hyb := unhide HSes y (List.mem_of_getElem? hy)
      obtain ⟨rb, ro, rc, he, hrbl, hrow, _, _⟩ := seq_row ((unhide HS).next (unhide hS).b) (by intro h0; rw [h0] at hy; simp at hy)
      simp only [Value.slice.injEq] at he
      obtain ⟨rfl, _, rfl⟩ := he
      have q0 := hrow.i0 hy
      have HT : Hid (bz ++ bs ++ numsL 4 (t.ss.take k) ++ be 4 y.toNat = bz ++ bs ++ numsL 4 (t.ss.take (k + 1))) := hide (by
        rw [List.take_add_one, hy]
        simp [numsL])
      have CN := hide (num_int (y := y) 4 4 rfl (by omega) (by omega) (by omega) wr)
      have lb := be_length 4 y.toNat
      have ln : (numsL 4 (t.ss.take k)).length ≤ 8589934592 := by rw [nums_len, List.length_take]; omega
      obtain ⟨b, hb⟩ : ∃ b, be 4 y.toNat = b := ⟨_, rfl⟩
      rw [hb] at lb CN HT
      clear hb hy hyb hrow
      have hk0 : (0 : Int) ≤ (k : Int) := by omega
      have hk1 : (k : Int) < (t.ss.length : Int) := by omega
      go_wp2_with fail
      refine (unhide CN).mono ?_
      rintro e w5 ⟨rfl, hb5⟩
      have hS5 := hide ((unhide hS).next hb5)
      clear hb5 CN hS q0
      go_wp2_with fail
      refine ((unhide hS5).write (r := b) (by simp only [List.length_append]; omega)).mono ?_
      rintro e w6 ⟨rfl, hS6⟩
      rw [unhide HT] at hS6
      have HS6 := hide hS6
      clear hS6 hS5 HT
      go_wp2_with fail
      go_roundg (t.ss.length - (k + 1))
      case measure => omega
      case rel => exact ⟨k + 1, rfl, by omega, Nat.le_refl _, HS6⟩
    · obtain rfl : k = t.ss.length := by omega
      rw [List.take_length] at hS
      have ln : (numsL 4 t.ss).length ≤ 8589934592 := by rw [nums_len]; omega
      obtain ⟨P, hP⟩ : ∃ P, bz ++ bs ++ numsL 4 t.ss = P := ⟨_, rfl⟩
      have lP : P.length ≤ 8589934604 := by rw [← hP]; simp only [List.length_append]; omega
      have HBod2 : Hid (bodT t = P ++ (be 4 t.ns.length ++ nodsL t.ns)) := hide (by rw [unhide HBod, ← hP]; simp only [List.append_assoc])
      rw [hP] at hS
      clear hP HBod HSes HS ln lz ls
      obtain ⟨c0, c1, c2⟩ := (unhide hS).cells
      go_wp2_with fail
      refine (unhide C2 _).mono ?_
      rintro e w5 ⟨rfl, hb5⟩
      have S5 := hide ((unhide hS).next hb5)
      clear hb5 hS c0 c1 c2 C2
      rw [Int.toNat_natCast]
      have lc := be_length 4 t.ns.length
      obtain ⟨bc, ec⟩ : ∃ b, be 4 t.ns.length = b := ⟨_, rfl⟩
      rw [ec] at lc HBod2 ⊢
      clear ec
      go_wp2_with fail
      refine ((unhide S5).write (r := bc) (by omega)).mono ?_
      rintro e w6 ⟨rfl, hS6⟩
      have S6 := hide hS6
      clear hS6 S5
      obtain ⟨c0, c1, c2⟩ := (unhide S6).cells
      go_wp2_with fail
      clear c0 c1 c2
      go_loopg [36] t.ns.length (fun kx s36 wr => ∃ (k : Nat), s36 = .int .i64 k ∧ k ≤ t.ns.length ∧ t.ns.length - k ≤ kx ∧ Hid (BS w wr t.z (.slice na t.ns.length nc) (.slice sa t.ss.length sc) (P ++ bc ++ nodsL (t.ns.take k))))
      case atStart => exact ⟨0, rfl, Nat.zero_le _, Nat.le_refl _, hide (by simpa [nodsL] using unhide S6)⟩
      case round =>
        obtain ⟨k, rfl, hk, hgk, hS⟩ := hrel
        clear S6
        by_cases hlt : k < t.ns.length
        · obtain ⟨n, hy⟩ : ∃ n, t.ns[k]? = some n := ⟨_, List.getElem?_eq_getElem hlt⟩
          have fit := unhide HFit n (List.mem_of_getElem? hy)
          have lk := nods_len (t.ns.take k) fun m hm => unhide HFit m (List.mem_of_mem_take hm)
          rw [List.length_take] at lk
          have ll := nod_len fit
          obtain ⟨rb, ro, rc, he, hrbl, hrow, _, _⟩ := seq_row ((unhide HN).next (unhide hS).b) (by intro h0; rw [h0] at hy; simp at hy)
          simp only [Value.slice.injEq] at he
          obtain ⟨rfl, _, rfl⟩ := he
          have y0 := hrow.n0 hy
          have y1 := hrow.n1 hy
          have y2 := hrow.n2 hy
          have y3 := hrow.n3 hy
          have y4 := hrow.n4 hy
          have y5 := hrow.n5 hy
          have y6 := hrow.n6 hy
          have y7 := hrow.n7 hy
          have y8 := hrow.n8 hy
          have HT : Hid (P ++ bc ++ nodsL (t.ns.take k) ++ nodL n = P ++ bc ++ nodsL (t.ns.take (k + 1))) := hide (by
            rw [List.take_add_one, hy]
            simp [nodsL])
          have CF := hide (fun W => folded_any n W fit)
          obtain ⟨b, hb⟩ : ∃ b, nodL n = b := ⟨_, rfl⟩
          rw [hb] at CF HT ll
          clear hb hy hrow fit
          have hk0 : (0 : Int) ≤ (k : Int) := by omega
          have hk1 : (k : Int) < (t.ns.length : Int) := by omega
          go_wp2_with fail
          refine (unhide CF _).mono ?_
          rintro e w7 ⟨rfl, hb7⟩
          have hS7 := hide ((unhide hS).next (nbox_then hb7))
          clear hb7 CF hS y0 y1 y2 y3 y4 y5 y6 y7 y8
          go_wp2_with fail
          refine ((unhide hS7).write (r := b) (by simp only [List.length_append]; omega)).mono ?_
          rintro e w8 ⟨rfl, hS8⟩
          rw [unhide HT] at hS8
          have HS8 := hide hS8
          clear hS8 hS7 HT
          go_wp2_with fail
          go_roundg (t.ns.length - (k + 1))
          case measure => omega
          case rel => exact ⟨k + 1, rfl, by omega, Nat.le_refl _, HS8⟩
        · obtain rfl : k = t.ns.length := by omega
          rw [List.take_length, List.append_assoc, ← unhide HBod2] at hS
          have hne : bodT t ≠ [] := by
            intro h0
            have := congrArg List.length (unhide HBod2)
            rw [h0, List.length_append, List.length_append, List.length_nil] at this
            omega
          have CS := hide (Tryd.Builder_String (w.heap.size + 1) (w.heap.size + 1) (bodT t) wr (unhide hS).bd hne)
          clear hne
          go_wp2_with fail
          refine (unhide CS).mono ?_
          rintro e w9 ⟨rfl, hb9⟩
          have B9 := hide ((unhide hS).b.trans (hb9.mono (Nat.le_succ _)))
          clear hb9 CS
          go_wp2_with fail
          go_ret
          exact ⟨rfl, unhide B9⟩
end Go.Proofs.YtmifdieofccjaaaDoor

namespace Go.Proofs.YtmifdieofccjaaaDoor
open Go.RowKit

theorem bod_len {t : Tr} (g : GoodT t) : (bodT t).length ≤ 17179869184 := by
  have few := g.nod.few
  have many := sasc_len g.ses
  have h1 := nums_len 4 t.ss
  have h2 := nods_len t.ns (fit_good g)
  simp only [bodT, List.length_append, be_length]
  omega
theorem ret_sE {a b : ByteArray} {i j : Int} (h : a = b) (h' : i = j) : Ending.returned (.tuple #[.string a, .int .i64 i]) = .returned (.tuple #[.string b, .int .i64 j]) := by rw [h, h']

theorem sum_list (l : List UInt8) (hl : l.length ≤ 140737488355328) (W : World) :
    Calls Tryd.prog 24 #[.string ⟨l.toArray⟩] W fun e w' => e = .returned (.int .i64 (sumN l : Nat)) ∧ w' = W :=
  wsum_any ⟨l.toArray⟩ W (by rw [Lib.size_eq]; exact hl)

set_option maxRecDepth 20000 in
set_option maxHeartbeats 2000000 in
theorem swrite_any (t : Tr) (vn vs : Value) (w : World) (hn : SeqV w vn t.ns) (hs : SeqV w vs t.ss) (hw : WfT t) :
    Calls Tryd.prog 9 #[.agg #[.int .i64 t.z, vn, vs]] w fun e w' => e = .returned (.tuple #[.string ⟨(wrS t).toArray⟩, .int .i64 (wrE t)]) ∧ Below w.heap.size w w' := by
  have CG := hide (fun W (hW : Below w.heap.size w W) => tgood_any t vn vs W (hn.next hW) (hs.next hW) hw)
  have HT := hide (heap_alloc_new w (.cells #[.int .i64 t.z, vn, vs] 25))
  obtain ⟨na, nc, rfl⟩ := seq_slice hn
  obtain ⟨sa, sc, rfl⟩ := seq_slice hs
  by_cases hg : goodT t = true
  · have g := goodT_true.1 hg
    have hE : wrE t = 0 := by rw [wrE, if_pos hg]
    have hS : wrS t = snapL t := by rw [wrS, if_pos hg]
    rw [hE, hS]
    rw [hg] at CG
    have CB := hide (fun W (hW : Below w.heap.size w W) => sbody_any t (.slice na t.ns.length nc) (.slice sa t.ss.length sc) W (hn.next hW) (hs.next hW) g)
    have lb := bod_len g
    have HA : Hid (ByteArray.mk #[83] ++ ByteArray.mk (bodT t).toArray = ⟨(aheadT t).toArray⟩) := hide (by
      have := cat_two [83] (bodT t)
      exact this)
    have HP : Hid (ByteArray.mk (aheadT t).toArray ++ ByteArray.mk (be 4 (sumN (aheadT t))).toArray = ⟨(snapL t).toArray⟩) := hide (cat_two _ _)
    have la : (aheadT t).length = (bodT t).length + 1 := rfl
    have hzb : (ByteArray.mk (bodT t).toArray).size = (bodT t).length := Lib.size_eq ⟨(bodT t).toArray⟩
    have hza : (ByteArray.mk (aheadT t).toArray).size = (aheadT t).length := Lib.size_eq ⟨(aheadT t).toArray⟩
    have hsl := sumN_lt (aheadT t)
    have l4 := be_length 4 (sumN (aheadT t))
    have CS := hide (fun W => sum_list (aheadT t) (by omega) W)
    have CN := hide (fun W => num_int (y := (sumN (aheadT t) : Int)) 4 4 rfl (by omega) (by omega) (by omega) W)
    simp only [Int.toNat_natCast] at CN
    generalize bodT t = B at *
    generalize aheadT t = A at *
    generalize sumN A = S at *
    generalize be 4 S = M at *
    generalize snapL t = L at *
    have hzM : (ByteArray.mk M.toArray).size = M.length := Lib.size_eq ⟨M.toArray⟩
    clear hn hs hE hS hg g hw
    go_enter Tryd.func9, Tryd.ntmps9
    go_wp2_with fail
    refine (unhide CG _ (allocB _ _)).mono ?_
    rintro e w1 ⟨rfl, hb1⟩
    have B1 := hide (nbox_then hb1)
    have T1 := hide ((hb1.block _ (by simp)).trans (unhide HT))
    have c0 : w1.cell? ⟨w.heap.size, 0, none⟩ = some (.int .i64 t.z) := by have h := unhide T1; simp [World.cell?, h]
    have c1 : w1.cell? ⟨w.heap.size, 1, none⟩ = some (.slice na t.ns.length nc) := by have h := unhide T1; simp [World.cell?, h]
    have c2 : w1.cell? ⟨w.heap.size, 2, none⟩ = some (.slice sa t.ss.length sc) := by have h := unhide T1; simp [World.cell?, h]
    clear hb1 CG HT T1
    go_wp2_with fail
    refine (unhide CB _ (unhide B1)).mono ?_
    rintro e w2 ⟨rfl, hb2⟩
    have B2 := hide (nnext (unhide B1) hb2)
    clear hb2 CB B1 c0 c1 c2
    go_wp2_with fail
    rw [unhide HA]
    refine (unhide CS _).mono ?_
    rintro e w3 ⟨rfl, rfl⟩
    clear CS HA
    go_wp2_with fail
    refine (unhide CN _).mono ?_
    rintro e w4 ⟨rfl, hb4⟩
    have B4 := hide (nnext (unhide B2) hb4)
    clear hb4 CN B2
    go_wp2_with fail
    rw [unhide HP]
    go_ret2
    exact ⟨rfl, unhide B4⟩
  · have hg' : goodT t = false := by simpa using hg
    have hE : wrE t = 3 := by rw [wrE, if_neg hg]
    have hS : wrS t = [] := by rw [wrS, if_neg hg]
    rw [hE, hS]
    rw [hg'] at CG
    clear hn hs hE hS hg hg' hw HT
    go_enter Tryd.func9, Tryd.ntmps9
    go_wp2_with fail
    refine (unhide CG _ (allocB _ _)).mono ?_
    rintro e w1 ⟨rfl, hb1⟩
    have B1 := hide (nbox_then hb1)
    clear hb1 CG
    go_wp2_with fail
    go_ret2
    exact ⟨rfl, unhide B1⟩
end Go.Proofs.YtmifdieofccjaaaDoor
