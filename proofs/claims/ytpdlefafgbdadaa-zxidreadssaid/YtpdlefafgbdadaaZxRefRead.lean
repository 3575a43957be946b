/-
  What aviaryref.ReadZxid answers, for every text: the walk.
-/
import Derived.Test.YtpdlefafgbdadaaZxDec
import Derived.Test.YtpdlefafgbdadaaZxRefMake
import Derived.Lib.ConvBytes
import Derived.Lib.Strings
import Derived.RegionTactic
namespace Go.Proofs.Ytpdlefafgbdadaa
open Go.RowKit

theorem zbytes_below (w : World) (e : TypeId) (s : ByteArray) : Below w.heap.size w (Lib.bytesWorld w e s) :=
  ⟨rfl, rfl, rfl, by rw [Lib.bytesWorld_size]; omega, fun k hk => Lib.bytesWorld_at_old w e s k hk⟩
theorem zbytes_cell (w : World) (e : TypeId) (s : ByteArray) (l : List UInt8) (h : s.data.toList = l) (j : Nat) (hj : j < l.length) : (Lib.bytesWorld w e s).cell? ⟨w.heap.size, j, none⟩ = some (.int .u8 (l[j].toNat : Int)) := by
  subst h
  rw [Lib.bytesWorld_cell _ _ _ _ (by rw [Lib.size_eq]; exact hj), List.getD_eq_getElem?_getD, List.getElem?_eq_getElem hj]; rfl

theorem rd_split {l : List UInt8} {d : Nat} (h : l[d]? = some 46) : l = l.take d ++ 46 :: l.drop (d + 1) := by
  obtain ⟨hd, he⟩ := List.getElem?_eq_some_iff.1 h
  have h1 := List.take_append_drop d l
  rw [List.drop_eq_getElem_cons hd, he] at h1
  exact h1.symm
theorem not_part {l : List UInt8} {c : UInt8} (h : c ∈ l) (h1 : isD c = false) : partB l = false := by
  refine partB_no (fun hh => ?_)
  have := List.all_eq_true.1 hh.2.2.2 c h
  rw [h1] at this
  exact absurd this (by decide)
theorem rd_bad {l : List UInt8} {c : UInt8} {k : Nat} (h : l[k]? = some c) (h1 : c ≠ 46) (h2 : isD c = false) : zRead l = 0 ∧ zReadE l = 2 := by
  have hm : c ∈ l := List.mem_of_getElem? h
  rcases dot_cases l with hd | ⟨a, b, rfl, hd⟩
  · exact zRead_no (.inl (by rw [(cut_miss hd).1]; exact not_part hm h2))
  · rcases List.mem_append.1 hm with hm | hm
    · exact zRead_no (.inl (by rw [(cut_hit hd).1]; exact not_part hm h2))
    · rcases List.mem_cons.1 hm with hm | hm
      · exact absurd hm h1
      · exact zRead_no (.inr (by rw [(cut_hit hd).2]; exact not_part hm h2))
theorem rd_cut {l : List UInt8} {d : Nat} (hd : l[d]? = some 46) (ha : (l.take d).all isD = true) : cutA l = l.take d ∧ cutZ l = l.drop (d + 1) := by
  have h := cut_hit (a := l.take d) (b := l.drop (d + 1)) (isD_dot ha)
  rw [← rd_split hd] at h
  exact h
theorem rd_two {l : List UInt8} {d k : Nat} (hd : l[d]? = some 46) (ha : (l.take d).all isD = true) (hk : d < k) (h : l[k]? = some 46) : zRead l = 0 ∧ zReadE l = 2 := by
  refine zRead_no (.inr ?_)
  rw [(rd_cut hd ha).2]
  refine not_part (c := 46) ?_ (by decide)
  refine List.mem_of_getElem? (i := k - (d + 1)) ?_
  rw [List.getElem?_drop, show d + 1 + (k - (d + 1)) = k from by omega]
  exact h
theorem rd_none {l : List UInt8} (h : l.all isD = true) : zRead l = 0 ∧ zReadE l = 2 :=
  zRead_no (.inr (by rw [(cut_miss (isD_dot h)).2]; rfl))
theorem all_take_n {l : List UInt8} {k : Nat} {c : UInt8} (h : l[k]? = some c) (h1 : (l.take k).all isD = true) (h2 : isD c = true) : (l.take (k + 1)).all isD = true := by
  rw [List.take_add_one, h, List.all_append, h1]
  simpa using h2
theorem all_drop_of {l : List UInt8} {d : Nat} (h : ∀ j, d < j → j < l.length → ∃ c, l[j]? = some c ∧ isD c = true) : (l.drop (d + 1)).all isD = true := by
  rw [List.all_eq_true]
  intro c hc
  obtain ⟨i, hi⟩ := List.getElem?_of_mem hc
  rw [List.getElem?_drop] at hi
  have hlt := (List.getElem?_eq_some_iff.1 hi).1
  obtain ⟨c', h1, h2⟩ := h (d + 1 + i) (by omega) hlt
  rw [hi] at h1
  cases h1
  exact h2
theorem rd_front (l : List UInt8) (d : Nat) : (ByteArray.mk l.toArray).extract 0 d = ⟨(l.take d).toArray⟩ := by
  apply ByteArray.ext
  apply Array.toList_inj.1
  have h := Lib.extract_toList (ByteArray.mk l.toArray) 0 d
  rw [Lib.toList_data] at h
  refine h.trans ?_
  show (l.drop 0).take (d - 0) = _
  simp
theorem rd_back (l : List UInt8) (d : Nat) : (ByteArray.mk l.toArray).extract (d + 1) l.length = ⟨(l.drop (d + 1)).toArray⟩ := by
  apply ByteArray.ext
  apply Array.toList_inj.1
  have h := Lib.extract_toList (ByteArray.mk l.toArray) (d + 1) l.length
  rw [Lib.toList_data] at h
  refine h.trans ?_
  show (l.drop (d + 1)).take (l.length - (d + 1)) = l.drop (d + 1)
  exact List.take_of_length_le (by simp)
/-- how far the first loop has come: no dot yet, or one -/
def rdAt (l : List UInt8) (k : Nat) (D : Value) : Prop :=
  (D = .int .i64 (-1) ∧ (l.take k).all isD = true) ∨ ∃ d : Nat, D = .int .i64 d ∧ d < k ∧ (l.take d).all isD = true ∧ l[d]? = some 46 ∧ ∀ j, d < j → j < k → ∃ c, l[j]? = some c ∧ isD c = true
theorem zint {a b : Int} (h : a = b) : Value.int .i64 a = .int .i64 b := by rw [h]

theorem zalloc_new (w : World) (o : Obj) : (w.alloc o).heap[w.heap.size]? = some o := by
  show (w.heap.push o)[w.heap.size]? = _
  simp
theorem zsize_setCell (w : World) (a : Addr) (v : Value) : (w.setCell a v).heap.size = w.heap.size := by
  show (w.heap.modify a.block _).size = _
  rw [Array.size_modify]
theorem zheap_setCell_same {w : World} {g j : Nat} {cur : Array Value} {t : TypeId} {fz : Nat × Nat} (v : Value) (h : w.heap[g]? = some (.cells cur t fz)) :
    (w.setCell ⟨g, j, none⟩ v).heap[g]? = some (.cells (cur.setIfInBounds j v) t fz) := by
  obtain ⟨hlt, hk⟩ := Array.getElem?_eq_some_iff.1 h
  show (w.heap.modify g _)[g]? = _
  rw [Array.getElem?_eq_getElem (by rw [Array.size_modify]; exact hlt), Array.getElem_modify_self, hk]
  rfl
/-- the two cells of n, and the two texts -/
def rdPair (W : World) (g : Nat) (x y : Int) : Prop := W.heap[g + 1]? = some (.cells #[.int .i64 x, .int .i64 y] 39 (0, 0))
def rdTexts (W : World) (g : Nat) (a b : List UInt8) : Prop := W.heap[g + 1 + 1]? = some (.cells #[.string ⟨a.toArray⟩, .string ⟨b.toArray⟩] 9 (0, 0))
theorem rdPair.c0 {W : World} {g : Nat} {x y : Int} (h : rdPair W g x y) : W.cell? ⟨g + 1, 0, none⟩ = some (.int .i64 x) := by unfold rdPair at h; simp [World.cell?, h]
theorem rdPair.c1 {W : World} {g : Nat} {x y : Int} (h : rdPair W g x y) : W.cell? ⟨g + 1, 1, none⟩ = some (.int .i64 y) := by unfold rdPair at h; simp [World.cell?, h]
theorem rdPair.f0 {W : World} {g : Nat} {x y : Int} (h : rdPair W g x y) : W.frozen? ⟨g + 1, 0, none⟩ = false := by unfold rdPair at h; simp [World.frozen?, h]
theorem rdPair.f1 {W : World} {g : Nat} {x y : Int} (h : rdPair W g x y) : W.frozen? ⟨g + 1, 1, none⟩ = false := by unfold rdPair at h; simp [World.frozen?, h]
theorem rdPair.s0 {W : World} {g : Nat} {x y : Int} (h : rdPair W g x y) (z : Int) : rdPair (W.setCell ⟨g + 1, 0, none⟩ (.int .i64 z)) g z y := zheap_setCell_same _ h
theorem rdPair.s1 {W : World} {g : Nat} {x y : Int} (h : rdPair W g x y) (z : Int) : rdPair (W.setCell ⟨g + 1, 1, none⟩ (.int .i64 z)) g x z := zheap_setCell_same _ h
theorem rdPair.kept {W V : World} {g : Nat} {x y : Int} (h : rdPair W g x y) {B : Nat} (hb : Below B W V) (hg : g + 3 ≤ B) : rdPair V g x y := (hb.block _ (by omega)).trans h
theorem rdTexts.c0 {W : World} {g : Nat} {a b : List UInt8} (h : rdTexts W g a b) : W.cell? ⟨g + 1 + 1, 0, none⟩ = some (.string ⟨a.toArray⟩) := by unfold rdTexts at h; simp [World.cell?, h]
theorem rdTexts.c1 {W : World} {g : Nat} {a b : List UInt8} (h : rdTexts W g a b) : W.cell? ⟨g + 1 + 1, 1, none⟩ = some (.string ⟨b.toArray⟩) := by unfold rdTexts at h; simp [World.cell?, h]
theorem rdTexts.kept {W V : World} {g : Nat} {a b : List UInt8} (h : rdTexts W g a b) {B : Nat} (hb : Below B W V) (hg : g + 3 ≤ B) : rdTexts V g a b := (hb.block _ (by omega)).trans h
theorem rdTexts.set {W : World} {g : Nat} {a b : List UInt8} (h : rdTexts W g a b) (j : Nat) (v : Value) : rdTexts (W.setCell ⟨g + 1, j, none⟩ v) g a b :=
  (Below.heap_setCell _ _ _ _ (by show g + 1 + 1 ≠ g + 1; omega)).trans h
/-- how far the second loop has come -/
def rdDone (W : World) (g : Nat) (a b : List UInt8) (k : Nat) : Prop :=
  ∃ x y : Int, rdPair W g x y ∧ ((k = 0 ∧ x = 0 ∧ y = 0) ∨ (k = 1 ∧ partB a = true ∧ x = num a ∧ y = 0) ∨ (k = 2 ∧ partB a = true ∧ partB b = true ∧ x = num a ∧ y = num b))
theorem num_take_n {l : List UInt8} {k : Nat} (h : k < l.length) : num (l.take (k + 1)) = 10 * num (l.take k) + (l[k].toNat - 48) := by
  rw [List.take_succ_eq_append_getElem h, num_snoc]
theorem all_take_of {l : List UInt8} (h : l.all isD = true) (k : Nat) : (l.take k).all isD = true := by
  rw [List.all_eq_true] at h ⊢
  exact fun c hc => h c (List.mem_of_mem_take hc)
theorem num_take_small {l : List UInt8} (h : l.all isD = true) {k : Nat} (hk : k < 10) : num (l.take k) < 1000000000 := by
  have h1 := num_lt _ (all_take_of h k)
  have h2 : (l.take k).length ≤ 9 := by rw [List.length_take]; omega
  have h3 : 10 ^ (l.take k).length ≤ 10 ^ 9 := Nat.pow_le_pow_right (by decide) h2
  have h4 : (10 : Nat) ^ 9 = 1000000000 := by decide
  omega
theorem num_ten {l : List UInt8} (h : l.all isD = true) (hk : l.length ≤ 10) : num l < 10000000000 := by
  have h1 := num_lt _ h
  have h3 : 10 ^ l.length ≤ 10 ^ 10 := Nat.pow_le_pow_right (by decide) hk
  have h4 : (10 : Nat) ^ 10 = 10000000000 := by decide
  omega
theorem isD_at {l : List UInt8} (h : l.all isD = true) {k : Nat} (hk : k < l.length) : 48 ≤ l[k].toNat ∧ l[k].toNat ≤ 57 :=
  isD_iff.1 (List.all_eq_true.1 h _ (List.getElem_mem hk))

set_option maxHeartbeats 1000000 in
theorem rread_any (l : List UInt8) (w : World) (hl : l.length ≤ 140737488355328) :
    Calls Try.prog 13 #[.string ⟨l.toArray⟩] w fun e w' => e = .returned (.tuple #[.int .i64 (zRead l), .int .i64 (zReadE l)]) ∧ Below w.heap.size w w' := by
  have hz : (ByteArray.mk l.toArray).size = l.length := Lib.size_eq ⟨l.toArray⟩
  have hconv : ∀ W s, (convert 9 38 (.string s)).run Try.prog W = .ok (.slice (some ⟨W.heap.size, 0, none⟩) s.size (grownCap W s.size 0 5)) (Lib.bytesWorld W 5 s) := fun W s =>
    Lib.run_convert_string_bytes W 9 38 5 s Try.underlying9 Try.underlying38 Try.underlying5
  go_enter Try.func13, Try.ntmps13
  go_wp2
  generalize hW1 : Lib.bytesWorld w 5 ⟨l.toArray⟩ = W1
  have hs1 : W1.heap.size = w.heap.size + 1 := by rw [← hW1]; exact Lib.bytesWorld_size _ _ _
  have Hcell : Hid (∀ j (hj : j < l.length), W1.cell? ⟨w.heap.size, j, none⟩ = some (.int .u8 (l[j].toNat : Int))) := hide (fun j hj => by
    rw [← hW1]; exact zbytes_cell w 5 ⟨l.toArray⟩ l rfl j hj)
  have hB1 : Below w.heap.size w W1 := by rw [← hW1]; exact zbytes_below _ _ _
  clear hW1
  go_loop [4, 15] (fun D i => ∃ k : Nat, k ≤ l.length ∧ i = .int .i64 k ∧ rdAt l k D) (fun _ i => l.length - (intOf i).toNat)
  case atStart => exact ⟨0, Nat.zero_le _, rfl, .inl ⟨rfl, by simp⟩⟩
  case round =>
    obtain ⟨k, hk, rfl, hat⟩ := hrel
    by_cases hlt : k < l.length
    · have hc := unhide Hcell k hlt
      have Hk : Hid (l[k]? = some l[k]) := hide (List.getElem?_eq_getElem hlt)
      generalize l[k] = c at hc Hk
      have hcb := c.toNat_lt
      by_cases hdot : c = 46
      · subst hdot
        rcases hat with ⟨rfl, hall⟩ | ⟨d, rfl, hdk, hall, hd, hrest⟩
        · have Hall := hide hall
          clear hall
          go_wp2
          exact ⟨⟨k + 1, by omega, by go_num, .inr ⟨k, rfl, by omega, unhide Hall, unhide Hk, fun j h1 h2 => by omega⟩⟩, by simp [intOf]; omega⟩
        · have H := hide (rd_two hd hall hdk (unhide Hk))
          clear hall hd hrest
          go_wp2
          go_ret2
          exact ⟨ret_int2 (unhide H).1.symm (unhide H).2.symm, hB1⟩
      · have hc46 : ((c.toNat : Int) == 46) = false := by
          rw [beq_eq_false_iff_ne]
          intro h
          exact hdot (UInt8.toNat_inj.1 (by show c.toNat = 46; omega))
        cases hdg : isD c
        · have H := hide (rd_bad (unhide Hk) hdot hdg)
          have hq : c.toNat < 48 ∨ 57 < c.toNat := by
            by_cases h : 48 ≤ c.toNat ∧ c.toNat ≤ 57
            · rw [isD_iff.2 h] at hdg; exact absurd hdg (by decide)
            · omega
          clear hat hdot hdg
          rcases hq with hq | hq
          · go_wp2
            go_ret2
            exact ⟨ret_int2 (unhide H).1.symm (unhide H).2.symm, hB1⟩
          · go_wp2
            go_ret2
            exact ⟨ret_int2 (unhide H).1.symm (unhide H).2.symm, hB1⟩
        · have hd1 := (isD_iff.1 hdg).1
          have hd2 := (isD_iff.1 hdg).2
          have Hat : Hid (∀ D, rdAt l k D → rdAt l (k + 1) D) := hide (by
            rintro D (⟨h1, h2⟩ | ⟨d, h1, h2, h3, h4, h5⟩)
            · exact .inl ⟨h1, all_take_n (unhide Hk) h2 hdg⟩
            · refine .inr ⟨d, h1, by omega, h3, h4, fun j j1 j2 => ?_⟩
              by_cases hj : j = k
              · subst hj; exact ⟨c, unhide Hk, hdg⟩
              · exact h5 j j1 (by omega))
          have HA := hide hat
          clear hdot hdg hat
          go_wp2
          exact ⟨⟨k + 1, by omega, by go_num, unhide Hat _ (unhide HA)⟩, by simp [intOf]; omega⟩
    · obtain rfl : k = l.length := by omega
      rcases hat with ⟨rfl, hall⟩ | ⟨d, rfl, hdk, hall, hd, hrest⟩
      · rw [List.take_length] at hall
        have H := hide (rd_none hall)
        clear hall
        go_wp2
        go_ret2
        exact ⟨ret_int2 (unhide H).1.symm (unhide H).2.symm, hB1⟩
      · have Hcut := hide (rd_cut hd hall)
        have Hsp := hide (rd_split hd)
        have Hb := hide (all_drop_of hrest)
        have Ha := hide hall
        clear hall hd hrest Hcell
        have He1 : Hid ((ByteArray.mk l.toArray).extract 0 d = ⟨(l.take d).toArray⟩) := hide (rd_front l d)
        have He2 : Hid ((ByteArray.mk l.toArray).extract (d + 1) l.length = ⟨(l.drop (d + 1)).toArray⟩) := hide (rd_back l d)
        generalize (ByteArray.mk l.toArray) = T at *
        have c1 : (0 : Int) ≤ (d : Int) := by omega
        have c2 : (d : Int) ≤ (l.length : Int) := by omega
        have c3 : (0 : Int) ≤ (d : Int) + 1 := by omega
        have c4 : (d : Int) + 1 ≤ (l.length : Int) := by omega
        go_wp2
        go_region
        rw [unhide He1, unhide He2]
        go_wp2
        generalize hW3 : ((W1.alloc (Obj.cells #[Value.int IntKind.i64 0, Value.int IntKind.i64 0] 39)).alloc (Obj.cells #[Value.string ⟨(l.take d).toArray⟩, Value.string ⟨(l.drop (d + 1)).toArray⟩] 9)).drew = W3
        obtain ⟨a, ha⟩ : ∃ a, l.take d = a := ⟨_, rfl⟩
        obtain ⟨b, hb⟩ : ∃ b, l.drop (d + 1) = b := ⟨_, rfl⟩
        have hal : a.length ≤ l.length := by rw [← ha, List.length_take]; omega
        have hbl : b.length ≤ l.length := by rw [← hb, List.length_drop]; omega
        rw [ha, hb] at hW3 Hcut ⊢
        rw [ha] at Ha
        rw [hb] at Hb
        clear He1 He2 Hsp ha hb
        have hs3 : W3.heap.size = w.heap.size + 3 := by rw [← hW3]; show ((W1.heap.push _).push _).size = _; simp; omega
        have HP3 : Hid (rdPair W3 w.heap.size 0 0) := hide (by
          rw [← hW3]
          refine (Below.heap_alloc (W1.alloc _) _ (w.heap.size + 1) (by simp; omega)).trans ?_
          rw [← hs1]
          exact zalloc_new _ _)
        have HT3 : Hid (rdTexts W3 w.heap.size a b) := hide (by
          rw [← hW3]
          have h := zalloc_new (W1.alloc (Obj.cells #[Value.int IntKind.i64 0, Value.int IntKind.i64 0] 39)) (Obj.cells #[Value.string ⟨a.toArray⟩, Value.string ⟨b.toArray⟩] 9)
          rw [World.size_alloc, hs1] at h
          exact h)
        have hB3 : Below w.heap.size w W3 := by
          rw [← hW3]
          exact ((hB1.alloc (by omega) _).alloc (by simp; omega) _).drew
        clear hW3 c1 c2 c3 c4 hB1 hs1 hdk
        go_loopw [43] (fun i wr => ∃ k : Nat, k ≤ 2 ∧ i = .int .i64 k ∧ rdDone wr w.heap.size a b k ∧ rdTexts wr w.heap.size a b ∧ w.heap.size + 3 ≤ wr.heap.size ∧ Below w.heap.size w wr) (fun i _ => 2 - (intOf i).toNat)
        case atStart => exact ⟨0, by omega, rfl, ⟨0, 0, unhide HP3, .inl ⟨rfl, rfl, rfl⟩⟩, unhide HT3, by omega, hB3⟩
        case round =>
          obtain ⟨k, hk2, rfl, ⟨x, y, hp, hxy⟩, htx, hge, hBr⟩ := hrel
          have HP := hide hp
          have HT := hide htx
          clear hp htx HP3 HT3 hB3 hs3
          rcases hxy with ⟨rfl, rfl, rfl⟩ | ⟨rfl, hpa, rfl, rfl⟩ | ⟨rfl, hpa, hpb, rfl, rfl⟩
          · have hdone : True := trivial
            · have ht := (unhide HT).c0
              by_cases hlong : 10 < a.length
              · have H := hide (zRead_no (l := l) (.inl (by rw [(unhide Hcut).1]; exact partB_no (by omega))))
                go_wp2
                go_ret2
                exact ⟨ret_int2 (unhide H).1.symm (unhide H).2.symm, hBr⟩
              generalize wr = V at *
              have hz2 : (ByteArray.mk a.toArray).size = a.length := Lib.size_eq ⟨a.toArray⟩
              go_wp2
              generalize hW4 : Lib.bytesWorld V 5 ⟨a.toArray⟩ = W4
              have hb4 : Below V.heap.size V W4 := by rw [← hW4]; exact zbytes_below _ _ _
              have hs4 : W4.heap.size = V.heap.size + 1 := by rw [← hW4]; exact Lib.bytesWorld_size _ _ _
              have Hc4 : Hid (∀ j (hj : j < a.length), W4.cell? ⟨V.heap.size, j, none⟩ = some (.int .u8 (a[j].toNat : Int))) := hide (fun j hj => by
                rw [← hW4]; exact zbytes_cell V 5 ⟨a.toArray⟩ a rfl j hj)
              have HP4 := hide ((unhide HP).kept hb4 (by omega))
              have HT4 := hide ((unhide HT).kept hb4 (by omega))
              have hB4 : Below w.heap.size w W4 := hBr.trans (hb4.mono (by omega))
              clear hW4 HP HT ht hb4
              go_loopw [54] (fun i wr => ∃ j : Nat, j ≤ a.length ∧ i = .int .i64 j ∧ rdPair wr w.heap.size (num (a.take j) : Int) 0 ∧ rdTexts wr w.heap.size a b ∧ wr.heap[V.heap.size]? = W4.heap[V.heap.size]? ∧ wr.heap.size = V.heap.size + 1 ∧ Below w.heap.size w wr) (fun i _ => a.length - (intOf i).toNat)
              case atStart => exact ⟨0, Nat.zero_le _, rfl, unhide HP4, unhide HT4, rfl, hs4, hB4⟩
              case round =>
                obtain ⟨j, hj, rfl, hp, htx, hblk, hsz, hBj⟩ := hrel
                have HP := hide hp
                have HT := hide htx
                have HK := hide hblk
                clear hp htx hblk HP4 HT4 hB4
                by_cases hjl : j < a.length
                · have hc : wr.cell? ⟨V.heap.size, j, none⟩ = some (.int .u8 (a[j].toNat : Int)) := (World.cell?_of_block (a := ⟨V.heap.size, j, none⟩) (unhide HK)).trans (unhide Hc4 j hjl)
                  have hd := isD_at (unhide Ha) hjl
                  have hsm := num_take_small (unhide Ha) (k := j) (by omega)
                  have Hnt := hide (num_take_n hjl)
                  have h0 := (unhide HP).c0
                  have h1 := (unhide HP).f0
                  obtain ⟨n, hn⟩ : ∃ n, num (a.take j) = n := ⟨_, rfl⟩
                  rw [hn] at hsm Hnt HP h0
                  generalize a[j] = c at hc hd Hnt
                  clear hn
                  have hd1 := hd.1
                  have hd2 := hd.2
                  clear hd
                  go_wp2
                  have hstep : (10 * (n : Int) + (c.toNat : Int) - 48) = (num (a.take (j + 1)) : Int) := by rw [unhide Hnt]; omega
                  rw [hstep]
                  refine ⟨⟨j + 1, by omega, by go_num, (unhide HP).s0 _, (unhide HT).set _ _, ?_, ?_, ?_⟩, by simp [intOf]; omega⟩
                  · exact (Below.heap_setCell _ _ _ _ (by show V.heap.size ≠ w.heap.size + 1; omega)).trans (unhide HK)
                  · rw [zsize_setCell]; exact hsz
                  · exact hBj.setCell (by show w.heap.size ≤ w.heap.size + 1; omega) _
                · have hje : j = a.length := by omega
                  subst hje
                  rw [List.take_length] at HP
                  have h0 := (unhide HP).c0
                  have hn10 := num_ten (unhide Ha) (by omega)
                  go_wp2_with fail
                  refine (zdecimal_any (num a) (by omega) _).mono ?_
                  rintro e w5 ⟨rfl, hb5⟩
                  have HP5 := hide ((unhide HP).kept hb5 (by omega))
                  have HT5 := hide ((unhide HT).kept hb5 (by omega))
                  have hB5 : Below w.heap.size w w5 := hBj.trans (hb5.mono (by omega))
                  have hs5 := hb5.size
                  clear HP HT HK Hc4 h0 hb5
                  by_cases heq : Lib.decDigits (num a) = a
                  · have Hp := hide (part_of_dec (l := a) (by omega) heq)
                    rw [heq]
                    clear heq
                    go_wp2_with fail
                    exact ⟨⟨1, by omega, by go_num, ⟨_, _, unhide HP5, .inr (.inl ⟨rfl, unhide Hp, rfl, rfl⟩)⟩, unhide HT5, by omega, hB5⟩, by simp [intOf]⟩
                  · have H := hide (zRead_no (l := l) (.inl (by
                      rw [(unhide Hcut).1]
                      cases hp : partB a with
                      | false => rfl
                      | true => exact absurd (dec_part hp) heq)))
                    have hne : (Lib.decDigits (num a) == a) = false := by simpa using heq
                    clear heq
                    generalize Lib.decDigits (num a) = D at *
                    go_wp2_with fail
                    go_ret2
                    exact ⟨ret_int2 (unhide H).1.symm (unhide H).2.symm, hB5⟩
          · have HpA := hide hpa
            clear hpa
            · have ht := (unhide HT).c1
              by_cases hlong : 10 < b.length
              · have H := hide (zRead_no (l := l) (.inr (by rw [(unhide Hcut).2]; exact partB_no (by omega))))
                go_wp2
                go_ret2
                exact ⟨ret_int2 (unhide H).1.symm (unhide H).2.symm, hBr⟩
              generalize wr = V at *
              have hz2 : (ByteArray.mk b.toArray).size = b.length := Lib.size_eq ⟨b.toArray⟩
              go_wp2
              generalize hW4 : Lib.bytesWorld V 5 ⟨b.toArray⟩ = W4
              have hb4 : Below V.heap.size V W4 := by rw [← hW4]; exact zbytes_below _ _ _
              have hs4 : W4.heap.size = V.heap.size + 1 := by rw [← hW4]; exact Lib.bytesWorld_size _ _ _
              have Hc4 : Hid (∀ j (hj : j < b.length), W4.cell? ⟨V.heap.size, j, none⟩ = some (.int .u8 (b[j].toNat : Int))) := hide (fun j hj => by
                rw [← hW4]; exact zbytes_cell V 5 ⟨b.toArray⟩ b rfl j hj)
              have HP4 := hide ((unhide HP).kept hb4 (by omega))
              have HT4 := hide ((unhide HT).kept hb4 (by omega))
              have hB4 : Below w.heap.size w W4 := hBr.trans (hb4.mono (by omega))
              clear hW4 HP HT ht hb4
              go_loopw [54] (fun i wr => ∃ j : Nat, j ≤ b.length ∧ i = .int .i64 j ∧ rdPair wr w.heap.size (num a : Int) (num (b.take j) : Int) ∧ rdTexts wr w.heap.size a b ∧ wr.heap[V.heap.size]? = W4.heap[V.heap.size]? ∧ wr.heap.size = V.heap.size + 1 ∧ Below w.heap.size w wr) (fun i _ => b.length - (intOf i).toNat)
              case atStart => exact ⟨0, Nat.zero_le _, rfl, unhide HP4, unhide HT4, rfl, hs4, hB4⟩
              case round =>
                obtain ⟨j, hj, rfl, hp, htx, hblk, hsz, hBj⟩ := hrel
                have HP := hide hp
                have HT := hide htx
                have HK := hide hblk
                clear hp htx hblk HP4 HT4 hB4
                by_cases hjl : j < b.length
                · have hc : wr.cell? ⟨V.heap.size, j, none⟩ = some (.int .u8 (b[j].toNat : Int)) := (World.cell?_of_block (a := ⟨V.heap.size, j, none⟩) (unhide HK)).trans (unhide Hc4 j hjl)
                  have hd := isD_at (unhide Hb) hjl
                  have hsm := num_take_small (unhide Hb) (k := j) (by omega)
                  have Hnt := hide (num_take_n hjl)
                  have h0 := (unhide HP).c1
                  have h1 := (unhide HP).f1
                  obtain ⟨n, hn⟩ : ∃ n, num (b.take j) = n := ⟨_, rfl⟩
                  rw [hn] at hsm Hnt HP h0
                  generalize b[j] = c at hc hd Hnt
                  clear hn
                  have hd1 := hd.1
                  have hd2 := hd.2
                  clear hd
                  go_wp2
                  have hstep : (10 * (n : Int) + (c.toNat : Int) - 48) = (num (b.take (j + 1)) : Int) := by rw [unhide Hnt]; omega
                  rw [hstep]
                  refine ⟨⟨j + 1, by omega, by go_num, (unhide HP).s1 _, (unhide HT).set _ _, ?_, ?_, ?_⟩, by simp [intOf]; omega⟩
                  · exact (Below.heap_setCell _ _ _ _ (by show V.heap.size ≠ w.heap.size + 1; omega)).trans (unhide HK)
                  · rw [zsize_setCell]; exact hsz
                  · exact hBj.setCell (by show w.heap.size ≤ w.heap.size + 1; omega) _
                · have hje : j = b.length := by omega
                  subst hje
                  rw [List.take_length] at HP
                  have h0 := (unhide HP).c1
                  have hn10 := num_ten (unhide Hb) (by omega)
                  go_wp2_with fail
                  refine (zdecimal_any (num b) (by omega) _).mono ?_
                  rintro e w5 ⟨rfl, hb5⟩
                  have HP5 := hide ((unhide HP).kept hb5 (by omega))
                  have HT5 := hide ((unhide HT).kept hb5 (by omega))
                  have hB5 : Below w.heap.size w w5 := hBj.trans (hb5.mono (by omega))
                  have hs5 := hb5.size
                  clear HP HT HK Hc4 h0 hb5
                  by_cases heq : Lib.decDigits (num b) = b
                  · have Hp := hide (part_of_dec (l := b) (by omega) heq)
                    rw [heq]
                    clear heq
                    go_wp2_with fail
                    exact ⟨⟨2, by omega, by go_num, ⟨_, _, unhide HP5, .inr (.inr ⟨rfl, unhide HpA, unhide Hp, rfl, rfl⟩)⟩, unhide HT5, by omega, hB5⟩, by simp [intOf]⟩
                  · have H := hide (zRead_no (l := l) (.inr (by
                      rw [(unhide Hcut).2]
                      cases hp : partB b with
                      | false => rfl
                      | true => exact absurd (dec_part hp) heq)))
                    have hne : (Lib.decDigits (num b) == b) = false := by simpa using heq
                    clear heq
                    generalize Lib.decDigits (num b) = D at *
                    go_wp2_with fail
                    go_ret2
                    exact ⟨ret_int2 (unhide H).1.symm (unhide H).2.symm, hB5⟩
          · have H := hide (zRead_yes (l := l) (by rw [(unhide Hcut).1]; exact hpa) (by rw [(unhide Hcut).2]; exact hpb))
            have HC := hide (unhide Hcut)
            have h0 := (unhide HP).c0
            have h1 := (unhide HP).c1
            clear hpa hpb HP HT
            go_wp2_with fail
            refine (rmake_any _ _ _).mono ?_
            rintro e w6 ⟨rfl, rfl⟩
            rw [(unhide HC).1, (unhide HC).2] at H
            obtain ⟨X, hX⟩ : ∃ X, zMake (num a) (num b) = X := ⟨_, rfl⟩
            obtain ⟨E, hE⟩ : ∃ E, zMakeE (num a) (num b) = E := ⟨_, rfl⟩
            rw [hX, hE] at H ⊢
            clear hX hE h0 h1
            go_wp2_with fail
            go_ret2
            exact ⟨ret_int2 (unhide H).1.symm (unhide H).2.symm, hBr⟩

end Go.Proofs.Ytpdlefafgbdadaa
