/-
  recipe.Line: the walks.
  Where the children of a node lie; the first one of a line; the one ahead of a step. No program is named here.
  What path.Depth answers, for every text: the walk.
  What Join makes of a node and of one that stands in line below it. No program is named here.
  slices.Index at texts, and recipe.Before: the walks.
  recipe.Fence, and the document's own: the walks.
  recipe.Ready, and the document's own: the walks.
  A line rises: the one ahead of each. No program is named here.
  recipe.Ask and recipe.below, and the document's own: the walks.
  A node that came out of a call, in a box of its own.
  recipe.Holder: the walks.
-/
import Derived.Test.YtmebfelofjgjhaaDoorRTD
import Derived.Test.YtmebfelofjgjhaaDoorRTC
import Derived.Test.YtmebfelofjgjhaaDoorRows
import Derived.WalkKit
import Derived.WalkSpells
import Derived.WalkLawsBesides
import Derived.Lib.Strings
import Derived.Deep.RegionLaw
import Derived.Deep.RegionHeld3
import Derived.Deep.CutRange
namespace Go.Proofs.YtmebfelofjgjhaaDoor
open Go.RowKit

/-- the steps of a line, and its error -/
def linE (ns : List Nd) (d m : List UInt8) : Int := if (lookN ns d).isSome = true then (if m = [] ∨ namedB m = true then 0 else 2) else 7
def linL (ns : List Nd) (d m : List UInt8) : List (List UInt8) := if linE ns d m = 0 then (kidsP ns d).filter (nmbB m) else []
theorem lin_none {ns : List Nd} {d : List UInt8} (m : List UInt8) (h : lookN ns d = none) : linE ns d m = 7 ∧ linL ns d m = [] := by
  have e : linE ns d m = 7 := by rw [linE, h]; rfl
  exact ⟨e, by rw [linL, e]; rfl⟩
theorem lin_form {ns : List Nd} {d m : List UInt8} {n : Nd} (h : lookN ns d = some n) (hm : m ≠ []) (hb : namedB m = false) : linE ns d m = 2 ∧ linL ns d m = [] := by
  have e : linE ns d m = 2 := by rw [linE, h, if_pos (show (some n).isSome = true from rfl), if_neg (by rintro (h1 | h1); exact hm h1; rw [hb] at h1; exact absurd h1 (by decide))]
  exact ⟨e, by rw [linL, e]; rfl⟩
theorem lin_ok {ns : List Nd} {d m : List UInt8} {n : Nd} (h : lookN ns d = some n) (hm : m = [] ∨ namedB m = true) : linE ns d m = 0 ∧ linL ns d m = (kidsP ns d).filter (nmbB m) := by
  have e : linE ns d m = 0 := by rw [linE, h, if_pos (show (some n).isSome = true from rfl), if_pos hm]
  exact ⟨e, by rw [linL, e, if_pos rfl]⟩

/-- a name in its box -/
def NameAt (W : World) (B : Nat) (m : List UInt8) : Prop := W.heap[B]? = some (.cells #[.string ⟨m.toArray⟩] 9 (0, 0))
theorem NameAt.lt {W : World} {B : Nat} {m : List UInt8} (h : NameAt W B m) : B < W.heap.size := (Array.getElem?_eq_some_iff.1 h).1
theorem NameAt.c0 {W : World} {B : Nat} {m : List UInt8} (h : NameAt W B m) : W.cell? ⟨B, 0, none⟩ = some (.string ⟨m.toArray⟩) := by unfold NameAt at h; simp [World.cell?, h]
theorem NameAt.next {W V : World} {B : Nat} {m : List UInt8} (h : NameAt W B m) (hb : Below W.heap.size W V) : NameAt V B m := (hb.block _ h.lt).trans h
theorem NameAt.grown {W V : World} {B q : Nat} {m : List UInt8} (h : NameAt W B m) (hg : W.grownBy V (some q)) (hq : B ≠ q) : NameAt V B m := (hg.block B h.lt (by simpa using hq)).trans h

set_option maxRecDepth 10000 in
set_option maxHeartbeats 400000 in
theorem line1_any (x m : List UInt8) (B : Nat) (w : World) (hI : NameAt w B m) :
    Calls Tryd.prog 23 #[.string ⟨x.toArray⟩, .pointer (some ⟨B, 0, none⟩)] w fun e w' => e = .returned (.bool (!nmbB m x)) ∧ Below w.heap.size w w' := by
  have CN := hide (fun W => nmb_any x m W)
  have c0 := hI.c0
  clear hI
  go_enter Tryd.func23, Tryd.ntmps23
  go_wp2_with fail
  refine (unhide CN _).mono ?_
  rintro e w1 ⟨rfl, hb1⟩
  go_wp2_with fail
  go_ret
  exact ⟨rfl, hb1⟩
theorem line_clos (m : List UInt8) (B q : Nat) (hq : B ≠ q) : ClosS 23 B q (fun x => !nmbB m x) (fun W => NameAt W B m) :=
  ⟨rfl, fun _ _ h hg => h.grown hg hq, fun W x h => line1_any x m B W h⟩
theorem snot_not (m : List UInt8) (xs : List (List UInt8)) : xs.filter (fun x => !(!nmbB m x)) = xs.filter (nmbB m) := by simp

set_option maxRecDepth 10000 in
set_option maxHeartbeats 400000 in
/-- DeleteFunc with Line's closure, of a row of the call's own or of nothing -/
theorem sdelS (m : List UInt8) (B C : Nat) (v : Value) (xs : List (List UInt8)) (w : World) (hI : NameAt w B m) (ho : OwnS w C v xs) (hB : B < C) (hC : C ≤ w.heap.size) (hl : xs.length ≤ 140737488355328) :
    Calls Tryd.prog 22 #[v, .func (.func 23) #[] #[.pointer (some ⟨B, 0, none⟩)]] w fun e w' => ∃ v', e = .returned v' ∧ OwnS w' C v' (xs.filter (nmbB m)) ∧ Below C w w' := by
  rcases ho with ⟨rfl, rfl⟩ | ⟨q, cap, rfl, hq, hr⟩
  · have CN := sidx_none (line_clos m B w.heap.size (by have := hI.lt; omega)) (.slice none 0 0) [] w hI (SeqV.nil w) (by simp) (by simp)
    clear hI
    go_enter Tryd.func22, Tryd.ntmps22
    go_wp2_with fail
    refine CN.mono ?_
    rintro e w1 ⟨rfl, hb1⟩
    have HB := hide (hb1.mono hC)
    clear CN hb1
    go_wp2_with fail
    go_ret
    exact ⟨_, rfl, .inl ⟨rfl, rfl⟩, unhide HB⟩
  · refine (sdel_any (line_clos m B q (by omega)) cap xs w hI hr hl).mono ?_
    rintro e w' ⟨rfl, h1, h2⟩
    rw [snot_not] at h1 ⊢
    exact ⟨_, rfl, .inr ⟨q, cap, rfl, hq, h1⟩, grownO h2 C hC (fun k hk => by cases hk; exact hq)⟩

/-- a tree's box, and a name's -/
structure LB (w W : World) (m : List UInt8) : Prop where
  n : NameAt W (w.heap.size + 1) m
  b : Below w.heap.size w W
theorem LB.new (w : World) (o : Obj) (m : List UInt8) : LB w ((w.alloc o).alloc (.cells #[.string ⟨m.toArray⟩] 9)) m := by
  refine ⟨?_, nnext (allocB _ _) (allocB _ _)⟩
  have h := heap_alloc_new (w.alloc o) (.cells #[.string ⟨m.toArray⟩] 9)
  rw [show (w.alloc o).heap.size = w.heap.size + 1 by simp] at h
  exact h
theorem LB.next {w W V : World} {m : List UInt8} (h : LB w W m) (hb : Below W.heap.size W V) : LB w V m := ⟨h.n.next hb, nnext h.b hb⟩

set_option maxRecDepth 20000 in
set_option maxHeartbeats 1000000 in
theorem line_gap (z : Int) (vn vs : Value) (ns A B : List Nd) (d m : List UInt8) (w : World) (hn : SeqV w vn ns) (hl : ns.length ≤ 100000) (G : NGap ns A B d) :
    Calls Tryd.prog 6 #[.agg #[.int .i64 z, vn, vs], .string ⟨d.toArray⟩, .string ⟨m.toArray⟩] w fun e w' => ∃ v', e = .returned (.tuple #[v', .int .i64 (linE ns d m)]) ∧ OwnS w' w.heap.size v' (linL ns d m) ∧ Below w.heap.size w w' := by
  obtain ⟨h1, h2⟩ := lin_none m G.look
  rw [h1, h2]
  have CK := hide (fun W (hW : Below w.heap.size w W) => tkids_gap z vn vs ns A B d W (hn.next hW) hl G)
  obtain ⟨na, nc, rfl⟩ := seq_slice hn
  have B0 := hide (LB.new w (.cells #[.int .i64 z, .slice na ns.length nc, vs] 25) m)
  clear hn G h1 h2
  go_enter Tryd.func6, Tryd.ntmps6
  go_wp2_with fail
  refine (unhide CK _ (unhide B0).b).mono ?_
  rintro e w1 ⟨rfl, hb1⟩
  have HB := hide ((unhide B0).next hb1).b
  clear CK hb1 B0
  go_wp2_with fail
  go_ret2
  exact ⟨_, rfl, .inl ⟨rfl, rfl⟩, unhide HB⟩

set_option maxRecDepth 20000 in
set_option maxHeartbeats 1000000 in
theorem line_form (z : Int) (vn vs : Value) (ns A B : List Nd) (n : Nd) (d m : List UInt8) (w : World) (hn : SeqV w vn ns) (hl : ns.length ≤ 400) (T : NThere ns A n B d) (hml : m.length ≤ 140737488355328) (hm : m ≠ []) (hb : namedB m = false) :
    Calls Tryd.prog 6 #[.agg #[.int .i64 z, vn, vs], .string ⟨d.toArray⟩, .string ⟨m.toArray⟩] w fun e w' => ∃ v', e = .returned (.tuple #[v', .int .i64 (linE ns d m)]) ∧ OwnS w' w.heap.size v' (linL ns d m) ∧ Below w.heap.size w w' := by
  obtain ⟨h1, h2⟩ := lin_form T.look hm hb
  rw [h1, h2]
  have CK := hide (fun W (hW : Below w.heap.size w W) => tkids_there z vn vs ns A B n d W (hn.next hW) hl T)
  have hkl : (kidsP ns d).length ≤ 400 := by rw [kidsP_len]; exact Nat.le_trans List.countP_le_length hl
  obtain ⟨na, nc, rfl⟩ := seq_slice hn
  have B0 := hide (LB.new w (.cells #[.int .i64 z, .slice na ns.length nc, vs] 25) m)
  obtain ⟨K, hK⟩ : ∃ K, kidsP ns d = K := ⟨_, rfl⟩
  have CN := hide (fun W => named_any ⟨m.toArray⟩ W (show m.length ≤ maxLen by simp only [maxLen]; omega))
  rw [show (ByteArray.mk m.toArray).data.toList = m from rfl, hb] at CN
  have hmb : (m == []) = false := by simpa using hm
  rw [hK] at CK
  clear hn T h1 h2 hb hm hK hkl
  go_enter Tryd.func6, Tryd.ntmps6
  go_wp2_with fail
  refine (unhide CK _ (unhide B0).b).mono ?_
  rintro e w1 ⟨vk, rfl, hk1, hb1⟩
  have B1 := hide ((unhide B0).next hb1)
  have HK1 := hide hk1
  have hsz : w.heap.size + 2 ≤ w1.heap.size := by have := hb1.size; simp at this; omega
  have c0 := (unhide B1).n.c0
  obtain ⟨ka, kc, rfl, _⟩ := hk1.slice
  clear CK hb1 B0 hk1
  go_wp2_with fail
  refine (unhide CN _).mono ?_
  rintro e w2 ⟨rfl, rfl⟩
  go_wp2_with fail
  go_ret2
  exact ⟨_, rfl, .inl ⟨rfl, rfl⟩, (unhide B1).b⟩

set_option maxRecDepth 20000 in
set_option maxHeartbeats 1000000 in
theorem line_nil (z : Int) (vn vs : Value) (ns A B : List Nd) (n : Nd) (d : List UInt8) (w : World) (hn : SeqV w vn ns) (hl : ns.length ≤ 400) (T : NThere ns A n B d) :
    Calls Tryd.prog 6 #[.agg #[.int .i64 z, vn, vs], .string ⟨d.toArray⟩, .string ⟨#[]⟩] w fun e w' => ∃ v', e = .returned (.tuple #[v', .int .i64 (linE ns d [])]) ∧ OwnS w' w.heap.size v' (linL ns d []) ∧ Below w.heap.size w w' := by
  obtain ⟨h1, h2⟩ := lin_ok T.look (.inl rfl)
  rw [h1, h2]
  have CK := hide (fun W (hW : Below w.heap.size w W) => tkids_there z vn vs ns A B n d W (hn.next hW) hl T)
  have hkl : (kidsP ns d).length ≤ 400 := by rw [kidsP_len]; exact Nat.le_trans List.countP_le_length hl
  obtain ⟨na, nc, rfl⟩ := seq_slice hn
  have B0 := hide (LB.new w (.cells #[.int .i64 z, .slice na ns.length nc, vs] 25) [])
  obtain ⟨K, hK⟩ : ∃ K, kidsP ns d = K := ⟨_, rfl⟩
  rw [hK] at CK hkl ⊢
  have CD := hide (fun B C v W hI ho hB hC => sdelS [] B C v K W hI ho hB hC (by omega))
  generalize K.filter (nmbB []) = R at CD ⊢
  clear hn T h1 h2 hK
  go_enter Tryd.func6, Tryd.ntmps6
  go_wp2_with fail
  refine (unhide CK _ (unhide B0).b).mono ?_
  rintro e w1 ⟨vk, rfl, hk1, hb1⟩
  have B1 := hide ((unhide B0).next hb1)
  have HK1 := hide hk1
  have hsz : w.heap.size + 2 ≤ w1.heap.size := by have := hb1.size; simp at this; omega
  have c0 := (unhide B1).n.c0
  have CX := unhide CD (w.heap.size + 1) (w.heap.size + 2) _ _ (unhide B1).n (hk1.lower (by simp)) (by omega) hsz
  obtain ⟨ka, kc, rfl, _⟩ := hk1.slice
  clear CK CD hb1 B0 hk1
  go_wp2_with fail
  refine CX.mono ?_
  rintro e w3 ⟨v3, rfl, hk3, hb3⟩
  have HK3 := hide (hk3.lower (show w.heap.size ≤ w.heap.size + 2 by omega))
  have HB3 := hide ((unhide B1).b.trans (hb3.mono (show w.heap.size ≤ w.heap.size + 2 by omega)))
  obtain ⟨ka3, kc3, rfl, _⟩ := hk3.slice
  clear CX hk3 hb3
  go_wp2_with fail
  go_ret2
  exact ⟨_, rfl, unhide HK3, unhide HB3⟩

set_option maxRecDepth 20000 in
set_option maxHeartbeats 1000000 in
theorem line_named (z : Int) (vn vs : Value) (ns A B : List Nd) (n : Nd) (d m : List UInt8) (w : World) (hn : SeqV w vn ns) (hl : ns.length ≤ 400) (T : NThere ns A n B d) (hml : m.length ≤ 140737488355328) (hb : namedB m = true) :
    Calls Tryd.prog 6 #[.agg #[.int .i64 z, vn, vs], .string ⟨d.toArray⟩, .string ⟨m.toArray⟩] w fun e w' => ∃ v', e = .returned (.tuple #[v', .int .i64 (linE ns d m)]) ∧ OwnS w' w.heap.size v' (linL ns d m) ∧ Below w.heap.size w w' := by
  obtain ⟨h1, h2⟩ := lin_ok T.look (.inr hb)
  rw [h1, h2]
  have CK := hide (fun W (hW : Below w.heap.size w W) => tkids_there z vn vs ns A B n d W (hn.next hW) hl T)
  have hkl : (kidsP ns d).length ≤ 400 := by rw [kidsP_len]; exact Nat.le_trans List.countP_le_length hl
  obtain ⟨na, nc, rfl⟩ := seq_slice hn
  have B0 := hide (LB.new w (.cells #[.int .i64 z, .slice na ns.length nc, vs] 25) m)
  obtain ⟨K, hK⟩ : ∃ K, kidsP ns d = K := ⟨_, rfl⟩
  rw [hK] at CK hkl ⊢
  have CD := hide (fun B C v W hI ho hB hC => sdelS m B C v K W hI ho hB hC (by omega))
  have CN := hide (fun W => named_any ⟨m.toArray⟩ W (show m.length ≤ maxLen by simp only [maxLen]; omega))
  rw [show (ByteArray.mk m.toArray).data.toList = m from rfl, hb] at CN
  have hmb : (m == []) = false := by
    cases m with
    | nil => exact absurd hb (by decide)
    | cons a r => rfl
  generalize K.filter (nmbB m) = R at CD ⊢
  clear hn T h1 h2 hb hK
  go_enter Tryd.func6, Tryd.ntmps6
  go_wp2_with fail
  refine (unhide CK _ (unhide B0).b).mono ?_
  rintro e w1 ⟨vk, rfl, hk1, hb1⟩
  have B1 := hide ((unhide B0).next hb1)
  have HK1 := hide hk1
  have hsz : w.heap.size + 2 ≤ w1.heap.size := by have := hb1.size; simp at this; omega
  have c0 := (unhide B1).n.c0
  have CX := unhide CD (w.heap.size + 1) (w.heap.size + 2) _ _ (unhide B1).n (hk1.lower (by simp)) (by omega) hsz
  obtain ⟨ka, kc, rfl, _⟩ := hk1.slice
  clear CK CD hb1 B0 hk1
  go_wp2_with fail
  refine (unhide CN _).mono ?_
  rintro e w2 ⟨rfl, rfl⟩
  go_wp2_with fail
  refine CX.mono ?_
  rintro e w3 ⟨v3, rfl, hk3, hb3⟩
  have HK3 := hide (hk3.lower (show w.heap.size ≤ w.heap.size + 2 by omega))
  have HB3 := hide ((unhide B1).b.trans (hb3.mono (show w.heap.size ≤ w.heap.size + 2 by omega)))
  obtain ⟨ka3, kc3, rfl, _⟩ := hk3.slice
  clear CX hk3 hb3
  go_wp2_with fail
  go_ret2
  exact ⟨_, rfl, unhide HK3, unhide HB3⟩

/-- of every tree whose nodes rise -/
theorem line_any (z : Int) (vn vs : Value) (ns : List Nd) (d m : List UInt8) (w : World) (hn : SeqV w vn ns) (ha : NAsc ns) (hl : ns.length ≤ 400) (hml : m.length ≤ 140737488355328) :
    Calls Tryd.prog 6 #[.agg #[.int .i64 z, vn, vs], .string ⟨d.toArray⟩, .string ⟨m.toArray⟩] w fun e w' => ∃ v', e = .returned (.tuple #[v', .int .i64 (linE ns d m)]) ∧ OwnS w' w.heap.size v' (linL ns d m) ∧ Below w.heap.size w w' := by
  rcases nwhere d ns ha with ⟨A, n, B, T⟩ | ⟨A, B, G⟩
  · by_cases hm : m = []
    · subst hm
      exact line_nil z vn vs ns A B n d w hn hl T
    · cases hb : namedB m
      · exact line_form z vn vs ns A B n d m w hn hl T hml hm hb
      · exact line_named z vn vs ns A B n d m w hn hl T hml hb
  · exact line_gap z vn vs ns A B d m w hn (by omega) G
end Go.Proofs.YtmebfelofjgjhaaDoor

namespace Go.Proofs.YtmebfelofjgjhaaDoor
open Go.RowKit

theorem bel_step {p : List UInt8} (h : goodB p = true) (hn : p ≠ [47]) : belL (dirOf p) (stepOf p) = p := by
  obtain ⟨a, b, rfl, hb⟩ := good_cut h
  rw [dirOf_cut h hn hb, stepOf_cut h hn hb, nupL]
  split
  · rename_i h0; subst h0
    exact belL_root b
  · rename_i h0
    by_cases ha : a = [47]
    · subst ha
      exfalso
      have h2 : goodB (47 :: 47 :: b) = true := h
      rw [goodB_cons _ (by simp), splitL_slash, splitL_no b hb] at h2
      simp [not_named_nil] at h2
    · exact belL_other ha b
/-- a child of a node -/
theorem kid_node {z : Int} {ns : List Nd} {ss : List Int} (g : GoodN z ns ss) {d x : List UInt8} (hd : d ≠ []) (hx : x ∈ kidsP ns d) : ∃ n ∈ ns, n.p = belL d x ∧ dirOf n.p = d ∧ stepOf n.p = x := by
  unfold kidsP at hx
  obtain ⟨n, hn, rfl⟩ := List.mem_map.1 hx
  obtain ⟨hm, hdn⟩ := List.mem_filter.1 hn
  have hdn : dirOf n.p = d := of_decide_eq_true hdn
  have hp := (g.ok n hm).path
  have hr : n.p ≠ [47] := by
    intro h0
    rw [h0, dirOf_root] at hdn
    exact hd hdn.symm
  refine ⟨n, hm, ?_, hdn, rfl⟩
  have := bel_step hp hr
  rw [hdn] at this
  exact this.symm
def holN (ns : List Nd) (d m : List UInt8) : Option Nd := match linL ns d m with
  | [] => none
  | x :: _ => lookN ns (belL d x)
def holO (ns : List Nd) (d m : List UInt8) : Int := match holN ns d m with
  | none => 0
  | some n => n.o
def holC (ns : List Nd) (d m : List UInt8) : Int := match holN ns d m with
  | none => 0
  | some n => n.c
theorem hol_nil {ns : List Nd} {d m : List UInt8} (h : linL ns d m = []) : holO ns d m = 0 ∧ holC ns d m = 0 := by
  have : holN ns d m = none := by rw [holN, h]
  exact ⟨by rw [holO, this], by rw [holC, this]⟩
theorem hol_some {ns : List Nd} {d m x : List UInt8} {r : List (List UInt8)} {n : Nd} (h : linL ns d m = x :: r) (hn : lookN ns (belL d x) = some n) : holO ns d m = n.o ∧ holC ns d m = n.c := by
  have : holN ns d m = some n := by rw [holN, h]; exact hn
  exact ⟨by rw [holO, this], by rw [holC, this]⟩
theorem lin_err {ns : List Nd} {d m : List UInt8} (h : linE ns d m ≠ 0) : linL ns d m = [] := by rw [linL, if_neg h]
theorem lin_zero {ns : List Nd} {d m : List UInt8} (h : linE ns d m = 0) : (∃ n, lookN ns d = some n) ∧ (m = [] ∨ namedB m = true) ∧ linL ns d m = (kidsP ns d).filter (nmbB m) := by
  cases hl : lookN ns d with
  | none => rw [(lin_none m hl).1] at h; exact absurd h (by decide)
  | some n =>
    by_cases hm : m = [] ∨ namedB m = true
    · exact ⟨⟨n, rfl⟩, hm, (lin_ok hl hm).2⟩
    · have h1 : m ≠ [] := fun e => hm (.inl e)
      have h2 : namedB m = false := by
        cases hb : namedB m
        · rfl
        · exact absurd (.inr hb) hm
      rw [(lin_form hl h1 h2).1] at h
      exact absurd h (by decide)
/-- each one of a line is a node -/
theorem lin_node {z : Int} {ns : List Nd} {ss : List Int} (g : GoodN z ns ss) {d m x : List UInt8} (hx : x ∈ linL ns d m) : linE ns d m = 0 ∧ d.length ≤ 200 ∧ x.length ≤ 200 ∧ goodB d = true ∧ ∃ n ∈ ns, n.p = belL d x ∧ lookN ns (belL d x) = some n ∧ dirOf n.p = d ∧ stepOf n.p = x := by
  by_cases h : linE ns d m = 0
  · obtain ⟨⟨u, hu⟩, _, hl⟩ := lin_zero h
    rw [hl] at hx
    have hk := (List.mem_filter.1 hx).1
    obtain ⟨hum, hup⟩ := lookN_some hu
    have hgd : goodB d = true := by rw [← hup]; exact (g.ok u hum).path
    have hd : d ≠ [] := by
      intro h0; rw [h0] at hgd; exact absurd hgd (by decide)
    obtain ⟨n, hn, hp, h1, h2⟩ := kid_node g hd hk
    have hpl := goodB_le (g.ok n hn).path
    refine ⟨h, goodB_le hgd, ?_, hgd, n, hn, hp, by rw [← hp]; exact look_mem g.asc hn, h1, h2⟩
    rw [hp] at hpl
    unfold belL at hpl
    split at hpl
    · rw [List.length_cons] at hpl; omega
    · rw [List.length_append, List.length_cons] at hpl; omega
  · rw [lin_err h] at hx; simp at hx
/- the one ahead -/
def befT (x : List UInt8) : List (List UInt8) → List UInt8 → Option (List UInt8)
  | [], _ => none
  | y :: r, s => if y = s then some x else befT y r s
def befO : List (List UInt8) → List UInt8 → Option (List UInt8)
  | [], _ => none
  | x :: r, s => if x = s then none else befT x r s
theorem befT_no {s : List UInt8} : ∀ (r : List (List UInt8)) (x : List UInt8), s ∉ r → befT x r s = none
  | [], _, _ => rfl
  | y :: r, x, h => by
    rw [befT, if_neg (by rintro rfl; simp at h)]
    exact befT_no r y (by simp at h; exact h.2)
theorem befT_at {s : List UInt8} : ∀ (A R : List (List UInt8)) (x y : List UInt8), s ∉ A → y ≠ s → befT x (A ++ y :: s :: R) s = some y
  | [], R, x, y, _, hy => by
    show befT x (y :: s :: R) s = some y
    rw [befT, if_neg hy, befT, if_pos rfl]
  | a :: A, R, x, y, h, hy => by
    show befT x (a :: (A ++ y :: s :: R)) s = some y
    rw [befT, if_neg (by rintro rfl; simp at h)]
    exact befT_at A R a y (by simp at h; exact h.2) hy
theorem bef_no {L : List (List UInt8)} {s : List UInt8} (h : s ∉ L) : befO L s = none := by
  cases L with
  | nil => rfl
  | cons x r =>
    rw [befO, if_neg (by rintro rfl; simp at h)]
    exact befT_no r x (by simp at h; exact h.2)
theorem bef_first (R : List (List UInt8)) (s : List UInt8) : befO (s :: R) s = none := by rw [befO, if_pos rfl]
theorem bef_at {A R : List (List UInt8)} {y s : List UInt8} (h : s ∉ A ++ [y]) : befO (A ++ y :: s :: R) s = some y := by
  have hy : y ≠ s := by rintro rfl; simp at h
  cases A with
  | nil =>
    show befO (y :: s :: R) s = some y
    rw [befO, if_neg hy, befT, if_pos rfl]
  | cons a A =>
    show befO (a :: (A ++ y :: s :: R)) s = some y
    rw [befO, if_neg (by rintro rfl; simp at h)]
    exact befT_at A R a y (by simp at h; exact fun h' => h.2.1 h') hy
theorem bef_cases : ∀ (L : List (List UInt8)) (s : List UInt8), s ∉ L ∨ ∃ A R, L = A ++ s :: R ∧ s ∉ A
  | [], s => .inl (by simp)
  | x :: r, s => by
    by_cases h : x = s
    · subst h
      exact .inr ⟨[], r, rfl, by simp⟩
    · rcases bef_cases r s with h1 | ⟨A, R, rfl, h1⟩
      · exact .inl (by simp; exact ⟨fun e => h e.symm, h1⟩)
      · exact .inr ⟨x :: A, R, rfl, by simp; exact ⟨fun e => h e.symm, h1⟩⟩
end Go.Proofs.YtmebfelofjgjhaaDoor

namespace Go.Proofs.YtmebfelofjgjhaaDoor
open Go.RowKit Go.Shelf
/-- What a path is made of: what stands ahead of its last slash, and its last step. -/
theorem pgood_parts {l : List UInt8} (hg : goodB l = true) (hne : l ≠ [47]) :
    ∃ a b, l = a ++ 47 :: b ∧ 47 ∉ b ∧ namedB b = true ∧ goodB (dirL a) = true ∧ openL (dirL a) ++ b = l ∧ stepsL l = stepsL (dirL a) ++ [b] := by
  obtain ⟨r, rfl⟩ : ∃ r, l = 47 :: r := by
    obtain ⟨t, ht⟩ := goodB_slash hg
    exact ⟨t, ht.symm⟩
  have hr : r ≠ [] := by rintro rfl; exact hne rfl
  rw [goodB_cons r hr, Bool.and_eq_true, decide_eq_true_eq] at hg
  obtain ⟨hlen, hall⟩ := hg
  have hst : stepsL (47 :: r) = splitL r := by
    rw [stepsL, if_neg hne, Lib.trimPrefix, if_pos (by simp [Lib.hasPrefix, List.isPrefixOf])]; rfl
  obtain ⟨a, b, e, hb⟩ := last_slash (47 :: r) (by simp)
  refine ⟨a, b, e, hb, ?_⟩
  cases a with
  | nil =>
    simp only [List.nil_append, List.cons.injEq, true_and] at e
    subst e
    rw [splitL_no r hb] at hall hst
    refine ⟨by simpa using hall, by rw [dirL_nil]; exact goodB_root, by rw [dirL_nil, openL_root]; rfl, ?_⟩
    rw [hst, dirL_nil, stepsL, if_pos rfl]; rfl
  | cons c a =>
    simp only [List.cons_append, List.cons.injEq] at e
    obtain ⟨rfl, rfl⟩ := e
    rw [splitL_tail a b hb] at hall hst
    rw [List.all_append, Bool.and_eq_true] at hall
    have ha : a ≠ [] := by
      rintro rfl
      have h := hall.1
      rw [show splitL [] = [[]] from rfl] at h
      simp [not_named_nil] at h
    have hd : dirL (47 :: a) = 47 :: a := dirL_other (by simp)
    have hd1 : (47 :: a : List UInt8) ≠ [47] := by simp [ha]
    refine ⟨by simpa using hall.2, ?_, ?_, ?_⟩
    · rw [hd, goodB_cons a ha, hall.1, Bool.and_true, decide_eq_true_eq]
      simp at hlen; omega
    · rw [hd, openL_other hd1]; simp
    · rw [hst, hd, stepsL, if_neg hd1, Lib.trimPrefix, if_pos (by simp [Lib.hasPrefix, List.isPrefixOf])]; rfl

end Go.Proofs.YtmebfelofjgjhaaDoor

namespace Go.Proofs.YtmebfelofjgjhaaDoor
open Go.RowKit

theorem bel_open (d m : List UInt8) : belL d m = openL d ++ m := by
  by_cases h : d = [47]
  · subst h
    rw [belL_root, openL_root]; rfl
  · rw [belL_other h, openL_other h]; simp
theorem step_named {p : List UInt8} (hp : goodB p = true) (hr : p ≠ [47]) : namedB (stepOf p) = true := by
  obtain ⟨a, b, rfl, hb⟩ := good_cut hp
  rw [stepOf_cut hp hr hb]
  obtain ⟨a', b', e, hb', h1, _⟩ := pgood_parts hp hr
  have e1 := lastCut_some b hb a
  rw [e, lastCut_some b' hb' a'] at e1
  simp only [Option.some.injEq, Prod.mk.injEq] at e1
  obtain ⟨rfl, rfl⟩ := e1
  exact h1
theorem lin_join {z : Int} {ns : List Nd} {ss : List Int} (g : GoodN z ns ss) {d m x : List UInt8} (hx : x ∈ linL ns d m) : joinS d x = belL d x ∧ joinE d x = 0 := by
  obtain ⟨_, _, _, hgd, n, hm, hp, _, hdir, hst⟩ := lin_node g hx
  have hgp := (g.ok n hm).path
  have hne : n.p ≠ [47] := by
    intro h0
    rw [h0, dirOf_root] at hdir
    rw [← hdir] at hgd
    exact absurd hgd (by decide)
  have hnx : namedB x = true := by rw [← hst]; exact step_named hgp hne
  have hb : (goodB d && namedB x) = true := by rw [hgd, hnx]; rfl
  have hl : (openL d ++ x).length ≤ 200 := by rw [← bel_open, ← hp]; exact goodB_le hgp
  rw [bel_open]
  exact join_fits hb hl
end Go.Proofs.YtmebfelofjgjhaaDoor

namespace Go.Proofs.YtmebfelofjgjhaaDoor
open Go.RowKit

/-- a row of texts that lies there, or nothing -/
theorem srow {w : World} {v : Value} {xs : List (List UInt8)} (hv : SeqV w v xs) : ∀ W, Below w.heap.size w W → ∀ (k : Nat) (x : List UInt8), xs[k]? = some x → ∃ b off cap, v = .slice (some ⟨b, off, none⟩) xs.length cap ∧ b < w.heap.size ∧ RowAt W b off (cellsL xs) := fun W hW k x hx => by
  obtain ⟨b, off, cap, e, hb, hr, _, _⟩ := seq_row hv (fun h0 => by obtain ⟨h1, _⟩ := List.getElem?_eq_some_iff.1 hx; rw [h0] at h1; simp at h1)
  exact ⟨b, off, cap, e, hb, hr.kept hW hb⟩

set_option maxRecDepth 10000 in
set_option maxHeartbeats 1000000 in
theorem sindex_no (v : Value) (xs : List (List UInt8)) (s : List UInt8) (w : World) (hv : SeqV w v xs) (hl : xs.length ≤ 400) (h : s ∉ xs) :
    Calls Tryd.prog 30 #[v, .string ⟨s.toArray⟩] w fun e w' => e = .returned (.int .i64 (-1)) ∧ Below w.heap.size w w' := by
  have KR := hide (srow hv)
  have HN := hide h
  obtain ⟨va, vc, rfl⟩ := seq_slice hv
  clear hv h
  go_enter Tryd.func30, Tryd.ntmps30
  go_wp2_with fail
  go_loopg [8] xs.length (fun kx s8 wr => ∃ k : Nat, s8 = .int .i64 k ∧ k ≤ xs.length ∧ xs.length - k ≤ kx ∧ Hid (Below w.heap.size w wr))
  case atStart => exact ⟨0, rfl, Nat.zero_le _, Nat.le_refl _, hide (Below.refl _ _)⟩
  case round =>
    obtain ⟨k, rfl, hk, hg, hB⟩ := hrel
    by_cases hlt : k < xs.length
    · obtain ⟨x, hx⟩ : ∃ x, xs[k]? = some x := ⟨_, List.getElem?_eq_getElem hlt⟩
      obtain ⟨b, off, cap, he, hb, q⟩ := unhide KR wr (unhide hB) k x hx
      simp only [Value.slice.injEq] at he
      obtain ⟨rfl, _, rfl⟩ := he
      have d0 := q.s0 hx
      have hkk : (k : Int) < (xs.length : Int) := by omega
      have hne : (s == x) = false := by
        have : s ≠ x := fun e => unhide HN (by rw [e]; exact List.mem_of_getElem? hx)
        simpa using this
      clear q hx
      go_wp2_with fail
      go_roundg (xs.length - (k + 1))
      case measure => omega
      case rel => exact ⟨k + 1, rfl, by omega, Nat.le_refl _, hB⟩
    · obtain rfl : k = xs.length := by omega
      go_wp2_with fail
      go_ret
      exact ⟨rfl, unhide hB⟩

set_option maxRecDepth 10000 in
set_option maxHeartbeats 1000000 in
theorem sindex_at (v : Value) (A R : List (List UInt8)) (s : List UInt8) (w : World) (hv : SeqV w v (A ++ s :: R)) (hl : (A ++ s :: R).length ≤ 400) (h : s ∉ A) :
    Calls Tryd.prog 30 #[v, .string ⟨s.toArray⟩] w fun e w' => e = .returned (.int .i64 A.length) ∧ Below w.heap.size w w' := by
  have KR := hide (srow hv)
  have HN := hide h
  have hAn : A.length < (A ++ s :: R).length := by simp
  obtain ⟨va, vc, rfl⟩ := seq_slice hv
  obtain ⟨n, hn⟩ : ∃ n, (A ++ s :: R).length = n := ⟨_, rfl⟩
  rw [hn] at hl hAn ⊢
  have HNN := hide hn
  clear hv h hn
  go_enter Tryd.func30, Tryd.ntmps30
  go_wp2_with fail
  go_loopg [8] n (fun kx s8 wr => ∃ k : Nat, s8 = .int .i64 k ∧ k ≤ A.length ∧ n - k ≤ kx ∧ Hid (Below w.heap.size w wr))
  case atStart => exact ⟨0, rfl, Nat.zero_le _, Nat.le_refl _, hide (Below.refl _ _)⟩
  case round =>
    obtain ⟨k, rfl, hk, hg, hB⟩ := hrel
    have hlt : k < n := by omega
    obtain ⟨x, hx⟩ : ∃ x, (A ++ s :: R)[k]? = some x := ⟨_, List.getElem?_eq_getElem (by rw [unhide HNN]; exact hlt)⟩
    obtain ⟨b, off, cap, he, hb, q⟩ := unhide KR wr (unhide hB) k x hx
    simp only [Value.slice.injEq] at he
    obtain ⟨rfl, _, rfl⟩ := he
    have d0 := q.s0 hx
    have hkk : (k : Int) < (n : Int) := by omega
    by_cases hka : k < A.length
    · have hne : (s == x) = false := by
        have : s ≠ x := fun e => unhide HN (by
          rw [List.getElem?_append_left hka] at hx
          rw [e]; exact List.mem_of_getElem? hx)
        simpa using this
      clear q hx
      go_wp2_with fail
      go_roundg (n - (k + 1))
      case measure => omega
      case rel => exact ⟨k + 1, rfl, by omega, Nat.le_refl _, hB⟩
    · obtain rfl : k = A.length := by omega
      have : (A ++ s :: R)[A.length]? = some s := by simp
      rw [this] at hx
      cases hx
      clear q this
      go_wp2_with fail
      go_ret
      exact ⟨rfl, unhide hB⟩

def befS (L : List (List UInt8)) (s : List UInt8) : List UInt8 := (befO L s).getD []
def befB (L : List (List UInt8)) (s : List UInt8) : Bool := (befO L s).isSome

set_option maxRecDepth 20000 in
set_option maxHeartbeats 1000000 in
/-- where the step is first in line, or not there -/
theorem before_no (z : Int) (vn vs : Value) (ns : List Nd) (d m s : List UInt8) (n : Int) (w : World) (hn : SeqV w vn ns) (ha : NAsc ns) (hl : ns.length ≤ 400) (hml : m.length ≤ 140737488355328) (hi : n < 1)
    (CI : ∀ W v, SeqV W v (linL ns d m) → Calls Tryd.prog 30 #[v, .string ⟨s.toArray⟩] W fun e w' => e = .returned (.int .i64 n) ∧ Below W.heap.size W w') :
    Calls Tryd.prog 11 #[.agg #[.int .i64 z, vn, vs], .string ⟨d.toArray⟩, .string ⟨m.toArray⟩, .string ⟨s.toArray⟩] w fun e w' => e = .returned (.tuple #[.string ⟨#[]⟩, .bool false]) ∧ Below w.heap.size w w' := by
  have CL := hide (fun W (hW : Below w.heap.size w W) => line_any z vn vs ns d m W (hn.next hW) ha hl hml)
  have HI := hide CI
  obtain ⟨L, hL⟩ : ∃ L, linL ns d m = L := ⟨_, rfl⟩
  obtain ⟨E, hE⟩ : ∃ E, linE ns d m = E := ⟨_, rfl⟩
  rw [hL] at HI
  rw [hL, hE] at CL
  obtain ⟨na, nc, rfl⟩ := seq_slice hn
  clear hn ha CI hL hE
  go_enter Tryd.func11, Tryd.ntmps11
  go_wp2_with fail
  refine (unhide CL _ (allocB _ _)).mono ?_
  rintro e w1 ⟨v1, rfl, hk1, hb1⟩
  have HB1 := hide (nbox_then hb1)
  have CX := unhide HI w1 v1 hk1.seq
  obtain ⟨ka, kc, rfl, _⟩ := hk1.slice
  clear hb1 hk1 CL HI
  go_wp2_with fail
  refine CX.mono ?_
  rintro e w2 ⟨rfl, hb2⟩
  have HB2 := hide (nnext (unhide HB1) hb2)
  clear hb2 CX
  go_wp2_with fail
  go_ret2
  exact ⟨rfl, unhide HB2⟩

set_option maxRecDepth 20000 in
set_option maxHeartbeats 1000000 in
theorem before_at (z : Int) (vn vs : Value) (ns : List Nd) (d m s y : List UInt8) (A R : List (List UInt8)) (w : World) (hn : SeqV w vn ns) (ha : NAsc ns) (hl : ns.length ≤ 400) (hml : m.length ≤ 140737488355328) (hkl : (linL ns d m).length ≤ 400) (hL : linL ns d m = A ++ y :: s :: R) (hs : s ∉ A ++ [y]) :
    Calls Tryd.prog 11 #[.agg #[.int .i64 z, vn, vs], .string ⟨d.toArray⟩, .string ⟨m.toArray⟩, .string ⟨s.toArray⟩] w fun e w' => e = .returned (.tuple #[.string ⟨y.toArray⟩, .bool true]) ∧ Below w.heap.size w w' := by
  have CL := hide (fun W (hW : Below w.heap.size w W) => line_any z vn vs ns d m W (hn.next hW) ha hl hml)
  have e1 : A ++ y :: s :: R = (A ++ [y]) ++ s :: R := by simp
  have HI := hide (fun W v (hv : SeqV W v (linL ns d m)) => sindex_at v (A ++ [y]) R s W (by rw [← e1, ← hL]; exact hv) (by rw [← e1, ← hL]; exact hkl) hs)
  have HY : Hid ((linL ns d m)[A.length]? = some y) := hide (by rw [hL]; simp)
  obtain ⟨j, hj⟩ : ∃ j, (A ++ [y]).length = j := ⟨_, rfl⟩
  have hjA : j = A.length + 1 := by rw [← hj]; simp
  have hjl : j < (linL ns d m).length := by rw [hL, e1, List.length_append, hj]; simp
  obtain ⟨k, hk⟩ : ∃ k, k = A.length := ⟨_, rfl⟩
  rw [← hk] at hjA HY
  rw [hj] at HI
  subst hjA
  obtain ⟨L, hLL⟩ : ∃ L, linL ns d m = L := ⟨_, rfl⟩
  obtain ⟨E, hE⟩ : ∃ E, linE ns d m = E := ⟨_, rfl⟩
  rw [hLL] at HI HY hjl hkl
  rw [hLL, hE] at CL
  obtain ⟨na, nc, rfl⟩ := seq_slice hn
  clear hn ha hL hE hLL hs e1 hj hk
  go_enter Tryd.func11, Tryd.ntmps11
  go_wp2_with fail
  refine (unhide CL _ (allocB _ _)).mono ?_
  rintro e w1 ⟨v1, rfl, hk1, hb1⟩
  have HB1 := hide (nbox_then hb1)
  have CX := unhide HI w1 v1 hk1.seq
  have HR := hide (srow hk1.seq)
  obtain ⟨ka, kc, rfl, _⟩ := hk1.slice
  clear hb1 hk1 CL HI
  go_wp2_with fail
  refine CX.mono ?_
  rintro e w2 ⟨rfl, hb2⟩
  have HB2 := hide (nnext (unhide HB1) hb2)
  obtain ⟨b, off, cap, he, hb, q⟩ := unhide HR w2 hb2 k y (unhide HY)
  simp only [Value.slice.injEq] at he
  obtain ⟨rfl, _, rfl⟩ := he
  have d0 := q.s0 (unhide HY)
  have hkk : (k : Int) < (L.length : Int) := by omega
  clear hb2 CX q HR
  go_wp2_with fail
  go_ret2
  exact ⟨rfl, unhide HB2⟩

theorem lin_few (ns : List Nd) (d m : List UInt8) (hl : ns.length ≤ 400) : (linL ns d m).length ≤ 400 := by
  unfold linL
  split
  · refine Nat.le_trans (List.length_filter_le _ _) ?_
    rw [kidsP_len]
    exact Nat.le_trans List.countP_le_length hl
  · simp
theorem before_any (z : Int) (vn vs : Value) (ns : List Nd) (d m s : List UInt8) (w : World) (hn : SeqV w vn ns) (ha : NAsc ns) (hl : ns.length ≤ 400) (hml : m.length ≤ 140737488355328) :
    Calls Tryd.prog 11 #[.agg #[.int .i64 z, vn, vs], .string ⟨d.toArray⟩, .string ⟨m.toArray⟩, .string ⟨s.toArray⟩] w fun e w' => e = .returned (.tuple #[.string ⟨(befS (linL ns d m) s).toArray⟩, .bool (befB (linL ns d m) s)]) ∧ Below w.heap.size w w' := by
  have hkl := lin_few ns d m hl
  unfold befS befB
  rcases bef_cases (linL ns d m) s with h | ⟨A, R, hL, h⟩
  · rw [bef_no h]
    exact before_no z vn vs ns d m s (-1) w hn ha hl hml (by decide) (fun W v hv => sindex_no v _ s W hv hkl h)
  · rcases List.eq_nil_or_concat A with rfl | ⟨A', y, rfl⟩
    · rw [hL, List.nil_append, bef_first]
      exact before_no z vn vs ns d m s 0 w hn ha hl hml (by decide) (fun W v hv => sindex_at v [] R s W (by rw [List.nil_append, ← List.nil_append (s :: R), ← hL]; exact hv) (by rw [← hL]; exact hkl) h)
    · have e : linL ns d m = A' ++ y :: s :: R := by rw [hL]; simp
      rw [e, bef_at (by simpa using h)]
      exact before_at z vn vs ns d m s y A' R w hn ha hl hml hkl e (by simpa using h)
end Go.Proofs.YtmebfelofjgjhaaDoor

namespace Go.Proofs.YtmebfelofjgjhaaDoor
open Go.RowKit

theorem ret_ib {a b : Int} {c : Bool} (h : a = b) : Ending.returned (.tuple #[.int .i64 a, .bool c]) = .returned (.tuple #[.int .i64 b, .bool c]) := by rw [h]
set_option maxRecDepth 10000 in
set_option maxHeartbeats 400000 in
theorem fence_any (a b : Int) (w : World) :
    Calls Tryd.prog 19 #[.int .i64 a, .int .i64 b] w fun e w' => e = .returned (.tuple #[.int .i64 (fenN a b), .bool (decide (a ≤ b))]) ∧ w' = w := by
  unfold fenN
  go_enter Tryd.func19, Tryd.ntmps19
  go_wp2
  all_goals go_ret2
  all_goals exact ⟨ret_ib (by omega), rfl⟩

set_option maxRecDepth 10000 in
theorem fences_true (w : World) : Calls Tryd.prog 5 #[] w fun e w' => e = .returned (.bool true) ∧ w' = w := by
  go_enter Tryd.func5, Tryd.ntmps5
  go_wp2_with fail
  refine (fence_any _ _ _).mono ?_
  rintro e w1 ⟨rfl, rfl⟩
  rw [show fenN 5 6 = 6 from rfl]
  go_wp2_with fail
  go_ret
  exact ⟨rfl, rfl⟩

end Go.Proofs.YtmebfelofjgjhaaDoor

namespace Go.Proofs.YtmebfelofjgjhaaDoor
open Go.RowKit

/-- what Ready answers -/
def rdyE (ns : List Nd) (d : List UInt8) (k : Int) : Int := if 0 ≤ k ∧ k ≤ 64 then (if (lookN ns d).isSome = true then 0 else 7) else 3
def rdyB (ns : List Nd) (d : List UInt8) (k : Int) : Bool := decide (rdyE ns d k = 0) && decide (k ≤ ((kidsP ns d).length : Int))
theorem rdy_out {ns : List Nd} {d : List UInt8} {k : Int} (h : ¬ (0 ≤ k ∧ k ≤ 64)) : rdyE ns d k = 3 ∧ rdyB ns d k = false := by
  have e : rdyE ns d k = 3 := by rw [rdyE, if_neg h]
  exact ⟨e, by rw [rdyB, e]; rfl⟩
theorem rdy_gap {ns : List Nd} {d : List UInt8} {k : Int} (h : 0 ≤ k ∧ k ≤ 64) (hn : lookN ns d = none) : rdyE ns d k = 7 ∧ rdyB ns d k = false := by
  have e : rdyE ns d k = 7 := by rw [rdyE, if_pos h, hn]; rfl
  exact ⟨e, by rw [rdyB, e]; rfl⟩
theorem rdy_in {ns : List Nd} {d : List UInt8} {k : Int} {n : Nd} (h : 0 ≤ k ∧ k ≤ 64) (hn : lookN ns d = some n) : rdyE ns d k = 0 ∧ rdyB ns d k = decide (k ≤ ((kidsP ns d).length : Int)) := by
  have e : rdyE ns d k = 0 := by rw [rdyE, if_pos h, hn]; rfl
  exact ⟨e, by rw [rdyB, e]; rfl⟩
set_option maxRecDepth 20000 in
set_option maxHeartbeats 400000 in
theorem ready_out (z : Int) (vn vs : Value) (d : List UInt8) (k : Int) (w : World) (ns : List Nd) (hn : SeqV w vn ns) (hk : k < 0 ∨ 64 < k) :
    Calls Tryd.prog 12 #[.agg #[.int .i64 z, vn, vs], .string ⟨d.toArray⟩, .int .i64 k] w fun e w' => e = .returned (.tuple #[.bool false, .int .i64 3]) ∧ Below w.heap.size w w' := by
  obtain ⟨na, nc, rfl⟩ := seq_slice hn
  clear hn
  rcases hk with hk | hk
  · go_enter Tryd.func12, Tryd.ntmps12
    go_wp2_with fail
    go_ret2
    exact ⟨rfl, allocB _ _⟩
  · have h0 : ¬ k < 0 := by omega
    go_enter Tryd.func12, Tryd.ntmps12
    go_wp2_with fail
    go_ret2
    exact ⟨rfl, allocB _ _⟩
set_option maxRecDepth 20000 in
set_option maxHeartbeats 400000 in
theorem ready_gap (z : Int) (vn vs : Value) (ns : List Nd) (d : List UInt8) (k : Int) (w : World) (hn : SeqV w vn ns) (hk : 0 ≤ k ∧ k ≤ 64)
    (CK : ∀ W vn, SeqV W vn ns → Calls Tryd.prog 20 #[.agg #[.int .i64 z, vn, vs], .string ⟨d.toArray⟩] W fun e w' => e = .returned (.tuple #[.slice none 0 0, .int .i64 7]) ∧ Below W.heap.size W w') :
    Calls Tryd.prog 12 #[.agg #[.int .i64 z, vn, vs], .string ⟨d.toArray⟩, .int .i64 k] w fun e w' => e = .returned (.tuple #[.bool false, .int .i64 7]) ∧ Below w.heap.size w w' := by
  have HK := hide (fun W (hW : Below w.heap.size w W) => CK W vn (hn.next hW))
  obtain ⟨na, nc, rfl⟩ := seq_slice hn
  obtain ⟨k0, k1⟩ := hk
  clear hn CK
  go_enter Tryd.func12, Tryd.ntmps12
  go_wp2_with fail
  refine (unhide HK _ (allocB _ _)).mono ?_
  rintro e w1 ⟨rfl, hb1⟩
  have HB := hide (nbox_then hb1)
  clear hb1 HK
  go_wp2_with fail
  go_ret2
  exact ⟨rfl, unhide HB⟩
set_option maxRecDepth 20000 in
set_option maxHeartbeats 400000 in
theorem ready_in (z : Int) (vn vs : Value) (ns : List Nd) (K : List (List UInt8)) (d : List UInt8) (k : Int) (w : World) (hn : SeqV w vn ns) (hk : 0 ≤ k ∧ k ≤ 64)
    (CK : ∀ W vn, SeqV W vn ns → Calls Tryd.prog 20 #[.agg #[.int .i64 z, vn, vs], .string ⟨d.toArray⟩] W fun e w' => ∃ v', e = .returned (.tuple #[v', .int .i64 0]) ∧ SeqV w' v' K ∧ Below W.heap.size W w') :
    Calls Tryd.prog 12 #[.agg #[.int .i64 z, vn, vs], .string ⟨d.toArray⟩, .int .i64 k] w fun e w' => e = .returned (.tuple #[.bool (decide (k ≤ (K.length : Int))), .int .i64 0]) ∧ Below w.heap.size w w' := by
  have HK := hide (fun W (hW : Below w.heap.size w W) => CK W vn (hn.next hW))
  obtain ⟨na, nc, rfl⟩ := seq_slice hn
  obtain ⟨k0, k1⟩ := hk
  clear hn CK
  go_enter Tryd.func12, Tryd.ntmps12
  go_wp2_with fail
  refine (unhide HK _ (allocB _ _)).mono ?_
  rintro e w1 ⟨v1, rfl, hv1, hb1⟩
  have HB := hide (nbox_then hb1)
  obtain ⟨ka, kc, rfl⟩ := seq_slice hv1
  clear hb1 HK hv1
  go_wp2_with fail
  go_ret2
  exact ⟨rfl, unhide HB⟩

theorem ready_any (z : Int) (vn vs : Value) (ns : List Nd) (d : List UInt8) (k : Int) (w : World) (hn : SeqV w vn ns) (ha : NAsc ns) (hl : ns.length ≤ 400) :
    Calls Tryd.prog 12 #[.agg #[.int .i64 z, vn, vs], .string ⟨d.toArray⟩, .int .i64 k] w fun e w' => e = .returned (.tuple #[.bool (rdyB ns d k), .int .i64 (rdyE ns d k)]) ∧ Below w.heap.size w w' := by
  by_cases hk : 0 ≤ k ∧ k ≤ 64
  · rcases nwhere d ns ha with ⟨A, n, B, T⟩ | ⟨A, B, G⟩
    · rw [(rdy_in hk T.look).1, (rdy_in hk T.look).2]
      exact ready_in z vn vs ns (kidsP ns d) d k w hn hk (fun W v hv => (tkids_there z v vs ns A B n d W hv hl T).mono fun e w' ⟨v', h1, h2, h3⟩ => ⟨v', h1, h2.seq, h3⟩)
    · rw [(rdy_gap hk G.look).1, (rdy_gap hk G.look).2]
      exact ready_gap z vn vs ns d k w hn hk (fun W v hv => tkids_gap z v vs ns A B d W hv (by omega) G)
  · rw [(rdy_out hk).1, (rdy_out hk).2]
    exact ready_out z vn vs d k w ns hn (by omega)
end Go.Proofs.YtmebfelofjgjhaaDoor

namespace Go.Proofs.YtmebfelofjgjhaaDoor
open Go.RowKit

theorem bl_front (u x y : List UInt8) : bl (u ++ x) (u ++ y) = bl x y := by
  induction u with
  | nil => rfl
  | cons c u ih =>
    show Op.bytesLess (c :: (u ++ x)) (c :: (u ++ y)) = _
    rw [Op.bytesLess]
    have h : ¬ c < c := UInt8.lt_irrefl c
    simp only [decide_eq_false h, Bool.false_or, beq_self_eq_true, Bool.true_and]
    exact ih
theorem kids_rise {z : Int} {ns : List Nd} {ss : List Int} (g : GoodN z ns ss) {d : List UInt8} (hd : d ≠ []) : (kidsP ns d).Pairwise fun x y => bl x y = true := by
  unfold kidsP
  rw [List.pairwise_map]
  have hf : (ns.filter fun n => decide (dirOf n.p = d)).Pairwise fun a b => bl a.p b.p = true := List.Pairwise.filter _ g.asc
  refine hf.imp_of_mem ?_
  intro a b ha hb h
  have key : ∀ n, n ∈ ns.filter (fun n => decide (dirOf n.p = d)) → n.p = openL d ++ stepOf n.p := by
    intro n hn
    obtain ⟨hm, hdn⟩ := List.mem_filter.1 hn
    have hdn : dirOf n.p = d := of_decide_eq_true hdn
    have hp := (g.ok n hm).path
    have hr : n.p ≠ [47] := by
      intro h0
      rw [h0, dirOf_root] at hdn
      exact hd hdn.symm
    have := bel_step hp hr
    rw [hdn, bel_open] at this
    exact this.symm
  rw [key a ha, key b hb, bl_front] at h
  exact h
theorem lin_rise {z : Int} {ns : List Nd} {ss : List Int} (g : GoodN z ns ss) (d m : List UInt8) : (linL ns d m).Pairwise fun x y => bl x y = true := by
  by_cases h : linE ns d m = 0
  · obtain ⟨⟨u, hu⟩, _, hl⟩ := lin_zero h
    rw [hl]
    obtain ⟨hum, hup⟩ := lookN_some hu
    have hgd : goodB d = true := by rw [← hup]; exact (g.ok u hum).path
    have hd : d ≠ [] := by
      intro h0; rw [h0] at hgd; exact absurd hgd (by decide)
    exact List.Pairwise.filter _ (kids_rise g hd)
  · rw [lin_err h]; exact List.Pairwise.nil
theorem rise_lt {L : List (List UInt8)} (h : L.Pairwise fun x y => bl x y = true) {i j : Nat} {x y : List UInt8} (hx : L[i]? = some x) (hy : L[j]? = some y) (hij : i < j) : bl x y = true := by
  obtain ⟨h1, rfl⟩ := List.getElem?_eq_some_iff.1 hx
  obtain ⟨h2, rfl⟩ := List.getElem?_eq_some_iff.1 hy
  exact List.pairwise_iff_getElem.1 h i j h1 h2 hij
theorem bef_head {L : List (List UInt8)} {x : List UInt8} (hx : L[0]? = some x) : befO L x = none := by
  cases L with
  | nil => simp at hx
  | cons a r => simp at hx; subst hx; exact bef_first r a
theorem bef_next {L : List (List UInt8)} (h : L.Pairwise fun x y => bl x y = true) {i : Nat} {x y : List UInt8} (hx : L[i + 1]? = some x) (hy : L[i]? = some y) : befO L x = some y := by
  obtain ⟨h1, h1'⟩ := List.getElem?_eq_some_iff.1 hx
  obtain ⟨h2, h2'⟩ := List.getElem?_eq_some_iff.1 hy
  have e : L = L.take i ++ y :: x :: L.drop (i + 2) := by
    conv => lhs; rw [← List.take_append_drop i L, List.drop_eq_getElem_cons h2, List.drop_eq_getElem_cons h1, h1', h2']
  have hno : x ∉ L.take i ++ [y] := by
    intro hm
    rcases List.mem_append.1 hm with hm | hm
    · obtain ⟨k, hk⟩ := List.getElem?_of_mem hm
      rw [List.getElem?_take] at hk
      split at hk
      · have := rise_lt h hk hx (by omega)
        rw [bl_irrefl] at this; cases this
      · simp at hk
    · simp at hm
      subst hm
      have := rise_lt h hy hx (by omega)
      rw [bl_irrefl] at this; cases this
  rw [e]
  exact bef_at hno
theorem rdy_line {ns : List Nd} {d m : List UInt8} (hE : linE ns d m = 0) : rdyE ns d (min ((linL ns d m).length : Int) 64) = 0 ∧ rdyB ns d (min ((linL ns d m).length : Int) 64) = true := by
  obtain ⟨⟨u, hu⟩, _, hl⟩ := lin_zero hE
  have h : 0 ≤ min ((linL ns d m).length : Int) 64 ∧ min ((linL ns d m).length : Int) 64 ≤ 64 := by omega
  refine ⟨(rdy_in h hu).1, ?_⟩
  rw [(rdy_in h hu).2]
  have := List.length_filter_le (nmbB m) (kidsP ns d)
  rw [← hl] at this
  exact decide_eq_true (by omega)
end Go.Proofs.YtmebfelofjgjhaaDoor

namespace Go.Proofs.YtmebfelofjgjhaaDoor
open Go.RowKit
set_option maxRecDepth 10000 in

set_option maxHeartbeats 400000 in
theorem below_any (d m : List UInt8) (w : World) (hd : d.length ≤ 140737488351232) (hm : m.length ≤ 140737488351232) :
    Calls Tryd.prog 25 #[.string ⟨d.toArray⟩, .string ⟨m.toArray⟩] w fun e w' => e = .returned (.string ⟨(belL d m).toArray⟩) ∧ w' = w := by
  have hz : (ByteArray.mk d.toArray).size = d.length := Lib.size_eq ⟨d.toArray⟩
  have hy : (ByteArray.mk m.toArray).size = m.length := Lib.size_eq ⟨m.toArray⟩
  by_cases h : d = [47]
  · subst h
    go_enter Tryd.func25, Tryd.ntmps25
    go_wp2
    go_ret
    exact ⟨rret_str (by rw [belL_root]; exact rcat [47] m), rfl⟩
  · have h1 : (d == [47]) = false := by simpa using h
    have Ho := hide (belL_other h m)
    clear h
    go_enter Tryd.func25, Tryd.ntmps25
    go_wp2
    go_ret
    exact ⟨rret_str (by rw [unhide Ho, show d ++ 47 :: m = (d ++ [47]) ++ m by simp, ← rcat, ← rcat]), rfl⟩

end Go.Proofs.YtmebfelofjgjhaaDoor

namespace Go.Proofs.YtmebfelofjgjhaaDoor
open Go.RowKit

structure NodX (w W : World) (q : Nat) (n : Nd) : Prop where
  b : Below w.heap.size w W
  le : w.heap.size ≤ q
  one : OneR W q n
theorem nod_new {w W : World} (p d : List UInt8) (c m q v k o n : Int) (hb : Below w.heap.size w W) : NodX w (W.alloc (.cells #[.string ⟨p.toArray⟩, .string ⟨d.toArray⟩, .int .i64 c, .int .i64 m, .int .i64 q, .int .i64 v, .int .i64 k, .int .i64 o, .int .i64 n] 40)) W.heap.size ⟨p, d, c, m, q, v, k, o, n⟩ :=
  ⟨nnext hb (allocB _ _), hb.size, one_newN W ⟨p, d, c, m, q, v, k, o, n⟩⟩
theorem nod_put {w W : World} {b : Nat} (p d : List UInt8) (c m q v k o n : Int) (hb : Below w.heap.size w W) (hq : w.heap.size ≤ b) (hz : OneR W b nzero) :
    NodX w (((((((((W.setCell ⟨b, 0, none⟩ (.string ⟨p.toArray⟩)).setCell ⟨b, 1, none⟩ (.string ⟨d.toArray⟩)).setCell ⟨b, 2, none⟩ (.int .i64 c)).setCell ⟨b, 3, none⟩ (.int .i64 m)).setCell ⟨b, 4, none⟩ (.int .i64 q)).setCell ⟨b, 5, none⟩ (.int .i64 v)).setCell ⟨b, 6, none⟩ (.int .i64 k)).setCell ⟨b, 7, none⟩ (.int .i64 o)).setCell ⟨b, 8, none⟩ (.int .i64 n)) b ⟨p, d, c, m, q, v, k, o, n⟩ := by
  refine ⟨((((((((hb.setCell hq _).setCell hq _).setCell hq _).setCell hq _).setCell hq _).setCell hq _).setCell hq _).setCell hq _).setCell hq _, hq, ?_⟩
  have h0 : W.heap[b]? = some (.cells #[.string ⟨#[]⟩, .string ⟨#[]⟩, .int .i64 0, .int .i64 0, .int .i64 0, .int .i64 0, .int .i64 0, .int .i64 0, .int .i64 0] 40 (0, 0)) := hz
  have h1 : (W.setCell ⟨b, 0, none⟩ (.string ⟨p.toArray⟩)).heap[b]? = some (.cells #[.string ⟨p.toArray⟩, .string ⟨#[]⟩, .int .i64 0, .int .i64 0, .int .i64 0, .int .i64 0, .int .i64 0, .int .i64 0, .int .i64 0] 40 (0, 0)) := by rw [block_set _ h0]; rfl
  have h2 : ((W.setCell ⟨b, 0, none⟩ (.string ⟨p.toArray⟩)).setCell ⟨b, 1, none⟩ (.string ⟨d.toArray⟩)).heap[b]? = some (.cells #[.string ⟨p.toArray⟩, .string ⟨d.toArray⟩, .int .i64 0, .int .i64 0, .int .i64 0, .int .i64 0, .int .i64 0, .int .i64 0, .int .i64 0] 40 (0, 0)) := by rw [block_set _ h1]; rfl
  have h3 : (((W.setCell ⟨b, 0, none⟩ (.string ⟨p.toArray⟩)).setCell ⟨b, 1, none⟩ (.string ⟨d.toArray⟩)).setCell ⟨b, 2, none⟩ (.int .i64 c)).heap[b]? = some (.cells #[.string ⟨p.toArray⟩, .string ⟨d.toArray⟩, .int .i64 c, .int .i64 0, .int .i64 0, .int .i64 0, .int .i64 0, .int .i64 0, .int .i64 0] 40 (0, 0)) := by rw [block_set _ h2]; rfl
  have h4 : ((((W.setCell ⟨b, 0, none⟩ (.string ⟨p.toArray⟩)).setCell ⟨b, 1, none⟩ (.string ⟨d.toArray⟩)).setCell ⟨b, 2, none⟩ (.int .i64 c)).setCell ⟨b, 3, none⟩ (.int .i64 m)).heap[b]? = some (.cells #[.string ⟨p.toArray⟩, .string ⟨d.toArray⟩, .int .i64 c, .int .i64 m, .int .i64 0, .int .i64 0, .int .i64 0, .int .i64 0, .int .i64 0] 40 (0, 0)) := by rw [block_set _ h3]; rfl
  have h5 : (((((W.setCell ⟨b, 0, none⟩ (.string ⟨p.toArray⟩)).setCell ⟨b, 1, none⟩ (.string ⟨d.toArray⟩)).setCell ⟨b, 2, none⟩ (.int .i64 c)).setCell ⟨b, 3, none⟩ (.int .i64 m)).setCell ⟨b, 4, none⟩ (.int .i64 q)).heap[b]? = some (.cells #[.string ⟨p.toArray⟩, .string ⟨d.toArray⟩, .int .i64 c, .int .i64 m, .int .i64 q, .int .i64 0, .int .i64 0, .int .i64 0, .int .i64 0] 40 (0, 0)) := by rw [block_set _ h4]; rfl
  have h6 : ((((((W.setCell ⟨b, 0, none⟩ (.string ⟨p.toArray⟩)).setCell ⟨b, 1, none⟩ (.string ⟨d.toArray⟩)).setCell ⟨b, 2, none⟩ (.int .i64 c)).setCell ⟨b, 3, none⟩ (.int .i64 m)).setCell ⟨b, 4, none⟩ (.int .i64 q)).setCell ⟨b, 5, none⟩ (.int .i64 v)).heap[b]? = some (.cells #[.string ⟨p.toArray⟩, .string ⟨d.toArray⟩, .int .i64 c, .int .i64 m, .int .i64 q, .int .i64 v, .int .i64 0, .int .i64 0, .int .i64 0] 40 (0, 0)) := by rw [block_set _ h5]; rfl
  have h7 : (((((((W.setCell ⟨b, 0, none⟩ (.string ⟨p.toArray⟩)).setCell ⟨b, 1, none⟩ (.string ⟨d.toArray⟩)).setCell ⟨b, 2, none⟩ (.int .i64 c)).setCell ⟨b, 3, none⟩ (.int .i64 m)).setCell ⟨b, 4, none⟩ (.int .i64 q)).setCell ⟨b, 5, none⟩ (.int .i64 v)).setCell ⟨b, 6, none⟩ (.int .i64 k)).heap[b]? = some (.cells #[.string ⟨p.toArray⟩, .string ⟨d.toArray⟩, .int .i64 c, .int .i64 m, .int .i64 q, .int .i64 v, .int .i64 k, .int .i64 0, .int .i64 0] 40 (0, 0)) := by rw [block_set _ h6]; rfl
  have h8 : ((((((((W.setCell ⟨b, 0, none⟩ (.string ⟨p.toArray⟩)).setCell ⟨b, 1, none⟩ (.string ⟨d.toArray⟩)).setCell ⟨b, 2, none⟩ (.int .i64 c)).setCell ⟨b, 3, none⟩ (.int .i64 m)).setCell ⟨b, 4, none⟩ (.int .i64 q)).setCell ⟨b, 5, none⟩ (.int .i64 v)).setCell ⟨b, 6, none⟩ (.int .i64 k)).setCell ⟨b, 7, none⟩ (.int .i64 o)).heap[b]? = some (.cells #[.string ⟨p.toArray⟩, .string ⟨d.toArray⟩, .int .i64 c, .int .i64 m, .int .i64 q, .int .i64 v, .int .i64 k, .int .i64 o, .int .i64 0] 40 (0, 0)) := by rw [block_set _ h7]; rfl
  have h9 : (((((((((W.setCell ⟨b, 0, none⟩ (.string ⟨p.toArray⟩)).setCell ⟨b, 1, none⟩ (.string ⟨d.toArray⟩)).setCell ⟨b, 2, none⟩ (.int .i64 c)).setCell ⟨b, 3, none⟩ (.int .i64 m)).setCell ⟨b, 4, none⟩ (.int .i64 q)).setCell ⟨b, 5, none⟩ (.int .i64 v)).setCell ⟨b, 6, none⟩ (.int .i64 k)).setCell ⟨b, 7, none⟩ (.int .i64 o)).setCell ⟨b, 8, none⟩ (.int .i64 n)).heap[b]? = some (.cells #[.string ⟨p.toArray⟩, .string ⟨d.toArray⟩, .int .i64 c, .int .i64 m, .int .i64 q, .int .i64 v, .int .i64 k, .int .i64 o, .int .i64 n] 40 (0, 0)) := by rw [block_set _ h8]; rfl
  exact h9
theorem zcells9 {W : World} {q : Nat} (h : OneR W q nzero) : (W.cell? ⟨q, 0, none⟩ = some (.string ⟨#[]⟩) ∧ W.cell? ⟨q, 1, none⟩ = some (.string ⟨#[]⟩) ∧ W.cell? ⟨q, 2, none⟩ = some (.int .i64 0) ∧ W.cell? ⟨q, 3, none⟩ = some (.int .i64 0) ∧ W.cell? ⟨q, 4, none⟩ = some (.int .i64 0) ∧ W.cell? ⟨q, 5, none⟩ = some (.int .i64 0) ∧ W.cell? ⟨q, 6, none⟩ = some (.int .i64 0) ∧ W.cell? ⟨q, 7, none⟩ = some (.int .i64 0) ∧ W.cell? ⟨q, 8, none⟩ = some (.int .i64 0)) ∧ W.frozen? ⟨q, 0, none⟩ = false ∧ W.frozen? ⟨q, 1, none⟩ = false ∧ W.frozen? ⟨q, 2, none⟩ = false ∧ W.frozen? ⟨q, 3, none⟩ = false ∧ W.frozen? ⟨q, 4, none⟩ = false ∧ W.frozen? ⟨q, 5, none⟩ = false ∧ W.frozen? ⟨q, 6, none⟩ = false ∧ W.frozen? ⟨q, 7, none⟩ = false ∧ W.frozen? ⟨q, 8, none⟩ = false :=
  ⟨⟨h.cellN 0 _ rfl, h.cellN 1 _ rfl, h.cellN 2 _ rfl, h.cellN 3 _ rfl, h.cellN 4 _ rfl, h.cellN 5 _ rfl, h.cellN 6 _ rfl, h.cellN 7 _ rfl, h.cellN 8 _ rfl⟩, h.frozenN 0, h.frozenN 1, h.frozenN 2, h.frozenN 3, h.frozenN 4, h.frozenN 5, h.frozenN 6, h.frozenN 7, h.frozenN 8⟩
end Go.Proofs.YtmebfelofjgjhaaDoor

namespace Go.Proofs.YtmebfelofjgjhaaDoor
open Go.RowKit

set_option maxRecDepth 20000 in
set_option maxHeartbeats 1000000 in
theorem holder_no (z : Int) (vn vs : Value) (ns : List Nd) (d m : List UInt8) (w : World) (hn : SeqV w vn ns) (ha : NAsc ns) (hl : ns.length ≤ 400) (hml : m.length ≤ 140737488355328) (hL : linL ns d m = []) :
    Calls Tryd.prog 8 #[.agg #[.int .i64 z, vn, vs], .string ⟨d.toArray⟩, .string ⟨m.toArray⟩] w fun e w' => e = .returned (.tuple #[.int .i64 0, .int .i64 0, .int .i64 (linE ns d m)]) ∧ Below w.heap.size w w' := by
  have CL := hide (fun W (hW : Below w.heap.size w W) => line_any z vn vs ns d m W (hn.next hW) ha hl hml)
  obtain ⟨E, hE⟩ : ∃ E, linE ns d m = E := ⟨_, rfl⟩
  rw [hE, hL] at CL
  rw [hE]
  obtain ⟨na, nc, rfl⟩ := seq_slice hn
  clear hn ha hL hE
  by_cases h0 : E = 0
  · subst h0
    go_enter Tryd.func8, Tryd.ntmps8
    go_wp2_with fail
    refine (unhide CL _ (allocB _ _)).mono ?_
    rintro e w1 ⟨v1, rfl, hk1, hb1⟩
    have HB1 := hide (nbox_then hb1)
    obtain ⟨ka, kc, rfl, _⟩ := hk1.slice
    clear hb1 hk1 CL
    go_wp2_with fail
    exact bodyPost_ret (v := .tuple #[.int .i64 0, .int .i64 0, .int .i64 0]) (by simp [results, Tryd.results8, go_sem]) rfl ⟨rfl, unhide HB1⟩
  · have h0b : (E == 0) = false := by simpa using h0
    have h0c : (E != 0) = true := by simpa using h0
    clear h0
    go_enter Tryd.func8, Tryd.ntmps8
    go_wp2_with fail
    refine (unhide CL _ (allocB _ _)).mono ?_
    rintro e w1 ⟨v1, rfl, hk1, hb1⟩
    have HB1 := hide (nbox_then hb1)
    obtain ⟨ka, kc, rfl, _⟩ := hk1.slice
    clear hb1 hk1 CL
    go_wp2_with fail
    exact bodyPost_ret (v := .tuple #[.int .i64 0, .int .i64 0, .int .i64 E]) (by simp [results, Tryd.results8, go_sem]) rfl ⟨rfl, unhide HB1⟩

set_option maxRecDepth 20000 in
set_option maxHeartbeats 2000000 in
theorem holder_at (z : Int) (vn vs : Value) (ns A B : List Nd) (n : Nd) (d m x : List UInt8) (r : List (List UInt8)) (w : World) (hn : SeqV w vn ns) (ha : NAsc ns) (hl : ns.length ≤ 400) (hml : m.length ≤ 140737488355328) (hE : linE ns d m = 0) (hL : linL ns d m = x :: r) (hd : d.length ≤ 200) (hx : x.length ≤ 200) (T : NThere ns A n B (belL d x)) (hp : n.p.length ≤ 140737488355328) (hdd : n.d.length ≤ 140737488355328) :
    Calls Tryd.prog 8 #[.agg #[.int .i64 z, vn, vs], .string ⟨d.toArray⟩, .string ⟨m.toArray⟩] w fun e w' => e = .returned (.tuple #[.int .i64 n.o, .int .i64 n.c, .int .i64 0]) ∧ Below w.heap.size w w' := by
  have CL := hide (fun W (hW : Below w.heap.size w W) => line_any z vn vs ns d m W (hn.next hW) ha hl hml)
  have CB := hide (fun W => below_any d x W (by omega) (by omega))
  have CG := hide (fun W (hW : Below w.heap.size w W) => tget_there z vn vs ns A B n (belL d x) W (hn.next hW) (by omega) T hp hdd)
  unfold nodeV at CG
  generalize belL d x = P at CB CG
  obtain ⟨L, hLL⟩ : ∃ L, linL ns d m = L := ⟨_, rfl⟩
  have HX : Hid (L[0]? = some x) := hide (by rw [← hLL, hL]; rfl)
  have hlen : 0 < L.length := by rw [← hLL, hL]; simp
  rw [hE, hLL] at CL
  obtain ⟨na, nc, rfl⟩ := seq_slice hn
  clear hn ha hL hE hLL T hd hx
  go_enter Tryd.func8, Tryd.ntmps8
  go_wp2_with fail
  refine (unhide CL _ (allocB _ _)).mono ?_
  rintro e w1 ⟨v1, rfl, hk1, hb1⟩
  have HB1 := hide (nbox_then hb1)
  have HR := hide (srow hk1.seq)
  obtain ⟨b, off, cap, he, hb, _⟩ := unhide HR w1 (Below.refl _ _) 0 x (unhide HX)
  have hb0 : w.heap.size < w1.heap.size := by have := hb1.size; simp at this; omega
  have KS : Hid (∀ V, Below w1.heap.size w1 V → V.cell? ⟨w.heap.size, 0, none⟩ = some (.int .i64 z) ∧ V.cell? ⟨w.heap.size, 1, none⟩ = some (.slice na ns.length nc) ∧ V.cell? ⟨w.heap.size, 2, none⟩ = some vs ∧ V.cell? ⟨b, off, none⟩ = some (.string ⟨x.toArray⟩)) := hide (fun V hV => by
    have hc : ∀ j, V.cell? ⟨w.heap.size, j, none⟩ = _ := fun j => (hV.cell (p := ⟨w.heap.size, j, none⟩) hb0).trans (hb1.cell (p := ⟨w.heap.size, j, none⟩) (by simp))
    refine ⟨(hc 0).trans (by simp), (hc 1).trans (by simp), (hc 2).trans (by simp), ?_⟩
    obtain ⟨b', off', cap', he', _, q⟩ := unhide HR V hV 0 x (unhide HX)
    rw [he] at he'
    simp only [Value.slice.injEq, Option.some.injEq, Addr.mk.injEq, and_true, true_and] at he'
    obtain ⟨⟨rfl, rfl⟩, _⟩ := he'
    exact q.s0 (unhide HX))
  have CG1 := hide (fun W (hW : Below w1.heap.size w1 W) => unhide CG W (nnext (unhide HB1) hW))
  obtain ⟨ka, kc, rfl, _⟩ := hk1.slice
  simp only [Value.slice.injEq] at he
  obtain ⟨rfl, _, rfl⟩ := he
  obtain ⟨e0, e1, e2, d0⟩ := unhide KS w1 (Below.refl _ _)
  have hli : (0 : Int) < (L.length : Int) := by omega
  have hl0 : ((L.length : Int) == 0) = false := beq_eq_false_iff_ne.2 (by omega)
  clear hk1 CL HR hb1 CG
  go_wp2_with fail
  go_cut [11, 10] from 12 (fun tx te wx => ∃ q, tx = .pointer (some ⟨q, 0, none⟩) ∧ te = .int .i64 0 ∧ Hid (NodX w1 wx q ⟨n.p, n.d, n.c, n.m, n.q, n.v, n.k, n.o, n.n⟩))
  case first =>
    go_region_law (first
      | (go_simp; refine (unhide CG1 _ (by first | with_reducible exact Below.refl _ _ | with_reducible exact (Below.refl _ _).drew | with_reducible exact allocB _ _ | with_reducible exact (allocB _ _).drew | with_reducible exact nnext (Below.refl _ _).drew (allocB _ _) | with_reducible exact nnext (nnext (Below.refl _ _).drew (allocB _ _)) (Below.refl _ _).drew)).mono ?_; rintro e aw2 ⟨rfl, hb2⟩; have aB2 : Hid (Below w1.heap.size w1 aw2) := hide (nnext (by first | with_reducible exact Below.refl _ _ | with_reducible exact (Below.refl _ _).drew | with_reducible exact allocB _ _ | with_reducible exact (allocB _ _).drew | with_reducible exact nnext (Below.refl _ _).drew (allocB _ _) | with_reducible exact nnext (nnext (Below.refl _ _).drew (allocB _ _)) (Below.refl _ _).drew) hb2); have ah2 := (unhide aB2).size; (try (have aZ2 : Hid (OneR aw2 w1.heap.size nzero) := hide ((hb2.block _ (by simp)).trans (heap_alloc_new w1 _)); obtain ⟨⟨az0, az1, az2, az3, az4, az5, az6, az7, az8⟩, af0, af1, af2, af3, af4, af5, af6, af7, af8⟩ := zcells9 (unhide aZ2); have ak2 := (Array.getElem?_eq_some_iff.1 (unhide aZ2)).1)); clear hb2)
      | (go_simp; refine (unhide CB _).mono ?_; rintro e aw1 ⟨rfl, rfl⟩))
    all_goals go_wp2_with fail
    all_goals go_meet
    all_goals refine ⟨_, rfl, rfl, hide ?_⟩
    all_goals first
      | with_reducible exact nod_new n.p n.d n.c n.m n.q n.v n.k n.o n.n (unhide aB2)
      | with_reducible exact nod_put n.p n.d n.c n.m n.q n.v n.k n.o n.n (unhide aB2) (Nat.le_refl _) (unhide aZ2)
  case rest =>
    obtain ⟨q, rfl, rfl, A1⟩ := hcut
    have c7 := (unhide A1).one.cellN 7 _ rfl
    have c2 := (unhide A1).one.cellN 2 _ rfl
    have B2 := hide (nnext (unhide HB1) (unhide A1).b)
    clear KS CG1 CB e0 e1 e2 d0
    go_wp2_with fail
    go_region
    go_wp2_with fail
    exact bodyPost_ret (v := .tuple #[.int .i64 n.o, .int .i64 n.c, .int .i64 0]) (by simp [results, Tryd.results8, go_sem]) rfl ⟨rfl, (unhide B2).drew⟩
/-- of every good tree -/
theorem holder_any (t : Tr) (vn vs : Value) (d m : List UInt8) (w : World) (hn : SeqV w vn t.ns) (g : GoodT t) (hml : m.length ≤ 140737488355328) :
    Calls Tryd.prog 8 #[.agg #[.int .i64 t.z, vn, vs], .string ⟨d.toArray⟩, .string ⟨m.toArray⟩] w fun e w' => e = .returned (.tuple #[.int .i64 (holO t.ns d m), .int .i64 (holC t.ns d m), .int .i64 (linE t.ns d m)]) ∧ Below w.heap.size w w' := by
  cases hL : linL t.ns d m with
  | nil =>
    rw [(hol_nil hL).1, (hol_nil hL).2]
    exact holder_no t.z vn vs t.ns d m w hn g.nod.asc g.nod.few hml hL
  | cons x r =>
    obtain ⟨hE, hd, hx, _, n, hm, hp, hlk, _, _⟩ := lin_node g.nod (x := x) (by rw [hL]; simp)
    rw [(hol_some hL hlk).1, (hol_some hL hlk).2, hE]
    obtain ⟨A, B, T⟩ := there_of_look g.nod.asc hlk
    have k := g.nod.ok n hm
    exact holder_at t.z vn vs t.ns A B n d m x r w hn g.nod.asc g.nod.few hml hE hL hd hx T (by have := goodB_le k.path; omega) (by have := k.data; omega)
end Go.Proofs.YtmebfelofjgjhaaDoor
