/-
  recipe.Line: the walks.
  Where the children of a node lie; the first one of a line; the one ahead of a step. No program is named here.
  slices.Index at texts, and recipe.Before: the walks.
  aviaryref's has, IsOpen, node: the walks.
  What aviaryref.Named answers, for every text: the walk.
  What aviaryref.steps makes, for every text up to a bound: a new slice of the pieces between slashes; the walk.
-/
import Derived.Test.YtkgaoedlnejigaaDoorRLD
import Derived.Test.YtkgaoedlnejigaaDoorRLB
import Derived.Lib.ConvBytes
import Derived.Lib.Strings
import Derived.Test.YtkgaoedlnejigaaDoorRLA
import Derived.OwnWalk
import Derived.WalkSmall
import Derived.Maps.AppendAt
import Derived.RegionTactic
namespace Go.Proofs.YtkgaoedlnejigaaDoor
open Go.RowKit

/-- the steps of a line, and its error -/
def linE (ns : List Nd) (d m : List UInt8) : Int := if (lookN ns d).isSome = true then (if m = [] ∨ namedB m = true then 0 else 2) else 7
def linL (ns : List Nd) (d m : List UInt8) : List (List UInt8) := if linE ns d m = 0 then (kidsP ns d).filter (nmbB m) else []
theorem lin_none {ns : List Nd} {d : List UInt8} (m : List UInt8) (h : lookN ns d = none) : linE ns d m = 7 ∧ linL ns d m = [] := by
  have e : linE ns d m = 7 := by rw [linE, h]; rfl
  exact ⟨e, by rw [linL, e]; rfl⟩
theorem lin_form {ns : List Nd} {d m : List UInt8} {n : Nd} (h : lookN ns d = some n) (hm : m ≠ []) (hb : namedB m = false) : linE ns d m = 2 ∧ linL ns d m = [] := by
  have e : linE ns d m = 2 := by rw [linE, h, if_pos (show (some n).isSome = true from rfl), if_neg (by rintro (h1 | h1); exact hm h1; rw [hb] at h1; exact absurd h1 (by decide))]
  exact ⟨e, by rw [linL, e]; rfl⟩
theorem lin_ok {ns : List Nd} {d m : List UInt8} {n : Nd} (h : lookN ns d = some n) (hm : m = [] ∨ namedB m = true) : linE ns d m = 0 ∧ linL ns d m = (kidsP ns d).filter (nmbB m) := by
  have e : linE ns d m = 0 := by rw [linE, h, if_pos (show (some n).isSome = true from rfl), if_pos hm]
  exact ⟨e, by rw [linL, e, if_pos rfl]⟩

/-- a name in its box -/
def NameAt (W : World) (B : Nat) (m : List UInt8) : Prop := W.heap[B]? = some (.cells #[.string ⟨m.toArray⟩] 9 (0, 0))
theorem NameAt.lt {W : World} {B : Nat} {m : List UInt8} (h : NameAt W B m) : B < W.heap.size := (Array.getElem?_eq_some_iff.1 h).1
theorem NameAt.c0 {W : World} {B : Nat} {m : List UInt8} (h : NameAt W B m) : W.cell? ⟨B, 0, none⟩ = some (.string ⟨m.toArray⟩) := by unfold NameAt at h; simp [World.cell?, h]
theorem NameAt.next {W V : World} {B : Nat} {m : List UInt8} (h : NameAt W B m) (hb : Below W.heap.size W V) : NameAt V B m := (hb.block _ h.lt).trans h
theorem NameAt.grown {W V : World} {B q : Nat} {m : List UInt8} (h : NameAt W B m) (hg : W.grownBy V (some q)) (hq : B ≠ q) : NameAt V B m := (hg.block B h.lt (by simpa using hq)).trans h

set_option maxRecDepth 10000 in
set_option maxHeartbeats 400000 in
theorem line1_any (x m : List UInt8) (B : Nat) (w : World) (hI : NameAt w B m) :
    Calls Tryd.prog 24 #[.string ⟨x.toArray⟩, .pointer (some ⟨B, 0, none⟩)] w fun e w' => e = .returned (.bool (!nmbB m x)) ∧ Below w.heap.size w w' := by
  have CN := hide (fun W => nmb_any x m W)
  have c0 := hI.c0
  clear hI
  go_enter Tryd.func24, Tryd.ntmps24
  go_wp2_with fail
  refine (unhide CN _).mono ?_
  rintro e w1 ⟨rfl, hb1⟩
  go_wp2_with fail
  go_ret
  exact ⟨rfl, hb1⟩
theorem line_clos (m : List UInt8) (B q : Nat) (hq : B ≠ q) : ClosS 24 B q (fun x => !nmbB m x) (fun W => NameAt W B m) :=
  ⟨rfl, fun _ _ h hg => h.grown hg hq, fun W x h => line1_any x m B W h⟩
theorem snot_not (m : List UInt8) (xs : List (List UInt8)) : xs.filter (fun x => !(!nmbB m x)) = xs.filter (nmbB m) := by simp

set_option maxRecDepth 10000 in
set_option maxHeartbeats 400000 in
/-- DeleteFunc with Line's closure, of a row of the call's own or of nothing -/
theorem sdelS (m : List UInt8) (B C : Nat) (v : Value) (xs : List (List UInt8)) (w : World) (hI : NameAt w B m) (ho : OwnS w C v xs) (hB : B < C) (hC : C ≤ w.heap.size) (hl : xs.length ≤ 140737488355328) :
    Calls Tryd.prog 23 #[v, .func (.func 24) #[] #[.pointer (some ⟨B, 0, none⟩)]] w fun e w' => ∃ v', e = .returned v' ∧ OwnS w' C v' (xs.filter (nmbB m)) ∧ Below C w w' := by
  rcases ho with ⟨rfl, rfl⟩ | ⟨q, cap, rfl, hq, hr⟩
  · have CN := sidx_none (line_clos m B w.heap.size (by have := hI.lt; omega)) (.slice none 0 0) [] w hI (SeqV.nil w) (by simp) (by simp)
    clear hI
    go_enter Tryd.func23, Tryd.ntmps23
    go_wp2_with fail
    refine CN.mono ?_
    rintro e w1 ⟨rfl, hb1⟩
    have HB := hide (hb1.mono hC)
    clear CN hb1
    go_wp2_with fail
    go_ret
    exact ⟨_, rfl, .inl ⟨rfl, rfl⟩, unhide HB⟩
  · refine (sdel_any (line_clos m B q (by omega)) cap xs w hI hr hl).mono ?_
    rintro e w' ⟨rfl, h1, h2⟩
    rw [snot_not] at h1 ⊢
    exact ⟨_, rfl, .inr ⟨q, cap, rfl, hq, h1⟩, grownO h2 C hC (fun k hk => by cases hk; exact hq)⟩

/-- a tree's box, and a name's -/
structure LB (w W : World) (m : List UInt8) : Prop where
  n : NameAt W (w.heap.size + 1) m
  b : Below w.heap.size w W
theorem LB.new (w : World) (o : Obj) (m : List UInt8) : LB w ((w.alloc o).alloc (.cells #[.string ⟨m.toArray⟩] 9)) m := by
  refine ⟨?_, nnext (allocB _ _) (allocB _ _)⟩
  have h := heap_alloc_new (w.alloc o) (.cells #[.string ⟨m.toArray⟩] 9)
  rw [show (w.alloc o).heap.size = w.heap.size + 1 by simp] at h
  exact h
theorem LB.next {w W V : World} {m : List UInt8} (h : LB w W m) (hb : Below W.heap.size W V) : LB w V m := ⟨h.n.next hb, nnext h.b hb⟩

set_option maxRecDepth 20000 in
set_option maxHeartbeats 1000000 in
theorem line_gap (z : Int) (vn vs : Value) (ns A B : List Nd) (d m : List UInt8) (w : World) (hn : SeqV w vn ns) (hl : ns.length ≤ 100000) (G : NGap ns A B d) :
    Calls Tryd.prog 7 #[.agg #[.int .i64 z, vn, vs], .string ⟨d.toArray⟩, .string ⟨m.toArray⟩] w fun e w' => ∃ v', e = .returned (.tuple #[v', .int .i64 (linE ns d m)]) ∧ OwnS w' w.heap.size v' (linL ns d m) ∧ Below w.heap.size w w' := by
  obtain ⟨h1, h2⟩ := lin_none m G.look
  rw [h1, h2]
  have CK := hide (fun W (hW : Below w.heap.size w W) => tkids_gap z vn vs ns A B d W (hn.next hW) hl G)
  obtain ⟨na, nc, rfl⟩ := seq_slice hn
  have B0 := hide (LB.new w (.cells #[.int .i64 z, .slice na ns.length nc, vs] 25) m)
  clear hn G h1 h2
  go_enter Tryd.func7, Tryd.ntmps7
  go_wp2_with fail
  refine (unhide CK _ (unhide B0).b).mono ?_
  rintro e w1 ⟨rfl, hb1⟩
  have HB := hide ((unhide B0).next hb1).b
  clear CK hb1 B0
  go_wp2_with fail
  go_ret2
  exact ⟨_, rfl, .inl ⟨rfl, rfl⟩, unhide HB⟩

set_option maxRecDepth 20000 in
set_option maxHeartbeats 1000000 in
theorem line_form (z : Int) (vn vs : Value) (ns A B : List Nd) (n : Nd) (d m : List UInt8) (w : World) (hn : SeqV w vn ns) (hl : ns.length ≤ 400) (T : NThere ns A n B d) (hml : m.length ≤ 140737488355328) (hm : m ≠ []) (hb : namedB m = false) :
    Calls Tryd.prog 7 #[.agg #[.int .i64 z, vn, vs], .string ⟨d.toArray⟩, .string ⟨m.toArray⟩] w fun e w' => ∃ v', e = .returned (.tuple #[v', .int .i64 (linE ns d m)]) ∧ OwnS w' w.heap.size v' (linL ns d m) ∧ Below w.heap.size w w' := by
  obtain ⟨h1, h2⟩ := lin_form T.look hm hb
  rw [h1, h2]
  have CK := hide (fun W (hW : Below w.heap.size w W) => tkids_there z vn vs ns A B n d W (hn.next hW) hl T)
  have hkl : (kidsP ns d).length ≤ 400 := by rw [kidsP_len]; exact Nat.le_trans List.countP_le_length hl
  obtain ⟨na, nc, rfl⟩ := seq_slice hn
  have B0 := hide (LB.new w (.cells #[.int .i64 z, .slice na ns.length nc, vs] 25) m)
  obtain ⟨K, hK⟩ : ∃ K, kidsP ns d = K := ⟨_, rfl⟩
  have CN := hide (fun W => named_any ⟨m.toArray⟩ W (show m.length ≤ maxLen by simp only [maxLen]; omega))
  rw [show (ByteArray.mk m.toArray).data.toList = m from rfl, hb] at CN
  have hmb : (m == []) = false := by simpa using hm
  rw [hK] at CK
  clear hn T h1 h2 hb hm hK hkl
  go_enter Tryd.func7, Tryd.ntmps7
  go_wp2_with fail
  refine (unhide CK _ (unhide B0).b).mono ?_
  rintro e w1 ⟨vk, rfl, hk1, hb1⟩
  have B1 := hide ((unhide B0).next hb1)
  have HK1 := hide hk1
  have hsz : w.heap.size + 2 ≤ w1.heap.size := by have := hb1.size; simp at this; omega
  have c0 := (unhide B1).n.c0
  obtain ⟨ka, kc, rfl, _⟩ := hk1.slice
  clear CK hb1 B0 hk1
  go_wp2_with fail
  refine (unhide CN _).mono ?_
  rintro e w2 ⟨rfl, rfl⟩
  go_wp2_with fail
  go_ret2
  exact ⟨_, rfl, .inl ⟨rfl, rfl⟩, (unhide B1).b⟩

set_option maxRecDepth 20000 in
set_option maxHeartbeats 1000000 in
theorem line_nil (z : Int) (vn vs : Value) (ns A B : List Nd) (n : Nd) (d : List UInt8) (w : World) (hn : SeqV w vn ns) (hl : ns.length ≤ 400) (T : NThere ns A n B d) :
    Calls Tryd.prog 7 #[.agg #[.int .i64 z, vn, vs], .string ⟨d.toArray⟩, .string ⟨#[]⟩] w fun e w' => ∃ v', e = .returned (.tuple #[v', .int .i64 (linE ns d [])]) ∧ OwnS w' w.heap.size v' (linL ns d []) ∧ Below w.heap.size w w' := by
  obtain ⟨h1, h2⟩ := lin_ok T.look (.inl rfl)
  rw [h1, h2]
  have CK := hide (fun W (hW : Below w.heap.size w W) => tkids_there z vn vs ns A B n d W (hn.next hW) hl T)
  have hkl : (kidsP ns d).length ≤ 400 := by rw [kidsP_len]; exact Nat.le_trans List.countP_le_length hl
  obtain ⟨na, nc, rfl⟩ := seq_slice hn
  have B0 := hide (LB.new w (.cells #[.int .i64 z, .slice na ns.length nc, vs] 25) [])
  obtain ⟨K, hK⟩ : ∃ K, kidsP ns d = K := ⟨_, rfl⟩
  rw [hK] at CK hkl ⊢
  have CD := hide (fun B C v W hI ho hB hC => sdelS [] B C v K W hI ho hB hC (by omega))
  generalize K.filter (nmbB []) = R at CD ⊢
  clear hn T h1 h2 hK
  go_enter Tryd.func7, Tryd.ntmps7
  go_wp2_with fail
  refine (unhide CK _ (unhide B0).b).mono ?_
  rintro e w1 ⟨vk, rfl, hk1, hb1⟩
  have B1 := hide ((unhide B0).next hb1)
  have HK1 := hide hk1
  have hsz : w.heap.size + 2 ≤ w1.heap.size := by have := hb1.size; simp at this; omega
  have c0 := (unhide B1).n.c0
  have CX := unhide CD (w.heap.size + 1) (w.heap.size + 2) _ _ (unhide B1).n (hk1.lower (by simp)) (by omega) hsz
  obtain ⟨ka, kc, rfl, _⟩ := hk1.slice
  clear CK CD hb1 B0 hk1
  go_wp2_with fail
  refine CX.mono ?_
  rintro e w3 ⟨v3, rfl, hk3, hb3⟩
  have HK3 := hide (hk3.lower (show w.heap.size ≤ w.heap.size + 2 by omega))
  have HB3 := hide ((unhide B1).b.trans (hb3.mono (show w.heap.size ≤ w.heap.size + 2 by omega)))
  obtain ⟨ka3, kc3, rfl, _⟩ := hk3.slice
  clear CX hk3 hb3
  go_wp2_with fail
  go_ret2
  exact ⟨_, rfl, unhide HK3, unhide HB3⟩

set_option maxRecDepth 20000 in
set_option maxHeartbeats 1000000 in
theorem line_named (z : Int) (vn vs : Value) (ns A B : List Nd) (n : Nd) (d m : List UInt8) (w : World) (hn : SeqV w vn ns) (hl : ns.length ≤ 400) (T : NThere ns A n B d) (hml : m.length ≤ 140737488355328) (hb : namedB m = true) :
    Calls Tryd.prog 7 #[.agg #[.int .i64 z, vn, vs], .string ⟨d.toArray⟩, .string ⟨m.toArray⟩] w fun e w' => ∃ v', e = .returned (.tuple #[v', .int .i64 (linE ns d m)]) ∧ OwnS w' w.heap.size v' (linL ns d m) ∧ Below w.heap.size w w' := by
  obtain ⟨h1, h2⟩ := lin_ok T.look (.inr hb)
  rw [h1, h2]
  have CK := hide (fun W (hW : Below w.heap.size w W) => tkids_there z vn vs ns A B n d W (hn.next hW) hl T)
  have hkl : (kidsP ns d).length ≤ 400 := by rw [kidsP_len]; exact Nat.le_trans List.countP_le_length hl
  obtain ⟨na, nc, rfl⟩ := seq_slice hn
  have B0 := hide (LB.new w (.cells #[.int .i64 z, .slice na ns.length nc, vs] 25) m)
  obtain ⟨K, hK⟩ : ∃ K, kidsP ns d = K := ⟨_, rfl⟩
  rw [hK] at CK hkl ⊢
  have CD := hide (fun B C v W hI ho hB hC => sdelS m B C v K W hI ho hB hC (by omega))
  have CN := hide (fun W => named_any ⟨m.toArray⟩ W (show m.length ≤ maxLen by simp only [maxLen]; omega))
  rw [show (ByteArray.mk m.toArray).data.toList = m from rfl, hb] at CN
  have hmb : (m == []) = false := by
    cases m with
    | nil => exact absurd hb (by decide)
    | cons a r => rfl
  generalize K.filter (nmbB m) = R at CD ⊢
  clear hn T h1 h2 hb hK
  go_enter Tryd.func7, Tryd.ntmps7
  go_wp2_with fail
  refine (unhide CK _ (unhide B0).b).mono ?_
  rintro e w1 ⟨vk, rfl, hk1, hb1⟩
  have B1 := hide ((unhide B0).next hb1)
  have HK1 := hide hk1
  have hsz : w.heap.size + 2 ≤ w1.heap.size := by have := hb1.size; simp at this; omega
  have c0 := (unhide B1).n.c0
  have CX := unhide CD (w.heap.size + 1) (w.heap.size + 2) _ _ (unhide B1).n (hk1.lower (by simp)) (by omega) hsz
  obtain ⟨ka, kc, rfl, _⟩ := hk1.slice
  clear CK CD hb1 B0 hk1
  go_wp2_with fail
  refine (unhide CN _).mono ?_
  rintro e w2 ⟨rfl, rfl⟩
  go_wp2_with fail
  refine CX.mono ?_
  rintro e w3 ⟨v3, rfl, hk3, hb3⟩
  have HK3 := hide (hk3.lower (show w.heap.size ≤ w.heap.size + 2 by omega))
  have HB3 := hide ((unhide B1).b.trans (hb3.mono (show w.heap.size ≤ w.heap.size + 2 by omega)))
  obtain ⟨ka3, kc3, rfl, _⟩ := hk3.slice
  clear CX hk3 hb3
  go_wp2_with fail
  go_ret2
  exact ⟨_, rfl, unhide HK3, unhide HB3⟩

/-- of every tree whose nodes rise -/
theorem line_any (z : Int) (vn vs : Value) (ns : List Nd) (d m : List UInt8) (w : World) (hn : SeqV w vn ns) (ha : NAsc ns) (hl : ns.length ≤ 400) (hml : m.length ≤ 140737488355328) :
    Calls Tryd.prog 7 #[.agg #[.int .i64 z, vn, vs], .string ⟨d.toArray⟩, .string ⟨m.toArray⟩] w fun e w' => ∃ v', e = .returned (.tuple #[v', .int .i64 (linE ns d m)]) ∧ OwnS w' w.heap.size v' (linL ns d m) ∧ Below w.heap.size w w' := by
  rcases nwhere d ns ha with ⟨A, n, B, T⟩ | ⟨A, B, G⟩
  · by_cases hm : m = []
    · subst hm
      exact line_nil z vn vs ns A B n d w hn hl T
    · cases hb : namedB m
      · exact line_form z vn vs ns A B n d m w hn hl T hml hm hb
      · exact line_named z vn vs ns A B n d m w hn hl T hml hb
  · exact line_gap z vn vs ns A B d m w hn (by omega) G
end Go.Proofs.YtkgaoedlnejigaaDoor

namespace Go.Proofs.YtkgaoedlnejigaaDoor
open Go.RowKit

theorem bel_step {p : List UInt8} (h : goodB p = true) (hn : p ≠ [47]) : belL (dirOf p) (stepOf p) = p := by
  obtain ⟨a, b, rfl, hb⟩ := good_cut h
  rw [dirOf_cut h hn hb, stepOf_cut h hn hb, nupL]
  split
  · rename_i h0; subst h0
    exact belL_root b
  · rename_i h0
    by_cases ha : a = [47]
    · subst ha
      exfalso
      have h2 : goodB (47 :: 47 :: b) = true := h
      rw [goodB_cons _ (by simp), splitL_slash, splitL_no b hb] at h2
      simp [not_named_nil] at h2
    · exact belL_other ha b
/-- a child of a node -/
theorem kid_node {z : Int} {ns : List Nd} {ss : List Int} (g : GoodN z ns ss) {d x : List UInt8} (hd : d ≠ []) (hx : x ∈ kidsP ns d) : ∃ n ∈ ns, n.p = belL d x ∧ dirOf n.p = d ∧ stepOf n.p = x := by
  unfold kidsP at hx
  obtain ⟨n, hn, rfl⟩ := List.mem_map.1 hx
  obtain ⟨hm, hdn⟩ := List.mem_filter.1 hn
  have hdn : dirOf n.p = d := of_decide_eq_true hdn
  have hp := (g.ok n hm).path
  have hr : n.p ≠ [47] := by
    intro h0
    rw [h0, dirOf_root] at hdn
    exact hd hdn.symm
  refine ⟨n, hm, ?_, hdn, rfl⟩
  have := bel_step hp hr
  rw [hdn] at this
  exact this.symm
def holN (ns : List Nd) (d m : List UInt8) : Option Nd := match linL ns d m with
  | [] => none
  | x :: _ => lookN ns (belL d x)
def holO (ns : List Nd) (d m : List UInt8) : Int := match holN ns d m with
  | none => 0
  | some n => n.o
def holC (ns : List Nd) (d m : List UInt8) : Int := match holN ns d m with
  | none => 0
  | some n => n.c
theorem hol_nil {ns : List Nd} {d m : List UInt8} (h : linL ns d m = []) : holO ns d m = 0 ∧ holC ns d m = 0 := by
  have : holN ns d m = none := by rw [holN, h]
  exact ⟨by rw [holO, this], by rw [holC, this]⟩
theorem hol_some {ns : List Nd} {d m x : List UInt8} {r : List (List UInt8)} {n : Nd} (h : linL ns d m = x :: r) (hn : lookN ns (belL d x) = some n) : holO ns d m = n.o ∧ holC ns d m = n.c := by
  have : holN ns d m = some n := by rw [holN, h]; exact hn
  exact ⟨by rw [holO, this], by rw [holC, this]⟩
theorem lin_err {ns : List Nd} {d m : List UInt8} (h : linE ns d m ≠ 0) : linL ns d m = [] := by rw [linL, if_neg h]
theorem lin_zero {ns : List Nd} {d m : List UInt8} (h : linE ns d m = 0) : (∃ n, lookN ns d = some n) ∧ (m = [] ∨ namedB m = true) ∧ linL ns d m = (kidsP ns d).filter (nmbB m) := by
  cases hl : lookN ns d with
  | none => rw [(lin_none m hl).1] at h; exact absurd h (by decide)
  | some n =>
    by_cases hm : m = [] ∨ namedB m = true
    · exact ⟨⟨n, rfl⟩, hm, (lin_ok hl hm).2⟩
    · have h1 : m ≠ [] := fun e => hm (.inl e)
      have h2 : namedB m = false := by
        cases hb : namedB m
        · rfl
        · exact absurd (.inr hb) hm
      rw [(lin_form hl h1 h2).1] at h
      exact absurd h (by decide)
/-- each one of a line is a node -/
theorem lin_node {z : Int} {ns : List Nd} {ss : List Int} (g : GoodN z ns ss) {d m x : List UInt8} (hx : x ∈ linL ns d m) : linE ns d m = 0 ∧ d.length ≤ 200 ∧ x.length ≤ 200 ∧ goodB d = true ∧ ∃ n ∈ ns, n.p = belL d x ∧ lookN ns (belL d x) = some n ∧ dirOf n.p = d ∧ stepOf n.p = x := by
  by_cases h : linE ns d m = 0
  · obtain ⟨⟨u, hu⟩, _, hl⟩ := lin_zero h
    rw [hl] at hx
    have hk := (List.mem_filter.1 hx).1
    obtain ⟨hum, hup⟩ := lookN_some hu
    have hgd : goodB d = true := by rw [← hup]; exact (g.ok u hum).path
    have hd : d ≠ [] := by
      intro h0; rw [h0] at hgd; exact absurd hgd (by decide)
    obtain ⟨n, hn, hp, h1, h2⟩ := kid_node g hd hk
    have hpl := goodB_le (g.ok n hn).path
    refine ⟨h, goodB_le hgd, ?_, hgd, n, hn, hp, by rw [← hp]; exact look_mem g.asc hn, h1, h2⟩
    rw [hp] at hpl
    unfold belL at hpl
    split at hpl
    · rw [List.length_cons] at hpl; omega
    · rw [List.length_append, List.length_cons] at hpl; omega
  · rw [lin_err h] at hx; simp at hx
/- the one ahead -/
def befT (x : List UInt8) : List (List UInt8) → List UInt8 → Option (List UInt8)
  | [], _ => none
  | y :: r, s => if y = s then some x else befT y r s
def befO : List (List UInt8) → List UInt8 → Option (List UInt8)
  | [], _ => none
  | x :: r, s => if x = s then none else befT x r s
theorem befT_no {s : List UInt8} : ∀ (r : List (List UInt8)) (x : List UInt8), s ∉ r → befT x r s = none
  | [], _, _ => rfl
  | y :: r, x, h => by
    rw [befT, if_neg (by rintro rfl; simp at h)]
    exact befT_no r y (by simp at h; exact h.2)
theorem befT_at {s : List UInt8} : ∀ (A R : List (List UInt8)) (x y : List UInt8), s ∉ A → y ≠ s → befT x (A ++ y :: s :: R) s = some y
  | [], R, x, y, _, hy => by
    show befT x (y :: s :: R) s = some y
    rw [befT, if_neg hy, befT, if_pos rfl]
  | a :: A, R, x, y, h, hy => by
    show befT x (a :: (A ++ y :: s :: R)) s = some y
    rw [befT, if_neg (by rintro rfl; simp at h)]
    exact befT_at A R a y (by simp at h; exact h.2) hy
theorem bef_no {L : List (List UInt8)} {s : List UInt8} (h : s ∉ L) : befO L s = none := by
  cases L with
  | nil => rfl
  | cons x r =>
    rw [befO, if_neg (by rintro rfl; simp at h)]
    exact befT_no r x (by simp at h; exact h.2)
theorem bef_first (R : List (List UInt8)) (s : List UInt8) : befO (s :: R) s = none := by rw [befO, if_pos rfl]
theorem bef_at {A R : List (List UInt8)} {y s : List UInt8} (h : s ∉ A ++ [y]) : befO (A ++ y :: s :: R) s = some y := by
  have hy : y ≠ s := by rintro rfl; simp at h
  cases A with
  | nil =>
    show befO (y :: s :: R) s = some y
    rw [befO, if_neg hy, befT, if_pos rfl]
  | cons a A =>
    show befO (a :: (A ++ y :: s :: R)) s = some y
    rw [befO, if_neg (by rintro rfl; simp at h)]
    exact befT_at A R a y (by simp at h; exact fun h' => h.2.1 h') hy
theorem bef_cases : ∀ (L : List (List UInt8)) (s : List UInt8), s ∉ L ∨ ∃ A R, L = A ++ s :: R ∧ s ∉ A
  | [], s => .inl (by simp)
  | x :: r, s => by
    by_cases h : x = s
    · subst h
      exact .inr ⟨[], r, rfl, by simp⟩
    · rcases bef_cases r s with h1 | ⟨A, R, rfl, h1⟩
      · exact .inl (by simp; exact ⟨fun e => h e.symm, h1⟩)
      · exact .inr ⟨x :: A, R, rfl, by simp; exact ⟨fun e => h e.symm, h1⟩⟩
end Go.Proofs.YtkgaoedlnejigaaDoor

namespace Go.Proofs.YtkgaoedlnejigaaDoor
open Go.RowKit

/-- a row of texts that lies there, or nothing -/
theorem srow {w : World} {v : Value} {xs : List (List UInt8)} (hv : SeqV w v xs) : ∀ W, Below w.heap.size w W → ∀ (k : Nat) (x : List UInt8), xs[k]? = some x → ∃ b off cap, v = .slice (some ⟨b, off, none⟩) xs.length cap ∧ b < w.heap.size ∧ RowAt W b off (cellsL xs) := fun W hW k x hx => by
  obtain ⟨b, off, cap, e, hb, hr, _, _⟩ := seq_row hv (fun h0 => by obtain ⟨h1, _⟩ := List.getElem?_eq_some_iff.1 hx; rw [h0] at h1; simp at h1)
  exact ⟨b, off, cap, e, hb, hr.kept hW hb⟩

set_option maxRecDepth 10000 in
set_option maxHeartbeats 1000000 in
theorem sindex_no (v : Value) (xs : List (List UInt8)) (s : List UInt8) (w : World) (hv : SeqV w v xs) (hl : xs.length ≤ 400) (h : s ∉ xs) :
    Calls Tryd.prog 32 #[v, .string ⟨s.toArray⟩] w fun e w' => e = .returned (.int .i64 (-1)) ∧ Below w.heap.size w w' := by
  have KR := hide (srow hv)
  have HN := hide h
  obtain ⟨va, vc, rfl⟩ := seq_slice hv
  clear hv h
  go_enter Tryd.func32, Tryd.ntmps32
  go_wp2_with fail
  go_loopg [8] xs.length (fun kx s8 wr => ∃ k : Nat, s8 = .int .i64 k ∧ k ≤ xs.length ∧ xs.length - k ≤ kx ∧ Hid (Below w.heap.size w wr))
  case atStart => exact ⟨0, rfl, Nat.zero_le _, Nat.le_refl _, hide (Below.refl _ _)⟩
  case round =>
    obtain ⟨k, rfl, hk, hg, hB⟩ := hrel
    by_cases hlt : k < xs.length
    · obtain ⟨x, hx⟩ : ∃ x, xs[k]? = some x := ⟨_, List.getElem?_eq_getElem hlt⟩
      obtain ⟨b, off, cap, he, hb, q⟩ := unhide KR wr (unhide hB) k x hx
      simp only [Value.slice.injEq] at he
      obtain ⟨rfl, _, rfl⟩ := he
      have d0 := q.s0 hx
      have hkk : (k : Int) < (xs.length : Int) := by omega
      have hne : (s == x) = false := by
        have : s ≠ x := fun e => unhide HN (by rw [e]; exact List.mem_of_getElem? hx)
        simpa using this
      clear q hx
      go_wp2_with fail
      go_roundg (xs.length - (k + 1))
      case measure => omega
      case rel => exact ⟨k + 1, rfl, by omega, Nat.le_refl _, hB⟩
    · obtain rfl : k = xs.length := by omega
      go_wp2_with fail
      go_ret
      exact ⟨rfl, unhide hB⟩

set_option maxRecDepth 10000 in
set_option maxHeartbeats 1000000 in
theorem sindex_at (v : Value) (A R : List (List UInt8)) (s : List UInt8) (w : World) (hv : SeqV w v (A ++ s :: R)) (hl : (A ++ s :: R).length ≤ 400) (h : s ∉ A) :
    Calls Tryd.prog 32 #[v, .string ⟨s.toArray⟩] w fun e w' => e = .returned (.int .i64 A.length) ∧ Below w.heap.size w w' := by
  have KR := hide (srow hv)
  have HN := hide h
  have hAn : A.length < (A ++ s :: R).length := by simp
  obtain ⟨va, vc, rfl⟩ := seq_slice hv
  obtain ⟨n, hn⟩ : ∃ n, (A ++ s :: R).length = n := ⟨_, rfl⟩
  rw [hn] at hl hAn ⊢
  have HNN := hide hn
  clear hv h hn
  go_enter Tryd.func32, Tryd.ntmps32
  go_wp2_with fail
  go_loopg [8] n (fun kx s8 wr => ∃ k : Nat, s8 = .int .i64 k ∧ k ≤ A.length ∧ n - k ≤ kx ∧ Hid (Below w.heap.size w wr))
  case atStart => exact ⟨0, rfl, Nat.zero_le _, Nat.le_refl _, hide (Below.refl _ _)⟩
  case round =>
    obtain ⟨k, rfl, hk, hg, hB⟩ := hrel
    have hlt : k < n := by omega
    obtain ⟨x, hx⟩ : ∃ x, (A ++ s :: R)[k]? = some x := ⟨_, List.getElem?_eq_getElem (by rw [unhide HNN]; exact hlt)⟩
    obtain ⟨b, off, cap, he, hb, q⟩ := unhide KR wr (unhide hB) k x hx
    simp only [Value.slice.injEq] at he
    obtain ⟨rfl, _, rfl⟩ := he
    have d0 := q.s0 hx
    have hkk : (k : Int) < (n : Int) := by omega
    by_cases hka : k < A.length
    · have hne : (s == x) = false := by
        have : s ≠ x := fun e => unhide HN (by
          rw [List.getElem?_append_left hka] at hx
          rw [e]; exact List.mem_of_getElem? hx)
        simpa using this
      clear q hx
      go_wp2_with fail
      go_roundg (n - (k + 1))
      case measure => omega
      case rel => exact ⟨k + 1, rfl, by omega, Nat.le_refl _, hB⟩
    · obtain rfl : k = A.length := by omega
      have : (A ++ s :: R)[A.length]? = some s := by simp
      rw [this] at hx
      cases hx
      clear q this
      go_wp2_with fail
      go_ret
      exact ⟨rfl, unhide hB⟩

def befS (L : List (List UInt8)) (s : List UInt8) : List UInt8 := (befO L s).getD []
def befB (L : List (List UInt8)) (s : List UInt8) : Bool := (befO L s).isSome

set_option maxRecDepth 20000 in
set_option maxHeartbeats 1000000 in
/-- where the step is first in line, or not there -/
theorem before_no (z : Int) (vn vs : Value) (ns : List Nd) (d m s : List UInt8) (n : Int) (w : World) (hn : SeqV w vn ns) (ha : NAsc ns) (hl : ns.length ≤ 400) (hml : m.length ≤ 140737488355328) (hi : n < 1)
    (CI : ∀ W v, SeqV W v (linL ns d m) → Calls Tryd.prog 32 #[v, .string ⟨s.toArray⟩] W fun e w' => e = .returned (.int .i64 n) ∧ Below W.heap.size W w') :
    Calls Tryd.prog 12 #[.agg #[.int .i64 z, vn, vs], .string ⟨d.toArray⟩, .string ⟨m.toArray⟩, .string ⟨s.toArray⟩] w fun e w' => e = .returned (.tuple #[.string ⟨#[]⟩, .bool false]) ∧ Below w.heap.size w w' := by
  have CL := hide (fun W (hW : Below w.heap.size w W) => line_any z vn vs ns d m W (hn.next hW) ha hl hml)
  have HI := hide CI
  obtain ⟨L, hL⟩ : ∃ L, linL ns d m = L := ⟨_, rfl⟩
  obtain ⟨E, hE⟩ : ∃ E, linE ns d m = E := ⟨_, rfl⟩
  rw [hL] at HI
  rw [hL, hE] at CL
  obtain ⟨na, nc, rfl⟩ := seq_slice hn
  clear hn ha CI hL hE
  go_enter Tryd.func12, Tryd.ntmps12
  go_wp2_with fail
  refine (unhide CL _ (allocB _ _)).mono ?_
  rintro e w1 ⟨v1, rfl, hk1, hb1⟩
  have HB1 := hide (nbox_then hb1)
  have CX := unhide HI w1 v1 hk1.seq
  obtain ⟨ka, kc, rfl, _⟩ := hk1.slice
  clear hb1 hk1 CL HI
  go_wp2_with fail
  refine CX.mono ?_
  rintro e w2 ⟨rfl, hb2⟩
  have HB2 := hide (nnext (unhide HB1) hb2)
  clear hb2 CX
  go_wp2_with fail
  go_ret2
  exact ⟨rfl, unhide HB2⟩

set_option maxRecDepth 20000 in
set_option maxHeartbeats 1000000 in
theorem before_at (z : Int) (vn vs : Value) (ns : List Nd) (d m s y : List UInt8) (A R : List (List UInt8)) (w : World) (hn : SeqV w vn ns) (ha : NAsc ns) (hl : ns.length ≤ 400) (hml : m.length ≤ 140737488355328) (hkl : (linL ns d m).length ≤ 400) (hL : linL ns d m = A ++ y :: s :: R) (hs : s ∉ A ++ [y]) :
    Calls Tryd.prog 12 #[.agg #[.int .i64 z, vn, vs], .string ⟨d.toArray⟩, .string ⟨m.toArray⟩, .string ⟨s.toArray⟩] w fun e w' => e = .returned (.tuple #[.string ⟨y.toArray⟩, .bool true]) ∧ Below w.heap.size w w' := by
  have CL := hide (fun W (hW : Below w.heap.size w W) => line_any z vn vs ns d m W (hn.next hW) ha hl hml)
  have e1 : A ++ y :: s :: R = (A ++ [y]) ++ s :: R := by simp
  have HI := hide (fun W v (hv : SeqV W v (linL ns d m)) => sindex_at v (A ++ [y]) R s W (by rw [← e1, ← hL]; exact hv) (by rw [← e1, ← hL]; exact hkl) hs)
  have HY : Hid ((linL ns d m)[A.length]? = some y) := hide (by rw [hL]; simp)
  obtain ⟨j, hj⟩ : ∃ j, (A ++ [y]).length = j := ⟨_, rfl⟩
  have hjA : j = A.length + 1 := by rw [← hj]; simp
  have hjl : j < (linL ns d m).length := by rw [hL, e1, List.length_append, hj]; simp
  obtain ⟨k, hk⟩ : ∃ k, k = A.length := ⟨_, rfl⟩
  rw [← hk] at hjA HY
  rw [hj] at HI
  subst hjA
  obtain ⟨L, hLL⟩ : ∃ L, linL ns d m = L := ⟨_, rfl⟩
  obtain ⟨E, hE⟩ : ∃ E, linE ns d m = E := ⟨_, rfl⟩
  rw [hLL] at HI HY hjl hkl
  rw [hLL, hE] at CL
  obtain ⟨na, nc, rfl⟩ := seq_slice hn
  clear hn ha hL hE hLL hs e1 hj hk
  go_enter Tryd.func12, Tryd.ntmps12
  go_wp2_with fail
  refine (unhide CL _ (allocB _ _)).mono ?_
  rintro e w1 ⟨v1, rfl, hk1, hb1⟩
  have HB1 := hide (nbox_then hb1)
  have CX := unhide HI w1 v1 hk1.seq
  have HR := hide (srow hk1.seq)
  obtain ⟨ka, kc, rfl, _⟩ := hk1.slice
  clear hb1 hk1 CL HI
  go_wp2_with fail
  refine CX.mono ?_
  rintro e w2 ⟨rfl, hb2⟩
  have HB2 := hide (nnext (unhide HB1) hb2)
  obtain ⟨b, off, cap, he, hb, q⟩ := unhide HR w2 hb2 k y (unhide HY)
  simp only [Value.slice.injEq] at he
  obtain ⟨rfl, _, rfl⟩ := he
  have d0 := q.s0 (unhide HY)
  have hkk : (k : Int) < (L.length : Int) := by omega
  clear hb2 CX q HR
  go_wp2_with fail
  go_ret2
  exact ⟨rfl, unhide HB2⟩

theorem lin_few (ns : List Nd) (d m : List UInt8) (hl : ns.length ≤ 400) : (linL ns d m).length ≤ 400 := by
  unfold linL
  split
  · refine Nat.le_trans (List.length_filter_le _ _) ?_
    rw [kidsP_len]
    exact Nat.le_trans List.countP_le_length hl
  · simp
theorem before_any (z : Int) (vn vs : Value) (ns : List Nd) (d m s : List UInt8) (w : World) (hn : SeqV w vn ns) (ha : NAsc ns) (hl : ns.length ≤ 400) (hml : m.length ≤ 140737488355328) :
    Calls Tryd.prog 12 #[.agg #[.int .i64 z, vn, vs], .string ⟨d.toArray⟩, .string ⟨m.toArray⟩, .string ⟨s.toArray⟩] w fun e w' => e = .returned (.tuple #[.string ⟨(befS (linL ns d m) s).toArray⟩, .bool (befB (linL ns d m) s)]) ∧ Below w.heap.size w w' := by
  have hkl := lin_few ns d m hl
  unfold befS befB
  rcases bef_cases (linL ns d m) s with h | ⟨A, R, hL, h⟩
  · rw [bef_no h]
    exact before_no z vn vs ns d m s (-1) w hn ha hl hml (by decide) (fun W v hv => sindex_no v _ s W hv hkl h)
  · rcases List.eq_nil_or_concat A with rfl | ⟨A', y, rfl⟩
    · rw [hL, List.nil_append, bef_first]
      exact before_no z vn vs ns d m s 0 w hn ha hl hml (by decide) (fun W v hv => sindex_at v [] R s W (by rw [List.nil_append, ← List.nil_append (s :: R), ← hL]; exact hv) (by rw [← hL]; exact hkl) h)
    · have e : linL ns d m = A' ++ y :: s :: R := by rw [hL]; simp
      rw [e, bef_at (by simpa using h)]
      exact before_at z vn vs ns d m s y A' R w hn ha hl hml hkl e (by simpa using h)
end Go.Proofs.YtkgaoedlnejigaaDoor

namespace Go.Proofs.YtkgaoedlnejigaaDoor
open Go.RowKit

theorem rret {a b : Bool} (h : a = b) : Ending.returned (.bool a) = .returned (.bool b) := by rw [h]
set_option maxRecDepth 10000 in
set_option maxHeartbeats 1000000 in
theorem rhas_any (v : Value) (ss : List Int) (s : Int) (w : World) (hv : SeqV w v ss) (hl : ss.length ≤ 140737488355328) :
    Calls Tryd.prog 34 #[v, .int .i64 s] w fun e w' => e = .returned (.bool (decide (s ∈ ss))) ∧ w' = w := by
  have KR : ∀ (i : Nat) (x : Int), ss[i]? = some x → ∃ b off c, v = .slice (some ⟨b, off, none⟩) ss.length c ∧ w.cell? ⟨b, off + i, none⟩ = some (.int .i64 x) := by
    intro i x hx
    obtain ⟨b, off, c, e, _, hr, _, _⟩ := seq_row hv (by intro h0; rw [h0] at hx; simp at hx)
    exact ⟨b, off, c, e, hr.i0 hx⟩
  have HKR := hide KR
  obtain ⟨va, vc, rfl⟩ := seq_slice hv
  clear hv KR
  go_enter Tryd.func34, Tryd.ntmps34
  go_wp2_with fail
  go_loopg [9] ss.length (fun kx s9 wr => ∃ k : Nat, s9 = .int .i64 k ∧ k ≤ ss.length ∧ ss.length - k ≤ kx ∧ Hid (∀ x ∈ ss.take k, ¬ s = x) ∧ w = wr)
  case atStart => exact ⟨0, rfl, Nat.zero_le _, Nat.le_refl _, hide (by simp), rfl⟩
  case round =>
    obtain ⟨k, rfl, hk, hg, hN, hwr⟩ := hrel
    subst hwr
    by_cases hlt : k < ss.length
    · obtain ⟨x, hx⟩ : ∃ x, ss[k]? = some x := ⟨_, List.getElem?_eq_getElem hlt⟩
      obtain ⟨b, off, c, he, hc⟩ := unhide HKR k x hx
      simp only [Value.slice.injEq] at he
      obtain ⟨rfl, _, rfl⟩ := he
      have HX := hide hx
      clear hx
      by_cases hs : s = x
      · have hb : (s == x) = true := by simpa using hs
        have HS := hide hs
        clear hs
        go_wp2_with fail
        go_ret
        exact ⟨rret (decide_eq_true (by rw [unhide HS]; exact List.mem_of_getElem? (unhide HX))).symm, rfl⟩
      · have hb : (s == x) = false := by simpa using hs
        have HS := hide hs
        clear hs
        go_wp2_with fail
        go_roundg (ss.length - (k + 1))
        case measure => omega
        case rel =>
          refine ⟨k + 1, rfl, by omega, Nat.le_refl _, hide ?_, rfl⟩
          intro y hy
          rw [List.take_add_one, unhide HX] at hy
          rcases List.mem_append.1 hy with h | h
          · exact unhide hN y h
          · obtain rfl : y = x := by simpa using h
            exact unhide HS
    · obtain rfl : k = ss.length := by omega
      have hno : s ∉ ss := fun h => by
        have := unhide hN s (by rw [List.take_length]; exact h)
        exact this rfl
      have HNO := hide hno
      clear hno
      go_wp2_with fail
      go_ret
      exact ⟨rret (decide_eq_false (unhide HNO)).symm, rfl⟩

set_option maxRecDepth 10000 in
set_option maxHeartbeats 400000 in
theorem risopen_any (z : Int) (vn vs : Value) (ss : List Int) (s : Int) (w : World) (hv : SeqV w vs ss) (hl : ss.length ≤ 140737488355328) :
    Calls Tryd.prog 19 #[.agg #[.int .i64 z, vn, vs], .int .i64 s] w fun e w' => e = .returned (.bool (decide (s ∈ ss))) ∧ Below w.heap.size w w' := by
  have C := hide (fun W (hW : Below w.heap.size w W) => rhas_any vs ss s W (hv.next hW) hl)
  obtain ⟨a, c, rfl⟩ := seq_slice hv
  clear hv
  generalize decide (s ∈ ss) = hd at C ⊢
  generalize ss.length = n at C ⊢
  go_enter Tryd.func19, Tryd.ntmps19
  go_wp2_with fail
  refine (unhide C _ (allocB _ _)).mono ?_
  rintro e w1 ⟨rfl, rfl⟩
  go_wp2_with fail
  go_ret
  exact ⟨rfl, allocB _ _⟩

/-- the first place of a path -/
structure At (ns : List Nd) (p : List UInt8) (k : Nat) (n : Nd) : Prop where
  at' : ns[k]? = some n
  nm : n.p = p
  no : ∀ i m, i < k → ns[i]? = some m → m.p ≠ p
theorem at_there {ns A B : List Nd} {n : Nd} {p : List UInt8} (T : NThere ns A n B p) : At ns p A.length n := by
  refine ⟨by rw [T.eq]; exact nat_at A n B, T.nm, fun i m hi hm => ?_⟩
  rw [T.eq, List.getElem?_append_left hi] at hm
  exact bl_ne (T.lo m (List.mem_of_getElem? hm))

set_option maxRecDepth 20000 in
set_option maxHeartbeats 2000000 in
theorem rnode_at (z : Int) (vn vs : Value) (ns : List Nd) (p : List UInt8) (j : Nat) (n : Nd) (w : World) (hv : SeqV w vn ns) (hl : ns.length ≤ 140737488355328) (T : At ns p j n) :
    Calls Tryd.prog 42 #[.agg #[.int .i64 z, vn, vs], .string ⟨p.toArray⟩] w fun e w' => e = .returned (.int .i64 j) ∧ Below w.heap.size w w' := by
  have hjl : j < ns.length := (List.getElem?_eq_some_iff.1 T.at').1
  obtain ⟨b, off, cap, rfl, hb, hr, _, _⟩ := seq_row hv (by intro h0; rw [h0] at hjl; simp at hjl)
  have HR := hide (fun W (hW : Below w.heap.size w W) => hr.kept hW hb)
  have HT := hide T
  clear hv hr T
  go_enter Tryd.func42, Tryd.ntmps42
  go_wp2_with fail
  go_loopg [10] ns.length (fun kx s10 wr => ∃ k : Nat, s10 = .int .i64 k ∧ k ≤ j ∧ ns.length - k ≤ kx ∧ Hid (Below w.heap.size w wr))
  case atStart => exact ⟨0, rfl, Nat.zero_le _, Nat.le_refl _, hide (allocB _ _)⟩
  case round =>
    obtain ⟨k, rfl, hk, hg, hB⟩ := hrel
    obtain ⟨x, hx⟩ : ∃ x, ns[k]? = some x := ⟨_, List.getElem?_eq_getElem (by omega)⟩
    have hlt : k < ns.length := by omega
    have q := unhide HR wr (unhide hB)
    have d0 := q.n0 hx
    have d1 := q.n1 hx
    have d2 := q.n2 hx
    have d3 := q.n3 hx
    have d4 := q.n4 hx
    have d5 := q.n5 hx
    have d6 := q.n6 hx
    have d7 := q.n7 hx
    have d8 := q.n8 hx
    have hbw : b < wr.heap.size := Nat.lt_of_lt_of_le hb (unhide hB).size
    have HB1 := hide (nnext (unhide hB) (allocB wr (.cells #[.string ⟨x.p.toArray⟩, .string ⟨x.d.toArray⟩, .int .i64 x.c, .int .i64 x.m, .int .i64 x.q, .int .i64 x.v, .int .i64 x.k, .int .i64 x.o, .int .i64 x.n] 44)))
    clear q
    by_cases hkj : k = j
    · have hxn : x.p = p := by
        have := (unhide HT).at'
        rw [← hkj, hx] at this
        cases this
        exact (unhide HT).nm
      have hpb : (x.p == p) = true := by simpa using hxn
      have HKJ := hide hkj
      clear hxn hx hkj
      go_wp2_with fail
      go_ret
      exact ⟨by have h := unhide HKJ; subst h; rfl, unhide HB1⟩
    · have hxn : x.p ≠ p := (unhide HT).no k x (by omega) hx
      have hpb : (x.p == p) = false := by simpa using hxn
      clear hxn hx
      go_wp2_with fail
      go_roundg (ns.length - (k + 1))
      case measure => omega
      case rel => exact ⟨k + 1, rfl, by omega, Nat.le_refl _, HB1⟩

set_option maxRecDepth 20000 in
set_option maxHeartbeats 2000000 in
theorem rnode_no (z : Int) (vn vs : Value) (ns : List Nd) (p : List UInt8) (w : World) (hv : SeqV w vn ns) (hl : ns.length ≤ 140737488355328) (G : ∀ n ∈ ns, n.p ≠ p) :
    Calls Tryd.prog 42 #[.agg #[.int .i64 z, vn, vs], .string ⟨p.toArray⟩] w fun e w' => e = .returned (.int .i64 (-1)) ∧ Below w.heap.size w w' := by
  have KR : ∀ W, Below w.heap.size w W → ∀ (i : Nat) (x : Nd), ns[i]? = some x → ∃ b off c, vn = .slice (some ⟨b, off, none⟩) ns.length c ∧ b < w.heap.size ∧ RowAt W b off (cellsL ns) := by
    intro W hW i x hx
    obtain ⟨b, off, c, e, hb, hr, _, _⟩ := seq_row hv (by intro h0; rw [h0] at hx; simp at hx)
    exact ⟨b, off, c, e, hb, hr.kept hW hb⟩
  have HKR := hide KR
  obtain ⟨va, vc, rfl⟩ := seq_slice hv
  have HG := hide G
  clear hv KR G
  go_enter Tryd.func42, Tryd.ntmps42
  go_wp2_with fail
  go_loopg [10] ns.length (fun kx s10 wr => ∃ k : Nat, s10 = .int .i64 k ∧ k ≤ ns.length ∧ ns.length - k ≤ kx ∧ Hid (Below w.heap.size w wr))
  case atStart => exact ⟨0, rfl, Nat.zero_le _, Nat.le_refl _, hide (allocB _ _)⟩
  case round =>
    obtain ⟨k, rfl, hk, hg, hB⟩ := hrel
    by_cases hlt : k < ns.length
    · obtain ⟨x, hx⟩ : ∃ x, ns[k]? = some x := ⟨_, List.getElem?_eq_getElem hlt⟩
      obtain ⟨b, off, c, he, hb, q⟩ := unhide HKR wr (unhide hB) k x hx
      simp only [Value.slice.injEq] at he
      obtain ⟨rfl, _, rfl⟩ := he
      have d0 := q.n0 hx
      have d1 := q.n1 hx
      have d2 := q.n2 hx
      have d3 := q.n3 hx
      have d4 := q.n4 hx
      have d5 := q.n5 hx
      have d6 := q.n6 hx
      have d7 := q.n7 hx
      have d8 := q.n8 hx
      have hbw : b < wr.heap.size := Nat.lt_of_lt_of_le hb (unhide hB).size
      have HB1 := hide (nnext (unhide hB) (allocB wr (.cells #[.string ⟨x.p.toArray⟩, .string ⟨x.d.toArray⟩, .int .i64 x.c, .int .i64 x.m, .int .i64 x.q, .int .i64 x.v, .int .i64 x.k, .int .i64 x.o, .int .i64 x.n] 44)))
      have hxn : x.p ≠ p := unhide HG x (List.mem_of_getElem? hx)
      have hpb : (x.p == p) = false := by simpa using hxn
      clear hxn hx q
      go_wp2_with fail
      go_roundg (ns.length - (k + 1))
      case measure => omega
      case rel => exact ⟨k + 1, rfl, by omega, Nat.le_refl _, HB1⟩
    · obtain rfl : k = ns.length := by omega
      go_wp2_with fail
      go_ret
      exact ⟨rfl, unhide hB⟩

end Go.Proofs.YtkgaoedlnejigaaDoor

namespace Go.Proofs.YtkgaoedlnejigaaDoor
open Go.RowKit

def okL : List UInt8 := [97, 98, 99, 100, 101, 102, 103, 104, 105, 106, 107, 108, 109, 110, 111, 112, 113, 114, 115, 116, 117, 118, 119, 120, 121, 122, 48, 49, 50, 51, 52, 53, 54, 55, 56, 57, 45, 95]
theorem ok_fin : ∀ n : Fin 256, okL.any (fun d => d == UInt8.ofNat n.val) = letterB (UInt8.ofNat n.val) := by decide +kernel
theorem ok_letter (c : UInt8) : okL.any (fun d => d == c) = letterB c := by
  have h := ok_fin ⟨c.toNat, c.toNat_lt⟩
  rwa [show UInt8.ofNat (⟨c.toNat, c.toNat_lt⟩ : Fin 256).val = c from by simp] at h

theorem any_take_succ (l : List UInt8) (j : Nat) (h : j < l.length) (c : UInt8) : (l.take (j + 1)).any (fun d => d == c) = ((l.take j).any (fun d => d == c) || l[j] == c) := by
  rw [List.take_succ_eq_append_getElem h, List.any_append]; simp

theorem val_bool {a b : Bool} (h : a = b) : Value.bool a = .bool b := by rw [h]
theorem u8_beq (c d : UInt8) : ((c.toNat : Int) == (d.toNat : Int)) = (d == c) := by
  rw [Bool.eq_iff_iff, beq_iff_eq, beq_iff_eq]
  constructor
  · intro h; exact (UInt8.toNat_inj.1 (by omega)).symm
  · rintro rfl; rfl
theorem ok_all (c : UInt8) : (okL.take 38).any (fun d => d == c) = okL.any (fun d => d == c) := rfl
theorem namedB_all {l : List UInt8} (h : l.all letterB = true) : namedB l = (decide (1 ≤ l.length) && decide (l.length ≤ 40)) := by
  rw [namedB, h, Bool.and_true]
theorem nm_true {n : Nat} (h : 0 < n) (h1 : n ≤ 40) : (decide (1 ≤ n) && decide (n ≤ 40)) = true := by
  rw [decide_eq_true (show 1 ≤ n from h), decide_eq_true h1]; rfl
theorem nm_long {n : Nat} (h1 : ¬ n ≤ 40) : (decide (1 ≤ n) && decide (n ≤ 40)) = false := by
  rw [decide_eq_false h1, Bool.and_false]
theorem nm_none {n : Nat} (h : ¬ 0 < n) : (decide (1 ≤ n) && decide (n ≤ 40)) = false := by
  rw [decide_eq_false (show ¬ 1 ≤ n from h), Bool.false_and]
theorem bytes_below (w : World) (e : TypeId) (s : ByteArray) : Below w.heap.size w (Lib.bytesWorld w e s) :=
  ⟨rfl, rfl, rfl, by rw [Lib.bytesWorld_size]; omega, fun k hk => Lib.bytesWorld_at_old w e s k hk⟩
theorem bytes_cell (w : World) (e : TypeId) (s : ByteArray) (l : List UInt8) (h : s.data.toList = l) (j : Nat) (hj : j < l.length) : (Lib.bytesWorld w e s).cell? ⟨w.heap.size, j, none⟩ = some (.int .u8 (l[j].toNat : Int)) := by
  subst h
  rw [Lib.bytesWorld_cell _ _ _ _ (by rw [Lib.size_eq]; exact hj), List.getD_eq_getElem?_getD, List.getElem?_eq_getElem hj]; rfl
theorem all_take_next {l : List UInt8} {k : Nat} (h : k < l.length) (p : UInt8 → Bool) (h1 : (l.take k).all p = true) (h2 : p l[k] = true) : (l.take (k + 1)).all p = true := by
  rw [List.take_succ_eq_append_getElem h, List.all_append, h1]; simpa using h2
theorem named_of_not {l : List UInt8} {k : Nat} (h : k < l.length) (h2 : letterB l[k] = false) : namedB l = false := by
  have : l.all letterB = false := by
    rw [List.all_eq_false]
    exact ⟨l[k], List.getElem_mem h, by simp [h2]⟩
  rw [namedB, this, Bool.and_false]

set_option maxRecDepth 10000 in
set_option maxHeartbeats 1000000 in
theorem refNamed_any (l : List UInt8) (w : World) (hl : l.length ≤ 140737488355328) :
    Calls Tryd.prog 27 #[.string ⟨l.toArray⟩] w fun e w' => e = .returned (.bool (namedB l)) ∧ Below w.heap.size w w' := by
  have hz : (ByteArray.mk l.toArray).size = l.length := Lib.size_eq ⟨l.toArray⟩
  have hconv : ∀ W s, (convert 9 70 (.string s)).run Tryd.prog W = .ok (.slice (some ⟨W.heap.size, 0, none⟩) s.size (grownCap W s.size 0 5)) (Lib.bytesWorld W 5 s) := fun W s =>
    Lib.run_convert_string_bytes W 9 70 5 s Tryd.underlying9 Tryd.underlying70 Tryd.underlying5
  go_enter Tryd.func27, Tryd.ntmps27
  go_wp2
  generalize hOK : (ByteArray.mk #[97, 98, 99, 100, 101, 102, 103, 104, 105, 106, 107, 108, 109, 110, 111, 112, 113, 114, 115, 116, 117, 118, 119, 120, 121, 122, 48, 49, 50, 51, 52, 53, 54, 55, 56, 57, 45, 95]) = OK
  have HOK : Hid (OK.data.toList = okL) := hide (by rw [← hOK]; rfl)
  have hOs : OK.size = 38 := by rw [← hOK]; rfl
  clear hOK
  generalize hW1 : Lib.bytesWorld w 5 ⟨l.toArray⟩ = W1
  have hs1 : W1.heap.size = w.heap.size + 1 := by rw [← hW1]; exact Lib.bytesWorld_size _ _ _
  have Hcell : Hid (∀ j (hj : j < l.length), W1.cell? ⟨w.heap.size, j, none⟩ = some (.int .u8 (l[j].toNat : Int))) := hide (fun j hj => by
    rw [← hW1]; exact bytes_cell w 5 ⟨l.toArray⟩ l rfl j hj)
  have hB1 : Below w.heap.size w W1 := by rw [← hW1]; exact bytes_below _ _ _
  clear hW1
  go_loopw [12] (fun i wr => ∃ k : Nat, k ≤ l.length ∧ i = .int .i64 k ∧ (l.take k).all letterB = true ∧ Below (w.heap.size + 1) W1 wr) (fun i _ => l.length - (intOf i).toNat)
  case atStart => exact ⟨0, Nat.zero_le _, rfl, by simp, Below.refl _ _⟩
  case round =>
    obtain ⟨k, hk, rfl, hall, hBr⟩ := hrel
    have Hall := hide hall
    clear hall
    by_cases hlt : k < l.length
    · have hc : wr.cell? ⟨w.heap.size, k, none⟩ = some (.int .u8 (l[k].toNat : Int)) := (hBr.cell (p := ⟨w.heap.size, k, none⟩) (by simp)).trans (unhide Hcell k hlt)
      generalize hcc : l[k] = c at hc
      have Hcc := hide hcc
      clear hcc
      have hcb := c.toNat_lt
      go_wp2
      generalize hW2 : Lib.bytesWorld wr 5 OK = W2
      have HW2 : Hid (∀ j (hj : j < okL.length), W2.cell? ⟨wr.heap.size, j, none⟩ = some (.int .u8 (okL[j].toNat : Int))) := hide (fun j hj => by
        rw [← hW2]; exact bytes_cell wr 5 OK okL (unhide HOK) j hj)
      have hB2 : Below (w.heap.size + 1) W1 W2 := by
        rw [← hW2]; exact hBr.trans ((bytes_below wr 5 OK).mono (by have := hBr.size; omega))
      clear hW2
      go_loop [6, 19] (fun t i => ∃ j : Nat, j ≤ 38 ∧ i = .int .i64 j ∧ t = .bool ((okL.take j).any (fun d => d == c))) (fun _ i => 38 - (intOf i).toNat)
      case atStart => exact ⟨0, Nat.zero_le _, rfl, by simp⟩
      case round =>
        obtain ⟨j, hj, rfl, rfl⟩ := hrel
        by_cases hjl : j < 38
        · have hd : W2.cell? ⟨wr.heap.size, j, none⟩ = some (.int .u8 ((okL[j]'hjl).toNat : Int)) := unhide HW2 j hjl
          have HS := hide (any_take_succ okL j hjl c)
          generalize hdd : okL[j]'hjl = d at hd
          have Hdd := hide hdd
          clear hdd
          cases hin : (okL.take j).any (fun d => d == c)
          · have Hin := hide hin
            clear hin
            go_wp2
            exact ⟨⟨j + 1, by omega, by go_num, val_bool (by rw [unhide HS, unhide Hin, unhide Hdd, Bool.false_or]; exact u8_beq c d)⟩, by simp [intOf]; omega⟩
          · have Hin := hide hin
            clear hin
            go_wp2
            exact ⟨⟨j + 1, by omega, by go_num, val_bool (by rw [unhide HS, unhide Hin, Bool.true_or])⟩, by simp [intOf]; omega⟩
        · have hj38 : j = 38 := by omega
          subst hj38
          rw [ok_all, ok_letter c]
          cases hlc : letterB c
          · have Hlc := hide hlc
            clear hlc
            go_wp2
            go_ret
            exact ⟨ret_bool (named_of_not hlt (by rw [unhide Hcc]; exact unhide Hlc)).symm, hB1.trans (hB2.mono (by omega))⟩
          · have Hlc := hide hlc
            clear hlc
            go_wp2
            exact ⟨⟨k + 1, by omega, by go_num, all_take_next hlt letterB (unhide Hall) (by rw [unhide Hcc]; exact unhide Hlc), hB2⟩, by simp [intOf]; omega⟩
    · have hke : k = l.length := by omega
      subst hke
      have hall' : l.all letterB = true := by
        have := unhide Hall
        rwa [List.take_length] at this
      have Hn := hide (namedB_all hall')
      clear hall' Hall
      have hfin : Below w.heap.size w wr := hB1.trans (hBr.mono (by omega))
      by_cases h0 : 0 < l.length
      · by_cases h40 : l.length ≤ 40
        · go_wp2
          go_ret
          exact ⟨ret_bool (by rw [unhide Hn]; first | exact (nm_true h0 h40).symm | exact (decide_eq_true (by omega)).trans (nm_true h0 h40).symm), hfin⟩
        · go_wp2
          go_ret
          exact ⟨ret_bool (by rw [unhide Hn]; first | exact (nm_long h40).symm | exact (decide_eq_false (by omega)).trans (nm_long h40).symm), hfin⟩
      · go_wp2
        go_ret
        exact ⟨ret_bool (by rw [unhide Hn]; first | exact (nm_none h0).symm | exact (decide_eq_false (by omega)).trans (nm_none h0).symm), hfin⟩

end Go.Proofs.YtkgaoedlnejigaaDoor

namespace Go.Proofs.YtkgaoedlnejigaaDoor
open Go.RowKit

def strV (p : List UInt8) : Value := .string ⟨p.toArray⟩
theorem splitL_snoc_slash (a : List UInt8) : splitL (a ++ [47]) = splitL a ++ [[]] := splitL_tail a [] (by simp)
theorem splitL_snoc : ∀ (a : List UInt8) (c : UInt8), c ≠ 47 → ∃ ini last, splitL a = ini ++ [last] ∧ splitL (a ++ [c]) = ini ++ [last ++ [c]]
  | [], c, hc => ⟨[], [], rfl, by simp [splitL, hc]⟩
  | x :: a, c, hc => by
    obtain ⟨ini, last, h1, h2⟩ := splitL_snoc a c hc
    by_cases hx : x = 47
    · subst hx
      exact ⟨[] :: ini, last, by rw [splitL_slash, h1]; rfl, by rw [List.cons_append, splitL_slash, h2]; rfl⟩
    · cases ini with
      | nil => exact ⟨[], x :: last, by rw [splitL_other hx h1]; rfl, by rw [List.cons_append, splitL_other hx h2]; rfl⟩
      | cons p ps => exact ⟨(x :: p) :: ps, last, by rw [splitL_other hx h1]; rfl, by rw [List.cons_append, splitL_other hx h2]; rfl⟩
theorem splitL_count' (l : List UInt8) : 1 ≤ (splitL l).length ∧ (splitL l).length ≤ l.length + 1 := by
  induction l with
  | nil => simp [splitL]
  | cons c l ih =>
    by_cases hc : c = 47
    · subst hc; rw [splitL_slash]; simp; omega
    · cases hl : splitL l with
      | nil => exact absurd hl (splitL_ne l)
      | cons p ps => rw [splitL_other hc hl]; rw [hl] at ih; simp at ih ⊢; omega

theorem infoS : (Tryd.prog.info? 9).map (fun i => (i.zero, i.size, i.bytes)) = some (some (.string ⟨#[]⟩), 1, 16) := by kernel_rfl

theorem size_setCell (w : World) (a : Addr) (v : Value) : (w.setCell a v).heap.size = w.heap.size := by
  show (w.heap.modify a.block _).size = _
  rw [Array.size_modify]
theorem heap_setCell_same {w : World} {g j : Nat} {cur : Array Value} {t : TypeId} {fz : Nat × Nat} (v : Value) (h : w.heap[g]? = some (.cells cur t fz)) :
    (w.setCell ⟨g, j, none⟩ v).heap[g]? = some (.cells (cur.setIfInBounds j v) t fz) := by
  obtain ⟨hlt, hk⟩ := Array.getElem?_eq_some_iff.1 h
  show (w.heap.modify g _)[g]? = _
  rw [Array.getElem?_eq_getElem (by rw [Array.size_modify]; exact hlt), Array.getElem_modify_self, hk]
  rfl
/-- the last string of a row is set anew -/
theorem row_set {w : World} {base g cap : Nat} {cur : Array Value} {ini : List (List UInt8)} {last x : List UInt8} (o : Obj) (h : w.heap[g]? = some (.cells cur 9 (0, 0))) (hb : base ≤ g) (h1 : ini.length + 1 ≤ cap) (h2 : cap ≤ maxLen) (h3 : cur.size = cap)
    (h4 : cur.toList.take (ini.length + [last].length) = ini.map strV ++ [last].map strV) :
    (((w.setCell ⟨g, ini.length, none⟩ (.string ⟨x.toArray⟩)).alloc o).drew).ownsRow base 9 1 (.slice (some ⟨g, 0, none⟩) (ini.length + 1) cap) (ini.length + 1) ((ini ++ [x]).map strV) := by
  have hlt : g < w.heap.size := (Array.getElem?_eq_some_iff.1 h).1
  refine ⟨by simp, .inr ⟨g, cap, cur.setIfInBounds ini.length (.string ⟨x.toArray⟩), rfl, hb, ?_, h1, h2, by simpa using h3, ?_⟩⟩
  · show ((w.setCell _ _).alloc o).heap[g]? = _
    rw [Below.heap_alloc _ _ _ (by rw [size_setCell]; exact hlt)]
    exact heap_setCell_same _ h
  · rw [Nat.mul_one, Array.toList_setIfInBounds]
    have h5 : cur.toList.take ini.length = ini.map strV := by
      have h6 := congrArg (List.take ini.length) h4
      rw [List.take_take] at h6
      simpa using h6
    have h7 : ini.length < cur.toList.length := by simp; omega
    rw [List.take_succ_eq_append_getElem (by simpa using h7), List.take_set_of_le (Nat.le_refl _), h5]
    simp [strV]
theorem row_ne {W : World} {base n B : Nat} {v : Value} {xs : List Value} {cs : Array Value} {fz : Nat × Nat} (h : W.ownsRow base 9 1 v n xs) (hb : W.heap[B]? = some (.cells cs 5 fz)) : some B ≠ v.ownBlock := by
  rcases h.2 with ⟨rfl, _⟩ | ⟨g, cap, cur, rfl, _, hgb, _⟩
  · simp [Value.ownBlock]
  · intro e
    obtain rfl : B = g := by simpa [Value.ownBlock] using e
    rw [hb] at hgb
    simp at hgb

set_option maxRecDepth 10000 in
set_option maxHeartbeats 1000000 in
theorem refSteps_any (l : List UInt8) (w : World) (hl : l.length ≤ 1048576) :
    Calls Tryd.prog 33 #[.string ⟨l.toArray⟩] w fun e w' =>
      ∃ v, e = .returned v ∧ w'.ownsRow w.heap.size 9 1 v (splitL l).length ((splitL l).map strV) ∧ Below w.heap.size w w' := by
  have hz : (ByteArray.mk l.toArray).size = l.length := Lib.size_eq ⟨l.toArray⟩
  have hconv : ∀ W s, (convert 9 70 (.string s)).run Tryd.prog W = .ok (.slice (some ⟨W.heap.size, 0, none⟩) s.size (grownCap W s.size 0 5)) (Lib.bytesWorld W 5 s) := fun W s =>
    Lib.run_convert_string_bytes W 9 70 5 s Tryd.underlying9 Tryd.underlying70 Tryd.underlying5
  go_enter Tryd.func33, Tryd.ntmps33
  go_wp2
  generalize hW1 : Lib.bytesWorld (w.alloc (.cells #[.string ⟨#[]⟩] 9)) 5 ⟨l.toArray⟩ = W1
  have hs1 : W1.heap.size = w.heap.size + 2 := by rw [← hW1, Lib.bytesWorld_size]; simp
  have Hcell : Hid (∀ j (hj : j < l.length), W1.cell? ⟨w.heap.size + 1, j, none⟩ = some (.int .u8 (l[j].toNat : Int))) := hide (fun j hj => by
    rw [← hW1]
    have h := bytes_cell (w.alloc (.cells #[.string ⟨#[]⟩] 9)) 5 ⟨l.toArray⟩ l rfl j hj
    rwa [World.size_alloc] at h)
  have htag : ∃ cs fz, W1.heap[w.heap.size + 1]? = some (.cells cs 5 fz) := by
    rw [← hW1]
    have h := Lib.bytesWorld_at_new (w.alloc (.cells #[.string ⟨#[]⟩] 9)) 5 ⟨l.toArray⟩
    rw [World.size_alloc] at h
    exact ⟨_, _, h⟩
  have hB1 : Below w.heap.size w W1 := by rw [← hW1]; exact ((Below.refl _ w).alloc (Nat.le_refl _) _).trans ((bytes_below _ _ _).mono (by simp))
  have hrow1 : W1.ownsRow w.heap.size 9 1 (.slice (some ⟨w.heap.size, 0, none⟩) 1 1) 1 [.string ⟨#[]⟩] := by
    refine ⟨rfl, .inr ⟨w.heap.size, 1, #[.string ⟨#[]⟩], rfl, Nat.le_refl _, ?_, Nat.le_refl _, by decide, rfl, rfl⟩⟩
    rw [← hW1, Lib.bytesWorld_at_old _ _ _ _ (by simp)]
    exact World.alloc_heap_new _ _
  clear hW1
  have Htag := hide htag
  clear htag
  go_loopw [3, 10] (fun v i wr => ∃ k : Nat, k ≤ l.length ∧ i = .int .i64 k ∧ wr.ownsRow w.heap.size 9 1 v (splitL (l.take k)).length ((splitL (l.take k)).map strV) ∧ Below w.heap.size w wr ∧ wr.heap[w.heap.size + 1]? = W1.heap[w.heap.size + 1]?) (fun _ i _ => l.length - (intOf i).toNat)
  case atStart => exact ⟨0, Nat.zero_le _, rfl, hrow1, hB1, rfl⟩
  case round =>
    obtain ⟨k, hk, rfl, hown, hB, hblk⟩ := hrel
    clear hrow1 hB1
    have Hown := hide hown
    have Hblk := hide hblk
    clear hblk
    have hcn := splitL_count' (l.take k)
    have hlt' : (l.take k).length ≤ k := List.length_take_le _ _
    by_cases hlt : k < l.length
    · have hc : wr.cell? ⟨w.heap.size + 1, k, none⟩ = some (.int .u8 (l[k].toNat : Int)) := (World.cell?_of_block (unhide Hblk)).trans (unhide Hcell k hlt)
      have Htk := hide (List.take_succ_eq_append_getElem hlt)
      generalize hcc : l[k] = c at hc Htk
      have hcb := c.toNat_lt
      obtain ⟨i0, hi, hz0, hz1, hz2⟩ := info_parts infoS
      by_cases hsl : c = 47
      · subst hsl
        clear hcc
        go_wp2_with (at_builtin; go_must (refine wpList_append_own _ rfl (.tmp 16) (.tmp 17) 28 rfl w.heap.size 9 i0 (.string ⟨#[]⟩) 1 16 Tryd.underlying28 hi hz0 hz1 hz2 rfl (by decide) _ _ _ rfl (hown.alloc _) ⟨wr.heap.size, 0, none⟩ 1 1 [.string ⟨#[]⟩] rfl rfl (cell_one_new _ _ _) (by simp [Value.oneCell']) (by simp only [maxLen]; omega) (by omega) (by have := hB.size; simp; omega) ?_); intro v' w1 hown' hgrow _)
        refine ⟨⟨k + 1, by omega, by go_num, ?_, ?_, ?_⟩, by simp [intOf]; omega⟩
        · rw [unhide Htk, splitL_snoc_slash, List.length_append, List.map_append]; exact hown'
        · exact (hB.alloc hB.size _).grown hgrow (by have := hB.size; simp; omega) (fun j e => ((unhide Hown).lt j e).1)
        · obtain ⟨cs, fz, ht⟩ := unhide Htag
          have hlt2 : w.heap.size + 1 < wr.heap.size := (Array.getElem?_eq_some_iff.1 ((unhide Hblk).trans ht)).1
          refine (hgrow.block _ (by simp; omega) (row_ne (unhide Hown) ((unhide Hblk).trans ht))).trans ?_
          exact (Below.heap_alloc wr _ _ hlt2).trans (unhide Hblk)
      · obtain ⟨ini, last, hi1, hi2⟩ := splitL_snoc (l.take k) c hsl
        have hsl' : ((c.toNat : Int) == 47) = false := by
          rw [beq_eq_false_iff_ne]
          intro h
          exact hsl (UInt8.toNat_inj.1 (by show c.toNat = 47; omega))
        clear hcc hsl hown
        have hown2 := unhide Hown
        rw [hi1, List.length_append, List.map_append] at hown2
        obtain ⟨hxl, hn | ⟨g, cap, cur, rfl, hg1, hg2, hg3, hg4, hg5, hg6⟩⟩ := hown2
        · exact absurd hn.2 (by simp)
        · have hgl : g < wr.heap.size := (Array.getElem?_eq_some_iff.1 hg2).1
          rw [Nat.mul_one] at hg5 hg6
          have hcl : wr.cell? ⟨g, ini.length, none⟩ = some (.string ⟨last.toArray⟩) := by
            have h := congrArg (fun x : List Value => x[ini.length]?) hg6
            simp only [List.length_singleton, List.getElem?_take] at h
            rw [if_pos (by omega), List.getElem?_append_right (by simp)] at h
            simp only [List.length_map, Nat.sub_self, List.map_cons, List.map_nil, List.getElem?_cons_zero] at h
            simp only [World.cell?, hg2]
            rw [← Array.getElem?_toList, h]; rfl
          have hfr : wr.frozen? ⟨g, ini.length, none⟩ = false := by simp [World.frozen?, hg2]
          have hll : last.length ≤ 1048576 := by
            have h1 := splitL_length (l.take k) last (by rw [hi1]; simp)
            omega
          have hlz : (ByteArray.mk last.toArray).size = last.length := Lib.size_eq ⟨last.toArray⟩
          have hb2s : ∀ W X, W.cell? ⟨X, 0, none⟩ = some (.int .u8 (c.toNat : Int)) → (convert 70 9 (.slice (some ⟨X, 0, none⟩) 1 1)).run Tryd.prog W = .ok (.string ⟨#[c]⟩) W := fun W X h =>
            run_convert_bytes_back W 70 9 5 ⟨X, 0, none⟩ 1 [c] Tryd.underlying70 Tryd.underlying5 Tryd.underlying9 (fun j hj => by
              obtain rfl : j = 0 := by simpa using hj
              simpa [Addr.add] using h)
          have Hg2 := hide hg2
          have Hg6 := hide hg6
          have Hi1 := hide hi1
          have Hi2 := hide hi2
          clear hg2 hg6 hi1 hi2
          simp only [List.length_singleton] at hxl hg3 hg5 ⊢
          have hil : ini.length ≤ 1048576 := by
            have h := hcn.2
            rw [unhide Hi1] at h
            simp at h
            omega
          have hil1 : (0 : Int) ≤ (ini.length : Int) := by omega
          have hil2 : (ini.length : Int) ≤ 1048576 := by omega
          have hil3 : (ini.length : Int) < (ini.length : Int) + 1 := by omega
          have hca : ∀ o, (wr.alloc o).cell? ⟨g, ini.length, none⟩ = some (.string ⟨last.toArray⟩) := fun o => (World.cell?_of_block (Below.heap_alloc wr o g hgl)).trans hcl
          have hfa : ∀ o, (wr.alloc o).frozen? ⟨g, ini.length, none⟩ = false := fun o => (World.frozen?_of_block (Below.heap_alloc wr o g hgl)).trans hfr
          go_wp2
          go_region
          clear hcl hfr hca hfa hb2s
          go_wp2
          refine ⟨⟨k + 1, by omega, by go_num, ?_, ?_, ?_⟩, by simp [intOf]; omega⟩
          · rw [unhide Htk, unhide Hi2, List.length_append, List.length_singleton, cat_one last [c]]
            exact row_set _ (unhide Hg2) hg1 hg3 hg4 (by simpa using hg5) (unhide Hg6)
          · exact ((hB.setCell (p := ⟨g, ini.length, none⟩) hg1 _).alloc (by rw [size_setCell]; exact hB.size) _).drew
          · obtain ⟨cs, fz, ht⟩ := unhide Htag
            have hb := (unhide Hblk).trans ht
            have hlt2 : w.heap.size + 1 < wr.heap.size := (Array.getElem?_eq_some_iff.1 hb).1
            have hne : w.heap.size + 1 ≠ g := by
              rintro rfl
              have h := unhide Hg2
              rw [hb] at h
              simp at h
            show (((wr.setCell _ _).alloc _).heap)[_]? = _
            rw [Below.heap_alloc _ _ _ (by rw [size_setCell]; exact hlt2), Below.heap_setCell _ _ _ _ hne]
            exact unhide Hblk
    · have hke : k = l.length := by omega
      subst hke
      rw [List.take_length] at Hown
      clear hown
      go_wp2
      go_ret
      exact ⟨_, rfl, unhide Hown, hB⟩

end Go.Proofs.YtkgaoedlnejigaaDoor
