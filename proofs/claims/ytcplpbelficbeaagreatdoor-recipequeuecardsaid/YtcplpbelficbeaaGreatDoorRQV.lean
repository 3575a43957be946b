/-
  recipe.Line: the walks.
  Where the children of a node lie; the first one of a line; the one ahead of a step. No program is named here.
  A line of five sessions, as plain data: what a request comes to on its tree. No program is named here.
-/
import Derived.Test.YtcplpbelficbeaaGreatDoorRQU
import Derived.Test.YtcplpbelficbeaaGreatDoorRQT
import Derived.Test.YtcplpbelficbeaaGreatDoorRQO
import Derived.Test.YtcplpbelficbeaaGreatDoorRQN
namespace Go.Proofs.YtcplpbelficbeaaGreatDoor
open Go.RowKit

/-- the steps of a line, and its error -/
def linE (ns : List Nd) (d m : List UInt8) : Int := if (lookN ns d).isSome = true then (if m = [] ∨ namedB m = true then 0 else 2) else 7
def linL (ns : List Nd) (d m : List UInt8) : List (List UInt8) := if linE ns d m = 0 then (kidsP ns d).filter (nmbB m) else []
theorem lin_none {ns : List Nd} {d : List UInt8} (m : List UInt8) (h : lookN ns d = none) : linE ns d m = 7 ∧ linL ns d m = [] := by
  have e : linE ns d m = 7 := by rw [linE, h]; rfl
  exact ⟨e, by rw [linL, e]; rfl⟩
theorem lin_form {ns : List Nd} {d m : List UInt8} {n : Nd} (h : lookN ns d = some n) (hm : m ≠ []) (hb : namedB m = false) : linE ns d m = 2 ∧ linL ns d m = [] := by
  have e : linE ns d m = 2 := by rw [linE, h, if_pos (show (some n).isSome = true from rfl), if_neg (by rintro (h1 | h1); exact hm h1; rw [hb] at h1; exact absurd h1 (by decide))]
  exact ⟨e, by rw [linL, e]; rfl⟩
theorem lin_ok {ns : List Nd} {d m : List UInt8} {n : Nd} (h : lookN ns d = some n) (hm : m = [] ∨ namedB m = true) : linE ns d m = 0 ∧ linL ns d m = (kidsP ns d).filter (nmbB m) := by
  have e : linE ns d m = 0 := by rw [linE, h, if_pos (show (some n).isSome = true from rfl), if_pos hm]
  exact ⟨e, by rw [linL, e, if_pos rfl]⟩

/-- a name in its box -/
def NameAt (W : World) (B : Nat) (m : List UInt8) : Prop := W.heap[B]? = some (.cells #[.string ⟨m.toArray⟩] 9 (0, 0))
theorem NameAt.lt {W : World} {B : Nat} {m : List UInt8} (h : NameAt W B m) : B < W.heap.size := (Array.getElem?_eq_some_iff.1 h).1
theorem NameAt.c0 {W : World} {B : Nat} {m : List UInt8} (h : NameAt W B m) : W.cell? ⟨B, 0, none⟩ = some (.string ⟨m.toArray⟩) := by unfold NameAt at h; simp [World.cell?, h]
theorem NameAt.next {W V : World} {B : Nat} {m : List UInt8} (h : NameAt W B m) (hb : Below W.heap.size W V) : NameAt V B m := (hb.block _ h.lt).trans h
theorem NameAt.grown {W V : World} {B q : Nat} {m : List UInt8} (h : NameAt W B m) (hg : W.grownBy V (some q)) (hq : B ≠ q) : NameAt V B m := (hg.block B h.lt (by simpa using hq)).trans h

set_option maxRecDepth 10000 in
set_option maxHeartbeats 400000 in
theorem line1_any (x m : List UInt8) (B : Nat) (w : World) (hI : NameAt w B m) :
    Calls Tryz.prog 24 #[.string ⟨x.toArray⟩, .pointer (some ⟨B, 0, none⟩)] w fun e w' => e = .returned (.bool (!nmbB m x)) ∧ Below w.heap.size w w' := by
  have CN := hide (fun W => nmb_any x m W)
  have c0 := hI.c0
  clear hI
  go_enter Tryz.func24, Tryz.ntmps24
  go_wp2_with fail
  refine (unhide CN _).mono ?_
  rintro e w1 ⟨rfl, hb1⟩
  go_wp2_with fail
  go_ret
  exact ⟨rfl, hb1⟩
theorem line_clos (m : List UInt8) (B q : Nat) (hq : B ≠ q) : ClosS 24 B q (fun x => !nmbB m x) (fun W => NameAt W B m) :=
  ⟨rfl, fun _ _ h hg => h.grown hg hq, fun W x h => line1_any x m B W h⟩
theorem snot_not (m : List UInt8) (xs : List (List UInt8)) : xs.filter (fun x => !(!nmbB m x)) = xs.filter (nmbB m) := by simp

set_option maxRecDepth 10000 in
set_option maxHeartbeats 400000 in
/-- DeleteFunc with Line's closure, of a row of the call's own or of nothing -/
theorem sdelS (m : List UInt8) (B C : Nat) (v : Value) (xs : List (List UInt8)) (w : World) (hI : NameAt w B m) (ho : OwnS w C v xs) (hB : B < C) (hC : C ≤ w.heap.size) (hl : xs.length ≤ 140737488355328) :
    Calls Tryz.prog 23 #[v, .func (.func 24) #[] #[.pointer (some ⟨B, 0, none⟩)]] w fun e w' => ∃ v', e = .returned v' ∧ OwnS w' C v' (xs.filter (nmbB m)) ∧ Below C w w' := by
  rcases ho with ⟨rfl, rfl⟩ | ⟨q, cap, rfl, hq, hr⟩
  · have CN := sidx_none (line_clos m B w.heap.size (by have := hI.lt; omega)) (.slice none 0 0) [] w hI (SeqV.nil w) (by simp) (by simp)
    clear hI
    go_enter Tryz.func23, Tryz.ntmps23
    go_wp2_with fail
    refine CN.mono ?_
    rintro e w1 ⟨rfl, hb1⟩
    have HB := hide (hb1.mono hC)
    clear CN hb1
    go_wp2_with fail
    go_ret
    exact ⟨_, rfl, .inl ⟨rfl, rfl⟩, unhide HB⟩
  · refine (sdel_any (line_clos m B q (by omega)) cap xs w hI hr hl).mono ?_
    rintro e w' ⟨rfl, h1, h2⟩
    rw [snot_not] at h1 ⊢
    exact ⟨_, rfl, .inr ⟨q, cap, rfl, hq, h1⟩, grownO h2 C hC (fun k hk => by cases hk; exact hq)⟩

/-- a tree's box, and a name's -/
structure LB (w W : World) (m : List UInt8) : Prop where
  n : NameAt W (w.heap.size + 1) m
  b : Below w.heap.size w W
theorem LB.new (w : World) (o : Obj) (m : List UInt8) : LB w ((w.alloc o).alloc (.cells #[.string ⟨m.toArray⟩] 9)) m := by
  refine ⟨?_, nnext (allocB _ _) (allocB _ _)⟩
  have h := heap_alloc_new (w.alloc o) (.cells #[.string ⟨m.toArray⟩] 9)
  rw [show (w.alloc o).heap.size = w.heap.size + 1 by simp] at h
  exact h
theorem LB.next {w W V : World} {m : List UInt8} (h : LB w W m) (hb : Below W.heap.size W V) : LB w V m := ⟨h.n.next hb, nnext h.b hb⟩

set_option maxRecDepth 20000 in
set_option maxHeartbeats 1000000 in
theorem line_gap (z : Int) (vn vs : Value) (ns A B : List Nd) (d m : List UInt8) (w : World) (hn : SeqV w vn ns) (hl : ns.length ≤ 100000) (G : NGap ns A B d) :
    Calls Tryz.prog 11 #[.agg #[.int .i64 z, vn, vs], .string ⟨d.toArray⟩, .string ⟨m.toArray⟩] w fun e w' => ∃ v', e = .returned (.tuple #[v', .int .i64 (linE ns d m)]) ∧ OwnS w' w.heap.size v' (linL ns d m) ∧ Below w.heap.size w w' := by
  obtain ⟨h1, h2⟩ := lin_none m G.look
  rw [h1, h2]
  have CK := hide (fun W (hW : Below w.heap.size w W) => tkids_gap z vn vs ns A B d W (hn.next hW) hl G)
  obtain ⟨na, nc, rfl⟩ := seq_slice hn
  have B0 := hide (LB.new w (.cells #[.int .i64 z, .slice na ns.length nc, vs] 26) m)
  clear hn G h1 h2
  go_enter Tryz.func11, Tryz.ntmps11
  go_wp2_with fail
  refine (unhide CK _ (unhide B0).b).mono ?_
  rintro e w1 ⟨rfl, hb1⟩
  have HB := hide ((unhide B0).next hb1).b
  clear CK hb1 B0
  go_wp2_with fail
  go_ret2
  exact ⟨_, rfl, .inl ⟨rfl, rfl⟩, unhide HB⟩

set_option maxRecDepth 20000 in
set_option maxHeartbeats 1000000 in
theorem line_form (z : Int) (vn vs : Value) (ns A B : List Nd) (n : Nd) (d m : List UInt8) (w : World) (hn : SeqV w vn ns) (hl : ns.length ≤ 400) (T : NThere ns A n B d) (hml : m.length ≤ 140737488355328) (hm : m ≠ []) (hb : namedB m = false) :
    Calls Tryz.prog 11 #[.agg #[.int .i64 z, vn, vs], .string ⟨d.toArray⟩, .string ⟨m.toArray⟩] w fun e w' => ∃ v', e = .returned (.tuple #[v', .int .i64 (linE ns d m)]) ∧ OwnS w' w.heap.size v' (linL ns d m) ∧ Below w.heap.size w w' := by
  obtain ⟨h1, h2⟩ := lin_form T.look hm hb
  rw [h1, h2]
  have CK := hide (fun W (hW : Below w.heap.size w W) => tkids_there z vn vs ns A B n d W (hn.next hW) hl T)
  have hkl : (kidsP ns d).length ≤ 400 := by rw [kidsP_len]; exact Nat.le_trans List.countP_le_length hl
  obtain ⟨na, nc, rfl⟩ := seq_slice hn
  have B0 := hide (LB.new w (.cells #[.int .i64 z, .slice na ns.length nc, vs] 26) m)
  obtain ⟨K, hK⟩ : ∃ K, kidsP ns d = K := ⟨_, rfl⟩
  have CN := hide (fun W => named_any ⟨m.toArray⟩ W (show m.length ≤ maxLen by simp only [maxLen]; omega))
  rw [show (ByteArray.mk m.toArray).data.toList = m from rfl, hb] at CN
  have hmb : (m == []) = false := by simpa using hm
  rw [hK] at CK
  clear hn T h1 h2 hb hm hK hkl
  go_enter Tryz.func11, Tryz.ntmps11
  go_wp2_with fail
  refine (unhide CK _ (unhide B0).b).mono ?_
  rintro e w1 ⟨vk, rfl, hk1, hb1⟩
  have B1 := hide ((unhide B0).next hb1)
  have HK1 := hide hk1
  have hsz : w.heap.size + 2 ≤ w1.heap.size := by have := hb1.size; simp at this; omega
  have c0 := (unhide B1).n.c0
  obtain ⟨ka, kc, rfl, _⟩ := hk1.slice
  clear CK hb1 B0 hk1
  go_wp2_with fail
  refine (unhide CN _).mono ?_
  rintro e w2 ⟨rfl, rfl⟩
  go_wp2_with fail
  go_ret2
  exact ⟨_, rfl, .inl ⟨rfl, rfl⟩, (unhide B1).b⟩

set_option maxRecDepth 20000 in
set_option maxHeartbeats 1000000 in
theorem line_nil (z : Int) (vn vs : Value) (ns A B : List Nd) (n : Nd) (d : List UInt8) (w : World) (hn : SeqV w vn ns) (hl : ns.length ≤ 400) (T : NThere ns A n B d) :
    Calls Tryz.prog 11 #[.agg #[.int .i64 z, vn, vs], .string ⟨d.toArray⟩, .string ⟨#[]⟩] w fun e w' => ∃ v', e = .returned (.tuple #[v', .int .i64 (linE ns d [])]) ∧ OwnS w' w.heap.size v' (linL ns d []) ∧ Below w.heap.size w w' := by
  obtain ⟨h1, h2⟩ := lin_ok T.look (.inl rfl)
  rw [h1, h2]
  have CK := hide (fun W (hW : Below w.heap.size w W) => tkids_there z vn vs ns A B n d W (hn.next hW) hl T)
  have hkl : (kidsP ns d).length ≤ 400 := by rw [kidsP_len]; exact Nat.le_trans List.countP_le_length hl
  obtain ⟨na, nc, rfl⟩ := seq_slice hn
  have B0 := hide (LB.new w (.cells #[.int .i64 z, .slice na ns.length nc, vs] 26) [])
  obtain ⟨K, hK⟩ : ∃ K, kidsP ns d = K := ⟨_, rfl⟩
  rw [hK] at CK hkl ⊢
  have CD := hide (fun B C v W hI ho hB hC => sdelS [] B C v K W hI ho hB hC (by omega))
  generalize K.filter (nmbB []) = R at CD ⊢
  clear hn T h1 h2 hK
  go_enter Tryz.func11, Tryz.ntmps11
  go_wp2_with fail
  refine (unhide CK _ (unhide B0).b).mono ?_
  rintro e w1 ⟨vk, rfl, hk1, hb1⟩
  have B1 := hide ((unhide B0).next hb1)
  have HK1 := hide hk1
  have hsz : w.heap.size + 2 ≤ w1.heap.size := by have := hb1.size; simp at this; omega
  have c0 := (unhide B1).n.c0
  have CX := unhide CD (w.heap.size + 1) (w.heap.size + 2) _ _ (unhide B1).n (hk1.lower (by simp)) (by omega) hsz
  obtain ⟨ka, kc, rfl, _⟩ := hk1.slice
  clear CK CD hb1 B0 hk1
  go_wp2_with fail
  refine CX.mono ?_
  rintro e w3 ⟨v3, rfl, hk3, hb3⟩
  have HK3 := hide (hk3.lower (show w.heap.size ≤ w.heap.size + 2 by omega))
  have HB3 := hide ((unhide B1).b.trans (hb3.mono (show w.heap.size ≤ w.heap.size + 2 by omega)))
  obtain ⟨ka3, kc3, rfl, _⟩ := hk3.slice
  clear CX hk3 hb3
  go_wp2_with fail
  go_ret2
  exact ⟨_, rfl, unhide HK3, unhide HB3⟩

set_option maxRecDepth 20000 in
set_option maxHeartbeats 1000000 in
theorem line_named (z : Int) (vn vs : Value) (ns A B : List Nd) (n : Nd) (d m : List UInt8) (w : World) (hn : SeqV w vn ns) (hl : ns.length ≤ 400) (T : NThere ns A n B d) (hml : m.length ≤ 140737488355328) (hb : namedB m = true) :
    Calls Tryz.prog 11 #[.agg #[.int .i64 z, vn, vs], .string ⟨d.toArray⟩, .string ⟨m.toArray⟩] w fun e w' => ∃ v', e = .returned (.tuple #[v', .int .i64 (linE ns d m)]) ∧ OwnS w' w.heap.size v' (linL ns d m) ∧ Below w.heap.size w w' := by
  obtain ⟨h1, h2⟩ := lin_ok T.look (.inr hb)
  rw [h1, h2]
  have CK := hide (fun W (hW : Below w.heap.size w W) => tkids_there z vn vs ns A B n d W (hn.next hW) hl T)
  have hkl : (kidsP ns d).length ≤ 400 := by rw [kidsP_len]; exact Nat.le_trans List.countP_le_length hl
  obtain ⟨na, nc, rfl⟩ := seq_slice hn
  have B0 := hide (LB.new w (.cells #[.int .i64 z, .slice na ns.length nc, vs] 26) m)
  obtain ⟨K, hK⟩ : ∃ K, kidsP ns d = K := ⟨_, rfl⟩
  rw [hK] at CK hkl ⊢
  have CD := hide (fun B C v W hI ho hB hC => sdelS m B C v K W hI ho hB hC (by omega))
  have CN := hide (fun W => named_any ⟨m.toArray⟩ W (show m.length ≤ maxLen by simp only [maxLen]; omega))
  rw [show (ByteArray.mk m.toArray).data.toList = m from rfl, hb] at CN
  have hmb : (m == []) = false := by
    cases m with
    | nil => exact absurd hb (by decide)
    | cons a r => rfl
  generalize K.filter (nmbB m) = R at CD ⊢
  clear hn T h1 h2 hb hK
  go_enter Tryz.func11, Tryz.ntmps11
  go_wp2_with fail
  refine (unhide CK _ (unhide B0).b).mono ?_
  rintro e w1 ⟨vk, rfl, hk1, hb1⟩
  have B1 := hide ((unhide B0).next hb1)
  have HK1 := hide hk1
  have hsz : w.heap.size + 2 ≤ w1.heap.size := by have := hb1.size; simp at this; omega
  have c0 := (unhide B1).n.c0
  have CX := unhide CD (w.heap.size + 1) (w.heap.size + 2) _ _ (unhide B1).n (hk1.lower (by simp)) (by omega) hsz
  obtain ⟨ka, kc, rfl, _⟩ := hk1.slice
  clear CK CD hb1 B0 hk1
  go_wp2_with fail
  refine (unhide CN _).mono ?_
  rintro e w2 ⟨rfl, rfl⟩
  go_wp2_with fail
  refine CX.mono ?_
  rintro e w3 ⟨v3, rfl, hk3, hb3⟩
  have HK3 := hide (hk3.lower (show w.heap.size ≤ w.heap.size + 2 by omega))
  have HB3 := hide ((unhide B1).b.trans (hb3.mono (show w.heap.size ≤ w.heap.size + 2 by omega)))
  obtain ⟨ka3, kc3, rfl, _⟩ := hk3.slice
  clear CX hk3 hb3
  go_wp2_with fail
  go_ret2
  exact ⟨_, rfl, unhide HK3, unhide HB3⟩

/-- of every tree whose nodes rise -/
theorem line_any (z : Int) (vn vs : Value) (ns : List Nd) (d m : List UInt8) (w : World) (hn : SeqV w vn ns) (ha : NAsc ns) (hl : ns.length ≤ 400) (hml : m.length ≤ 140737488355328) :
    Calls Tryz.prog 11 #[.agg #[.int .i64 z, vn, vs], .string ⟨d.toArray⟩, .string ⟨m.toArray⟩] w fun e w' => ∃ v', e = .returned (.tuple #[v', .int .i64 (linE ns d m)]) ∧ OwnS w' w.heap.size v' (linL ns d m) ∧ Below w.heap.size w w' := by
  rcases nwhere d ns ha with ⟨A, n, B, T⟩ | ⟨A, B, G⟩
  · by_cases hm : m = []
    · subst hm
      exact line_nil z vn vs ns A B n d w hn hl T
    · cases hb : namedB m
      · exact line_form z vn vs ns A B n d m w hn hl T hml hm hb
      · exact line_named z vn vs ns A B n d m w hn hl T hml hb
  · exact line_gap z vn vs ns A B d m w hn (by omega) G
end Go.Proofs.YtcplpbelficbeaaGreatDoor

namespace Go.Proofs.YtcplpbelficbeaaGreatDoor
open Go.RowKit

theorem bel_step {p : List UInt8} (h : goodB p = true) (hn : p ≠ [47]) : belL (dirOf p) (stepOf p) = p := by
  obtain ⟨a, b, rfl, hb⟩ := good_cut h
  rw [dirOf_cut h hn hb, stepOf_cut h hn hb, nupL]
  split
  · rename_i h0; subst h0
    exact belL_root b
  · rename_i h0
    by_cases ha : a = [47]
    · subst ha
      exfalso
      have h2 : goodB (47 :: 47 :: b) = true := h
      rw [goodB_cons _ (by simp), splitL_slash, splitL_no b hb] at h2
      simp [not_named_nil] at h2
    · exact belL_other ha b
/-- a child of a node -/
theorem kid_node {z : Int} {ns : List Nd} {ss : List Int} (g : GoodN z ns ss) {d x : List UInt8} (hd : d ≠ []) (hx : x ∈ kidsP ns d) : ∃ n ∈ ns, n.p = belL d x ∧ dirOf n.p = d ∧ stepOf n.p = x := by
  unfold kidsP at hx
  obtain ⟨n, hn, rfl⟩ := List.mem_map.1 hx
  obtain ⟨hm, hdn⟩ := List.mem_filter.1 hn
  have hdn : dirOf n.p = d := of_decide_eq_true hdn
  have hp := (g.ok n hm).path
  have hr : n.p ≠ [47] := by
    intro h0
    rw [h0, dirOf_root] at hdn
    exact hd hdn.symm
  refine ⟨n, hm, ?_, hdn, rfl⟩
  have := bel_step hp hr
  rw [hdn] at this
  exact this.symm
def holN (ns : List Nd) (d m : List UInt8) : Option Nd := match linL ns d m with
  | [] => none
  | x :: _ => lookN ns (belL d x)
def holO (ns : List Nd) (d m : List UInt8) : Int := match holN ns d m with
  | none => 0
  | some n => n.o
def holC (ns : List Nd) (d m : List UInt8) : Int := match holN ns d m with
  | none => 0
  | some n => n.c
theorem hol_nil {ns : List Nd} {d m : List UInt8} (h : linL ns d m = []) : holO ns d m = 0 ∧ holC ns d m = 0 := by
  have : holN ns d m = none := by rw [holN, h]
  exact ⟨by rw [holO, this], by rw [holC, this]⟩
theorem hol_some {ns : List Nd} {d m x : List UInt8} {r : List (List UInt8)} {n : Nd} (h : linL ns d m = x :: r) (hn : lookN ns (belL d x) = some n) : holO ns d m = n.o ∧ holC ns d m = n.c := by
  have : holN ns d m = some n := by rw [holN, h]; exact hn
  exact ⟨by rw [holO, this], by rw [holC, this]⟩
theorem lin_err {ns : List Nd} {d m : List UInt8} (h : linE ns d m ≠ 0) : linL ns d m = [] := by rw [linL, if_neg h]
theorem lin_zero {ns : List Nd} {d m : List UInt8} (h : linE ns d m = 0) : (∃ n, lookN ns d = some n) ∧ (m = [] ∨ namedB m = true) ∧ linL ns d m = (kidsP ns d).filter (nmbB m) := by
  cases hl : lookN ns d with
  | none => rw [(lin_none m hl).1] at h; exact absurd h (by decide)
  | some n =>
    by_cases hm : m = [] ∨ namedB m = true
    · exact ⟨⟨n, rfl⟩, hm, (lin_ok hl hm).2⟩
    · have h1 : m ≠ [] := fun e => hm (.inl e)
      have h2 : namedB m = false := by
        cases hb : namedB m
        · rfl
        · exact absurd (.inr hb) hm
      rw [(lin_form hl h1 h2).1] at h
      exact absurd h (by decide)
/-- each one of a line is a node -/
theorem lin_node {z : Int} {ns : List Nd} {ss : List Int} (g : GoodN z ns ss) {d m x : List UInt8} (hx : x ∈ linL ns d m) : linE ns d m = 0 ∧ d.length ≤ 200 ∧ x.length ≤ 200 ∧ goodB d = true ∧ ∃ n ∈ ns, n.p = belL d x ∧ lookN ns (belL d x) = some n ∧ dirOf n.p = d ∧ stepOf n.p = x := by
  by_cases h : linE ns d m = 0
  · obtain ⟨⟨u, hu⟩, _, hl⟩ := lin_zero h
    rw [hl] at hx
    have hk := (List.mem_filter.1 hx).1
    obtain ⟨hum, hup⟩ := lookN_some hu
    have hgd : goodB d = true := by rw [← hup]; exact (g.ok u hum).path
    have hd : d ≠ [] := by
      intro h0; rw [h0] at hgd; exact absurd hgd (by decide)
    obtain ⟨n, hn, hp, h1, h2⟩ := kid_node g hd hk
    have hpl := goodB_le (g.ok n hn).path
    refine ⟨h, goodB_le hgd, ?_, hgd, n, hn, hp, by rw [← hp]; exact look_mem g.asc hn, h1, h2⟩
    rw [hp] at hpl
    unfold belL at hpl
    split at hpl
    · rw [List.length_cons] at hpl; omega
    · rw [List.length_append, List.length_cons] at hpl; omega
  · rw [lin_err h] at hx; simp at hx
/- the one ahead -/
end Go.Proofs.YtcplpbelficbeaaGreatDoor

namespace Go.Proofs.YtcplpbelficbeaaGreatDoor
open Go.RowKit

/-- a request that can be done, and the tree behind it -/
structure StepQ (t : Tr) (z : Int) (r : Rq) (t' : Tr) : Prop where
  g : GoodT t
  e : prpE t z r = 0
  a : appE t (prpX t z r) = 0
  t : appT t (prpX t z r) = t'
theorem step_of {t : Tr} {z : Int} {r : Rq} (g : GoodT t) (hz : zGood z = true) (hs : 1 ≤ r.s ∧ r.s ≤ 2147483647) (hf : filE t r = 0) (ha : appE t (filX t z r) = 0) : StepQ t z r (appT t (filX t z r)) := by
  have h : headB t z r = true := headB_true.2 ⟨g, hz, hs.1, hs.2⟩
  have e : prpE t z r = 0 := by rw [prp_app h hf]; exact ha
  exact ⟨g, e, by rw [prpX_ok e]; exact ha, by rw [prpX_ok e]⟩
theorem adm_of {t : Tr} {x : WTxn} (g : GoodT t) (hg : gdE x = 0) (hz : t.z < x.z) (h1 : x.o = 1 → x.s ∉ t.ss) (h2 : x.o ≠ 1 → x.s ∈ t.ss) : admE t x = 0 := by
  unfold admE
  rw [if_neg (by rw [goodT_true.2 g]; decide), if_neg (by omega), if_neg (by omega), if_neg (fun h => h1 h.1 h.2), if_neg (fun h => h.2 (h2 h.1))]
theorem app_of {t : Tr} {x : WTxn} (ha : admE t x = 0) (hc : chgE t x = 0) (hf : fullN (chgN t x) = false) : appE t x = 0 ∧ appT t x = ⟨x.z, chgN t x, chgS t x⟩ := by
  have e : appE t x = 0 := by
    unfold appE
    rw [if_neg (by omega), if_neg (by omega), if_neg (by rw [hf]; decide)]
  exact ⟨e, by rw [appT, if_pos e]⟩
theorem zgood_of {z : Int} (h : 0 ≤ z ∧ z ≤ 100000) : zGood z = true := by
  simp only [zGood, Bool.and_eq_true, decide_eq_true_eq]; omega

/- a session opens -/
theorem open_step {t : Tr} {z s : Int} (g : GoodT t) (hz : t.z < z) (hzz : 0 ≤ z ∧ z ≤ 100000) (hs : 1 ≤ s ∧ s ≤ 2147483647) (hm : s ∉ t.ss) : StepQ t z ⟨1, s, [], [], 0, 0⟩ ⟨z, t.ns, insS t.ss s⟩ := by
  have hzg := zgood_of hzz
  obtain ⟨hf, hx⟩ := fil_end (t := t) (z := z) (r := ⟨1, s, [], [], 0, 0⟩) (.inl rfl)
  have hgd : gdE ⟨z, 1, s, [], [], 0, 0⟩ = 0 := gdE_ok rfl (numB_iff.2 ⟨hzg, cntB_iff.2 hs, rfl, rfl⟩) (by simp) rfl
  have ha := adm_of (x := ⟨z, 1, s, [], [], 0, 0⟩) g hgd hz (fun _ => hm) (fun h => absurd rfl h)
  obtain ⟨h1, h2⟩ := app_of (x := ⟨z, 1, s, [], [], 0, 0⟩) ha rfl (fullN_false.2 g.cap)
  have := step_of g hzg hs hf (by rw [hx]; exact h1)
  rw [hx, h2] at this
  exact this

/- the paths -/
theorem ten_no47 (c : Nat) : (47 : UInt8) ∉ ten c := by
  intro h
  have := ten_dig c 47 h
  unfold isDig at this
  exact absurd this.1 (by decide)
def qP (c : Nat) : List UInt8 := [47, 108, 47, 113] ++ ten c
theorem q_no47 (c : Nat) : (47 : UInt8) ∉ 113 :: ten c := by
  intro h
  rcases List.mem_cons.1 h with h | h
  · exact absurd h (by decide)
  · exact ten_no47 c h
theorem q_named (c : Nat) : namedB (113 :: ten c) = true := by
  have h := ten_letters c
  simp only [namedB, List.length_cons, ten_length, List.all_cons, h, Bool.and_true]
  decide
theorem qP_good (c : Nat) : goodB (qP c) = true := by
  show goodB (47 :: (108 :: 47 :: 113 :: ten c)) = true
  rw [goodB_cons _ (by simp)]
  have hs : splitL (108 :: 47 :: 113 :: ten c) = [[108], 113 :: ten c] := splitL_other (by decide) (by rw [splitL_slash, splitL_no _ (q_no47 c)])
  rw [hs]
  simp only [List.length_cons, ten_length, List.all_cons, q_named, List.all_nil, Bool.and_true]
  decide +kernel
theorem qP_len (c : Nat) : (qP c).length = 14 := by simp [qP, ten_length]
theorem qP_root (c : Nat) : qP c ≠ [47] := by
  intro h
  have := congrArg List.length h
  rw [qP_len] at this
  simp at this
theorem qP_l (c : Nat) : qP c ≠ [47, 108] := by
  intro h
  have := congrArg List.length h
  rw [qP_len] at this
  simp at this
theorem qP_dir (c : Nat) : dirOf (qP c) = [47, 108] := by
  have h : qP c = [47, 108] ++ 47 :: (113 :: ten c) := rfl
  have hg := qP_good c
  have hr := qP_root c
  rw [h] at hg hr ⊢
  rw [dirOf_cut hg hr (q_no47 c), nupL, if_neg (by simp)]
theorem qP_step (c : Nat) : stepOf (qP c) = 113 :: ten c := by
  have h : qP c = [47, 108] ++ 47 :: (113 :: ten c) := rfl
  have hg := qP_good c
  have hr := qP_root c
  rw [h] at hg hr ⊢
  exact stepOf_cut hg hr (q_no47 c)
theorem l_good : goodB [47, 108] = true := by decide +kernel
theorem l_dir : dirOf [47, 108] = [47] := by decide +kernel
theorem lq_good : goodB [47, 108, 47, 113] = true := by decide +kernel
theorem lq_dir : dirOf [47, 108, 47, 113] = [47, 108] := by decide +kernel
theorem lq_step : stepOf [47, 108, 47, 113] = [113] := by decide +kernel
theorem q_nmb (c : Nat) : nmbB [113] (113 :: ten c) = true := by
  have hall : (ten c).all digB = true := by
    rw [List.all_eq_true]
    intro d hd
    have := ten_dig c d hd
    unfold isDig at this
    simp only [digB, Bool.and_eq_true, decide_eq_true_eq]
    exact this
  rw [nmbB]
  simp only [Lib.hasPrefix, List.length_cons, List.length_nil, ten_length, List.drop_succ_cons, List.drop_zero, hall, Bool.and_true]
  simp [List.isPrefixOf]
theorem q_bel (c : Nat) : belL [47, 108] (113 :: ten c) = qP c := by
  rw [belL_other (by decide)]; rfl
theorem root_lt (c : Nat) : bl [47] (qP c) = true := by simp [bl, Op.bytesLess, qP]
theorem l_lt (c : Nat) : bl [47, 108] (qP c) = true := by simp [bl, Op.bytesLess, qP]
theorem q_lt {c d : Nat} (hd : d ≤ 2147483647) (h : c < d) : bl (qP c) (qP d) = true := by
  show Op.bytesLess ([47, 108, 47, 113] ++ ten c) ([47, 108, 47, 113] ++ ten d) = true
  rw [less_serial _ _ _ (by omega) hd]
  exact decide_eq_true h

/-- a line, and all that is beside it -/
structure Qu (t : Tr) (z cv : Int) (Q : List Nd) : Prop where
  g : GoodT t
  tz : t.z = z
  ss : t.ss = [1, 2, 3, 4, 5]
  ns : ∃ R l, t.ns = R :: l :: Q ∧ R.p = [47] ∧ R.o = 0 ∧ l.p = [47, 108] ∧ l.o = 0 ∧ l.k = cv
  q : ∀ n ∈ Q, ∃ c : Nat, (c : Int) < cv ∧ n.p = qP c
  up : Q.Pairwise fun a b => a.c < b.c
theorem five {s : Int} (h : 1 ≤ s ∧ s ≤ 5) : s ∈ [(1 : Int), 2, 3, 4, 5] := by
  have : s = 1 ∨ s = 2 ∨ s = 3 ∨ s = 4 ∨ s = 5 := by omega
  simp; omega
theorem qfilter_all {α : Type} {p : α → Bool} {l : List α} (h : ∀ x ∈ l, p x = true) : l.filter p = l := List.filter_eq_self.2 h
theorem qfilter_none {α : Type} {p : α → Bool} {l : List α} (h : ∀ x ∈ l, p x = false) : l.filter p = [] := List.filter_eq_nil_iff.2 (fun x hx => by rw [h x hx]; decide)
theorem ins_last {ns : List Nd} {x : Nd} (h : ∀ n ∈ ns, bl n.p x.p = true) : insN ns x = ns ++ [x] := by
  rw [insN, qfilter_all (fun n hn => h n hn), qfilter_none (fun n hn => bl_asymm (h n hn))]
theorem bump_row {R l : Nd} {Q : List Nd} {z more : Int} (hR : R.p = [47]) (hl : l.p = [47, 108]) (hQ : ∀ n ∈ Q, n.p ≠ [47, 108]) : bumpAt [47, 108] z more (R :: l :: Q) = R :: bump z more l :: Q := by
  rw [bumpAt, List.map_cons, List.map_cons, if_neg (by rw [hR]; decide), if_pos hl]
  congr 2
  conv => rhs; rw [← List.map_id Q]
  exact List.map_congr_left fun n hn => by rw [if_neg (hQ n hn)]; rfl

/- one asks -/
theorem ask_step {t : Tr} {z cv s : Int} {Q : List Nd} (q : Qu t z cv Q) (hs : 1 ≤ s ∧ s ≤ 5) (hcv : 0 ≤ cv ∧ cv ≤ 10000) (hz : 0 ≤ z ∧ z ≤ 10000) (hQ : Q.length ≤ 300) :
    ∃ t' n, StepQ t (z + 1) ⟨3, s, [47, 108, 47, 113], [], -1, 3⟩ t' ∧ Qu t' (z + 1) (cv + 1) (Q ++ [n]) ∧ n.o = s ∧ n.c = z + 1 := by
  obtain ⟨R, l, hns, hR, hRo, hl, hlo, hlk⟩ := q.ns
  have g := q.g
  obtain ⟨c, rfl⟩ := Int.eq_ofNat_of_zero_le hcv.1
  have hzg := zgood_of (z := z + 1) (by omega)
  have hlm : l ∈ t.ns := by rw [hns]; simp
  have hlook : lookN t.ns [47, 108] = some l := by rw [← hl]; exact look_mem g.nod.asc hlm
  have hlt : ∀ n ∈ t.ns, bl n.p (qP c) = true := by
    intro n hn
    rw [hns] at hn
    rcases List.mem_cons.1 hn with rfl | hn
    · rw [hR]; exact root_lt c
    · rcases List.mem_cons.1 hn with rfl | hn
      · rw [hl]; exact l_lt c
      · obtain ⟨d, hd, hp⟩ := q.q n hn
        rw [hp]; exact q_lt (by omega) (by omega)
  have hnone : lookN t.ns (qP c) = none := by
    rw [lookN, List.find?_eq_none]
    intro n hn
    simpa using bl_ne (hlt n hn)
  have hsm : s ∈ t.ss := by rw [q.ss]; exact five hs
  have hser : serE [113] (c : Int) = 0 := by
    rw [serE, if_pos (by omega)]
    exact stepE_yes (q_named c)
  have hserL : serL [113] (c : Int) = 113 :: ten c := by rw [serL, if_pos hser]; rfl
  have hfit := join_fits (d := [47, 108]) (m := 113 :: ten c) (by rw [l_good, q_named]; rfl) (by rw [openL_other (by decide)]; simp [ten_length])
  obtain ⟨r, hr⟩ : ∃ r : Rq, r = ⟨3, s, [47, 108, 47, 113], [], -1, 3⟩ := ⟨_, rfl⟩
  have hrp : r.p = [47, 108, 47, 113] := by rw [hr]
  have hnum : numE t r = 0 := by
    have hu : lookN t.ns (dirOf r.p) = some l := by rw [hrp, lq_dir]; exact hlook
    rw [num_join hu (by rw [hrp, lq_step, hlk]; exact hser), hrp, lq_step, lq_dir, hlk, hserL]
    exact hfit.2
  have hnp : numP t r = qP c := by
    rw [numP, hrp, lq_dir, lq_step, cv_some (by rw [hrp, lq_dir]; exact hlook), hlk, hserL, hfit.1, openL_other (by decide)]
    rfl
  have hpg : goodB r.p = true ∧ r.p ≠ [47] := by rw [hrp]; exact ⟨lq_good, by decide⟩
  have hfil := fil_cre (t := t) (z := z + 1) (r := r) (by rw [hr])
  have hfE : filE t r = 0 := by
    rw [hfil.1, fcr_num (by rw [hr]; simp only; omega) hpg (by rw [hr]; exact hsm) (by rw [hr]; simp only; omega)]
    exact hnum
  have hx : filX t (z + 1) r = ⟨z + 1, 3, s, qP c, [], 0, s⟩ := by
    rw [hfil.2, fcrX, hnp, hr]
    simp
  have hgd : gdE ⟨z + 1, 3, s, qP c, [], 0, s⟩ = 0 := by
    refine gdE_ok rfl (numB_iff.2 ⟨hzg, cntB_iff.2 (by simp only; omega), rfl, cntB_iff.2 (by simp only; omega)⟩) (by simp) ?_
    show (if (3 : Int) = 3 then goodB (qP c) && !(qP c == [47]) && (0 : Int) == 0 else _) = true
    rw [if_pos rfl, qP_good]
    have : (qP c == [47]) = false := by simpa using qP_root c
    rw [this]; rfl
  have ha := adm_of (x := ⟨z + 1, 3, s, qP c, [], 0, s⟩) g hgd (by rw [q.tz]; show z < z + 1; omega) (fun h => by simp only at h; omega) (fun _ => hsm)
  have hlen : t.ns.length = Q.length + 2 := by rw [hns]; simp
  have hc : chgE t ⟨z + 1, 3, s, qP c, [], 0, s⟩ = 0 := by
    show creE t ⟨z + 1, 3, s, qP c, [], 0, s⟩ = 0
    unfold creE
    simp only
    rw [hnone, if_neg (by simp), qP_dir, hlook]
    simp only
    rw [if_neg (by omega), if_neg (by omega), if_neg (by omega)]
  obtain ⟨n, hn⟩ : ∃ n, n = newN ⟨z + 1, 3, s, qP c, [], 0, s⟩ := ⟨_, rfl⟩
  have hnp' : n.p = qP c := by rw [hn]; rfl
  have hQne : ∀ m ∈ Q ++ [n], m.p ≠ [47, 108] := by
    intro m hm
    rcases List.mem_append.1 hm with hm | hm
    · obtain ⟨d, _, hp⟩ := q.q m hm
      rw [hp]; exact qP_l d
    · simp at hm; rw [hm, hnp']; exact qP_l c
  have hN : chgN t ⟨z + 1, 3, s, qP c, [], 0, s⟩ = R :: bump (z + 1) 1 l :: (Q ++ [n]) := by
    show addN (z + 1) t.ns (newN ⟨z + 1, 3, s, qP c, [], 0, s⟩) = _
    rw [← hn, addN, ins_last (by rw [hnp']; exact hlt), hnp', qP_dir, hns]
    exact bump_row hR hl hQne
  have hf : fullN (chgN t ⟨z + 1, 3, s, qP c, [], 0, s⟩) = false := by
    rw [hN, fullN_false]
    intro m hm
    rcases List.mem_cons.1 hm with rfl | hm
    · exact g.cap m (by rw [hns]; simp)
    · rcases List.mem_cons.1 hm with rfl | hm
      · show l.k + 1 ≤ _; omega
      · rcases List.mem_append.1 hm with hm | hm
        · exact g.cap m (by rw [hns]; simp [hm])
        · simp at hm; rw [hm, hn]; show (0 : Int) ≤ _; decide
  obtain ⟨h1, h2⟩ := app_of ha hc hf
  have hS := step_of (r := r) g hzg (by rw [hr]; simp only; omega) hfE (by rw [hx]; exact h1)
  have hg' := (app_good h1).1
  rw [hx] at hS
  rw [h2, hN] at hS hg'
  rw [hr] at hS
  refine ⟨_, n, hS, ⟨hg', rfl, q.ss, ⟨R, bump (z + 1) 1 l, rfl, hR, hRo, hl, hlo, ?_⟩, ?_, ?_⟩, by rw [hn]; rfl, by rw [hn]; rfl⟩
  · show l.k + 1 = _; omega
  · intro m hm
    rcases List.mem_append.1 hm with hm | hm
    · obtain ⟨d, hd, hp⟩ := q.q m hm
      exact ⟨d, by omega, hp⟩
    · simp at hm; exact ⟨c, by omega, by rw [hm, hnp']⟩
  · rw [List.pairwise_append]
    refine ⟨q.up, List.pairwise_singleton _ _, fun a ha' b hb => ?_⟩
    simp at hb
    rw [hb, hn]
    show a.c < z + 1
    have k := g.nod.ok a (by rw [hns]; simp [ha'])
    have := k.cm
    have := k.mz
    have := q.tz
    omega
end Go.Proofs.YtcplpbelficbeaaGreatDoor
