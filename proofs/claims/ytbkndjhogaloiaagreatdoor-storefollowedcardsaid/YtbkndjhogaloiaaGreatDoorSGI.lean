/-
  What disk.Crash answers: the walk.
-/
import Derived.Test.YtbkndjhogaloiaaGreatDoorSGF
namespace Go.Proofs.YtbkndjhogaloiaaGreatDoor
open Go.RowKit

def crashF (k : Nat) (f : DF) : DF := ⟨f.n, f.s ++ f.t.take k, []⟩
/-- the first j files have been through the crash -/
def mix (keep : Nat) (fs : List DF) (j : Nat) : List DF := (fs.take j).map (crashF keep) ++ fs.drop j
theorem take_upto (k : Nat) (l : List UInt8) : l.take (min k l.length) = l.take k := by
  by_cases h : k ≤ l.length
  · rw [Nat.min_eq_left h]
  · rw [Nat.min_eq_right (by omega), List.take_length, List.take_of_length_le (by omega)]
theorem mix_zero (keep : Nat) (fs : List DF) : mix keep fs 0 = fs := by simp [mix]
theorem mix_all (keep : Nat) (fs : List DF) : mix keep fs fs.length = fs.map (crashF keep) := by simp [mix]
theorem mix_get {keep : Nat} {fs : List DF} {j : Nat} {f : DF} (h : fs[j]? = some f) : (mix keep fs j)[j]? = some f := by
  have hl := (List.getElem?_eq_some_iff.1 h).1
  rw [mix, List.getElem?_append_right (by simp; omega)]
  simp [h, Nat.min_eq_left (Nat.le_of_lt hl)]
theorem mix_set {keep : Nat} {fs : List DF} {j : Nat} {f : DF} (h : fs[j]? = some f) : (mix keep fs j).set j (crashF keep f) = mix keep fs (j + 1) := by
  obtain ⟨hl, rfl⟩ := List.getElem?_eq_some_iff.1 h
  have e : fs.drop j = fs[j] :: fs.drop (j + 1) := List.drop_eq_getElem_cons hl
  have hm : ((fs.take j).map (crashF keep)).length = j := by simp; omega
  rw [mix, mix, e, List.set_append_right _ _ (by omega), hm, Nat.sub_self, List.set_cons_zero, List.take_succ_eq_append_getElem hl]
  simp only [List.map_append, List.map_cons, List.map_nil, List.append_assoc, List.cons_append, List.nil_append]

set_option maxRecDepth 10000 in
set_option maxHeartbeats 4000000 in
theorem crash_yes (v : Value) (fs : List DF) (keep : Nat) (w : World) (hv : DiskV w v fs) (hs : Slim fs) (g : GoodD fs) :
    Calls Tryz.prog 19 #[.agg #[v], .int .i64 keep] w fun e w' => ∃ v', e = .returned (.tuple #[.agg #[v'], .int .i64 0]) ∧ OwnV w' w.heap.size v' (fs.map (crashF keep)) ∧ Below w.heap.size w w' := by
  obtain ⟨a, n0, c, rfl⟩ := disk_slice hv
  have C := fun W (hW : Below w.heap.size w W) => dgood_any _ fs W (hv.next hW) hs
  have CC := fun W (hW : Below w.heap.size w W) => copied_any _ fs W (hv.next hW) hs g.few
  rw [goodD_true.2 g] at C
  have hk0 : ¬ ((keep : Int) < 0) := by omega
  have CT := fun (q c : Nat) (j : Nat) (f : DF) (n : Nat) (W : World) (ho : Own W q c (mix keep fs j)) (hj : fs[j]? = some f) (hn : n = f.s.length + min keep f.t.length) =>
    settle_any q c j (mix keep fs j) f n W ho (mix_get hj) (by omega) (fileOk_len (g.ok f (List.mem_of_getElem? hj)))
  have HCT := hide CT
  have HG := hide g
  have hfew := g.few
  clear hv hs g CT
  go_enter Tryz.func19, Tryz.ntmps19
  go_wp2_with fail
  have X := Boxes.start w (.slice a n0 c) 26 26
  refine (C _ X.below).mono ?_
  rintro e w1 ⟨rfl, hb1⟩
  have X1 := X.next hb1
  have HX := hide X1
  have cd := X1.cd
  clear C hb1 X X1
  go_wp2_with fail
  refine (CC _ (unhide HX).below).mono ?_
  rintro e w2 ⟨v', rfl, ho, hb2⟩
  have hz2 := (unhide HX).size
  have X2 := (unhide HX).next hb2
  clear CC HX cd
  rcases ho with ⟨rfl, rfl⟩ | ⟨q, cap, rfl, hq, ho⟩
  · have HX := hide (X2.alloc (.cells #[.slice none 0 0] 26))
    clear X2
    have ca : (w2.alloc (.cells #[.slice none 0 0] 26)).cell? ⟨w2.heap.size, 0, none⟩ = some (.slice none 0 0) := by simp
    go_wp2_with fail
    go_loopg [22] 1 (fun _ s wr => s = .int .i64 0 ∧ Hid (Boxes w wr (.slice a n0 c)) ∧ wr.cell? ⟨w2.heap.size, 0, none⟩ = some (.slice none 0 0))
    case atStart => exact ⟨rfl, HX, ca⟩
    case round =>
      obtain ⟨rfl, hX, hca⟩ := hrel
      have cr := (unhide hX).cr
      have fr := (unhide hX).fr
      go_wp2_with fail
      exact bodyPost_ret (v := .tuple #[.agg #[.slice none 0 0], .int .i64 0]) (by simp [results, Tryz.results19, go_sem, cr]) rfl ⟨_, rfl, .inl ⟨rfl, rfl⟩, (unhide hX).below.setCell (by simp) _⟩
  · have HX := hide (X2.alloc (.cells #[.slice (some ⟨q, 0, none⟩) fs.length cap] 26))
    have HO := hide (ho.alloc (.cells #[.slice (some ⟨q, 0, none⟩) fs.length cap] 26))
    have hql := ho.lt
    have ca : (w2.alloc (.cells #[.slice (some ⟨q, 0, none⟩) fs.length cap] 26)).cell? ⟨w2.heap.size, 0, none⟩ = some (.slice (some ⟨q, 0, none⟩) fs.length cap) := by simp
    have hq2 : w.heap.size + 2 ≤ q := by omega
    clear X2 ho
    go_wp2_with fail
    go_loopg [22] fs.length (fun kx s wr => ∃ k : Nat, s = .int .i64 k ∧ k ≤ fs.length ∧ fs.length - k ≤ kx ∧ Hid (Boxes w wr (.slice a n0 c) ∧ Own wr q cap (mix keep fs k)) ∧ wr.cell? ⟨w2.heap.size, 0, none⟩ = some (.slice (some ⟨q, 0, none⟩) fs.length cap))
    case atStart => exact ⟨0, rfl, Nat.zero_le _, by omega, hide ⟨unhide HX, by rw [mix_zero]; exact unhide HO⟩, ca⟩
    case round =>
      obtain ⟨k, rfl, hk, hkx, hI, hca⟩ := hrel
      clear ca
      by_cases hlt : k < fs.length
      · obtain ⟨f, hf⟩ : ∃ f, fs[k]? = some f := ⟨_, List.getElem?_eq_getElem hlt⟩
        have hfl := fileOk_len ((unhide HG).ok f (List.mem_of_getElem? hf))
        have e1 := (unhide hI).2.c1 (mix_get hf)
        have e2 := (unhide hI).2.c2 (mix_get hf)
        have HF := hide hf
        have CT := fun (n : Nat) (hn : n = f.s.length + min keep f.t.length) => unhide HCT q cap k f n wr.drew (unhide hI).2.drew hf hn
        have hlti : (k : Int) < (fs.length : Int) := by omega
        clear hf
        have CT2 := CT _ rfl
        have hwm : IntKind.i64.wrap ((f.s.length : Int) + min (keep : Int) (f.t.length : Int)) = ((f.s.length + min keep f.t.length : Nat) : Int) := by
          rw [IntKind.wrap_i64]; omega
        have hset : (mix keep fs k).set k ⟨f.n, (f.s ++ f.t).take (f.s.length + min keep f.t.length), []⟩ = mix keep fs (k + 1) := by
          rw [← mix_set (unhide HF), crashF, List.take_length_add_append, take_upto]
        rw [hset] at CT2
        have HW := hide hwm
        clear CT hset hwm
        generalize f.s.length + min keep f.t.length = M at CT2 HW
        go_wp2_with fail
        go_region_with (first | (go_at_call 44; rw [unhide HW]; refine CT2.mono ?_; rintro e w4 ⟨rfl, ho4, hg4⟩))
        all_goals
          have hg5 : wr.grownBy w4 (some q) := ⟨hg4.os, hg4.tape, hg4.output, hg4.size, hg4.block⟩
          have X4 := (unhide hI).1.grown hg5 hq2
          have ca4 : w4.cell? ⟨w2.heap.size, 0, none⟩ = some (.slice (some ⟨q, 0, none⟩) fs.length cap) := hg5.cell hca (fun e => by have e3 : w2.heap.size = q := Option.some.inj e; omega)
          have HI := hide (And.intro X4 ho4)
          clear X4 ho4 hg4 hg5 CT2
          go_wp2_with fail
          go_roundg (fs.length - (k + 1))
          case measure => omega
          case rel => exact ⟨k + 1, rfl, by omega, Nat.le_refl _, HI, ca4⟩
      · have hkk : k = fs.length := by omega
        subst hkk
        have cr := (unhide hI).1.cr
        have fr := (unhide hI).1.fr
        go_wp2_with fail
        exact bodyPost_ret (v := .tuple #[.agg #[.slice (some ⟨q, 0, none⟩) fs.length cap], .int .i64 0]) (by simp [results, Tryz.results19, go_sem, cr]) rfl
          ⟨_, rfl, .inr ⟨q, cap, by simp, by omega, by have := (unhide hI).2; rw [mix_all] at this; exact this.other (by show q ≠ w.heap.size + 1; omega) _⟩, (unhide hI).1.below.setCell (by simp) _⟩
end Go.Proofs.YtbkndjhogaloiaaGreatDoor
