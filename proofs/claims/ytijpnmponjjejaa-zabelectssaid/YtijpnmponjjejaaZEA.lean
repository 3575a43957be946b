/-
  Plain functions on lists of bytes that the contracts of package path speak of, and what holds of them; no program is named here.
  The numbers of transactions as plain arithmetic, and the answers of package zxid's number functions; no program is named here.
  The pieces of a text between slashes, and what path.Good says of them; no program is named here.
  The cyclic sum of 32 bits as plain arithmetic: one bit, a byte, a text; that one changed byte changes it; and the same by single bits. No program is named here.
  A transaction and its record as plain lists of bytes: what is wrong with one, its bytes, what bytes tell; that these go together. No program is named here.
  A log as a plain list of transactions: its bytes, what bytes begin with, and where that ends. No program is named here.
  A transaction as a value.
  A disk as a plain list of files: when it is one, where a name stands on it, what the order of names is. No program is named here.
  How a disk lies in memory: a row of files, three texts each; a row of the call's own; what stays when other memory turns.
  How a log lies in memory: a row of transactions, seven cells each; a row of the call's own; what stays when other memory turns.
  How lists of elements lie in memory, whatever these are: rows of cells, so many each; a row of the call's own; runs of cells stored into it; what stays when other memory turns.
  Transactions as laid elements.
  How lists of peers and lists of logs lie in memory.
  What wal.Last and wal.follows answer: the walks.
  cmp.Compare, cmp.Or at two numbers, zab.compare: the walks.
  Who leads, as plain arithmetic over keys (an id, an epoch, a last number); no program is named here.
  What zxid.Good answers, for every number: the walk.
-/
import Derived.WalkKit
import Derived.Laws.BitsLemmas
import Derived.Lib.IndexLaws
import Derived.Lib.Strings
import Derived.Test.YtijpnmponjjejaaProg
import Derived.Laws.Cover1
import Derived.Lib.Bytealg
import Derived.Laws.AppendOwn
import Derived.Deep.LoopGhost
import Derived.Lib.QuietBelow
import Derived.Test.YtijpnmponjjejaaRows
import Derived.WalkSpells
import Derived.WalkLawsBesides
import Derived.Deep.RegionHeld3
import Derived.Deep.RegionLaw
import Derived.Deep.CutRange
import Derived.Deep.Cut
import Derived.BigQuiet
namespace Go.Proofs.Ytijpnmponjjejaa
open Go.RowKit

theorem hide {p : Prop} (h : p) : Hid p := h
theorem unhide {p : Prop} (h : Hid p) : p := h

/-- a byte that may stand in a step: a to z, 0 to 9, minus or underscore -/
def letterB (c : UInt8) : Bool := (decide (97 ≤ c.toNat) && decide (c.toNat ≤ 122)) || (decide (48 ≤ c.toNat) && decide (c.toNat ≤ 57)) || c.toNat == 45 || c.toNat == 95
/-- a step: 1 to 40 such bytes -/
def namedB (l : List UInt8) : Bool := decide (1 ≤ l.length) && decide (l.length ≤ 40) && l.all letterB

end Go.Proofs.Ytijpnmponjjejaa

namespace Go.Proofs.Ytijpnmponjjejaa
open Go.RowKit

def zGood (z : Int) : Bool := decide (0 ≤ z) && decide (z < 4611686018427387904)
def zEpoch (z : Int) : Int := if zGood z then z / 2147483648 else 0
theorem zGood_iff {z : Int} : zGood z = true ↔ 0 ≤ z ∧ z < 4611686018427387904 := by simp [zGood]
theorem zGood_no {z : Int} (h : ¬ (0 ≤ z ∧ z < 4611686018427387904)) : zGood z = false := by
  cases hg : zGood z with
  | false => rfl
  | true => exact absurd (zGood_iff.1 hg) h
theorem zEpoch_yes {z : Int} (h : zGood z = true) : zEpoch z = z / 2147483648 := by rw [zEpoch, if_pos h]
theorem zEpoch_no {z : Int} (h : zGood z = false) : zEpoch z = 0 := by rw [zEpoch, h]; rfl
theorem ret_int {a b : Int} (h : a = b) : Ending.returned (.int .i64 a) = .returned (.int .i64 b) := by rw [h]
end Go.Proofs.Ytijpnmponjjejaa

namespace Go.Proofs.Ytijpnmponjjejaa
open Go.RowKit

/-- the pieces of a text between slashes -/
def splitL : List UInt8 → List (List UInt8)
  | [] => [[]]
  | c :: l => if c = 47 then [] :: splitL l else match splitL l with
    | [] => [[c]]
    | p :: ps => (c :: p) :: ps

/-- the steps of a text that begins with a slash: none of the root -/
def stepsL (l : List UInt8) : List (List UInt8) := if l = [47] then [] else splitL (Lib.trimPrefix l [47])
/-- a path: at most 200 bytes, a slash ahead, each step a name -/
def goodB (l : List UInt8) : Bool := decide (l.length ≤ 200) && Lib.hasPrefix l [47] && (stepsL l).all namedB

end Go.Proofs.Ytijpnmponjjejaa

namespace Go.Proofs.Ytijpnmponjjejaa
open Go.RowKit

def crc1 (c : Nat) : Nat := (c / 2) ^^^ (3988292384 * (c % 2))
def crcN : Nat → Nat → Nat
  | 0, c => c
  | n + 1, c => crc1 (crcN n c)
def crcB (c : Nat) (b : UInt8) : Nat := crcN 8 (c ^^^ b.toNat)
def crcL (l : List UInt8) : Nat := l.foldl crcB 4294967295
def sumN (l : List UInt8) : Nat := 4294967295 ^^^ crcL l

/- what the model's operations on 32 bits are, as plain ones -/
/- by single bits -/
end Go.Proofs.Ytijpnmponjjejaa

namespace Go.Proofs.Ytijpnmponjjejaa
open Go.RowKit

/- numbers as bytes, the highest first -/
def be : Nat → Nat → List UInt8
  | 0, _ => []
  | k + 1, n => be k (n / 256) ++ [UInt8.ofNat n]
def un (l : List UInt8) : Nat := l.foldl (fun a b => a * 256 + b.toNat) 0
/- transactions -/
structure WTxn where
  z : Int
  o : Int
  s : Int
  p : List UInt8
  d : List UInt8
  v : Int
  w : Int
def t0 : WTxn := ⟨0, 0, 0, [], [], 0, 0⟩
def cntB (n least : Int) : Bool := decide (least ≤ n) && decide (n ≤ 2147483647)
def opB (o : Int) : Bool := decide (1 ≤ o) && decide (o ≤ 5)
def numB (t : WTxn) : Bool := zGood t.z && cntB t.s 1 && cntB t.v 0 && cntB t.w 0
def fmB (t : WTxn) : Bool :=
  if t.o = 3 then goodB t.p && !(t.p == [47]) && t.v == 0
  else if t.o = 4 then goodB t.p && !(t.p == [47]) && t.d == [] && t.v == 0 && t.w == 0
  else if t.o = 5 then goodB t.p && t.w == 0
  else t.p == [] && t.d == [] && t.v == 0 && t.w == 0
def gdE (t : WTxn) : Int :=
  if opB t.o then (if numB t then (if t.d.length ≤ 256 then (if fmB t then 0 else 2) else 1) else 3) else 4
/- records -/
def bodyL (t : WTxn) : List UInt8 :=
  be 8 t.z.toNat ++ (be 1 t.o.toNat ++ (be 4 t.s.toNat ++ (be 4 t.v.toNat ++ (be 4 t.w.toNat ++ (be 1 t.p.length ++ (t.p ++ (be 2 t.d.length ++ t.d)))))))
def frontL (b : List UInt8) : List UInt8 := 84 :: (be 2 b.length ++ b)
def recL (t : WTxn) : List UInt8 := frontL (bodyL t) ++ be 4 (sumN (frontL (bodyL t)))
/- what bytes tell -/
def plOf (b : List UInt8) : Nat := un ((b.drop 21).take 1)
def dlOf (b : List UInt8) : Nat := un ((b.drop (22 + plOf b)).take 2)
def tOf (b : List UInt8) : WTxn :=
  ⟨wrap64 (un (b.take 8)), un ((b.drop 8).take 1), un ((b.drop 9).take 4), (b.drop 22).take (plOf b), b.drop (24 + plOf b), un ((b.drop 13).take 4), un ((b.drop 17).take 4)⟩
/-- do the body's lengths fit it? -/
def fitB (b : List UInt8) : Bool := decide (24 + plOf b ≤ b.length) && decide (b.length = 24 + plOf b + dlOf b)
def unfE (b : List UInt8) : Int := if fitB b then gdE (tOf b) else 2
def lenOf (s : List UInt8) : Nat := un ((s.drop 1).take 2)
/-- is there a T, a length, as many bytes and four more? -/
def wholeB (s : List UInt8) : Bool := s.take 1 == [84] && decide (lenOf s ≤ 1024) && decide (lenOf s + 7 ≤ s.length)
def sumB (s : List UInt8) : Bool := un ((s.drop (lenOf s + 3)).take 4) == sumN (s.take (lenOf s + 3))
def insideL (s : List UInt8) : List UInt8 := (s.drop 3).take (lenOf s)
def decE (s : List UInt8) : Int := if wholeB s then (if sumB s then unfE (insideL s) else 5) else 2
def decT (s : List UInt8) : WTxn := if decE s = 0 then tOf (insideL s) else t0
/- together: what a record tells -/
end Go.Proofs.Ytijpnmponjjejaa

namespace Go.Proofs.Ytijpnmponjjejaa
open Go.RowKit

def recsL : List WTxn → List UInt8
  | [] => []
  | t :: l => recL t ++ recsL l
def lastZ (l : List WTxn) : Int := l.foldl (fun _ t => t.z) 0
theorem lastZ_snoc (l : List WTxn) (t : WTxn) : lastZ (l ++ [t]) = t.z := by simp [lastZ]
theorem lastZ_nil : lastZ [] = 0 := rfl
/-- may it stand behind these? -/
def follB (l : List WTxn) (t : WTxn) : Bool := decide (l.length = 0) || decide (lastZ l < t.z)
theorem follB_some {l : List WTxn} {t : WTxn} (h : l.length ≠ 0) : follB l t = decide (lastZ l < t.z) := by simp [follB, h]
theorem snoc_of {l : List WTxn} (h : l.length ≠ 0) : ∃ m x, l = m ++ [x] := by
  rcases List.eq_nil_or_concat l with rfl | ⟨m, x, rfl⟩
  · exact absurd rfl h
  · exact ⟨m, x, List.concat_eq_append⟩
structure Logs (ts : List WTxn) : Prop where
  good : ∀ t ∈ ts, gdE t = 0
  rise : ts.Pairwise fun a b => a.z < b.z
theorem Logs.nil : Logs [] := ⟨by simp, List.Pairwise.nil⟩
theorem Logs.at {a b : List WTxn} {t : WTxn} (h : Logs (a ++ t :: b)) : gdE t = 0 ∧ follB a t = true := by
  refine ⟨h.good t (by simp), ?_⟩
  by_cases h0 : a.length = 0
  · simp [follB, h0]
  · rw [follB_some h0]
    obtain ⟨m, x, rfl⟩ := snoc_of h0
    rw [lastZ_snoc]
    exact decide_eq_true ((List.pairwise_append.1 h.rise).2.2 x (by simp) t (by simp))
/-- bytes begin with these, and there it stops -/
structure Scan (s : List UInt8) (ts : List WTxn) (r : List UInt8) : Prop where
  eq : s = recsL ts ++ r
  log : Logs ts
  stop : decE r ≠ 0 ∨ follB ts (decT r) = false
theorem Scan.len {s r : List UInt8} {ts : List WTxn} (h : Scan s ts r) : (recsL ts).length + r.length = s.length := by rw [h.eq, List.length_append]
theorem take_more1 {ts : List WTxn} {k : Nat} {t : WTxn} (h : ts[k]? = some t) : ts.take (k + 1) = ts.take k ++ [t] := by
  obtain ⟨hk, rfl⟩ := List.getElem?_eq_some_iff.1 h
  exact List.take_succ_eq_append_getElem hk
end Go.Proofs.Ytijpnmponjjejaa

namespace Go.Proofs.Ytijpnmponjjejaa
open Go.RowKit
/-- a transaction as a value -/
def txnV (t : WTxn) : Value := .agg #[.int .i64 t.z, .int .i64 t.o, .int .i64 t.s, .string ⟨t.p.toArray⟩, .string ⟨t.d.toArray⟩, .int .i64 t.v, .int .i64 t.w]
end Go.Proofs.Ytijpnmponjjejaa

namespace Go.Proofs.Ytijpnmponjjejaa
open Go.RowKit

/- the order of texts -/
abbrev bl (a b : List UInt8) : Bool := Op.bytesLess a b
/- files -/
structure DF where
  n : List UInt8
  s : List UInt8
  t : List UInt8
instance : Inhabited DF := ⟨⟨[], [], []⟩⟩

def fileOk (f : DF) : Bool := namedB f.n && decide (f.s.length + f.t.length ≤ 1048576)
def Asc (fs : List DF) : Prop := fs.Pairwise fun a b => bl a.n b.n = true
structure GoodD (fs : List DF) : Prop where
  few : fs.length ≤ 16
  ok : ∀ f ∈ fs, fileOk f = true
  asc : Asc fs
/- what is known of the first k files -/
/- where a name stands -/
structure There (fs A : List DF) (f : DF) (B : List DF) (name : List UInt8) : Prop where
  eq : fs = A ++ f :: B
  nm : f.n = name
  lo : ∀ a ∈ A, bl a.n name = true
  hi : ∀ b ∈ B, bl name b.n = true
theorem There.ok {fs A B : List DF} {f : DF} {name : List UInt8} (T : There fs A f B name) (g : GoodD fs) : fileOk f = true := g.ok f (by rw [T.eq]; simp)
end Go.Proofs.Ytijpnmponjjejaa

namespace Go.Proofs.Ytijpnmponjjejaa
open Go.RowKit

def fcells (f : DF) : List Value := [.string ⟨f.n.toArray⟩, .string ⟨f.s.toArray⟩, .string ⟨f.t.toArray⟩]
def cellsF : List DF → List Value
  | [] => []
  | f :: r => fcells f ++ cellsF r
theorem cellsF_get : ∀ (fs : List DF) (i : Nat) (f : DF), fs[i]? = some f → ∀ c, c < 3 → (cellsF fs)[i * 3 + c]? = (fcells f)[c]?
  | [], i, f, h, _, _ => by simp at h
  | x :: r, 0, f, h, c, hc => by
    simp at h
    subst h
    rw [cellsF, List.getElem?_append_left (by simp [fcells]; omega)]
    simp
  | x :: r, i + 1, f, h, c, hc => by
    rw [cellsF, List.getElem?_append_right (by simp [fcells]; omega), ← cellsF_get r i f (by simpa using h) c hc]
    congr 1
    simp [fcells]; omega
def RowAt (w : World) (b off : Nat) (cs : List Value) : Prop := ∀ j v, cs[j]? = some v → w.cell? ⟨b, off + j, none⟩ = some v
theorem RowAt.c0 {w : World} {b off : Nat} {fs : List DF} (h : RowAt w b off (cellsF fs)) {i : Nat} {f : DF} (hi : fs[i]? = some f) : w.cell? ⟨b, off + i * 3, none⟩ = some (.string ⟨f.n.toArray⟩) :=
  h (i * 3) _ (by have := cellsF_get fs i f hi 0 (by omega); simpa [fcells] using this)
theorem RowAt.c1 {w : World} {b off : Nat} {fs : List DF} (h : RowAt w b off (cellsF fs)) {i : Nat} {f : DF} (hi : fs[i]? = some f) : w.cell? ⟨b, off + i * 3 + 1, none⟩ = some (.string ⟨f.s.toArray⟩) := by
  rw [Nat.add_assoc]; exact h (i * 3 + 1) _ (by have := cellsF_get fs i f hi 1 (by omega); simpa [fcells] using this)
theorem RowAt.c2 {w : World} {b off : Nat} {fs : List DF} (h : RowAt w b off (cellsF fs)) {i : Nat} {f : DF} (hi : fs[i]? = some f) : w.cell? ⟨b, off + i * 3 + 2, none⟩ = some (.string ⟨f.t.toArray⟩) := by
  rw [Nat.add_assoc]; exact h (i * 3 + 2) _ (by have := cellsF_get fs i f hi 2 (by omega); simpa [fcells] using this)
theorem RowAt.kept {w w' : World} {b off B : Nat} {cs : List Value} (h : RowAt w b off cs) (hb : Below B w w') (hB : b < B) : RowAt w' b off cs :=
  fun j v hj => by rw [hb.cell (p := ⟨b, off + j, none⟩) hB]; exact h j v hj

/-- the value of a disk's one field holds these files -/
def DiskV (w : World) (v : Value) (fs : List DF) : Prop :=
  (∃ a cap, v = .slice a 0 cap ∧ fs = [] ∧ cap ≤ maxLen) ∨
  ∃ b off cap, v = .slice (some ⟨b, off, none⟩) fs.length cap ∧ fs.length ≤ cap ∧ cap ≤ maxLen ∧ b < w.heap.size ∧ fs ≠ [] ∧ RowAt w b off (cellsF fs)
theorem DiskV.kept {w w' : World} {B : Nat} {v : Value} {fs : List DF} (h : DiskV w v fs) (hb : Below B w w') (hB : w.heap.size ≤ B) : DiskV w' v fs := by
  rcases h with h | ⟨b, off, cap, rfl, h1, h2, h3, h0, h4⟩
  · exact .inl h
  · exact .inr ⟨b, off, cap, rfl, h1, h2, Nat.lt_of_lt_of_le h3 hb.size, h0, h4.kept hb (Nat.lt_of_lt_of_le h3 hB)⟩
theorem DiskV.next {w w' : World} {v : Value} {fs : List DF} (h : DiskV w v fs) (hb : Below w.heap.size w w') : DiskV w' v fs := h.kept hb (Nat.le_refl _)
theorem DiskV.alloc {w : World} {v : Value} {fs : List DF} (h : DiskV w v fs) (o : Obj) : DiskV (w.alloc o) v fs := h.next ((Below.refl _ _).alloc (Nat.le_refl _) o)
theorem DiskV.drew {w : World} {v : Value} {fs : List DF} (h : DiskV w v fs) : DiskV w.drew v fs := h.next (Below.refl _ _).drew
theorem DiskV.nil (w : World) : DiskV w (.slice none 0 0) [] := .inl ⟨none, 0, rfl, rfl, by decide⟩

theorem block_set {w : World} {g j : Nat} {cur : Array Value} {t : TypeId} {fz : Nat × Nat} (v : Value) (h : w.heap[g]? = some (.cells cur t fz)) :
    (w.setCell ⟨g, j, none⟩ v).heap[g]? = some (.cells (cur.setIfInBounds j v) t fz) := by
  obtain ⟨hlt, hk⟩ := Array.getElem?_eq_some_iff.1 h
  show (w.heap.modify g _)[g]? = _
  rw [Array.getElem?_eq_getElem (by rw [Array.size_modify]; exact hlt), Array.getElem_modify_self, hk]
  rfl
end Go.Proofs.Ytijpnmponjjejaa

namespace Go.Proofs.Ytijpnmponjjejaa
open Go.RowKit

def tcells (t : WTxn) : List Value := [.int .i64 t.z, .int .i64 t.o, .int .i64 t.s, .string ⟨t.p.toArray⟩, .string ⟨t.d.toArray⟩, .int .i64 t.v, .int .i64 t.w]
def cellsT : List WTxn → List Value
  | [] => []
  | t :: r => tcells t ++ cellsT r
theorem cellsT_append : ∀ a b : List WTxn, cellsT (a ++ b) = cellsT a ++ cellsT b
  | [], _ => rfl
  | t :: r, b => by rw [List.cons_append, cellsT, cellsT, cellsT_append r b, List.append_assoc]
theorem cellsT_snoc (a : List WTxn) (t : WTxn) : cellsT (a ++ [t]) = cellsT a ++ tcells t := by rw [cellsT_append, cellsT, cellsT, List.append_nil]
theorem cellsT_get : ∀ (ts : List WTxn) (i : Nat) (t : WTxn), ts[i]? = some t → ∀ c, c < 7 → (cellsT ts)[i * 7 + c]? = (tcells t)[c]?
  | [], i, t, h, _, _ => by simp at h
  | x :: r, 0, t, h, c, hc => by
    simp at h
    subst h
    rw [cellsT, List.getElem?_append_left (by simp [tcells]; omega)]
    simp
  | x :: r, i + 1, t, h, c, hc => by
    rw [cellsT, List.getElem?_append_right (by simp [tcells]; omega), ← cellsT_get r i t (by simpa using h) c hc]
    congr 1
    simp [tcells]; omega
theorem tcells_one (t : WTxn) : ∀ u ∈ tcells t, u.oneCell' = true := by
  intro u hu
  simp [tcells] at hu
  rcases hu with rfl | rfl | rfl | rfl | rfl | rfl | rfl <;> rfl

theorem RowAt.z {w : World} {b off : Nat} {ts : List WTxn} (h : RowAt w b off (cellsT ts)) {i : Nat} {t : WTxn} (hi : ts[i]? = some t) : w.cell? ⟨b, off + i * 7, none⟩ = some (.int .i64 t.z) :=
  h (i * 7) _ (by have := cellsT_get ts i t hi 0 (by omega); simpa [tcells] using this)
theorem RowAt.o {w : World} {b off : Nat} {ts : List WTxn} (h : RowAt w b off (cellsT ts)) {i : Nat} {t : WTxn} (hi : ts[i]? = some t) : w.cell? ⟨b, off + i * 7 + 1, none⟩ = some (.int .i64 t.o) := by
  rw [Nat.add_assoc]; exact h (i * 7 + 1) _ (by have := cellsT_get ts i t hi 1 (by omega); simpa [tcells] using this)
theorem RowAt.s {w : World} {b off : Nat} {ts : List WTxn} (h : RowAt w b off (cellsT ts)) {i : Nat} {t : WTxn} (hi : ts[i]? = some t) : w.cell? ⟨b, off + i * 7 + 2, none⟩ = some (.int .i64 t.s) := by
  rw [Nat.add_assoc]; exact h (i * 7 + 2) _ (by have := cellsT_get ts i t hi 2 (by omega); simpa [tcells] using this)
theorem RowAt.p {w : World} {b off : Nat} {ts : List WTxn} (h : RowAt w b off (cellsT ts)) {i : Nat} {t : WTxn} (hi : ts[i]? = some t) : w.cell? ⟨b, off + i * 7 + 3, none⟩ = some (.string ⟨t.p.toArray⟩) := by
  rw [Nat.add_assoc]; exact h (i * 7 + 3) _ (by have := cellsT_get ts i t hi 3 (by omega); simpa [tcells] using this)
theorem RowAt.d {w : World} {b off : Nat} {ts : List WTxn} (h : RowAt w b off (cellsT ts)) {i : Nat} {t : WTxn} (hi : ts[i]? = some t) : w.cell? ⟨b, off + i * 7 + 4, none⟩ = some (.string ⟨t.d.toArray⟩) := by
  rw [Nat.add_assoc]; exact h (i * 7 + 4) _ (by have := cellsT_get ts i t hi 4 (by omega); simpa [tcells] using this)
theorem RowAt.v {w : World} {b off : Nat} {ts : List WTxn} (h : RowAt w b off (cellsT ts)) {i : Nat} {t : WTxn} (hi : ts[i]? = some t) : w.cell? ⟨b, off + i * 7 + 5, none⟩ = some (.int .i64 t.v) := by
  rw [Nat.add_assoc]; exact h (i * 7 + 5) _ (by have := cellsT_get ts i t hi 5 (by omega); simpa [tcells] using this)
theorem RowAt.w {w : World} {b off : Nat} {ts : List WTxn} (h : RowAt w b off (cellsT ts)) {i : Nat} {t : WTxn} (hi : ts[i]? = some t) : w.cell? ⟨b, off + i * 7 + 6, none⟩ = some (.int .i64 t.w) := by
  rw [Nat.add_assoc]; exact h (i * 7 + 6) _ (by have := cellsT_get ts i t hi 6 (by omega); simpa [tcells] using this)

/-- the value holds these transactions -/
def LogV (w : World) (v : Value) (ts : List WTxn) : Prop :=
  (∃ a cap, v = .slice a 0 cap ∧ ts = [] ∧ cap ≤ maxLen) ∨
  ∃ b off cap, v = .slice (some ⟨b, off, none⟩) ts.length cap ∧ ts.length ≤ cap ∧ cap ≤ maxLen ∧ b < w.heap.size ∧ ts ≠ [] ∧ RowAt w b off (cellsT ts)
theorem LogV.kept {w w' : World} {B : Nat} {v : Value} {ts : List WTxn} (h : LogV w v ts) (hb : Below B w w') (hB : w.heap.size ≤ B) : LogV w' v ts := by
  rcases h with h | ⟨b, off, cap, rfl, h1, h2, h3, h0, h4⟩
  · exact .inl h
  · exact .inr ⟨b, off, cap, rfl, h1, h2, Nat.lt_of_lt_of_le h3 hb.size, h0, h4.kept hb (Nat.lt_of_lt_of_le h3 hB)⟩
theorem LogV.next {w w' : World} {v : Value} {ts : List WTxn} (h : LogV w v ts) (hb : Below w.heap.size w w') : LogV w' v ts := h.kept hb (Nat.le_refl _)
theorem LogV.alloc {w : World} {v : Value} {ts : List WTxn} (h : LogV w v ts) (o : Obj) : LogV (w.alloc o) v ts := h.next ((Below.refl _ _).alloc (Nat.le_refl _) o)
theorem LogV.drew {w : World} {v : Value} {ts : List WTxn} (h : LogV w v ts) : LogV w.drew v ts := h.next (Below.refl _ _).drew
theorem LogV.nil (w : World) : LogV w (.slice none 0 0) [] := .inl ⟨none, 0, rfl, rfl, by decide⟩
theorem log_slice {w : World} {v : Value} {ts : List WTxn} (hv : LogV w v ts) : ∃ a c, v = .slice a ts.length c := by
  rcases hv with ⟨a, cap, rfl, rfl, _⟩ | ⟨b, off, cap, rfl, _⟩
  · exact ⟨_, _, rfl⟩
  · exact ⟨_, _, rfl⟩
theorem log_row {w : World} {v : Value} {ts : List WTxn} (hv : LogV w v ts) {i : Nat} {t : WTxn} (hi : ts[i]? = some t) :
    ∃ b off cap, v = .slice (some ⟨b, off, none⟩) ts.length cap ∧ b < w.heap.size ∧ RowAt w b off (cellsT ts) ∧ i < ts.length ∧ ts.length ≤ cap ∧ cap ≤ maxLen := by
  have hlt := (List.getElem?_eq_some_iff.1 hi).1
  rcases hv with ⟨a, cap, rfl, rfl, _⟩ | ⟨b, off, cap, rfl, h1, h2, hb, _, hr⟩
  · simp at hi
  · exact ⟨b, off, cap, rfl, hb, hr, hlt, h1, h2⟩
/-- a value that holds these in a row of the call's own, at or behind block B -/
def OwnL (W : World) (B : Nat) (v : Value) (ts : List WTxn) : Prop := W.ownsRow B 47 7 v ts.length (cellsT ts)
theorem OwnL.nil (W : World) (B : Nat) : OwnL W B (.slice none 0 0) [] := ⟨rfl, .inl ⟨rfl, rfl⟩⟩
theorem OwnL.log {W : World} {B : Nat} {v : Value} {ts : List WTxn} (h : OwnL W B v ts) : LogV W v ts := by
  obtain ⟨hl, ⟨rfl, h0⟩ | ⟨g, cap, cur, rfl, hB, hg, hn, hm, hs, ht⟩⟩ := h
  · rw [List.eq_nil_of_length_eq_zero h0]; exact LogV.nil W
  · by_cases h0 : ts = []
    · subst h0; exact .inl ⟨_, cap, rfl, rfl, hm⟩
    · refine .inr ⟨g, 0, cap, rfl, hn, hm, (Array.getElem?_eq_some_iff.1 hg).1, h0, fun j v hj => ?_⟩
      have hlt : j < (cellsT ts).length := (List.getElem?_eq_some_iff.1 hj).1
      have : cur[j]? = some v := by
        rw [← ht, List.getElem?_take_of_lt (by rw [hl] at hlt; exact hlt)] at hj
        simpa using hj
      simp [World.cell?, hg, this]
theorem OwnL.next {W V : World} {B : Nat} {v : Value} {ts : List WTxn} (h : OwnL W B v ts) (hb : Below W.heap.size W V) : OwnL V B v ts := by
  obtain ⟨hl, h | ⟨g, cap, cur, e, hB, hg, hr⟩⟩ := h
  · exact ⟨hl, .inl h⟩
  · exact ⟨hl, .inr ⟨g, cap, cur, e, hB, (hb.block _ (Array.getElem?_eq_some_iff.1 hg).1).trans hg, hr⟩⟩
theorem OwnL.mono {W : World} {B C : Nat} {v : Value} {ts : List WTxn} (h : OwnL W B v ts) (hC : C ≤ B) : OwnL W C v ts := by
  obtain ⟨hl, h | ⟨g, cap, cur, e, hB, hr⟩⟩ := h
  · exact ⟨hl, .inl h⟩
  · exact ⟨hl, .inr ⟨g, cap, cur, e, Nat.le_trans hC hB, hr⟩⟩
theorem OwnL.more {W : World} {B : Nat} {v : Value} {ts : List WTxn} {t : WTxn} (h : W.ownsRow B 47 7 v (ts.length + 1) (cellsT ts ++ tcells t)) : OwnL W B v (ts ++ [t]) := by
  unfold OwnL
  rw [cellsT_snoc, List.length_append]
  exact h

/-- block g holds one transaction -/
def TAt (W : World) (g : Nat) (t : WTxn) : Prop := W.heap[g]? = some (.cells #[.int .i64 t.z, .int .i64 t.o, .int .i64 t.s, .string ⟨t.p.toArray⟩, .string ⟨t.d.toArray⟩, .int .i64 t.v, .int .i64 t.w] 47 (0, 0))
theorem TAt.new (W : World) (t : WTxn) : TAt (W.alloc (.cells #[.int .i64 t.z, .int .i64 t.o, .int .i64 t.s, .string ⟨t.p.toArray⟩, .string ⟨t.d.toArray⟩, .int .i64 t.v, .int .i64 t.w] 47)) W.heap.size t := heap_alloc_new W _
theorem TAt.next {W V : World} {g : Nat} {t : WTxn} (h : TAt W g t) (hb : Below W.heap.size W V) : TAt V g t := (hb.block g (by unfold TAt at h; exact (Array.getElem?_eq_some_iff.1 h).1)).trans h
theorem TAt.lt {W : World} {g : Nat} {t : WTxn} (h : TAt W g t) : g < W.heap.size := by unfold TAt at h; exact (Array.getElem?_eq_some_iff.1 h).1
theorem TAt.c0 {W : World} {g : Nat} {t : WTxn} (h : TAt W g t) : W.cell? ⟨g, 0, none⟩ = some (.int .i64 t.z) := by unfold TAt at h; simp [World.cell?, h]
theorem TAt.c1 {W : World} {g : Nat} {t : WTxn} (h : TAt W g t) : W.cell? ⟨g, 1, none⟩ = some (.int .i64 t.o) := by unfold TAt at h; simp [World.cell?, h]
theorem TAt.c2 {W : World} {g : Nat} {t : WTxn} (h : TAt W g t) : W.cell? ⟨g, 2, none⟩ = some (.int .i64 t.s) := by unfold TAt at h; simp [World.cell?, h]
theorem TAt.c3 {W : World} {g : Nat} {t : WTxn} (h : TAt W g t) : W.cell? ⟨g, 3, none⟩ = some (.string ⟨t.p.toArray⟩) := by unfold TAt at h; simp [World.cell?, h]
theorem TAt.c4 {W : World} {g : Nat} {t : WTxn} (h : TAt W g t) : W.cell? ⟨g, 4, none⟩ = some (.string ⟨t.d.toArray⟩) := by unfold TAt at h; simp [World.cell?, h]
theorem TAt.c5 {W : World} {g : Nat} {t : WTxn} (h : TAt W g t) : W.cell? ⟨g, 5, none⟩ = some (.int .i64 t.v) := by unfold TAt at h; simp [World.cell?, h]
theorem TAt.c6 {W : World} {g : Nat} {t : WTxn} (h : TAt W g t) : W.cell? ⟨g, 6, none⟩ = some (.int .i64 t.w) := by unfold TAt at h; simp [World.cell?, h]
theorem TAt.f {W : World} {g : Nat} {t : WTxn} (h : TAt W g t) (j : Nat) : W.frozen? ⟨g, j, none⟩ = false := by unfold TAt at h; simp [World.frozen?, h]
theorem info_txn0 : (Try.prog.info? 47).map (fun i => (i.zero, i.size, i.bytes)) = some (some (txnV t0), 7, 72) := by kernel_rfl
theorem info_txn : ∃ i0, Try.prog.info? 47 = some i0 ∧ i0.zero = some (txnV t0) ∧ i0.size = 7 ∧ i0.bytes = 72 := by
  obtain ⟨i0, h, e⟩ := Option.map_eq_some_iff.1 info_txn0
  simp only [Prod.mk.injEq] at e
  exact ⟨i0, h, e.1, e.2.1, e.2.2⟩
end Go.Proofs.Ytijpnmponjjejaa

namespace Go.Proofs.Ytijpnmponjjejaa
open Go.RowKit

/-- how one element lies -/
class Lay (α : Type) where
  k : Nat
  cs : α → List Value
  ty : TypeId
  len : ∀ x, (cs x).length = k
  one : ∀ x, ∀ u ∈ cs x, u.oneCell' = true
instance layI : Lay Int := ⟨1, fun x => [.int .i64 x], 3, fun _ => rfl, fun x u hu => by simp at hu; subst hu; rfl⟩
instance layS : Lay (List UInt8) := ⟨1, fun x => [.string ⟨x.toArray⟩], 9, fun _ => rfl, fun x u hu => by simp at hu; subst hu; rfl⟩

section
variable {α : Type} [Lay α]
def cellsL (xs : List α) : List Value := xs.flatMap Lay.cs
theorem cellsL_cons (x : α) (r : List α) : cellsL (x :: r) = Lay.cs x ++ cellsL r := by simp [cellsL]
theorem cellsL_length (xs : List α) : (cellsL xs).length = xs.length * Lay.k α := by
  induction xs with
  | nil => simp [cellsL]
  | cons x r ih => rw [cellsL_cons, List.length_append, Lay.len, ih, List.length_cons, Nat.add_mul]; omega
theorem cellsL_append (a b : List α) : cellsL (a ++ b) = cellsL a ++ cellsL b := by simp [cellsL]
theorem cellsL_snoc (a : List α) (x : α) : cellsL (a ++ [x]) = cellsL a ++ Lay.cs x := by simp [cellsL]
theorem cellsL_at (A : List α) (x : α) (B : List α) (c : Nat) (hc : c < Lay.k α) : (cellsL (A ++ x :: B))[A.length * Lay.k α + c]? = (Lay.cs x)[c]? := by
  rw [cellsL_append, List.getElem?_append_right (by rw [cellsL_length]; omega), cellsL_length, Nat.add_sub_cancel_left, cellsL_cons, List.getElem?_append_left (by rw [Lay.len]; exact hc)]
theorem cellsL_get (xs : List α) (i : Nat) (x : α) (h : xs[i]? = some x) (c : Nat) (hc : c < Lay.k α) : (cellsL xs)[i * Lay.k α + c]? = (Lay.cs x)[c]? := by
  obtain ⟨hi, rfl⟩ := List.getElem?_eq_some_iff.1 h
  have e : xs = xs.take i ++ xs[i] :: xs.drop (i + 1) := by simp
  have := cellsL_at (xs.take i) xs[i] (xs.drop (i + 1)) c hc
  rw [← e, List.length_take, Nat.min_eq_left (Nat.le_of_lt hi)] at this
  exact this
theorem cellsL_one (xs : List α) : ∀ u ∈ cellsL xs, u.oneCell' = true := by
  intro u hu
  obtain ⟨x, _, hx⟩ := List.mem_flatMap.1 hu
  exact Lay.one x u hx
theorem cellsL_set (A : List α) (x y : α) (B : List α) (c : Nat) (v : Value) (hc : c < Lay.k α) (hy : Lay.cs y = (Lay.cs x).set c v) : (cellsL (A ++ x :: B)).set (A.length * Lay.k α + c) v = cellsL (A ++ y :: B) := by
  rw [cellsL_append, cellsL_append, List.set_append_right _ _ (by rw [cellsL_length]; omega), cellsL_length, Nat.add_sub_cancel_left, cellsL_cons, cellsL_cons, List.set_append_left _ _ (by rw [Lay.len]; exact hc), hy]

/-- the value holds these -/
def SeqV (w : World) (v : Value) (xs : List α) : Prop :=
  (∃ a cap, v = .slice a 0 cap ∧ xs = [] ∧ cap ≤ maxLen) ∨
  ∃ b off cap, v = .slice (some ⟨b, off, none⟩) xs.length cap ∧ xs.length ≤ cap ∧ cap ≤ maxLen ∧ b < w.heap.size ∧ xs ≠ [] ∧ RowAt w b off (cellsL xs)
theorem SeqV.kept {w w' : World} {B : Nat} {v : Value} {xs : List α} (h : SeqV w v xs) (hb : Below B w w') (hB : w.heap.size ≤ B) : SeqV w' v xs := by
  rcases h with h | ⟨b, off, cap, rfl, h1, h2, h3, h0, h4⟩
  · exact .inl h
  · exact .inr ⟨b, off, cap, rfl, h1, h2, Nat.lt_of_lt_of_le h3 hb.size, h0, h4.kept hb (Nat.lt_of_lt_of_le h3 hB)⟩
theorem SeqV.next {w w' : World} {v : Value} {xs : List α} (h : SeqV w v xs) (hb : Below w.heap.size w w') : SeqV w' v xs := h.kept hb (Nat.le_refl _)
theorem SeqV.alloc {w : World} {v : Value} {xs : List α} (h : SeqV w v xs) (o : Obj) : SeqV (w.alloc o) v xs := h.next ((Below.refl _ _).alloc (Nat.le_refl _) o)
theorem SeqV.nil (w : World) : SeqV w (.slice none 0 0) ([] : List α) := .inl ⟨none, 0, rfl, rfl, by decide⟩
theorem seq_slice {w : World} {v : Value} {xs : List α} (hv : SeqV w v xs) : ∃ a c, v = .slice a xs.length c := by
  rcases hv with ⟨a, cap, rfl, rfl, _⟩ | ⟨b, off, cap, rfl, _⟩
  · exact ⟨_, _, rfl⟩
  · exact ⟨_, _, rfl⟩
theorem seq_row {w : World} {v : Value} {xs : List α} (hv : SeqV w v xs) (h0 : xs ≠ []) :
    ∃ b off cap, v = .slice (some ⟨b, off, none⟩) xs.length cap ∧ b < w.heap.size ∧ RowAt w b off (cellsL xs) ∧ xs.length ≤ cap ∧ cap ≤ maxLen := by
  rcases hv with ⟨a, cap, rfl, rfl, _⟩ | ⟨b, off, cap, rfl, h1, h2, hb, _, hr⟩
  · exact absurd rfl h0
  · exact ⟨b, off, cap, rfl, hb, hr, h1, h2⟩

/-- block g is a row of the call's own with these at its head -/
def OwnR (W : World) (g cap : Nat) (xs : List α) : Prop := ∃ rest : List Value, W.heap[g]? = some (.cells (cellsL xs ++ rest).toArray (Lay.ty α) (0, 0)) ∧ xs.length * Lay.k α + rest.length = cap * Lay.k α ∧ xs.length ≤ cap ∧ cap ≤ maxLen
theorem OwnR.lt {W : World} {g cap : Nat} {xs : List α} (h : OwnR W g cap xs) : g < W.heap.size := by
  obtain ⟨rest, h1, _⟩ := h
  exact (Array.getElem?_eq_some_iff.1 h1).1
theorem OwnR.le {W : World} {g cap : Nat} {xs : List α} (h : OwnR W g cap xs) : xs.length ≤ cap := by obtain ⟨rest, _, _, h2, _⟩ := h; exact h2
theorem OwnR.capLe {W : World} {g cap : Nat} {xs : List α} (h : OwnR W g cap xs) : cap ≤ maxLen := by obtain ⟨rest, _, _, _, h3⟩ := h; exact h3
theorem OwnR.row {W : World} {g cap : Nat} {xs : List α} (h : OwnR W g cap xs) : RowAt W g 0 (cellsL xs) := by
  obtain ⟨rest, h1, _⟩ := h
  intro j v hj
  have hlt : j < (cellsL xs).length := (List.getElem?_eq_some_iff.1 hj).1
  simp [World.cell?, h1, List.getElem?_append_left hlt, hj]
theorem OwnR.frozen {W : World} {g cap : Nat} {xs : List α} (h : OwnR W g cap xs) (j : Nat) : W.frozen? ⟨g, j, none⟩ = false := by
  obtain ⟨rest, h1, _⟩ := h
  simp [World.frozen?, h1]
theorem OwnR.kept {W V : World} {g B cap : Nat} {xs : List α} (h : OwnR W g cap xs) (hb : Below B W V) (hg : g < B) : OwnR V g cap xs := by
  obtain ⟨rest, h1, h2⟩ := h
  exact ⟨rest, (hb.block _ hg).trans h1, h2⟩
theorem OwnR.next {W V : World} {g cap : Nat} {xs : List α} (h : OwnR W g cap xs) (hb : Below W.heap.size W V) : OwnR V g cap xs := h.kept hb h.lt
theorem OwnR.other {W : World} {g cap : Nat} {xs : List α} (h : OwnR W g cap xs) {a : Addr} (ha : g ≠ a.block) (v : Value) : OwnR (W.setCell a v) g cap xs := by
  obtain ⟨rest, h1, h2⟩ := h
  exact ⟨rest, (Below.heap_setCell W a v g ha).trans h1, h2⟩
theorem OwnR.set {W : World} {g cap : Nat} {A B : List α} {x y : α} (h : OwnR W g cap (A ++ x :: B)) {c : Nat} (hc : c < Lay.k α) {v : Value} (hy : Lay.cs y = (Lay.cs x).set c v) : OwnR (W.setCell ⟨g, A.length * Lay.k α + c, none⟩ v) g cap (A ++ y :: B) := by
  obtain ⟨rest, h1, h2, h3⟩ := h
  refine ⟨rest, ?_, by simpa using h2, by simpa using h3⟩
  rw [block_set v h1, ← cellsL_set A x y B c v hc hy]
  have hlt : A.length * Lay.k α + c < (cellsL (A ++ x :: B)).length := by
    rw [cellsL_length]; simp [Nat.add_mul]; omega
  simp [List.set_append_left _ _ hlt]

/-- a value that holds these in a row of the call's own, at or behind block B -/
def OwnS (W : World) (B : Nat) (v : Value) (xs : List α) : Prop := (v = .slice none 0 0 ∧ xs = []) ∨ ∃ g cap, v = .slice (some ⟨g, 0, none⟩) xs.length cap ∧ B ≤ g ∧ OwnR W g cap xs
theorem OwnS.seq {W : World} {B : Nat} {v : Value} {xs : List α} (h : OwnS W B v xs) : SeqV W v xs := by
  rcases h with ⟨rfl, rfl⟩ | ⟨g, cap, rfl, _, h⟩
  · exact SeqV.nil W
  · by_cases h0 : xs = []
    · subst h0; exact .inl ⟨_, cap, rfl, rfl, h.capLe⟩
    · exact .inr ⟨g, 0, cap, rfl, h.le, h.capLe, h.lt, h0, h.row⟩
theorem OwnS.kept {W V : World} {B C : Nat} {v : Value} {xs : List α} (h : OwnS W B v xs) (hb : Below C W V) (hC : W.heap.size ≤ C) : OwnS V B v xs := by
  rcases h with h | ⟨g, cap, rfl, hB, h⟩
  · exact .inl h
  · exact .inr ⟨g, cap, rfl, hB, h.kept hb (Nat.lt_of_lt_of_le h.lt hC)⟩
theorem OwnS.next {W V : World} {B : Nat} {v : Value} {xs : List α} (h : OwnS W B v xs) (hb : Below W.heap.size W V) : OwnS V B v xs := h.kept hb (Nat.le_refl _)
theorem OwnS.other {W : World} {B : Nat} {v : Value} {xs : List α} (h : OwnS W B v xs) {a : Addr} (ha : v.ownBlock ≠ some a.block) (u : Value) : OwnS (W.setCell a u) B v xs := by
  rcases h with h | ⟨g, cap, rfl, hB, h⟩
  · exact .inl h
  · exact .inr ⟨g, cap, rfl, hB, h.other (by intro e; apply ha; simp [Value.ownBlock, e]) u⟩
theorem OwnS.lower {W : World} {B C : Nat} {v : Value} {xs : List α} (h : OwnS W B v xs) (hC : C ≤ B) : OwnS W C v xs := by
  rcases h with h | ⟨g, cap, rfl, hB, h⟩
  · exact .inl h
  · exact .inr ⟨g, cap, rfl, Nat.le_trans hC hB, h⟩
theorem OwnS.of_row {W : World} {B : Nat} {v : Value} {xs : List α} (h : W.ownsRow B (Lay.ty α) (Lay.k α) v xs.length (cellsL xs)) : OwnS W B v xs := by
  obtain ⟨_, ⟨rfl, h0⟩ | ⟨g, cap, cur, rfl, hB, hg, hn, hm, hs, ht⟩⟩ := h
  · exact .inl ⟨rfl, List.eq_nil_of_length_eq_zero h0⟩
  · refine .inr ⟨g, cap, rfl, hB, cur.toList.drop (xs.length * Lay.k α), ?_, ?_, hn, hm⟩
    · rw [hg, ← ht, List.take_append_drop]
    · have := Nat.mul_le_mul_right (Lay.k α) hn
      simp [hs]; omega
theorem OwnS.row {W : World} {B : Nat} {v : Value} {xs : List α} (h : OwnS W B v xs) : W.ownsRow B (Lay.ty α) (Lay.k α) v xs.length (cellsL xs) := by
  refine ⟨cellsL_length xs, ?_⟩
  rcases h with ⟨rfl, rfl⟩ | ⟨g, cap, rfl, hB, h⟩
  · exact .inl ⟨rfl, rfl⟩
  · obtain ⟨rest, h1, h2, hle, h3⟩ := h
    refine .inr ⟨g, cap, _, rfl, hB, h1, hle, h3, by simp [cellsL_length, h2], ?_⟩
    simp [← cellsL_length xs]
theorem OwnS.slice {W : World} {B : Nat} {v : Value} {xs : List α} (h : OwnS W B v xs) : ∃ a c, v = .slice a xs.length c ∧ c ≤ maxLen := by
  rcases h with ⟨rfl, rfl⟩ | ⟨g, cap, rfl, _, h⟩
  · exact ⟨none, 0, rfl, by decide⟩
  · exact ⟨_, _, rfl, h.capLe⟩
end

theorem RowAt.i0 {w : World} {b off : Nat} {xs : List Int} (h : RowAt w b off (cellsL xs)) {i : Nat} {x : Int} (hi : xs[i]? = some x) : w.cell? ⟨b, off + i, none⟩ = some (.int .i64 x) :=
  h i _ (by have := cellsL_get xs i x hi 0 (by decide); simpa [Lay.k, Lay.cs] using this)
theorem nnext {w W V : World} (h : Below w.heap.size w W) (h' : Below W.heap.size W V) : Below w.heap.size w V := h.trans (h'.mono h.size)
theorem allocB (w : World) (o : Obj) : Below w.heap.size w (w.alloc o) := (Below.refl _ _).alloc (Nat.le_refl _) _

theorem nblock_setCells {g : Nat} {t : TypeId} {fz : Nat × Nat} : ∀ (vs : List Value) (o : Nat) (w : World) (l : List Value), w.heap[g]? = some (.cells l.toArray t fz) → o + vs.length ≤ l.length →
    (w.setCells g o vs).heap[g]? = some (.cells (l.take o ++ vs ++ l.drop (o + vs.length)).toArray t fz)
  | [], o, w, l, h, _ => by simpa [World.setCells] using h
  | v :: r, o, w, l, h, hl => by
    have h1 : (w.setCell ⟨g, o, none⟩ v).heap[g]? = some (.cells (l.set o v).toArray t fz) := by rw [block_set v h]; simp
    rw [World.setCells, nblock_setCells r (o + 1) _ _ h1 (by simp at hl ⊢; omega)]
    have ho : o < l.length := by simp at hl; omega
    have e1 : (l.set o v).take (o + 1) = l.take o ++ [v] := by
      rw [List.take_set, List.take_succ_eq_append_getElem ho, List.set_append_right _ _ (by simp; omega)]
      simp [Nat.min_eq_left (Nat.le_of_lt ho)]
    have e2 : (l.set o v).drop (o + 1 + r.length) = l.drop (o + (r.length + 1)) := by
      rw [List.drop_set_of_lt (by omega)]; congr 1; omega
    rw [e1, e2]
    simp
section
variable {α : Type} [Lay α]
theorem OwnR.spare {W : World} {g cap : Nat} {fs : List α} (h : OwnR W g cap fs) (vs : List Value) (o : Nat) (ho : fs.length * Lay.k α ≤ o) (hfit : o + vs.length ≤ cap * Lay.k α) : OwnR (W.setCells g o vs) g cap fs := by
  obtain ⟨rest, h1, h2, h4, h3⟩ := h
  have hlen : (cellsL fs ++ rest).length = cap * Lay.k α := by rw [List.length_append, cellsL_length]; exact h2
  have hc := cellsL_length fs
  refine ⟨rest.take (o - fs.length * Lay.k α) ++ vs ++ (cellsL fs ++ rest).drop (o + vs.length), ?_, ?_, h4, h3⟩
  · rw [nblock_setCells vs o W _ h1 (by rw [hlen]; omega)]
    congr 2
    rw [List.take_append, List.take_of_length_le (by omega), hc]
    simp only [List.append_assoc]
  · simp only [List.length_append, List.length_take, List.length_drop, hc]
    omega
theorem OwnR.some {W : World} {g cap : Nat} {fs : List α} (h : OwnR W g cap fs) {j : Nat} (hj : j < cap * Lay.k α) : (W.cell? ⟨g, j, none⟩).isSome = true := by
  obtain ⟨rest, h1, h2, _⟩ := h
  have hl : j < (cellsL fs ++ rest).length := by rw [List.length_append, cellsL_length, h2]; exact hj
  rw [List.length_append] at hl
  simp [World.cell?, h1, hl]
theorem OwnR.drew {W : World} {g cap : Nat} {fs : List α} (h : OwnR W g cap fs) : OwnR W.drew g cap fs := h
theorem OwnR.alloc {W : World} {g cap : Nat} {fs : List α} (h : OwnR W g cap fs) (o : Obj) : OwnR (W.alloc o) g cap fs := h.next ((Below.refl _ _).alloc (Nat.le_refl _) o)
/-- block b holds just this one -/
def OneR (W : World) (b : Nat) (x : α) : Prop := W.heap[b]? = some (.cells (Lay.cs x).toArray (Lay.ty α) (0, 0))
theorem OneR.row {W : World} {b : Nat} {x : α} (h : OneR W b x) : ∀ j v, (Lay.cs x)[j]? = some v → W.cell? ⟨b, 0 + j, none⟩ = some v := by
  intro j v hj
  unfold OneR at h
  simp [World.cell?, h, hj]
end
/-- all old blocks but those of F are as they were -/
structure Touch (F : Nat → Prop) (w w' : World) : Prop where
  os : w'.os = w.os
  tape : w'.tape = w.tape
  output : w'.output = w.output
  size : w.heap.size ≤ w'.heap.size
  block : ∀ k, k < w.heap.size → ¬ F k → w'.heap[k]? = w.heap[k]?
theorem Touch.refl (F : Nat → Prop) (w : World) : Touch F w w := ⟨rfl, rfl, rfl, Nat.le_refl _, fun _ _ _ => rfl⟩
theorem Touch.trans {F : Nat → Prop} {a b c : World} (h : Touch F a b) (k : Touch F b c) : Touch F a c :=
  ⟨k.os.trans h.os, k.tape.trans h.tape, k.output.trans h.output, Nat.le_trans h.size k.size, fun i hi hf => (k.block i (Nat.lt_of_lt_of_le hi h.size) hf).trans (h.block i hi hf)⟩
theorem Touch.set {F : Nat → Prop} {w : World} {a : Addr} (hf : F a.block) (v : Value) : Touch F w (w.setCell a v) := ⟨rfl, rfl, rfl, by simp [World.setCell], fun k _ hn => Below.heap_setCell w a v k (fun e => hn (by rw [e]; exact hf))⟩
theorem Touch.drew {F : Nat → Prop} {w w' : World} (h : Touch F w w') : Touch F w w'.drew := ⟨h.os, h.tape, h.output, h.size, h.block⟩
theorem Touch.mono {F G : Nat → Prop} {w w' : World} (h : Touch F w w') (hg : ∀ k, k < w.heap.size → F k → G k) : Touch G w w' := ⟨h.os, h.tape, h.output, h.size, fun k hk hn => h.block k hk (fun hf => hn (hg k hk hf))⟩
theorem OwnS.low {α : Type} [Lay α] {W : World} {B : Nat} {v : Value} {xs : List α} (h : OwnS W B v xs) (k : Nat) (hk : v.ownBlock = some k) : k < W.heap.size := by
  rcases h with ⟨rfl, rfl⟩ | ⟨g, cap, rfl, _, h⟩
  · simp [Value.ownBlock] at hk
  · simp only [Value.ownBlock, Option.some.injEq] at hk
    rw [← hk]; exact h.lt
theorem OwnS.grown {α : Type} [Lay α] {W V : World} {B : Nat} {v : Value} {xs : List α} (h : OwnS W B v xs) {r : Option Nat} (hg : W.grownBy V r) (hr : ∀ k, v.ownBlock = some k → some k ≠ r) : OwnS V B v xs := by
  rcases h with h | ⟨g, cap, rfl, hB, h⟩
  · exact .inl h
  · obtain ⟨rest, h1, h2⟩ := h
    have hlt := (Array.getElem?_eq_some_iff.1 h1).1
    exact .inr ⟨g, cap, rfl, hB, rest, (hg.block g hlt (hr g rfl)).trans h1, h2⟩
theorem one_news {α : Type} [Lay α] {W : World} {g : Nat} {x : α} (h : OneR W g x) (j : Nat) (u : Value) (hj : (Lay.cs x)[j]? = some u) : W.cell? ((⟨g, 0, none⟩ : Addr).add j) = some u := by
  rw [Addr.add_lit]
  exact h.row j u hj
end Go.Proofs.Ytijpnmponjjejaa

namespace Go.Proofs.Ytijpnmponjjejaa
open Go.RowKit

instance layX : Lay WTxn := ⟨7, tcells, 47, fun _ => rfl, fun x u hu => tcells_one x u hu⟩
theorem cellsT_L (ts : List WTxn) : cellsL ts = cellsT ts := by
  induction ts with
  | nil => rfl
  | cons f r ih => rw [cellsL_cons, ih]; rfl
theorem seq_log {w : World} {v : Value} {ts : List WTxn} : SeqV w v ts ↔ LogV w v ts := by unfold SeqV LogV; rw [cellsT_L]
end Go.Proofs.Ytijpnmponjjejaa

namespace Go.Proofs.Ytijpnmponjjejaa
open Go.RowKit

/-- a peer; its log's place, and what it holds -/
structure Pe where
  id : Int
  ep : Int
  a : Option Addr
  c : Nat
  ts : List WTxn
  dn : Int
def pe0 : Pe := ⟨0, 0, none, 0, [], 0⟩
def peV (p : Pe) : Value := .agg #[.int .i64 p.id, .int .i64 p.ep, .slice p.a p.ts.length p.c, .int .i64 p.dn]
def pcells (p : Pe) : List Value := [.int .i64 p.id, .int .i64 p.ep, .slice p.a p.ts.length p.c, .int .i64 p.dn]
instance layP : Lay Pe := ⟨4, pcells, 29, fun _ => rfl, fun x u hu => by simp [pcells] at hu; rcases hu with rfl | rfl | rfl | rfl <;> rfl⟩
/-- one log of a list -/
structure Lg where
  a : Option Addr
  c : Nat
  ts : List WTxn
def lgV (l : Lg) : Value := .slice l.a l.ts.length l.c
instance layG : Lay Lg := ⟨1, fun l => [lgV l], 27, fun _ => rfl, fun x u hu => by simp at hu; subst hu; rfl⟩

def Pe.log (p : Pe) : Value := .slice p.a p.ts.length p.c
/-- the peers' logs hold what they say -/
def PLogs (w : World) (ps : List Pe) : Prop := ∀ p ∈ ps, LogV w p.log p.ts
def GLogs (w : World) (ls : List Lg) : Prop := ∀ l ∈ ls, LogV w (lgV l) l.ts
theorem PLogs.next {w w' : World} {ps : List Pe} (h : PLogs w ps) (hb : Below w.heap.size w w') : PLogs w' ps := fun p hp => (h p hp).next hb
theorem GLogs.next {w w' : World} {ls : List Lg} (h : GLogs w ls) (hb : Below w.heap.size w w') : GLogs w' ls := fun p hp => (h p hp).next hb
theorem RowAt.pe0 {w : World} {b off : Nat} {xs : List Pe} (h : RowAt w b off (cellsL xs)) {i : Nat} {x : Pe} (hi : xs[i]? = some x) : w.cell? ⟨b, off + i * 4, none⟩ = some (.int .i64 x.id) :=
  h (i * 4) _ (cellsL_get xs i x hi 0 (by decide))
theorem RowAt.pe1 {w : World} {b off : Nat} {xs : List Pe} (h : RowAt w b off (cellsL xs)) {i : Nat} {x : Pe} (hi : xs[i]? = some x) : w.cell? ⟨b, off + i * 4 + 1, none⟩ = some (.int .i64 x.ep) := by
  rw [Nat.add_assoc]; exact h (i * 4 + 1) _ (cellsL_get xs i x hi 1 (by decide))
theorem RowAt.pe2 {w : World} {b off : Nat} {xs : List Pe} (h : RowAt w b off (cellsL xs)) {i : Nat} {x : Pe} (hi : xs[i]? = some x) : w.cell? ⟨b, off + i * 4 + 2, none⟩ = some (.slice x.a x.ts.length x.c) := by
  rw [Nat.add_assoc]; exact h (i * 4 + 2) _ (cellsL_get xs i x hi 2 (by decide))
theorem RowAt.pe3 {w : World} {b off : Nat} {xs : List Pe} (h : RowAt w b off (cellsL xs)) {i : Nat} {x : Pe} (hi : xs[i]? = some x) : w.cell? ⟨b, off + i * 4 + 3, none⟩ = some (.int .i64 x.dn) := by
  rw [Nat.add_assoc]; exact h (i * 4 + 3) _ (cellsL_get xs i x hi 3 (by decide))
/-- a box of a peer -/
def PBox (W : World) (g : Nat) (p : Pe) : Prop := W.heap[g]? = some (.cells #[.int .i64 p.id, .int .i64 p.ep, .slice p.a p.ts.length p.c, .int .i64 p.dn] 29 (0, 0))
theorem PBox.new (W : World) (p : Pe) : PBox (W.alloc (.cells #[.int .i64 p.id, .int .i64 p.ep, .slice p.a p.ts.length p.c, .int .i64 p.dn] 29)) W.heap.size p := heap_alloc_new W _
theorem PBox.next {W V : World} {g : Nat} {p : Pe} (h : PBox W g p) (hb : Below W.heap.size W V) : PBox V g p := (hb.block g (by unfold PBox at h; exact (Array.getElem?_eq_some_iff.1 h).1)).trans h
theorem PBox.lt {W : World} {g : Nat} {p : Pe} (h : PBox W g p) : g < W.heap.size := by unfold PBox at h; exact (Array.getElem?_eq_some_iff.1 h).1
theorem PBox.c0 {W : World} {g : Nat} {p : Pe} (h : PBox W g p) : W.cell? ⟨g, 0, none⟩ = some (.int .i64 p.id) := by unfold PBox at h; simp [World.cell?, h]
theorem PBox.c1 {W : World} {g : Nat} {p : Pe} (h : PBox W g p) : W.cell? ⟨g, 1, none⟩ = some (.int .i64 p.ep) := by unfold PBox at h; simp [World.cell?, h]
theorem PBox.c2 {W : World} {g : Nat} {p : Pe} (h : PBox W g p) : W.cell? ⟨g, 2, none⟩ = some (.slice p.a p.ts.length p.c) := by unfold PBox at h; simp [World.cell?, h]
theorem PBox.c3 {W : World} {g : Nat} {p : Pe} (h : PBox W g p) : W.cell? ⟨g, 3, none⟩ = some (.int .i64 p.dn) := by unfold PBox at h; simp [World.cell?, h]
theorem PBox.f {W : World} {g : Nat} {p : Pe} (h : PBox W g p) (j : Nat) : W.frozen? ⟨g, j, none⟩ = false := by unfold PBox at h; simp [World.frozen?, h]
theorem pinfo0 : (Try.prog.info? 29).map (fun i => (i.zero, i.size, i.bytes)) = some (some (peV pe0), 4, 48) := by kernel_rfl
theorem pinfo : ∃ i0, Try.prog.info? 29 = some i0 ∧ i0.zero = some (peV pe0) ∧ i0.size = 4 ∧ i0.bytes = 48 := by
  obtain ⟨i0, h, e⟩ := Option.map_eq_some_iff.1 pinfo0
  simp only [Prod.mk.injEq] at e
  exact ⟨i0, h, e⟩
theorem belowN {B n : Nat} {a w : World} (h : Below B a w) : Below B a (w.drewN n) := ⟨h.os, h.tape, h.output, h.size, h.block⟩
theorem row_of {α : Type} [Lay α] {w : World} {v : Value} {xs : List α} (hv : SeqV w v xs) {i : Nat} {x : α} (hi : xs[i]? = some x) :
    ∃ b off cap, v = .slice (some ⟨b, off, none⟩) xs.length cap ∧ b < w.heap.size ∧ RowAt w b off (cellsL xs) ∧ i < xs.length ∧ xs.length ≤ cap ∧ cap ≤ maxLen := by
  obtain ⟨hi', _⟩ := List.getElem?_eq_some_iff.1 hi
  obtain ⟨b, off, cap, e, hb, hr, h1, h2⟩ := seq_row hv (fun h0 => by rw [h0] at hi'; simp at hi')
  exact ⟨b, off, cap, e, hb, hr, hi', h1, h2⟩
end Go.Proofs.Ytijpnmponjjejaa

namespace Go.Proofs.Ytijpnmponjjejaa
open Go.RowKit
set_option maxRecDepth 10000 in
set_option maxHeartbeats 400000 in
theorem last_any (v : Value) (ts : List WTxn) (w : World) (hv : LogV w v ts) :
    Calls Try.prog 20 #[v] w fun e w' => e = .returned (.int .i64 (lastZ ts)) ∧ w' = w := by
  by_cases h0 : ts.length = 0
  · obtain ⟨a, c, rfl⟩ := log_slice hv
    obtain rfl := List.length_eq_zero_iff.1 h0
    clear hv h0
    rw [lastZ_nil]
    go_enter Try.func20, Try.ntmps20
    go_wp2_with fail
    go_ret
    exact ⟨rfl, rfl⟩
  · obtain ⟨m, x, rfl⟩ := snoc_of h0
    have hi : (m ++ [x])[m.length]? = some x := by simp
    obtain ⟨b, off, cap, rfl, hb, hr, hlt, hc, hm⟩ := log_row hv hi
    have e := hr.z hi
    have hl : (m ++ [x]).length = m.length + 1 := by simp
    rw [lastZ_snoc, hl]
    simp only [maxLen] at hm
    rw [hl] at hc
    have hM : m.length < 9223372036854775807 := by omega
    clear hv h0 hr hi hl hlt hc hm
    generalize m.length = k at *
    go_enter Try.func20, Try.ntmps20
    go_wp2_with fail
    go_ret
    exact ⟨rfl, rfl⟩

end Go.Proofs.Ytijpnmponjjejaa

namespace Go.Proofs.Ytijpnmponjjejaa
open Go.RowKit

def cmpI (x y : Int) : Int := if x < y then -1 else if y < x then 1 else 0
set_option maxRecDepth 10000 in
theorem nan_any (x : Int) (w : World) : Calls Try.prog 45 #[.int .i64 x] w fun e w' => e = .returned (.bool false) ∧ w' = w := by
  go_enter Try.func45, Try.ntmps45
  go_wp2_with fail
  go_ret
  exact ⟨rfl, rfl⟩
set_option maxRecDepth 10000 in
set_option maxHeartbeats 1000000 in
theorem cmp_any (x y : Int) (w : World) : Calls Try.prog 44 #[.int .i64 x, .int .i64 y] w fun e w' => e = .returned (.int .i64 (cmpI x y)) ∧ w' = w := by
  by_cases h : x < y
  · have e : cmpI x y = -1 := by simp [cmpI, h]
    rw [e]
    clear e
    go_enter Try.func44, Try.ntmps44
    go_wp2_with fail
    refine (nan_any _ _).mono ?_
    rintro e w1 ⟨rfl, rfl⟩
    go_wp2_with fail
    refine (nan_any _ _).mono ?_
    rintro e w1 ⟨rfl, rfl⟩
    go_wp2_with fail
    go_ret
    exact ⟨rfl, rfl⟩
  · by_cases h2 : y < x
    · have e : cmpI x y = 1 := by simp [cmpI, h, h2]
      rw [e]
      clear e
      go_enter Try.func44, Try.ntmps44
      go_wp2_with fail
      refine (nan_any _ _).mono ?_
      rintro e w1 ⟨rfl, rfl⟩
      go_wp2_with fail
      refine (nan_any _ _).mono ?_
      rintro e w1 ⟨rfl, rfl⟩
      go_wp2_with fail
      go_ret
      exact ⟨rfl, rfl⟩
    · have e : cmpI x y = 0 := by simp [cmpI, h, h2]
      rw [e]
      clear e
      go_enter Try.func44, Try.ntmps44
      go_wp2_with fail
      refine (nan_any _ _).mono ?_
      rintro e w1 ⟨rfl, rfl⟩
      go_wp2_with fail
      refine (nan_any _ _).mono ?_
      rintro e w1 ⟨rfl, rfl⟩
      go_wp2_with fail
      go_ret
      exact ⟨rfl, rfl⟩
def orI (x y : Int) : Int := if x = 0 then y else x
set_option maxRecDepth 10000 in
set_option maxHeartbeats 1000000 in
theorem or_any (g : Nat) (x y : Int) (w : World) (h0 : w.cell? ⟨g, 0, none⟩ = some (.int .i64 x)) (h1 : w.cell? ⟨g, 1, none⟩ = some (.int .i64 y)) :
    Calls Try.prog 43 #[.slice (some ⟨g, 0, none⟩) 2 2] w fun e w' => e = .returned (.int .i64 (orI x y)) ∧ w' = w := by
  go_enter Try.func43, Try.ntmps43
  go_wp2_with fail
  go_loopg [8] 2 (fun kx s8 wr => ∃ k : Nat, s8 = .int .i64 k ∧ k ≤ 2 ∧ 2 - k ≤ kx ∧ wr = w ∧ (k = 0 ∨ k = 1 ∧ x = 0 ∨ k = 2 ∧ x = 0 ∧ y = 0))
  case atStart => exact ⟨0, rfl, by omega, by omega, rfl, .inl rfl⟩
  case round =>
    obtain ⟨k, rfl, hk, hkx, rfl, h⟩ := hrel
    rcases h with rfl | ⟨rfl, hx⟩ | ⟨rfl, hx, hy⟩
    · by_cases hx : x = 0
      · go_wp2_with fail
        go_roundg 1
        case measure => omega
        case rel => exact ⟨1, rfl, by omega, by omega, rfl, .inr (.inl ⟨rfl, hx⟩)⟩
      · have e : orI x y = x := by simp [orI, hx]
        have HE := hide e
        clear e
        go_wp2_with fail
        go_ret
        rw [unhide HE]
        exact ⟨rfl, rfl⟩
    · by_cases hy : y = 0
      · go_wp2_with fail
        go_roundg 0
        case measure => omega
        case rel => exact ⟨2, rfl, by omega, by omega, rfl, .inr (.inr ⟨rfl, hx, hy⟩)⟩
      · have e : orI x y = y := by simp [orI, hx]
        have HE := hide e
        clear e
        go_wp2_with fail
        go_ret
        rw [unhide HE]
        exact ⟨rfl, rfl⟩
    · have e : orI x y = 0 := by simp [orI, hx, hy]
      have HE := hide e
      clear e
      go_wp2_with fail
      go_ret
      rw [unhide HE]
      exact ⟨rfl, rfl⟩

set_option maxRecDepth 10000 in
set_option maxHeartbeats 4000000 in
theorem compare_any (p q : Pe) (w : World) (hp : LogV w p.log p.ts) (hq : LogV w q.log q.ts) :
    Calls Try.prog 39 #[peV p, peV q] w fun e w' => e = .returned (.int .i64 (orI (cmpI (lastZ p.ts) (lastZ q.ts)) (cmpI p.id q.id))) ∧ Below w.heap.size w w' := by
  obtain ⟨W0, hW0⟩ : ∃ W0, W0 = (w.alloc (.cells #[.int .i64 p.id, .int .i64 p.ep, .slice p.a p.ts.length p.c, .int .i64 p.dn] 29)).alloc (.cells #[.int .i64 q.id, .int .i64 q.ep, .slice q.a q.ts.length q.c, .int .i64 q.dn] 29) := ⟨_, rfl⟩
  have B0 : Below w.heap.size w W0 := by rw [hW0]; exact nnext (allocB _ _) (allocB _ _)
  have P0 : PBox W0 w.heap.size p := by rw [hW0]; exact (PBox.new w p).next (allocB _ _)
  have Q0 : PBox W0 (w.heap.size + 1) q := by
    rw [hW0]
    have := PBox.new (w.alloc (.cells #[.int .i64 p.id, .int .i64 p.ep, .slice p.a p.ts.length p.c, .int .i64 p.dn] 29)) q
    simpa using this
  have CP := hide (fun W (h : W = W0.drew) => last_any p.log p.ts W (by rw [h]; exact (hp.next B0).drew))
  have CQ := hide (fun W (h : W = W0.drew) => last_any q.log q.ts W (by rw [h]; exact (hq.next B0).drew))
  have p0 := P0.c0
  have p2 := P0.c2
  have q0 := Q0.c0
  have q2 := Q0.c2
  have HB := hide B0
  have hlt := Q0.lt
  clear B0 P0 Q0 hp hq
  obtain ⟨i, ep, a, c, ts, dn⟩ := p
  obtain ⟨j, eq, b, d, us, dm⟩ := q
  simp only [Pe.log] at *
  unfold peV
  simp only
  generalize lastZ ts = z at *
  generalize lastZ us = y at *
  go_enter Try.func39, Try.ntmps39
  go_upto_region 1 with fail
  rw [← hW0]
  clear hW0
  have KO : Hid (∀ x y : Int, (W0.alloc (.cells #[.int .i64 x, .int .i64 y] 3)).drew.cell? ⟨W0.heap.size, 0, none⟩ = some (.int .i64 x) ∧ (W0.alloc (.cells #[.int .i64 x, .int .i64 y] 3)).drew.cell? ⟨W0.heap.size, 1, none⟩ = some (.int .i64 y)) := hide (fun x y => by
    have h := heap_alloc_new W0 (.cells #[.int .i64 x, .int .i64 y] 3)
    show (W0.alloc (.cells #[.int .i64 x, .int .i64 y] 3)).cell? ⟨W0.heap.size, 0, none⟩ = some (.int .i64 x) ∧ (W0.alloc (.cells #[.int .i64 x, .int .i64 y] 3)).cell? ⟨W0.heap.size, 1, none⟩ = some (.int .i64 y)
    unfold World.cell?
    rw [h]
    exact ⟨rfl, rfl⟩)
  have HBO : Hid (∀ o : Obj, Below w.heap.size w (W0.alloc o).drew) := hide (fun o => (nnext (unhide HB) (allocB _ _)).drew)
  have K : Hid (∀ W, W = W0.drew → W.cell? ⟨w.heap.size, 0, none⟩ = some (.int .i64 i) ∧ W.cell? ⟨w.heap.size, 2, none⟩ = some (.slice a ts.length c) ∧ W.cell? ⟨w.heap.size + 1, 0, none⟩ = some (.int .i64 j) ∧ W.cell? ⟨w.heap.size + 1, 2, none⟩ = some (.slice b us.length d)) := hide (fun W h => by rw [h]; exact ⟨p0, p2, q0, q2⟩)
  have KA : Hid (∀ o : Obj, (W0.alloc o).drew.cell? ⟨w.heap.size, 0, none⟩ = some (.int .i64 i) ∧ (W0.alloc o).drew.cell? ⟨w.heap.size, 2, none⟩ = some (.slice a ts.length c) ∧ (W0.alloc o).drew.cell? ⟨w.heap.size + 1, 0, none⟩ = some (.int .i64 j) ∧ (W0.alloc o).drew.cell? ⟨w.heap.size + 1, 2, none⟩ = some (.slice b us.length d)) := hide (fun o => by
    have h : Below W0.heap.size W0 (W0.alloc o).drew := (allocB W0 o).drew
    exact ⟨(h.cell (p := ⟨w.heap.size, 0, none⟩) (by simp only; omega)).trans p0, (h.cell (p := ⟨w.heap.size, 2, none⟩) (by simp only; omega)).trans p2, (h.cell (p := ⟨w.heap.size + 1, 0, none⟩) (by simp only; omega)).trans q0, (h.cell (p := ⟨w.heap.size + 1, 2, none⟩) (by simp only; omega)).trans q2⟩)
  have KZ := hide (And.intro p0 (And.intro p2 (And.intro q0 q2)))
  go_region_held3 (fun w' => w'.cell? ⟨w.heap.size, 0, none⟩ = some (.int .i64 i) ∧ w'.cell? ⟨w.heap.size, 2, none⟩ = some (.slice a ts.length c) ∧ w'.cell? ⟨w.heap.size + 1, 0, none⟩ = some (.int .i64 j) ∧ w'.cell? ⟨w.heap.size + 1, 2, none⟩ = some (.slice b us.length d)) (first | with_reducible exact unhide KZ | with_reducible exact unhide K _ rfl | with_reducible exact unhide KA _) (first
    | (go_at_call 20; first | (with_reducible refine (unhide CP _ rfl).mono ?_; rintro e w1 ⟨rfl, rfl⟩) | (with_reducible refine (unhide CQ _ rfl).mono ?_; rintro e w1 ⟨rfl, rfl⟩))
    | (go_at_call 44; refine (cmp_any _ _ _).mono ?_; rintro e w1 ⟨rfl, rfl⟩)
    | (go_at_call 43; refine (or_any _ _ _ _ (unhide KO _ _).1 (unhide KO _ _).2).mono ?_; rintro e w1 ⟨rfl, rfl⟩))
  all_goals go_wp2_with fail
  all_goals go_ret
  all_goals exact ⟨rfl, unhide HBO _⟩
end Go.Proofs.Ytijpnmponjjejaa

namespace Go.Proofs.Ytijpnmponjjejaa
open Go.RowKit

abbrev Key := Int × Int × Int
def errP (pre : List Key) (k : Key) : Int :=
  if pre.any (fun q => q.1 == k.1) = true then 8 else if k.1 < 0 ∨ 3 ≤ k.1 then 3 else if k.2.1 < 0 ∨ 2147483647 < k.2.1 then 3 else 0
/-- what is wrong with the first that something is wrong with -/
def Adm (ks : List Key) (E : Int) : Prop :=
  (E = 0 ∧ ∀ i k, ks[i]? = some k → errP (ks.take i) k = 0) ∨
  (E ≠ 0 ∧ ∃ n k, ks[n]? = some k ∧ errP (ks.take n) k = E ∧ ∀ i q, i < n → ks[i]? = some q → errP (ks.take i) q = 0)
theorem adm_ex (ks : List Key) : ∃ E, Adm ks E := by
  have main : ∀ n, (∀ i k, i < n → ks[i]? = some k → errP (ks.take i) k = 0) ∨ ∃ E, E ≠ 0 ∧ ∃ n k, ks[n]? = some k ∧ errP (ks.take n) k = E ∧ ∀ i q, i < n → ks[i]? = some q → errP (ks.take i) q = 0 := by
    intro n
    induction n with
    | zero => exact .inl fun i k h => by omega
    | succ n ih =>
      rcases ih with ih | ih
      · cases hk : ks[n]? with
        | none =>
          refine .inl fun i k hi h => ?_
          by_cases e : i = n
          · subst e; rw [hk] at h; cases h
          · exact ih i k (by omega) h
        | some k =>
          by_cases he : errP (ks.take n) k = 0
          · refine .inl fun i q hi h => ?_
            by_cases e : i = n
            · subst e; rw [hk] at h; cases h; exact he
            · exact ih i q (by omega) h
          · exact .inr ⟨_, he, n, k, hk, rfl, ih⟩
      · exact .inr ih
  rcases main ks.length with h | ⟨E, h0, h⟩
  · exact ⟨0, .inl ⟨rfl, fun i k hk => h i k (List.getElem?_eq_some_iff.1 hk).1 hk⟩⟩
  · exact ⟨E, .inr ⟨h0, h⟩⟩
theorem adm_at {ks : List Key} {E : Int} (h : Adm ks E) {n : Nat} (hn : ∀ i q, i < n → ks[i]? = some q → errP (ks.take i) q = 0) {x : Key} (hx : ks[n]? = some x) (he : errP (ks.take n) x ≠ 0) : E = errP (ks.take n) x := by
  rcases h with ⟨_, h⟩ | ⟨h0, m, k, hk, e, h⟩
  · exact absurd (h n x hx) he
  · rcases Nat.lt_trichotomy m n with hl | hl | hl
    · exact absurd ((hn m k hl hk).symm.trans e).symm h0
    · subst hl
      rw [hk] at hx
      cases hx
      exact e.symm
    · exact absurd (h n x hl hx) he
theorem adm_end {ks : List Key} {E : Int} (h : Adm ks E) (hn : ∀ i q, i < ks.length → ks[i]? = some q → errP (ks.take i) q = 0) : E = 0 := by
  rcases h with ⟨h, _⟩ | ⟨h0, m, k, hk, e, _⟩
  · exact h
  · exact absurd ((hn m k (List.getElem?_eq_some_iff.1 hk).1 hk).symm.trans e).symm h0
def newN (ks : List Key) : Int := ks.foldl (fun a k => max (max a k.2.1) (zEpoch k.2.2)) 0
theorem newN_snoc (ks : List Key) (k : Key) : newN (ks ++ [k]) = max (max (newN ks) k.2.1) (zEpoch k.2.2) := by simp [newN]
theorem take_more2 {α : Type} {l : List α} {k : Nat} {x : α} (h : l[k]? = some x) : l.take (k + 1) = l.take k ++ [x] := by
  obtain ⟨hk, rfl⟩ := List.getElem?_eq_some_iff.1 h
  exact List.take_succ_eq_append_getElem hk
/-- does the first know more than the second? -/
def bet (p q : Key) : Bool := decide (q.2.2 < p.2.2) || (decide (p.2.2 = q.2.2) && decide (q.1 < p.1))
def leadAt (ks : List Key) : Nat → Nat
  | 0 => 0
  | n + 1 => if bet (ks.getD n (0, 0, 0)) (ks.getD (leadAt ks n) (0, 0, 0)) = true then n else leadAt ks n
theorem leadAt_lt (ks : List Key) : ∀ n, leadAt ks n < max n 1
  | 0 => by simp [leadAt]
  | n + 1 => by
    have := leadAt_lt ks n
    unfold leadAt
    split <;> omega
theorem leadAt_more {ks : List Key} {n : Nat} {p q : Key} (hp : ks[n]? = some p) (hq : ks[leadAt ks n]? = some q) : leadAt ks (n + 1) = if bet p q = true then n else leadAt ks n := by
  rw [leadAt, List.getD_eq_getElem?_getD, List.getD_eq_getElem?_getD, hp, hq]
  rfl
/-- the answer of an election -/
def EAns (ks : List Key) (k n E : Int) : Prop :=
  ∃ A, Adm ks A ∧ ((A ≠ 0 ∧ k = 0 ∧ n = 0 ∧ E = A) ∨ (A = 0 ∧ ((ks.length < 2 ∧ k = 0 ∧ n = 0 ∧ E = 14) ∨ (2 ≤ ks.length ∧ ((2147483647 < newN ks + 1 ∧ k = 0 ∧ n = 0 ∧ E = 6) ∨ (newN ks + 1 ≤ 2147483647 ∧ k = leadAt ks ks.length ∧ n = newN ks + 1 ∧ E = 0))))))
theorem ans_ex (ks : List Key) : ∃ k n E, EAns ks k n E := by
  obtain ⟨A, hA⟩ := adm_ex ks
  by_cases h0 : A = 0
  · by_cases h1 : ks.length < 2
    · exact ⟨0, 0, 14, A, hA, .inr ⟨h0, .inl ⟨h1, rfl, rfl, rfl⟩⟩⟩
    · by_cases h2 : 2147483647 < newN ks + 1
      · exact ⟨0, 0, 6, A, hA, .inr ⟨h0, .inr ⟨by omega, .inl ⟨h2, rfl, rfl, rfl⟩⟩⟩⟩
      · exact ⟨_, _, 0, A, hA, .inr ⟨h0, .inr ⟨by omega, .inr ⟨by omega, rfl, rfl, rfl⟩⟩⟩⟩
  · exact ⟨0, 0, A, A, hA, .inl ⟨h0, rfl, rfl, rfl⟩⟩
/-- of an admitted list: bounds -/
theorem Adm.ok {ks : List Key} (h : Adm ks 0) {i : Nat} {k : Key} (hk : ks[i]? = some k) : (∀ q ∈ ks.take i, q.1 ≠ k.1) ∧ 0 ≤ k.1 ∧ k.1 < 3 ∧ 0 ≤ k.2.1 ∧ k.2.1 ≤ 2147483647 := by
  rcases h with ⟨_, h⟩ | ⟨h, _⟩
  · have := h i k hk
    unfold errP at this
    by_cases h1 : (ks.take i).any (fun q => q.1 == k.1) = true
    · simp [h1] at this
    · by_cases h2 : k.1 < 0 ∨ 3 ≤ k.1
      · simp [h1, h2] at this
      · by_cases h3 : k.2.1 < 0 ∨ 2147483647 < k.2.1
        · simp [h1, h2, h3] at this
        · refine ⟨fun q hq e => h1 ?_, by omega, by omega, by omega, by omega⟩
          exact List.any_eq_true.2 ⟨q, hq, by simp [e]⟩
  · exact absurd rfl h
theorem newN_le {ks : List Key} (M : Int) (h0 : 0 ≤ M) : (∀ k ∈ ks, k.2.1 ≤ M ∧ zEpoch k.2.2 ≤ M) → newN ks ≤ M := by
  have main : ∀ (l : List Key) (a : Int), a ≤ M → (∀ k ∈ l, k.2.1 ≤ M ∧ zEpoch k.2.2 ≤ M) → l.foldl (fun a k => max (max a k.2.1) (zEpoch k.2.2)) a ≤ M := by
    intro l
    induction l with
    | nil => intro a ha _; exact ha
    | cons x r ih =>
      intro a ha h
      have := h x (by simp)
      exact ih (max (max a x.2.1) (zEpoch x.2.2)) (by omega) fun k hk => h k (by simp [hk])
  exact main ks 0 h0
theorem zEpoch_le (z : Int) : 0 ≤ zEpoch z ∧ zEpoch z ≤ 2147483647 := by
  cases hg : zGood z with
  | false => rw [zEpoch_no hg]; decide
  | true =>
    have := zGood_iff.1 hg
    rw [zEpoch_yes hg]
    omega
theorem newN_nonneg (ks : List Key) : 0 ≤ newN ks := by
  have up : ∀ (l : List Key) (a : Int), a ≤ l.foldl (fun a k => max (max a k.2.1) (zEpoch k.2.2)) a := by
    intro l
    induction l with
    | nil => intro a; exact Int.le_refl _
    | cons x r ih => intro a; exact Int.le_trans (show a ≤ max (max a x.2.1) (zEpoch x.2.2) by omega) (ih _)
  exact up ks 0
end Go.Proofs.Ytijpnmponjjejaa

namespace Go.Proofs.Ytijpnmponjjejaa
open Go.RowKit

theorem zret_bool {a b : Bool} (h : a = b) : Ending.returned (.bool a) = .returned (.bool b) := by rw [h]

set_option maxRecDepth 10000 in
set_option maxHeartbeats 400000 in
theorem zgood_any (z : Int) (w : World) :
    Calls Try.prog 23 #[.int .i64 z] w fun e w' => e = .returned (.bool (zGood z)) ∧ w' = w := by
  go_enter Try.func23, Try.ntmps23
  go_wp2
  go_ret
  exact ⟨zret_bool (by rw [Bool.eq_iff_iff, zGood_iff, beq_iff_eq]; omega), rfl⟩

end Go.Proofs.Ytijpnmponjjejaa
