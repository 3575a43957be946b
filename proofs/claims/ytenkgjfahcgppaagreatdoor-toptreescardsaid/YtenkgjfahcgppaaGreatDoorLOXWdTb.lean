/-
  Part.
-/
import Derived.Test.YtenkgjfahcgppaaGreatDoorLOU
set_option maxRecDepth 20000
set_option maxHeartbeats 8000000
namespace Go.Proofs.YtenkgjfahcgppaaGreatDoor
open Go.RowKit
structure TBx(w W:World)(g:Nat)(t:Tr)(vn vs:Value):Prop where
 b:W.heap[g]?=some (.cells #[I0 t.z,vn,vs] 40 (0,0))
 n:BD W w.heap.size vn t.ns
 s:BD W w.heap.size vs t.ss
 ge:w.heap.size<=g
 bl:B0 w W
section
variable {w W V:World} {g:Nat} {t u:Tr} {vn vs un us:Value}
theorem TBx.lt(h:TBx w W g t vn vs):g<W.heap.size:=(Array.getElem?_eq_some_iff.1 h.b).1
theorem TBx.next(h:TBx w W g t vn vs)(hb:B0 W V):TBx w V g t vn vs:=⟨(hb.block g h.lt).trans h.b,h.n.next hb,h.s.next hb,h.ge,AL h.bl hb⟩
theorem TBx.cells(h:TBx w W g t vn vs):W.cell? ⟨g,0,none⟩=some (I0 t.z)/\W.cell? ⟨g,1,none⟩=some vn/\W.cell? ⟨g,2,none⟩=some vs/\W.frozen? ⟨g,0,none⟩=false/\W.frozen? ⟨g,1,none⟩=false/\W.frozen? ⟨g,2,none⟩=false:=by
 have h:=h.b;unfold World.cell? World.frozen?;simp only[h];exact⟨rfl,rfl,rfl,rfl,rfl,rfl⟩
theorem TBx.put(h:TBx w W g t vn vs)(hn:BD W w.heap.size un u.ns)(hs:BD W w.heap.size us u.ss):TBx w (((W.setCell ⟨g,0,none⟩ (I0 u.z)).setCell ⟨g,1,none⟩ un).setCell ⟨g,2,none⟩ us) g u un us:=by
 have k1:=PU hn h.b (by decide);have k2:=PU hs h.b (by decide);refine⟨?_,((hn.other k1 _).other k1 _).other k1 _,((hs.other k2 _).other k2 _).other k2 _,h.ge,((h.bl.setCell h.ge _).setCell h.ge _).setCell h.ge _⟩;rw[AV us (AV un (AV (I0 u.z) h.b))];simp
end
theorem BO6{α:Type}[Lay α]{W:World}{B:Nat}{a:Option Addr}{n c:Nat}{xs:List α}(h:BD W B (.slice a n c) xs):xs.length<=c:=by
 rcases h.seq with⟨a',cap,e,rfl,_⟩|⟨b,off,cap,e,h1,_⟩
 .exact Nat.zero_le _
 .simp only[Value.slice.injEq]at e;rw[e.2.2];exact h1
