/-
  Part.
-/
import Derived.Test.YtkpojhhfjddegaaGreatDoorLON
import Derived.Lib.ConvBytes
import Derived.Laws.EntriesVeiled
set_option maxRecDepth 20000
set_option maxHeartbeats 8000000
namespace Go.Proofs.YtkpojhhfjddegaaGreatDoor
open Go.RowKit
structure TT(w W:World)(z:Int)(vn vs un us:Value):Prop where
 a:W.heap[w.heap.size]?=some (.cells #[I0 z,vn,vs] 52 (0,0))
 b:W.heap[w.heap.size+1]?=some (.cells #[I0 z,un,us] 52 (0,0))
 bl:B0 w W
theorem TT.new(w:World)(z:Int)(vn vs un us:Value):TT w ((w.alloc (.cells #[I0 z,vn,vs] 52)).alloc (.cells #[I0 z,un,us] 52)) z vn vs un us:=by
 refine⟨?_,?_,GI (GH _ _) (GH _ _)⟩
 .rw[(GH _ _).block _ (by simp)];exact heap_alloc_new w _
 .have h:=heap_alloc_new (w.alloc (.cells #[I0 z,vn,vs] 52)) (.cells #[I0 z,un,us] 52);rw[show (w.alloc (.cells #[I0 z,vn,vs] 52)).heap.size=w.heap.size+1 by simp]at h;exact h
theorem TT.next{w W V:World}{z:Int}{vn vs un us:Value}(h:TT w W z vn vs un us)(hb:B0 W V):TT w V z vn vs un us:=
 ⟨(hb.block _ (Array.getElem?_eq_some_iff.1 h.a).1).trans h.a,(hb.block _ (Array.getElem?_eq_some_iff.1 h.b).1).trans h.b,GI h.bl hb⟩
theorem TT.six{w W:World}{z:Int}{vn vs un us:Value}(h:TT w W z vn vs un us):W.cell? ⟨w.heap.size,0,none⟩=some (I0 z)/\W.cell? ⟨w.heap.size,1,none⟩=some vn/\W.cell? ⟨w.heap.size,2,none⟩=some vs/\W.cell? ⟨w.heap.size+1,0,none⟩=some (I0 z)/\W.cell? ⟨w.heap.size+1,1,none⟩=some un/\W.cell? ⟨w.heap.size+1,2,none⟩=some us:=by
 have h1:=h.a;have h2:=h.b;refine⟨?_,?_,?_,?_,?_,?_⟩<;>simp[World.cell?,h1,h2]
theorem B57(t:Tr)(x:GU):(kC t x).ns.length<=140737488355328/\(kC t x).ss.length<=140737488355328/\(ZE t x).length<=140737488355328:=by
 by_cases h:Z7 t x=0
 .obtain⟨g2,_,_⟩:=bG h;obtain⟨ha,_⟩:=rG h;obtain⟨g,_,_⟩:=QT ha;have few:=g.nod.few;refine⟨by have:=g2.nod.few;omega,by have:=UF g2.ses;omega,?_⟩;rw[ZE,if_pos h,rF]
  split
  .rw[AB1];have:(OY t.ns x.s).length<=t.ns.length:=by
    rw[OY,List.length_map];exact List.length_filter_le _ _
   omega
  .split
   .simp
   .split
    .simp
    .split<;>simp
 .rw[kC,if_neg h,ZE,if_neg h];exact⟨by decide,by decide,by decide⟩
