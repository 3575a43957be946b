/-
  Part.
-/
import Derived.Test.YtkpojhhfjddegaaGreatDoorLOAL
set_option maxRecDepth 20000
set_option maxHeartbeats 8000000
namespace Go.Proofs.YtkpojhhfjddegaaGreatDoor
open Go.RowKit
theorem WX.box{W V:World}{k c:Nat}{p:Pw}(h:WX W k p)(hd:aO W c)(hc:c<k)(hh:p.h=k)(ht:Touch (· =c) W V):WX V k p:=by
 obtain⟨f,hb,hr⟩:=h;have he:k≠c:=by omega
 refine⟨f,hb.touch ht he,hr.n,fun i hi=>?_,hr.r,fun i hi=>⟨(hr.c i hi).s,(hr.c i hi).z,(hr.c i hi).e.far ht (YE (hr.c i hi).e.1 hd).2⟩,hr.d.far ht (aF (MJ.1 hr.d.1) hd).2,hr.h,hr.hk⟩;have s:=hr.s i hi;exact⟨s.up,s.d.far ht (tH (OQ.1 s.d.1) hd).2,s.id,s.ep,s.l.far ht (aF (MJ.1 s.l.1) hd).2,s.dn,s.z,s.n.far ht (lZ s.n.1 hd).2,s.i.far ht (fun h0=>hr.h i hi h0 c (by omega)),s.w.far ht (TV s.w.1 hd).2⟩
structure A95(W:World)(k c:Nat)(p:Pw)(P:Obj->Prop)(V:World):Prop where
 x:WX V k p
 t:WZ V
 b:Touch (· =c) W V
 kl:W.heap.size<=k
 cl:c<W.heap.size
 o:∃o,V.heap[c]?=some o/\P o
section
variable {W V U:World} {k c:Nat} {p q:Pw} {P R:Obj->Prop}
theorem A95.next(h:A95 W k c p P V)(hb:B0 V U):A95 W k c p P U:=by
 obtain⟨o,h1,h2⟩:=h.o;exact⟨h.x.next hb,h.t.next hb,h.b.trans (Touch.of_below hb),h.kl,h.cl,o,(hb.block _ (Array.getElem?_eq_some_iff.1 h1).1).trans h1,h2⟩
theorem A95.turn(h:A95 W k c p P V)(ht:Touch (· =k) V U)(hx:WX U k q):A95 W k c q P U:=by
 obtain⟨o,h1,h2⟩:=h.o;have hk:=h.kl;have hc:=h.cl;exact⟨hx,dP h.t h.x ht,⟨ht.os.trans h.b.os,ht.tape.trans h.b.tape,ht.output.trans h.b.output,Nat.le_trans h.b.size ht.size,fun b hb hn=>(ht.block b (Nat.lt_of_lt_of_le hb h.b.size) (by omega)).trans (h.b.block b hb hn)⟩,hk,hc,o,(ht.block _ (Array.getElem?_eq_some_iff.1 h1).1 (by omega)).trans h1,h2⟩
theorem A95.start(hT:WZ W)(hb:B0 W V)(hc:B0 V U)(hx:WX U V.heap.size (pw0 V.heap.size))(h1:c<W.heap.size)(ho:∃o,W.heap[c]?=some o/\P o):A95 W V.heap.size c (ND (pw0 V.heap.size) []) P U:=by
 obtain⟨o,h2,h3⟩:=ho;exact⟨hx,(hT.next hb).next hc,Touch.of_below (GI hb hc),hb.size,h1,o,((GI hb hc).block _ h1).trans h2,h3⟩
theorem A95.look(h:A95 W k c p P V)(hg:¬1=c)(ht:Touch (· =c) V U)(hx:WX U k p)(ho:∃o,U.heap[c]?=some o/\R o):A95 W k c p R U:=
 ⟨hx,h.t.touch ht hg,h.b.trans ht,h.kl,h.cl,ho⟩
end
