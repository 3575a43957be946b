/-
  Part.
-/
import Derived.Test.YtkpojhhfjddegaaGreatDoorLOXWdAa
import Derived.Test.YtkpojhhfjddegaaGreatDoorLOXWdSs
set_option maxRecDepth 20000
set_option maxHeartbeats 8000000
namespace Go.Proofs.YtkpojhhfjddegaaGreatDoor
open Go.RowKit
open Go.Obj renaming cells->FW
open _root_.Option renaming none->G6,some->G7
variable{p:Pw}
theorem JM.yT{α:Type}[Lay α]{W V:World}{b:Nat}{x:α}(h:JM W b x)(hb:B0 W V):JM V b x:=h.VI hb h.ltz
structure Snp(W:World)(B g:Nat)(p:Pw):Prop where
 ex:∃c1 c2,W.heap[g]?=G7 (FW c1 56 (0,0))/\W.heap[g+1]?=G7 (FW c2 57 (0,0))/\BH2 B W p c1 c2
section
variable {W V w:World} {B g k i:Nat} {p q:Pw} {c1 c2:Array Value}
theorem Snp.lt(h:Snp W B g p):g+1<W.heap.size:=by
 obtain⟨_,_,_,h,_⟩:=h.ex;exact(Array.getElem?_eq_some_iff.1 h).1
theorem Snp.next(h:Snp W B g p)(hb:B0 W V):Snp V B g p:=by
 have hl:=h.lt;obtain⟨c1,c2,h1,h2,h3⟩:=h.ex;exact⟨c1,c2,(hb.block _ (by omega)).trans h1,(hb.block _ hl).trans h2,h3.next hb⟩
theorem Snp.touch(h:Snp W B g p)(ht:Touch (· =k) W V)(hk:k<B)(hg:k<g):Snp V B g p:=by
 have hl:=h.lt;obtain⟨c1,c2,h1,h2,h3⟩:=h.ex;exact⟨c1,c2,(ht.block _ (by omega) (by omega)).trans h1,(ht.block _ hl (by omega)).trans h2,h3.touch ht hk⟩
theorem Snp.same(h:Snp W B g p)(hs:q.s=p.s)(hc:q.c=p.c):Snp W B g q:=by
 obtain⟨c1,c2,h1,h2,h3⟩:=h.ex;exact⟨c1,c2,h1,h2,h3.n1,h3.n2,h3.o1,h3.o2,by rw[hs];exact h3.s,by rw[hc];exact h3.c⟩
theorem BB0(w:World):((w.alloc (FW SH 56)).alloc (FW UQ 57)).heap[w.heap.size]?=G7 (FW SH 56 (0,0)):=((GH _ _).block _ (by simp)).trans (heap_alloc_new w _)
theorem CP9(w:World)(c1:Array Value):(((w.alloc (FW SH 56)).alloc (FW UQ 57)).setRow w.heap.size c1).heap[w.heap.size+1]?=G7 (FW UQ 57 (0,0)):=by
 rw[setRow_other _ _ _ _ (by omega)];have:=heap_alloc_new (w.alloc (FW SH 56)) (FW UQ 57);rwa[show (w.alloc (FW SH 56)).heap.size=w.heap.size+1 by simp]at this
theorem BU0(w:World)(c1:Array Value):(((w.alloc (FW SH 56)).alloc (FW UQ 57)).setRow w.heap.size c1).heap[(w.alloc (FW SH 56)).heap.size]?=G7 (FW UQ 57 (0,0)):=by
 rw[show (w.alloc (FW SH 56)).heap.size=w.heap.size+1 by simp];exact CP9 w c1
theorem jI(h:BH2 B w p c1 c2):Snp ((((w.alloc (FW SH 56)).alloc (FW UQ 57)).setRow w.heap.size c1).setRow (w.heap.size+1) c2) B w.heap.size p/\B0 w ((((w.alloc (FW SH 56)).alloc (FW UQ 57)).setRow w.heap.size c1).setRow (w.heap.size+1) c2):=by
 have hb:=below_setRow (below_setRow (GI (GH w (FW SH 56)) (GH _ (FW UQ 57))) (Nat.le_refl _) c1) (Nat.le_succ w.heap.size) c2;exact⟨⟨c1,c2,(setRow_other _ _ _ _ (by omega)).trans (setRow_heap _ _ _ _ _ _ (BB0 w)),setRow_heap _ _ _ _ _ _ (CP9 w c1),h.next hb⟩,hb⟩
theorem Snp.srv(h:Snp W B g p)(hi:i<3){s:Sv}(hs:svP i (p.s i)=s):∃vd vl vn vs vw,SvV W (.agg #[.bool s.up,vd,I0 s.id,I0 s.ep,vl,I0 s.dn,I0 s.tr.z,vn,vs,vw]) s/\∀V,B0 W V->
  V.cell? ⟨g,i*10,G6⟩=G7 (.bool s.up)/\V.cell? ⟨g,i*10+1,G6⟩=G7 vd/\V.cell? ⟨g,i*10+2,G6⟩=G7 (I0 s.id)/\V.cell? ⟨g,i*10+3,G6⟩=G7 (I0 s.ep)/\V.cell? ⟨g,i*10+4,G6⟩=G7 vl/\V.cell? ⟨g,i*10+5,G6⟩=G7 (I0 s.dn)/\V.cell? ⟨g,i*10+6,G6⟩=G7 (I0 s.tr.z)/\V.cell? ⟨g,i*10+7,G6⟩=G7 vn/\V.cell? ⟨g,i*10+8,G6⟩=G7 vs/\V.cell? ⟨g,i*10+9,G6⟩=G7 vw:=by
 have hl:=h.lt;obtain⟨c1,c2,h1,_,h3⟩:=h.ex;have hS:=h3.s i hi;rw[hs]at hS;obtain⟨ad,cd,al,cl,an,cn,ai,ci,aw,cw,⟨x0,x1,x2,x3,x4,x5,x6,x7,x8,x9⟩,r0,r1,r2,r3,r4⟩:=hS;refine⟨_,_,_,_,_,⟨_,_,_,_,_,rfl,OQ.1 r0.seq,MJ.1 r1.seq,r2.seq,r3.seq,r4.seq⟩,fun V hV=>?_⟩;have e:∀j,V.cell? ⟨g,j,G6⟩=c1[j]? :=fun j=>cell_of_row _ _ j c1 _ (0,0) ((hV.block _ (by omega)).trans h1);exact⟨(e _).trans x0,(e _).trans x1,(e _).trans x2,(e _).trans x3,(e _).trans x4,(e _).trans x5,(e _).trans x6,(e _).trans x7,(e _).trans x8,(e _).trans x9⟩
theorem Snp.cl(h:Snp W B g p)(hi:i<16){x:Cl}(hx:p.c i=x):∃v,IK W v x.es/\∀V,B0 W V->
  V.cell? ⟨g+1,i*3,G6⟩=G7 (I0 x.s)/\V.cell? ⟨g+1,i*3+1,G6⟩=G7 (I0 x.z)/\V.cell? ⟨g+1,i*3+2,G6⟩=G7 v:=by
 have hl:=h.lt;obtain⟨c1,c2,_,h2,h3⟩:=h.ex;have hC:=h3.c i hi;rw[hx]at hC;obtain⟨a,n,⟨x0,x1,x2⟩,r0⟩:=hC;refine⟨_,r0.seq,fun V hV=>?_⟩;have e:∀j,V.cell? ⟨g+1,j,G6⟩=c2[j]? :=fun j=>cell_of_row _ _ j c2 _ (0,0) ((hV.block _ hl).trans h2);exact⟨(e _).trans x0,(e _).trans x1,(e _).trans x2⟩
end
theorem CQ0(h:QE p):∀i,i<3->CW7 (svP i (p.s i)):=fun i hi=>((h.s i hi).more h.n1).few
theorem CQ1(h:QE p):∀i,i<16->(p.c i).es.length<=400:=fun i hi=>by have h1:=(h.c i hi).len;have h2:=h.n1;omega
theorem CQ2(h:QE p):p.D.length<=300:=by have h1:=h.few;have h2:=h.n1;omega
