/-
  Part.
-/
import Derived.Test.YtkpojhhfjddegaaGreatDoorLOXWdPs
import Derived.Test.YtkpojhhfjddegaaGreatDoorLOXWdSn
set_option maxRecDepth 20000
set_option maxHeartbeats 8000000
namespace Go.Proofs.YtkpojhhfjddegaaGreatDoor
open Go.RowKit Go.Proofs.Tryz
open Go.RowKit.Below renaming refl->AA
open _root_.Option renaming none->G6,some->G7
theorem D16(p:Pw)(d:Dd):(doP p d).2.h=p.h:=by
 have:=nC p [d];exact this
def a16(z:Nat->Int):Array Value:=#[.int .i64 (z 0),.int .i64 (z 1),.int .i64 (z 2),.int .i64 (z 3),.int .i64 (z 4),.int .i64 (z 5),.int .i64 (z 6),.int .i64 (z 7),.int .i64 (z 8),.int .i64 (z 9),.int .i64 (z 10),.int .i64 (z 11),.int .i64 (z 12),.int .i64 (z 13),.int .i64 (z 14),.int .i64 (z 15)]
theorem AJ6(z:Nat->Int){j:Nat}(hj:j<16):(a16 z)[j]?=G7 (.int .i64 (z j)):=by
 rcases(show j=0\/j=1\/j=2\/j=3\/j=4\/j=5\/j=6\/j=7\/j=8\/j=9\/j=10\/j=11\/j=12\/j=13\/j=14\/j=15 by omega)with rfl|rfl|rfl|rfl|rfl|rfl|rfl|rfl|rfl|rfl|rfl|rfl|rfl|rfl|rfl|rfl<;>rfl
theorem CI1(z:Nat->Int){j:Nat}(hj:j<16)(v:Int):(a16 z).setIfInBounds j (.int .i64 v)=a16 (LH z j v):=by
 rcases(show j=0\/j=1\/j=2\/j=3\/j=4\/j=5\/j=6\/j=7\/j=8\/j=9\/j=10\/j=11\/j=12\/j=13\/j=14\/j=15 by omega)with rfl|rfl|rfl|rfl|rfl|rfl|rfl|rfl|rfl|rfl|rfl|rfl|rfl|rfl|rfl|rfl<;>rfl
def BY6(p:Pw)(o:Obj):Prop:=∃z:Nat->Int,o=.cells (a16 z) 23 (0,0)/\∀j,j<16->z j=(p.c j).z
theorem BY7{V:World}{c:Nat}{z:Nat->Int}(h:V.heap[c]?=G7 (.cells (a16 z) 23 (0,0))):aO V c:=⟨_,_,h,fun j s hj=>by
 by_cases hlt:j<16
 .rw[AJ6 z hlt]at hj
  cases hj
 .have:=(Array.getElem?_eq_some_iff.1 hj).1;simp[a16]at this;omega⟩
theorem uT{V:World}{c m:Nat}{z:Nat->Int}(h:V.heap[c]?=G7 (.cells (a16 z) 23 (0,0)))(hm:m<16):V.cell? ⟨c,m,G6⟩=G7 (.int .i64 (z m))/\V.frozen? ⟨c,m,G6⟩=false:=by
 simp[World.cell?,World.frozen?,h,AJ6 z hm]
theorem BG6(x0 x1 x2:Value)(w:World):(Instr.field 39 (.agg #[x0,x1,x2]) 1).run prog w=.ok x1 w:=by kernel_rfl
def rdB(d:Dd)(E:Int):Bool:=decide (d.k=2)&&(decide (E=0)||decide (E=7))
theorem BG7(p:Pw)(d:Dd)(k c:Nat)(u:Value)(V:World)(h:QE p)(hh:p.h=k)(hx:WX V k (doP p d).2)(hck:c<k)(ho:∃o,V.heap[c]?=G7 o/\BY6 p o):Calls prog 7 #[wP k,ddV d,rpV (doP p d).1 u,.pointer (G7 ⟨c,0,G6⟩)] V fun e w'=>e=.returned (.bool true)/\Touch (· =c) V w'/\WX w' k (doP p d).2/\∃o,w'.heap[c]?=G7 o/\BY6 (doP p d).2 o:=by
 have HE:=G9 (AU6 d h);have hw:=aK d h;have hq:(doP p d).2.h=k:=(D16 p d).trans hh;obtain⟨_,ho,z,rfl,hz⟩:=ho;generalize doP p d=x at*;obtain⟨r,q⟩:=x;simp only at HE hx hw hq;have hck2:=hx.lt;have B0:=G9 (LB.start V d r u);have HX:=G9 hx;have HZ:=G9 hz;have HO:=G9 ho;have CC0:=G9 (fun W (hW:WX W k q) c (hc:c<16)=>fQ q k c W hW hc _ rfl (by have h1:=(hw.c c hc).len;have h2:=hw.n1;omega));clear hw hx h ho hz;unfold wP at CC0;unfold wP ddV rpV;go_enter func7,ntmps7;go_upto_region 1 with fail;generalize ((V.alloc _).alloc _)=W0 at*;have dr:=(G8 B0).d.row;simp only[Nat.zero_add]at dr;have d0:W0.cell? ⟨V.heap.size,0,G6⟩=G7 (.int .i64 d.k):=dr 0 _ rfl;have d1:W0.cell? ⟨V.heap.size,1,G6⟩=G7 (.int .i64 d.c):=dr 1 _ rfl;obtain⟨r0,r1,_,_,_,_,_,_,_,_,_,_⟩:=(G8 B0).r.cells;have hsz:V.heap.size+2<=W0.heap.size:=(G8 B0).r.lt;have HC0:=G9 (((G8 B0).b.block c (by omega)).trans (G8 HO));have HX0:=G9 ((G8 HX).next (G8 B0).b);have HT0:=G9 (Touch.of_below (F:=(· =c)) (G8 B0).b);clear HX;clear dr B0 HO;generalize V.heap.size=gd at*
 go_cut [8]from 9 (fun t8 wx=>t8=.bool (rdB d r.E)/\W0=wx)
 case first=>
  by_cases h2:d.k=2
  .have hb2:(d.k==2)=true:=by simp[h2]
   by_cases h0:r.E=0
   .have hb0:(r.E==0)=true:=by simp[h0]
    have hf:rdB d r.E=true:=by simp[rdB,h2,h0]
    have HF:=G9 hf;clear h2 h0 hf;go_wp2_with fail
    go_meet
    exact⟨by rw[G8 HF],rfl⟩
   .have hb0:(r.E==0)=false:=by simp[h0]
    have hf:rdB d r.E=(r.E==7):=by simp only[rdB,h2,h0,decide_true,decide_false,Bool.true_and,Bool.false_or];rfl
    have HF:=G9 hf;clear h2 h0 hf;go_wp2_with fail
    go_meet
    exact⟨by rw[G8 HF],rfl⟩
  .have hb2:(d.k==2)=false:=by simp[h2]
   have hf:rdB d r.E=false:=by simp[rdB,h2]
   have HF:=G9 hf;clear h2 hf;go_wp2_with fail
   go_meet
   exact⟨by rw[G8 HF],rfl⟩
 case rest=>
 obtain⟨rfl,rfl⟩:=hcut;generalize hr:rdB d r.E=t;go_upto_region 2 with fail
 go_cut [33]from 22 (fun t33 wx=>t33=.bool (!OM d r.E)/\W0=wx)
 case first=>
  cases t with
  |true=>
   have ht:OM d r.E=true:=by show (rdB d r.E||_)=true;rw[hr];rfl
   have HF:=G9 ht;clear hr ht;go_wp2_with fail
   go_meet
   exact⟨by rw[G8 HF];rfl,rfl⟩
  |false=>
   by_cases h1:d.k=1
   .have hb1:(d.k !=1)=false:=by simp[h1]
    have ht:(!OM d r.E)=(r.E !=0):=by
     show (!(rdB d r.E||_))=_;rw[hr];simp only[h1,decide_true,Bool.true_and,Bool.false_or];rfl
    have HF:=G9 ht;clear hr ht h1;go_wp2_with fail
    go_meet
    exact⟨by rw[G8 HF],rfl⟩
   .have hb1:(d.k !=1)=true:=by simp[h1]
    have ht:(!OM d r.E)=true:=by
     show (!(rdB d r.E||_))=_;rw[hr];simp[h1]
    have HF:=G9 ht;clear hr ht h1;go_wp2_with fail
    go_meet
    exact⟨by rw[G8 HF],rfl⟩
 case rest=>
 obtain⟨rfl,rfl⟩:=hcut
 cases ht:OM d r.E with
 |false=>
  have HZ':=G9 (fun j (hj:j<16)=>(G8 HZ j hj).trans ((G8 HE).no ht j).symm);clear ht HE HZ d0 d1 r0 r1;go_wp2_with fail;go_ret;exact⟨rfl,G8 HT0,G8 HX0,_,G8 HC0,z,rfl,G8 HZ'⟩
 |true=>
  obtain⟨e1,e2,e3,e4,e5⟩:=(G8 HE).yes ht;obtain⟨m,hm⟩:∃m:Nat,d.c=m:=⟨d.c.toNat,by omega⟩;rw[hm]at d1 e1 e2 e3 e4 e5;simp only[Int.toNat_natCast]at e3 e4 e5;have BX0:m<16:=by omega
  rw[<-G8 HZ m BX0]at e3;have HZ':Hid (∀j,j<16->LH z m r.z j=(q.c j).z):=G9 fun j hj=>by
   by_cases e:j=m
   .subst e;rw[II];exact e4.symm
   .rw[GN _ _ e,G8 HZ j hj];exact(e5 j e).symm
  generalize hrz:r.z=rz at*;have hcl0:c<W0.heap.size:=by omega
  obtain⟨c0,cf⟩:=uT (G8 HC0) BX0;have HKS:Hid (∀V,Below W0.heap.size W0 V->V.cell? ⟨gd,1,G6⟩=G7 (.int .i64 (m:Nat))/\V.cell? ⟨gd+1,1,G6⟩=G7 (.int .i64 rz)/\V.cell? ⟨c,m,G6⟩=G7 (.int .i64 (z m))):=G9 fun V hV=>⟨(hV.cell (p:=⟨gd,1,G6⟩) (by show gd<W0.heap.size;omega)).trans d1,(hV.cell (p:=⟨gd+1,1,G6⟩) (by show gd+1<W0.heap.size;omega)).trans r1,(hV.cell (p:=⟨c,m,G6⟩) hcl0).trans c0⟩;have l1:decide ((m:Int)<0)=false:=by simp
  have l2:decide ((16:Int)<=(m:Int))=false:=by simp;omega
  have l3:decide (rz<z m)=false:=by simp;omega
  have l4:(m:Int)<16:=by omega
  clear ht HE e1 e2 e3 e4 e5 d0 d1 r0 r1 hm hrz cf c0;go_upto_region 4 with fail;have hS0:=G8 HKS _ (AA W0.heap.size W0).drew;refine wp_region_held (S:=fun V:World=>V.cell? ⟨gd,1,G6⟩=G7 (.int .i64 (m:Nat))/\V.cell? ⟨gd+1,1,G6⟩=G7 (.int .i64 rz)/\V.cell? ⟨c,m,G6⟩=G7 (.int .i64 (z m))) (by kernel_rfl) ?_;change wpAnyH _ _ _ _ _ _ _ _ W0.drew;refine tkH 0 hS0 ?_;refine tkH 1 hS0 ?_;refine tkH 2 hS0 ?_;refine tkH 3 hS0 ?_;refine tkH 4 hS0 ?_;refine tkH 5 hS0 ?_;refine tkH 6 hS0 ?_;refine tkH 7 hS0 ?_;refine tkH 8 hS0 ?_;refine tkH 9 hS0 ?_;refine tkH 10 hS0 ?_;refine tkH 11 hS0 ?_;refine tkH 12 hS0 ?_;refine tkH 13 hS0 ?_;refine tkH 14 hS0 ?_;refine tkH 15 hS0 ?_;refine tkH 16 hS0 ?_;refine wpAnyH_done (by kernel_rfl) ?_ _;go_upto_region 6 with fail;obtain⟨k1,k2,k3⟩:=hS0;have HB:=G9 (AA W0.heap.size W0).drew;have HC1:=G9 (((G8 HB).block c hcl0).trans (G8 HC0));have HX1:=G9 ((G8 HX0).next (G8 HB));have HT1:=G9 ((G8 HT0).trans (Touch.of_below (F:=(· =c)) (G8 HB)));generalize W0.drew=U at*;obtain⟨_,cf⟩:=uT (G8 HC1) BX0;have hcl:c<(U.setCell ⟨c,m,G6⟩ (.int .i64 rz)).heap.size:=by simp;have:=(G8 HB).size;omega
  have T1:=JK U c m (.int .i64 rz);have XW:=G9 ((G8 HX1).box (BY7 (G8 HC1)) hck hq T1);have BK:(U.setCell ⟨c,m,G6⟩ (.int .i64 rz)).heap[c]?=G7 (.cells (a16 (LH z m rz)) 23 (0,0)):=by
   rw[<-CI1 z BX0];exact GV (j:=m) (.int .i64 rz) (G8 HC1)
  have FIN:=G9 (And.intro ((G8 HT1).trans T1) (And.intro (G8 XW) (And.intro BK (show BY6 q (.cells (a16 (LH z m rz)) 23 (0,0))from⟨_,rfl,G8 HZ'⟩))));have hne1:gd≠c:=by omega
  have hne2:gd+1≠c:=by omega
  have q1:(U.setCell ⟨c,m,G6⟩ (.int .i64 rz)).cell? ⟨gd,1,G6⟩=G7 (.int .i64 (m:Nat)):=by
   rw[World.cell?,T1.block gd (by have:=(G8 HB).size;omega) hne1];exact k1
  have q2:(U.setCell ⟨c,m,G6⟩ (.int .i64 rz)).cell? ⟨gd+1,1,G6⟩=G7 (.int .i64 rz):=by
   rw[World.cell?,T1.block (gd+1) (by have:=(G8 HB).size;omega) hne2];exact k2
  have hs2:gd+2<=(U.setCell ⟨c,m,G6⟩ (.int .i64 rz)).heap.size:=by simp;have:=(G8 HB).size;omega
  clear T1 BK HX1 HC1 HT1 HC0 HT0 HX0 HZ HZ';go_upto_region 7 with fail;generalize U.setCell ⟨c,m,G6⟩ (.int .i64 rz)=W1 at*;have HKT:Hid (∀V,Below W1.heap.size W1 V->V.cell? ⟨gd,1,G6⟩=G7 (.int .i64 (m:Nat))/\V.cell? ⟨gd+1,1,G6⟩=G7 (.int .i64 rz)):=G9 fun V hV=>⟨(hV.cell (p:=⟨gd,1,G6⟩) (by show gd<W1.heap.size;omega)).trans q1,(hV.cell (p:=⟨gd+1,1,G6⟩) (by show gd+1<W1.heap.size;omega)).trans q2⟩;have CC:=G9 (fun V (hV:Below W1.heap.size W1 V)=>G8 CC0 V ((G8 XW).next hV) m BX0);have hzq:(q.c m).z=rz:=by
   obtain⟨z',e,hz'⟩:=(G8 FIN).2.2.2;have h1:=hz' m BX0;have h2:(a16 (LH z m rz))[m]?=(a16 z')[m]? :=by
    simp only[Obj.cells.injEq]at e;rw[e.1]
   rw[AJ6 _ BX0,AJ6 _ BX0,II]at h2;simp only[Option.some.injEq,Value.int.injEq,true_and]at h2;rw[<-h1,h2]
  unfold A75 at CC;rw[hzq]at CC;have hfs:=BG6;clear q1 q2 k1 k2 k3 cf HKS l1 l2 l3 hzq CC0;have hS0:=G8 HKT _ (AA W1.heap.size W1).drew;refine wp_region_held (S:=fun V:World=>V.cell? ⟨gd,1,G6⟩=G7 (.int .i64 (m:Nat))/\V.cell? ⟨gd+1,1,G6⟩=G7 (.int .i64 rz)) (by kernel_rfl) ?_;change wpAnyH _ _ _ _ _ _ _ _ W1.drew;refine tkH 0 hS0 ?_;refine tkH 1 hS0 ?_;refine tkH 2 hS0 ?_;refine tkH 5 hS0 ?_;refine tkH 6 hS0 ?_;refine rd1 3 (fun K hK=>?_);go_simp;refine(G8 CC _ (AA _ _).drew).mono ?_;rintro e v1 ⟨a2,c2,rfl,_,hv1⟩;have HB1:=G9 (GI (AA W1.heap.size W1).drew hv1);have hS1:=G8 HKT _ (G8 HB1);clear hv1;refine nxH hK hS1 ?_;clear hK K;refine tkH 4 hS1 ?_;refine tkH 7 hS1 ?_;refine tkH 8 hS1 ?_;refine wpAnyH_done (by kernel_rfl) ?_ _;go_wp2_with fail;go_ret;exact⟨rfl,(G8 FIN).1.trans (Touch.of_below (G8 HB1)),(G8 FIN).2.1.next (G8 HB1),_,((G8 HB1).block c hcl).trans (G8 FIN).2.2.1,(G8 FIN).2.2.2⟩
theorem zV(ds:List Dd)(v:Value)(W:World)(hv:IK W v ds)(hm:∀d∈ds,d.q.p.length<=140737488355328/\d.q.d.length<=140737488355328)(hT:WZ W):Calls prog 3 #[v] W fun e w'=>e=.returned (.bool true)/\Below W.heap.size W w':=by
 have hg:=A60 hT;have C:=G9 (BG5 W.heap.size (fun k i o=>BY6 (ND (pw0 k) (ds.take i)) o) ds v (W.alloc (.cells #[.int .i64 0,.int .i64 0,.int .i64 0,.int .i64 0,.int .i64 0,.int .i64 0,.int .i64 0,.int .i64 0,.int .i64 0,.int .i64 0,.int .i64 0,.int .i64 0,.int .i64 0,.int .i64 0,.int .i64 0,.int .i64 0] 23)) (fun V hV=>by
   have hb:Below W.heap.size (W.alloc (.cells #[.int .i64 0,.int .i64 0,.int .i64 0,.int .i64 0,.int .i64 0,.int .i64 0,.int .i64 0,.int .i64 0,.int .i64 0,.int .i64 0,.int .i64 0,.int .i64 0,.int .i64 0,.int .i64 0,.int .i64 0,.int .i64 0] 23)) V:=hV.below (by simp) (fun k e=>by omega);exact hv.next ((GH W _).trans hb)) hm (hT.next (GH _ _)) (by simp) (by omega) (fun k=>⟨_,heap_alloc_new W _,fun _=>0,rfl,fun j _=>by rw[List.take_zero];rfl⟩)
  (fun k V i d u hd hx _ hck ho=>by
   have:=BG7 _ d k _ u V (U7 _ _ (PG k)) (nC _ _) hx hck ho;rwa[nD (pw0 k) hd]))
 unfold wP at C;clear hv hm hT hg;go_enter func3,ntmps3;go_wp2_with fail;refine(G8 C).mono ?_;rintro e V ⟨k,rfl,hp⟩;have HP:Hid (Below W.heap.size W V):=G9 ((GH W _).trans (hp.b.below (by simp) (fun k e=>by omega)));have hw:=U7 (ds.take 100) (pw0 k) (PG k);have hx:=hp.x;obtain⟨_,hO,z,rfl,hz⟩:=hp.o;have htk:ds.take (min ds.length 100)=ds.take 100:=by
  by_cases h:ds.length<=100
  .rw[Nat.min_eq_left h,List.take_of_length_le (Nat.le_refl _),List.take_of_length_le h]
  .rw[Nat.min_eq_right (by omega)]
 rw[htk]at hz;generalize ND (pw0 k) (ds.take 100)=q at*;have hlt:W.heap.size<V.heap.size:=(Array.getElem?_eq_some_iff.1 hO).1;have HK0:=G9 (fun V' (hV:Below V.heap.size V V') i (hi:i<16)=>(show V'.cell? ⟨W.heap.size,i,G6⟩=G7 (.int .i64 (q.c i).z)from by
  rw[<-hz i hi];exact(hV.cell (p:=⟨W.heap.size,i,G6⟩) hlt).trans (uT hO hi).1))
 have CC0:=G9 (fun W (hW:Below V.heap.size V W) c (hc:c<16)=>fQ q k c W (hx.next hW) hc _ rfl (by have h1:=(hw.c c hc).len;have h2:=hw.n1;omega));clear hp hx hw C hO hz htk;unfold wP at CC0;have hfs:=BG6;go_wp2_with fail
 go_loopg [6] 16 (fun kx s6 wr=>∃i:Nat,s6=.int .i64 i/\i<=16/\16-i<=kx/\Hid (Below V.heap.size V wr))
 case atStart=>exact⟨0,rfl,by omega,by omega,G9 (AA _ _)⟩
 case round=>
  obtain⟨i,rfl,hi,hg,B1⟩:=hrel;by_cases hi3:i<16
  .have hi4:(i:Int)<16:=by omega
   have CC:=G9 (fun W hW=>G8 CC0 W hW i hi3);unfold A75 at CC;have HKS:Hid (∀V,Below wr.heap.size wr V->V.cell? ⟨W.heap.size,i,G6⟩=G7 (.int .i64 (q.c i).z)):=G9 fun V' hV=>G8 HK0 V' (GI (G8 B1) hV) i hi3;go_upto_region 8 with fail;have hS0:=G8 HKS _ (AA wr.heap.size wr).drew;refine wp_region_held (S:=fun V:World=>V.cell? ⟨W.heap.size,i,G6⟩=G7 (.int .i64 (q.c i).z)) (by kernel_rfl) ?_;change wpAnyH _ _ _ _ _ _ _ _ wr.drew;refine tkH 0 hS0 ?_;refine tkH 1 hS0 ?_;refine tkH 4 hS0 ?_;refine tkH 5 hS0 ?_;refine tkH 6 hS0 ?_;refine rd1 2 (fun K hK=>?_);go_simp;refine(G8 CC _ (GI (G8 B1) (AA _ _).drew)).mono ?_;rintro e v1 ⟨a2,c2,rfl,_,hv1⟩;have HB1:=G9 (GI (AA wr.heap.size wr).drew hv1);have hS1:=G8 HKS _ (G8 HB1);clear hv1;refine nxH hK hS1 ?_;clear hK K;refine tkH 3 hS1 ?_;refine tkH 7 hS1 ?_;refine wpAnyH_done (by kernel_rfl) ?_ _;go_wp2_with fail
   go_roundg (16-(i+1))
   case measure=>omega
   case rel=>exact⟨i+1,by simp,by omega,Nat.le_refl _,G9 (GI (G8 B1) (G8 HB1))⟩
  .obtain rfl:i=16:=by omega
   go_wp2_with fail;go_ret;exact⟨rfl,GI (G8 HP) (G8 B1)⟩
