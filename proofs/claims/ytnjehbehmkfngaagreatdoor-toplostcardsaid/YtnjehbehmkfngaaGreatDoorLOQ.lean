/-
  Part.
-/
import Derived.Test.YtnjehbehmkfngaaGreatDoorLOP
set_option maxRecDepth 20000
set_option maxHeartbeats 8000000
namespace Go.Proofs.YtnjehbehmkfngaaGreatDoor
open Go.RowKit Go.Proofs.Tryz
variable{t:Tr}{n u:Nd}{z E:Int}{g:Nat}{x:AQ}{e:Ending}{w' W:World}
structure Rq where
 o:Int
 s:Int
 p:List UInt8
 d:List UInt8
 v:Int
 f:Int
def rqV(r:Rq):Value:=.agg #[I0 r.o,I0 r.s,S0 r.p,S0 r.d,I0 r.v,I0 r.f]
def A76(l:List UInt8)(n:Int):List UInt8:=if iM l n=0 then l++ten n.toNat else []
theorem AL2(l:List UInt8)(n:Int):BJ8 l n=⟨(A76 l n).toArray⟩:=by
 by_cases h:iM l n=0
 ·rw[(AK7 h).2.2.2,A76,if_pos h]
 ·rw[BO1 h,A76,if_neg h]
theorem B47(l:List UInt8)(n:Int):(A76 l n).length≤40:=by
 by_cases h:iM l n=0
 ·obtain⟨_,_,hn,_⟩:=AK7 h;rw[A76,if_pos h];simp only[DY,Bool.and_eq_true,decide_eq_true_eq]at hn;exact hn.1.2
 ·rw[A76,if_neg h];simp
def zC(t:Tr)(r:Rq):Int:=if DN r.p=true then(if r.s∈t.ss then(match GV t.ns r.p with
 |none=>7
 |some n=>if r.v=-1∨r.v=n.v then 0 else 9)else 12)else 2
def CD1(t:Tr)(r:Rq):Int:=match GV t.ns r.p with
 |none=>0
 |some n=>n.v
def BO2(t:Tr)(z:Int)(r:Rq):AQ:=⟨z,r.o,r.s,r.p,if r.o=5 then r.d else [],if r.o=5 then CD1 t r+1 else 0,0⟩
theorem B48{r:Rq}(h:DN r.p=false):zC t r=2:=by rw[zC,if_neg (by simp[h])]
theorem B49{r:Rq}(h:DN r.p=true)(hs:r.s∉t.ss):zC t r=12:=by rw[zC,if_pos h,if_neg hs]
theorem B50{r:Rq}(h:DN r.p=true)(hs:r.s∈t.ss)(hn:GV t.ns r.p=none):zC t r=7:=by rw[zC,if_pos h,if_pos hs,hn]
theorem zF{r:Rq}(h:DN r.p=true)(hs:r.s∈t.ss)(hn:GV t.ns r.p=some n):zC t r=if r.v=-1∨r.v=n.v then 0 else 9:=by rw[zC,if_pos h,if_pos hs,hn]
theorem B51{r:Rq}(hn:GV t.ns r.p=some n):CD1 t r=n.v:=by rw[CD1,hn]
def cvN(t:Tr)(r:Rq):Int:=match GV t.ns (BO r.p)with
 |none=>0
 |some u=>u.k
def AG5(t:Tr)(r:Rq):Int:=match GV t.ns (BO r.p)with
 |none=>7
 |some u=>if iM (JC r.p) u.k=0 then YE (BO r.p) (A76 (JC r.p) u.k)else iM (JC r.p) u.k
def CD2(t:Tr)(r:Rq):List UInt8:=gB (BO r.p) (A76 (JC r.p) (cvN t r))
def zG(t:Tr)(r:Rq):Int:=if 0≤r.f∧r.f≤3 then(if DN r.p=true∧r.p≠[47]then(if r.s∈t.ss then(if 2≤r.f then AG5 t r else 0)else 12)else 2)else 3
def CD3(t:Tr)(z:Int)(r:Rq):AQ:=⟨z,r.o,r.s,if 2≤r.f then CD2 t r else r.p,r.d,0,if r.f%2=1 then r.s else 0⟩
theorem B52{r:Rq}(h:GV t.ns (BO r.p)=none):AG5 t r=7:=by rw[AG5,h]
theorem BO3{r:Rq}(h:GV t.ns (BO r.p)=some u)(h0:iM (JC r.p) u.k≠0):AG5 t r=iM (JC r.p) u.k:=by rw[AG5,h];simp only;rw[if_neg h0]
theorem B53{r:Rq}(h:GV t.ns (BO r.p)=some u)(h0:iM (JC r.p) u.k=0):AG5 t r=YE (BO r.p) (A76 (JC r.p) u.k):=by rw[AG5,h];simp only;rw[if_pos h0]
theorem BO4{r:Rq}(h:GV t.ns (BO r.p)=some u):cvN t r=u.k:=by rw[cvN,h]
theorem AL3{r:Rq}(h:¬ (0≤r.f∧r.f≤3)):zG t r=3:=by rw[zG,if_neg h]
theorem zH{r:Rq}(h:0≤r.f∧r.f≤3)(hp:¬ (DN r.p=true∧r.p≠[47])):zG t r=2:=by rw[zG,if_pos h,if_neg hp]
theorem B54{r:Rq}(h:0≤r.f∧r.f≤3)(hp:DN r.p=true∧r.p≠[47])(hs:r.s∉t.ss):zG t r=12:=by rw[zG,if_pos h,if_pos hp,if_neg hs]
theorem oL{r:Rq}(h:0≤r.f∧r.f≤3)(hp:DN r.p=true∧r.p≠[47])(hs:r.s∈t.ss)(hf:r.f<2):zG t r=0:=by rw[zG,if_pos h,if_pos hp,if_pos hs,if_neg (by omega)]
theorem kM{r:Rq}(h:0≤r.f∧r.f≤3)(hp:DN r.p=true∧r.p≠[47])(hs:r.s∈t.ss)(hf:2≤r.f):zG t r=AG5 t r:=by rw[zG,if_pos h,if_pos hp,if_pos hs,if_pos hf]
def fU(t:Tr)(r:Rq):Int:=if r.o=1∨r.o=2 then 0 else if r.o=3 then zG t r else if r.o=4∨r.o=5 then zC t r else 4
def YF(t:Tr)(z:Int)(r:Rq):AQ:=if r.o=3 then CD3 t z r else if r.o=4∨r.o=5 then BO2 t z r else⟨z,r.o,r.s,[],[],0,0⟩
theorem AL4{r:Rq}(h:r.o=1∨r.o=2):fU t r=0∧YF t z r=⟨z,r.o,r.s,[],[],0,0⟩:=by
 refine⟨by rw[fU,if_pos h],?_⟩;rw[YF,if_neg (by omega),if_neg (by omega)]
theorem BO5{r:Rq}(h:r.o=3):fU t r=zG t r∧YF t z r=CD3 t z r:=by
 refine⟨by rw[fU,if_neg (by omega),if_pos h],by rw[YF,if_pos h]⟩
theorem BO6{r:Rq}(h:r.o=4∨r.o=5):fU t r=zC t r∧YF t z r=BO2 t z r:=by
 refine⟨by rw[fU,if_neg (by omega),if_neg (by omega),if_pos h],by rw[YF,if_neg (by omega),if_pos h]⟩
theorem B55{r:Rq}(h:r.o<1∨5<r.o):fU t r=4:=by
 rw[fU,if_neg (by omega),if_neg (by omega),if_neg (by omega)]
noncomputable def YG(t:Tr)(z:Int)(r:Rq):Bool:=PI t&&FQ z&&decide (1≤r.s)&&decide (r.s≤2147483647)
noncomputable def ZM(t:Tr)(z:Int)(r:Rq):Int:=if YG t z r=true then(if fU t r=0 then UN t (YF t z r)else fU t r)else 3
noncomputable def AG6(t:Tr)(z:Int)(r:Rq):AQ:=if ZM t z r=0 then YF t z r else t0
theorem iO{r:Rq}:YG t z r=true↔MZ t∧FQ z=true∧1≤r.s∧r.s≤2147483647:=by
 simp only[YG,Bool.and_eq_true,decide_eq_true_eq,NQ,and_assoc]
theorem WR{r:Rq}(h:YG t z r=false):ZM t z r=3:=by rw[ZM,if_neg (by simp[h])]
theorem zI{r:Rq}(h:YG t z r=true)(hf:fU t r≠0):ZM t z r=fU t r:=by rw[ZM,if_pos h,if_neg hf]
theorem uJ{r:Rq}(h:YG t z r=true)(hf:fU t r=0):ZM t z r=UN t (YF t z r):=by rw[ZM,if_pos h,if_pos hf]
theorem BO7{r:Rq}(h:ZM t z r≠0):AG6 t z r=t0:=by rw[AG6,if_neg h]
theorem uK{r:Rq}(h:ZM t z r=0):AG6 t z r=YF t z r:=by rw[AG6,if_pos h]
theorem B56{r:Rq}(h:ZM t z r=0):YG t z r=true∧fU t r=0∧UN t (YF t z r)=0:=by
 cases hh:YG t z r with
 |false=>rw[WR hh]at h;exact absurd h (by decide)
 |true=>
  by_cases hf:fU t r=0
  ·exact⟨rfl,hf,by rw[←uJ hh hf];exact h⟩
  ·rw[zI hh hf]at h;exact absurd h hf
theorem A77(t:Tr)(z:Int)(r:Rq):(YF t z r).z=z∧(YF t z r).o=r.o∧(YF t z r).s=r.s∧((YF t z r).w=0∨(YF t z r).w=r.s):=by
 unfold YF
 split
 ·refine⟨rfl,rfl,rfl,?_⟩;simp only[CD3]
  split
  ·exact .inr rfl
  ·exact .inl rfl
 ·split
  ·exact⟨rfl,rfl,rfl,.inl rfl⟩
  ·exact⟨rfl,rfl,rfl,.inl rfl⟩
theorem C29(t:Tr)(z:Int)(r:Rq):(YF t z r).d.length≤r.d.length:=by
 unfold YF
 split
 ·exact Nat.le_refl _
 ·split
  ·simp only[BO2]
   split
   ·exact Nat.le_refl _
   ·simp
  ·simp
structure FitP(t:Tr)(z:Int)(r:Rq)(x:AQ):Prop where
 app:UN t x=0
 az:(bI t x).z=z
 z:x.z=z
 o:x.o=r.o
 s:x.s=r.s
 gd:gdE x=0
 w:x.w=0∨x.w=r.s
theorem A78{r:Rq}(h:ZM t z r=0):FitP t z r (AG6 t z r):=by
 obtain⟨_,_,ha⟩:=B56 h;rw[uK h];obtain⟨e1,e2,e3,e4⟩:=A77 t z r;exact⟨ha,(WO ha).2.1.trans e1,e1,e2,e3,(LV (kL ha).1).2.1,e4⟩
theorem MZ.pwf(g:MZ t):WfT t:=by
 refine⟨fun s hs=>by have:=g.ses.2 s hs;omega,fun n hn=>?_⟩;have k:=g.nod.ok n hn;exact⟨by have:=IL k.path;omega,by have:=k.data;omega⟩
def jS(t:Tr)(p:List UInt8):Nd:=(GV t.ns p).getD RP
def A43(t:Tr)(p:List UInt8):Int:=if(GV t.ns p).isSome=true then 0 else 7
theorem aK{p:List UInt8}(h:GV t.ns p=some n):jS t p=n∧A43 t p=0:=by
 rw[jS,A43,h];exact⟨rfl,rfl⟩
theorem aO{p:List UInt8}(h:GV t.ns p=none):jS t p=RP∧A43 t p=7:=by
 rw[jS,A43,h];exact⟨rfl,rfl⟩
theorem aP(t:Tr)(vn vs:Value)(p:List UInt8)(w:World)(g:MZ t)(hn:BZ w vn t.ns):
  Calls prog 41 #[.agg #[I0 t.z,vn,vs],S0 p] w (R0 w (.tuple #[OX (jS t p),I0 (A43 t p)])):=by
 have few:=g.nod.few;rcases UR p t.ns g.nod.asc with⟨A,n,B,T⟩|⟨A,B,G⟩
 ·have hm:n∈t.ns:=by rw[T.eq];simp
  have sl:=g.pwf.C49 n hm;rw[(aK T.look).1,(aK T.look).2];exact AB4 t.z vn vs t.ns A B n p w hn (by omega) T sl.1 sl.2
 ·rw[(aO G.look).1,(aO G.look).2];exact BA0 t.z vn vs t.ns A B p w hn (by omega) G
structure TR(W:World)(q:Nat)(z:Int)(vn vs:Value)(r:Rq):Prop where
 t:W.heap[q]?=some (.cells #[I0 z,vn,vs] 55 (0,0))
 r:W.heap[q+1]?=some (.cells #[I0 r.o,I0 r.s,S0 r.p,S0 r.d,I0 r.v,I0 r.f] 27 (0,0))
section
variable {W V:World} {q:Nat} {z:Int} {vn vs:Value} {r:Rq}
theorem TR.lt(h:TR W q z vn vs r):q+1<W.heap.size:=(Array.getElem?_eq_some_iff.1 h.r).1
theorem TR.next(h:TR W q z vn vs r)(hb:B0 W V):TR V q z vn vs r:=⟨(hb.block _ (by have:=h.lt;omega)).trans h.t,(hb.block _ h.lt).trans h.r⟩
theorem TR.other(h:TR W q z vn vs r){a:Addr}(v:Value)(h1:a.block<q∨q+1<a.block):TR (W.setCell a v) q z vn vs r:=
 ⟨(Below.heap_setCell W a v q (by omega)).trans h.t,(Below.heap_setCell W a v (q+1) (by omega)).trans h.r⟩
theorem TR.nine(h:TR W q z vn vs r):W.cell? ⟨q,0,none⟩=some (I0 z)∧W.cell? ⟨q,1,none⟩=some vn∧W.cell? ⟨q,2,none⟩=some vs∧W.cell? ⟨q+1,0,none⟩=some (I0 r.o)∧W.cell? ⟨q+1,1,none⟩=some (I0 r.s)∧W.cell? ⟨q+1,2,none⟩=some (S0 r.p)∧W.cell? ⟨q+1,3,none⟩=some (S0 r.d)∧W.cell? ⟨q+1,4,none⟩=some (I0 r.v)∧W.cell? ⟨q+1,5,none⟩=some (I0 r.f):=by
 have h1:=h.t;have h2:=h.r;refine⟨?_,?_,?_,?_,?_,?_,?_,?_,?_⟩<;>simp[World.cell?,h1,h2]
end
theorem TR.new(w:World)(z:Int)(vn vs:Value)(r:Rq):TR ((w.alloc (.cells #[I0 z,vn,vs] 55)).alloc (.cells #[I0 r.o,I0 r.s,S0 r.p,S0 r.d,I0 r.v,I0 r.f] 27)) w.heap.size z vn vs r:=by
 refine⟨?_,?_⟩
 ·rw[(AB _ _).block _ (by simp)];exact heap_alloc_new w _
 ·have h:=heap_alloc_new (w.alloc (.cells #[I0 z,vn,vs] 55)) (.cells #[I0 r.o,I0 r.s,S0 r.p,S0 r.d,I0 r.v,I0 r.f] 27);rw[show (w.alloc (.cells #[I0 z,vn,vs] 55)).heap.size=w.heap.size+1 by simp]at h;exact h
def YV(u:World)(g:Nat)(E:Int)(x:AQ)(e:Ending)(w':World):Prop:=
 e=.returned (I0 E)∧B0 u w'∧(E=0→TAt w' g x)
theorem IE{u:World}{E':Int}(hE:E=E')(h0:E'≠0)(he:e=.returned (I0 E'))(hb:B0 u w'):YV u g E x e w':=
 ⟨by rw[hE];exact he,hb,fun h=>absurd (hE.symm.trans h) h0⟩
theorem U0{u:World}(hE:E=0)(he:e=.returned (I0 0))(hb:B0 u w')(hx:TAt w' g x):YV u g E x e w':=
 ⟨by rw[hE];exact he,hb,fun _=>hx⟩
theorem AE5{a:Addr}{v x:Value}{k j:Nat}(h:W.cell? ⟨k,j,none⟩=some x)(hk:k≠a.block):(W.setCell a v).cell? ⟨k,j,none⟩=some x:=by
 have e:=Below.heap_setCell W a v k hk;unfold World.cell? at h⊢;simp only at h⊢;rw[e];exact h
theorem TAt.p(h:TAt W g x)(l:List UInt8):TAt (W.setCell ⟨g,3,none⟩ (S0 l)) g {x with p:=l}:=by
 unfold TAt at*;rw[AV _ h];simp
theorem TAt.d(h:TAt W g x)(l:List UInt8):TAt (W.setCell ⟨g,4,none⟩ (S0 l)) g {x with d:=l}:=by
 unfold TAt at*;rw[AV _ h];simp
theorem TAt.v(h:TAt W g x)(l:Int):TAt (W.setCell ⟨g,5,none⟩ (I0 l)) g {x with v:=l}:=by
 unfold TAt at*;rw[AV _ h];simp
theorem TAt.w(h:TAt W g x)(l:Int):TAt (W.setCell ⟨g,6,none⟩ (I0 l)) g {x with w:=l}:=by
 unfold TAt at*;rw[AV _ h];simp
theorem xP(t:Tr)(z:Int)(vn vs:Value)(r:Rq)(g:Nat)(u w:World)(gt:MZ t)(hn:BZ u vn t.ns)(hs:BZ u vs t.ss)(hb:B0 u w)(hg:u.heap.size≤g)(hx:TAt w g ⟨z,r.o,r.s,[],[],0,0⟩)(ho:r.o=4∨r.o=5)(hp:r.p.length≤140737488355328)(hd:r.d.length≤140737488355328):
  Calls prog 155 #[P0 g,.agg #[I0 t.z,vn,vs],rqV r] w (YV u g (zC t r) (BO2 t z r)):=by
 have CG:=AA (fun W (hW:B0 u W)=>aP t vn vs r.p W gt (hn.next hW));have CO:=AA (fun W (hW:B0 u W)=>XB t.z vn vs t.ss r.s W (hs.next hW) gt.ses);have CP:=AA (fun W=>GZ ⟨r.p.toArray⟩ W);have CL:=AA (fun W=>JA r.p W (by omega));have CD:=AA (fun W=>JA r.d W (by omega));obtain⟨na,nc,rfl⟩:=AU hn;obtain⟨sa,sc,rfl⟩:=AU hs;unfold OX at CG;obtain⟨ro,rs,rp,rd,rv,rf⟩:=r;unfold rqV;simp only at*;have X0:=AA hx;have B0:=AA hb;have hgl:=hx.lt;have R0:=AA (TR.new w t.z (.slice na t.ns.length nc) (.slice sa t.ss.length sc) ⟨ro,rs,rp,rd,rv,rf⟩);clear hn hs hb hx;go_enter func155,ntmps155;go_wp2_with fail;refine(A8 CG _ (AL (AL (A8 B0) (AB _ _)) (AB _ _))).mono ?_;rintro e w1 ⟨rfl,hb1⟩;have R1:=AA ((A8 R0).next hb1);have B1:=AA (AL (A8 B0) (AY (AY hb1)));have X1:=AA ((A8 X0).next (AY (AY hb1)));clear hb1 R0 B0 X0 CG;obtain⟨N,hN⟩:∃N,jS t rp=N:=⟨_,rfl⟩;obtain⟨E,hE⟩:∃E,A43 t rp=E:=⟨_,rfl⟩;rw[hN,hE];have HN:=AA hN;have HE:=AA hE;clear hN hE;obtain⟨np,nd,nc,nm,nq,nv,nk,no,nn⟩:=N;simp only;have R2:=AA ((A8 R1).next (AB w1 (.cells #[S0 np,S0 nd,I0 nc,I0 nm,I0 nq,I0 nv,I0 nk,I0 no,I0 nn] 95)));obtain⟨a0,a1,a2,a3,a4,a5,a6,a7,a8⟩:=(A8 R2).nine;simp only at a0 a1 a2 a3 a4 a5 a6 a7 a8;go_wp2_with fail;refine(A8 CP _).mono ?_;rintro e w2 ⟨rfl,hb2⟩;have R3:=AA ((A8 R2).next hb2);have B3:=AA (AL (A8 B1) (AY hb2));have X3:=AA ((A8 X1).next (AY hb2));have D3:w2.cell? ⟨w1.heap.size,5,none⟩=some (I0 nv):=by rw[hb2.cell (p:=⟨w1.heap.size,5,none⟩) (by simp)];simp
 obtain⟨b0,b1,b2,b3,b4,b5,b6,b7,b8⟩:=(A8 R3).nine;simp only at b0 b1 b2 b3 b4 b5 b6 b7 b8;have hg1:=(A8 X1).lt;clear a0 a1 a2 a3 a4 a5 a6 a7 a8 hb2 R1 R2 B1 X1 CP
 cases hgd:DN rp with
 |false=>
  have HG:=AA hgd;clear hgd;go_wp2_with fail;go_ret;exact IE (B48 (A8 HG)) (by decide) rfl (A8 B3)
 |true=>
  have HG:=AA hgd;clear hgd;go_wp2_with fail;refine(A8 CO _ (A8 B3)).mono ?_;rintro e w3 ⟨rfl,hb3⟩;have R4:=AA ((A8 R3).next hb3);have B4:=AA (AL (A8 B3) hb3);have X4:=AA ((A8 X3).next hb3);have D4:w3.cell? ⟨w1.heap.size,5,none⟩=some (I0 nv):=by rw[hb3.cell (p:=⟨w1.heap.size,5,none⟩) (World.block_lt_of_cell? _ _ D3)];exact D3
  obtain⟨d0,d1,d2,d3,d4,d5,d6,d7,d8⟩:=(A8 R4).nine;simp only at d0 d1 d2 d3 d4 d5 d6 d7 d8;clear b0 b1 b2 b3 b4 b5 b6 b7 b8 hb3 R3 B3 X3 CO D3;by_cases hm:rs∈t.ss
  ·rw[show decide (rs∈t.ss)=true from decide_eq_true hm];have HM:=AA hm;clear hm
   cases hl:GV t.ns rp with
   |none=>
    have HL:=AA hl;obtain⟨_,h7⟩:=aO hl;rw[A8 HE]at h7;subst h7;clear hl;go_wp2_with fail;go_ret;exact IE (B50 (A8 HG) (A8 HM) (A8 HL)) (by decide) rfl (A8 B4)
   |some n=>
    have HL:=AA hl;obtain⟨hnn,h0⟩:=aK hl;rw[A8 HE]at h0;subst h0;rw[A8 HN]at hnn;have hnv:n.v=nv:=by rw[←hnn]
    have hko:=gt.nod.ok n (U7 hl).1;have hv0:0≤nv:=by have:=hko.v0;omega
    have hv1:nv≤2147483647:=by have:=hko.v1;omega
    have HV:=AA hnv;clear hl hnn hnv hko;by_cases hv:rv=-1∨rv=nv
    ·have HF:Hid (zC t ⟨ro,rs,rp,rd,rv,rf⟩=0):=AA ((zF (A8 HG) (A8 HM) (A8 HL)).trans (if_pos (by rw[A8 HV];exact hv)));have HY:Hid (CD1 t ⟨ro,rs,rp,rd,rv,rf⟩=nv):=AA ((B51 (A8 HL)).trans (A8 HV));have hgw:=(A8 X4).lt;have hc:(rv !=-1)=false∨((rv !=-1)=true∧(rv !=nv)=false):=by
      rcases hv with h|h
      ·exact .inl (by simp[h])
      ·by_cases h1:rv=-1
       ·exact .inl (by simp[h1])
       ·exact .inr ⟨by simp[h1],by simp[h]⟩
     clear HN HE HG HM HL HV hv;rcases hc with hc1|⟨hc1,hc2⟩
     all_goals
      rcases ho with rfl|rfl
      ·have HX:Hid (BO2 t z ⟨4,rs,rp,rd,rv,rf⟩=⟨z,4,rs,rp,[],0,0⟩):=AA rfl;go_wp2_with fail;refine(A8 CL _).mono ?_;rintro e w4 ⟨rfl,hb4⟩;have R5:=AA ((A8 R4).next hb4);have B5:=AA (AL (A8 B4) hb4);have X5:=AA ((A8 X4).next hb4);have D5:w4.cell? ⟨w1.heap.size,5,none⟩=some (I0 nv):=by rw[hb4.cell (p:=⟨w1.heap.size,5,none⟩) (World.block_lt_of_cell? _ _ D4)];exact D4
       have k3:=(A8 X5).c3;have f3:=(A8 X5).f 3;have hgw5:=(A8 X5).lt;obtain⟨e0,e1,e2,e3,e4,e5,e6,e7,e8⟩:=(A8 R5).nine;simp only at e0 e1 e2 e3 e4 e5 e6 e7 e8;have hne:w.heap.size+1≠g:=by omega
       clear d0 d1 d2 d3 d4 d5 d6 d7 d8 hb4 R4 B4 X4 D4 CL;go_wp2_with fail;go_ret;exact U0 (A8 HF) rfl ((A8 B5).setCell hg _) (by rw[A8 HX];exact(A8 X5).p rp)
      ·have HX:Hid (BO2 t z ⟨5,rs,rp,rd,rv,rf⟩=⟨z,5,rs,rp,rd,nv+1,0⟩):=AA (by rw[BO2,A8 HY];rfl);go_wp2_with fail;refine(A8 CL _).mono ?_;rintro e w4 ⟨rfl,hb4⟩;have R5:=AA ((A8 R4).next hb4);have B5:=AA (AL (A8 B4) hb4);have X5:=AA ((A8 X4).next hb4);have D5:w4.cell? ⟨w1.heap.size,5,none⟩=some (I0 nv):=by rw[hb4.cell (p:=⟨w1.heap.size,5,none⟩) (World.block_lt_of_cell? _ _ D4)];exact D4
       have k3:=(A8 X5).c3;have f3:=(A8 X5).f 3;have hgw5:=(A8 X5).lt;obtain⟨e0,e1,e2,e3,e4,e5,e6,e7,e8⟩:=(A8 R5).nine;simp only at e0 e1 e2 e3 e4 e5 e6 e7 e8;have hne:w.heap.size+1≠g:=by omega
       clear d0 d1 d2 d3 d4 d5 d6 d7 d8 hb4 R4 B4 X4 D4 CL;go_wp2_with fail;refine(A8 CD _).mono ?_;rintro e w6 ⟨rfl,hb6⟩;have hgw6:g<(w4.setCell ⟨g,3,none⟩ (S0 rp)).heap.size:=by simp;omega
       have B6:Hid (B0 u w6):=AA (AL ((A8 B5).setCell (by exact hg) _) hb6);have X6:=AA (((A8 X5).p rp).next hb6);have D6:w6.cell? ⟨w1.heap.size,5,none⟩=some (I0 nv):=by
        have D7:=AE5 (a:=⟨g,3,none⟩) (v:=S0 rp) D5 (by simp only;omega);rw[hb6.cell (p:=⟨w1.heap.size,5,none⟩) (World.block_lt_of_cell? _ _ D7)];exact D7
       have k4:=(A8 X6).c4;have f4:=(A8 X6).f 4;have k5:=(A8 X6).c5;have f5:=(A8 X6).f 5;clear hb6 R5 B5 X5 D5 k3 f3 CD;go_wp2_with fail;go_ret;exact U0 (A8 HF) rfl (((A8 B6).setCell hg _).setCell hg _) (by rw[A8 HX];exact((A8 X6).d rd).v (nv+1))
    ·have HF:Hid (zC t ⟨ro,rs,rp,rd,rv,rf⟩=9):=AA ((zF (A8 HG) (A8 HM) (A8 HL)).trans (if_neg (by rw[A8 HV];exact hv)));have hb1:(rv !=-1)=true:=by simp;omega
     have hb2:(rv !=nv)=true:=by simp;omega
     clear HN HE HG HM HL HV hv;go_wp2_with fail;go_ret;exact IE (A8 HF) (by decide) rfl (A8 B4)
  ·rw[show decide (rs∈t.ss)=false from decide_eq_false hm];have HM:=AA hm;clear hm;go_wp2_with fail;go_ret;exact IE (B49 (A8 HG) (A8 HM)) (by decide) rfl (A8 B4)
theorem xQ(t:Tr)(vn vs:Value)(r:Rq)(x:AQ)(g:Nat)(u w:World)(gt:MZ t)(hn:BZ u vn t.ns)(hb:B0 u w)(hg:u.heap.size≤g)(hx:TAt w g x)(hxp:x.p=r.p)(htab:Lib.TabIs prog u "internal/strconv.uint64pow10" .u64 Lib.pow10Tab):
  Calls prog 189 #[P0 g,.agg #[I0 t.z,vn,vs]] w (YV u g (AG5 t r) {x with p:=CD2 t r}):=by
 have CS:=AA (fun W=>J6 r.p W);have CG:=AA (fun W (hW:B0 u W)=>aP t vn vs (BO r.p) W gt (hn.next hW));have hdl:=SI r.p;have hsl:(JC r.p).length≤200:=by
  rw[JC]
  split
  ·rename_i h
   obtain⟨a,b,e,hb⟩:=WH h.1;rw[e,OJ b hb a];have:=IL h.1;rw[e]at this;simp at this⊢;omega
  ·simp
 have CN:=AA (fun(n:Int) W (hW:B0 u W)=>A71 ⟨(JC r.p).toArray⟩ n W (by show (JC r.p).length≤_;omega) (yZ htab hW));have CJ:=AA (fun(m:List UInt8) (hm:m.length≤140737488355328) W=>B44 (BO r.p) m W hm);obtain⟨na,nc,rfl⟩:=AU hn;unfold OX at CG;rw[←hxp]at CS;have k3:=hx.c3;rw[hxp]at k3 CS;have X0:=AA hx;have B0:=AA hb;have hgl:=hx.lt;have K0:∀W,Below (w.alloc (.cells #[I0 t.z,.slice na t.ns.length nc,vs] 55)).heap.size (w.alloc (.cells #[I0 t.z,.slice na t.ns.length nc,vs] 55)) W→W.heap[w.heap.size]?=some (.cells #[I0 t.z,.slice na t.ns.length nc,vs] 55 (0,0)):=fun W hW=>(hW.block _ (by simp)).trans (heap_alloc_new w _);have HK:=AA K0;have HXP:=AA hxp;clear hn hb hx K0 hxp;go_enter func189,ntmps189;go_wp2_with fail;refine(A8 CS _).mono ?_;rintro e w1 ⟨rfl,hb1⟩;have T1:=A8 HK w1 hb1;have B1:=AA (AL (A8 B0) (AY hb1));have X1:=AA ((A8 X0).next (AY hb1));have c0:w1.cell? ⟨w.heap.size,0,none⟩=some (I0 t.z):=by simp[World.cell?,T1]
 have c1:w1.cell? ⟨w.heap.size,1,none⟩=some (.slice na t.ns.length nc):=by simp[World.cell?,T1]
 have c2:w1.cell? ⟨w.heap.size,2,none⟩=some vs:=by simp[World.cell?,T1]
 clear hb1 T1 B0 X0 CS HK k3;obtain⟨D,hD⟩:∃D,BO r.p=D:=⟨_,rfl⟩;obtain⟨S,hS⟩:∃S,JC r.p=S:=⟨_,rfl⟩;rw[hD]at CG hdl CJ⊢;rw[hS]at CN hsl⊢;have HD:=AA hD;have HS:=AA hS;clear hD hS;go_wp2_with fail;refine(A8 CG _ (A8 B1)).mono ?_;rintro e w2 ⟨rfl,hb2⟩;have B2:=AA (AL (A8 B1) hb2);have X2:=AA ((A8 X1).next hb2);clear hb2 B1 X1 c0 c1 c2 CG
 cases hl:GV t.ns D with
 |none=>
  obtain⟨h1,h2⟩:=aO hl;have HL:=AA hl;rw[h1,h2];clear hl h1 h2;unfold RP;simp only;go_wp2_with fail;go_ret;exact IE (B52 (by rw[A8 HD];exact A8 HL)) (by decide) rfl (AL (A8 B2) (AB _ _))
 |some n=>
  obtain⟨h1,h2⟩:=aK hl;have HL:=AA hl;rw[h1,h2];clear hl h1 h2;obtain⟨np,nd,nc',nm,nq,nv,nk,no,nn⟩:=n;simp only;have B3:=AA (AL (A8 B2) (AB w2 (.cells #[S0 np,S0 nd,I0 nc',I0 nm,I0 nq,I0 nv,I0 nk,I0 no,I0 nn] 95)));go_wp2_with fail;refine(A8 CN nk _ (A8 B3)).mono ?_;rintro e w3 ⟨rfl,hb3⟩;rw[AL2];have B4:=AA (AL (A8 B3) hb3);have X4:=AA ((A8 X2).next (AY hb3));have hml:=B47 S nk;have CJ1:=AA (A8 CJ (A76 S nk) (by omega));have NS:Hid (iM S nk≠0→AG5 t r=iM S nk):=AA (fun h=>by
   have h':=BO3 (t:=t) (r:=r) (u:=⟨np,nd,nc',nm,nq,nv,nk,no,nn⟩) (by rw[A8 HD];exact A8 HL) (by rw[A8 HS];exact h);rw[A8 HS]at h';exact h')
  have NJ:Hid (iM S nk=0→AG5 t r=YE D (A76 S nk)):=AA (fun h=>by
   have h':=B53 (t:=t) (r:=r) (u:=⟨np,nd,nc',nm,nq,nv,nk,no,nn⟩) (by rw[A8 HD];exact A8 HL) (by rw[A8 HS];exact h);rw[A8 HS,A8 HD]at h';exact h')
  have NP:Hid (CD2 t r=gB D (A76 S nk)):=AA (by
   rw[CD2,A8 HD,A8 HS,BO4 (u:=⟨np,nd,nc',nm,nq,nv,nk,no,nn⟩) (by rw[A8 HD];exact A8 HL)])
  clear hb3 B3 X2 B2 CN CJ HL HD HS;generalize A76 S nk=M at*;generalize iM S nk=F at*;by_cases hF:F=0
  ·subst hF;have HN:=AA (A8 NJ rfl);clear NS NJ;go_wp2_with fail;refine(A8 CJ1 _).mono ?_;rintro e w4 ⟨rfl,hb4⟩;have B5:=AA (AL (A8 B4) hb4);have X5:=AA ((A8 X4).next hb4);have k3:=(A8 X5).c3;have f3:=(A8 X5).f 3;clear hb4 B4 X4 CJ1;generalize gB D M=J at*;generalize YE D M=G at*;go_wp2_with fail;go_ret;refine⟨?_,(A8 B5).setCell hg _,fun _=>?_⟩
   ·rw[A8 HN];rfl
   ·rw[A8 NP];exact(A8 X5).p J
  ·have hFb:(F !=0)=true:=by simpa using hF
   have HN:=AA (A8 NS hF);have HF:=AA hF;clear NS NJ hF;go_wp2_with fail;go_ret;exact IE (A8 HN) (A8 HF) rfl (A8 B4)
theorem xR(t:Tr)(z:Int)(vn vs:Value)(r:Rq)(g:Nat)(u w:World)(gt:MZ t)(hn:BZ u vn t.ns)(hs:BZ u vs t.ss)(hb:B0 u w)(hg:u.heap.size≤g)(hx:TAt w g ⟨z,r.o,r.s,[],[],0,0⟩)(hp:r.p.length≤140737488355328)(hd:r.d.length≤140737488355328)(htab:Lib.TabIs prog u "internal/strconv.uint64pow10" .u64 Lib.pow10Tab):
  Calls prog 154 #[P0 g,.agg #[I0 t.z,vn,vs],rqV r] w (YV u g (zG t r) (CD3 t z r)):=by
 have CO:=AA (fun W (hW:B0 u W)=>XB t.z vn vs t.ss r.s W (hs.next hW) gt.ses);have CP:=AA (fun W=>GZ ⟨r.p.toArray⟩ W);have CL:=AA (fun W=>JA r.p W (by omega));have CD:=AA (fun W=>JA r.d W (by omega));have CN:=AA (fun(x:AQ) (hxp:x.p=r.p) W (hW:B0 u W) (hx:TAt W g x)=>xQ t vn vs r x g u W gt hn hW hg hx hxp htab);obtain⟨na,nc,rfl⟩:=AU hn;obtain⟨sa,sc,rfl⟩:=AU hs;obtain⟨ro,rs,rp,rd,rv,rf⟩:=r;unfold rqV;simp only at*;have X0:=AA hx;have B0:=AA hb;have hgl:=hx.lt;have R0:=AA (TR.new w t.z (.slice na t.ns.length nc) (.slice sa t.ss.length sc) ⟨ro,rs,rp,rd,rv,rf⟩);clear hn hs hb hx;by_cases hf:0≤rf∧rf≤3
 ·have hf1:=hf.1;have hf2:=hf.2;have HF:=AA hf;have hfb1:(decide (rf<0))=false:=by simp;omega
  have hfb2:(decide (3<rf))=false:=by simp;omega
  clear hf;obtain⟨a0,a1,a2,a3,a4,a5,a6,a7,a8⟩:=(A8 R0).nine;simp only at a0 a1 a2 a3 a4 a5 a6 a7 a8;go_enter func154,ntmps154;go_wp2_with fail;refine(A8 CP _).mono ?_;rintro e w1 ⟨rfl,hb1⟩;have R1:=AA ((A8 R0).next hb1);have B1:=AA (AL (A8 B0) (AY (AY hb1)));have X1:=AA ((A8 X0).next (AY (AY hb1)));obtain⟨b0,b1,b2,b3,b4,b5,b6,b7,b8⟩:=(A8 R1).nine;simp only at b0 b1 b2 b3 b4 b5 b6 b7 b8;clear a0 a1 a2 a3 a4 a5 a6 a7 a8 hb1 R0 B0 X0 CP
  cases hgd:DN rp with
  |false=>
   have HG:=AA hgd;clear hgd;go_wp2_with fail;go_ret;exact IE (zH (A8 HF) (fun h=>by have h1:=h.1;rw[A8 HG]at h1;exact absurd h1 (by decide))) (by decide) rfl (A8 B1)
  |true=>
   have HG:=AA hgd;clear hgd;by_cases hr:rp=[47]
   ·have HR:=AA hr;subst hr;go_wp2_with fail;go_ret;exact IE (zH (A8 HF) (fun h=>h.2 rfl)) (by decide) rfl (A8 B1)
   ·have HR:=AA hr;have hrb:(rp==[47])=false:=by simpa using hr
    clear hr;go_wp2_with fail;refine(A8 CO _ (A8 B1)).mono ?_;rintro e w2 ⟨rfl,hb2⟩;have R2:=AA ((A8 R1).next hb2);have B2:=AA (AL (A8 B1) hb2);have X2:=AA ((A8 X1).next hb2);obtain⟨d0,d1,d2,d3,d4,d5,d6,d7,d8⟩:=(A8 R2).nine;simp only at d0 d1 d2 d3 d4 d5 d6 d7 d8;clear b0 b1 b2 b3 b4 b5 b6 b7 b8 hb2 R1 B1 X1 CO hrb;by_cases hm:rs∈t.ss
    ·rw[show decide (rs∈t.ss)=true from decide_eq_true hm];have HM:=AA hm;clear hm;go_wp2_with fail;refine(A8 CL _).mono ?_;rintro e w3 ⟨rfl,hb3⟩;have R3:=AA ((A8 R2).next hb3);have B3:=AA (AL (A8 B2) hb3);have X3:=AA ((A8 X2).next hb3);obtain⟨e0,e1,e2,e3,e4,e5,e6,e7,e8⟩:=(A8 R3).nine;simp only at e0 e1 e2 e3 e4 e5 e6 e7 e8;have k3:=(A8 X3).c3;have f3:=(A8 X3).f 3;have hne:w.heap.size+1≠g:=by omega
     have hne0:w.heap.size≠g:=by omega
     clear d0 d1 d2 d3 d4 d5 d6 d7 d8 hb3 R2 B2 X2 CL;go_wp2_with fail;refine(A8 CD _).mono ?_;rintro e w4 ⟨rfl,hb4⟩;have R4:=AA (((A8 R3).other (a:=⟨g,3,none⟩) (S0 rp) (.inl hgl)).next hb4);have B4:Hid (B0 u w4):=AA (AL ((A8 B3).setCell (by exact hg) _) hb4);have X4:=AA (((A8 X3).p rp).next hb4);obtain⟨i0,i1,i2,i3,i4,i5,i6,i7,i8⟩:=(A8 R4).nine;simp only at i0 i1 i2 i3 i4 i5 i6 i7 i8;have k4:=(A8 X4).c4;have f4:=(A8 X4).f 4;have k6:=(A8 X4).c6;have f6:=(A8 X4).f 6;clear e0 e1 e2 e3 e4 e5 e6 e7 e8 hb4 R3 B3 X3 CD k3 f3;have R5:=AA ((A8 R4).other (a:=⟨g,4,none⟩) (S0 rd) (.inl hgl));have B5:Hid (B0 u (w4.setCell ⟨g,4,none⟩ (S0 rd))):=AA ((A8 B4).setCell (by exact hg) _);have X5:=AA ((A8 X4).d rd);have HP:Hid (DN rp=true∧rp≠[47]):=AA ⟨A8 HG,A8 HR⟩;have hfs:rf=0∨rf=1∨rf=2∨rf=3:=by omega
     clear HG HR;simp only at X5;rcases hfs with rfl|rfl|rfl|rfl
     ·go_wp2_with fail;go_ret;exact U0 (oL (A8 HF) (A8 HP) (A8 HM) (by simp)) rfl (A8 B5) (A8 X5)
     ·go_wp2_with fail;go_ret;exact U0 (oL (A8 HF) (A8 HP) (A8 HM) (by simp)) rfl ((A8 B5).setCell hg _) ((A8 X5).w rs)
     ·go_wp2_with fail;refine(A8 CN _ rfl _ (A8 B5) (A8 X5)).mono ?_;rintro e w6 ⟨rfl,hb6,hx6⟩;have HB:=AA hb6;have HX:=AA hx6;clear hb6 hx6;go_wp2_with fail;go_ret;refine⟨?_,A8 HB,fun h=>?_⟩
      ·rw[kM (A8 HF) (A8 HP) (A8 HM) (by simp)];rfl
      ·rw[kM (A8 HF) (A8 HP) (A8 HM) (by simp)]at h;exact A8 HX h
     ·go_wp2_with fail;refine(A8 CN _ rfl _ ((A8 B5).setCell hg _) ((A8 X5).w rs)).mono ?_;rintro e w6 ⟨rfl,hb6,hx6⟩;have HB:=AA hb6;have HX:=AA hx6;clear hb6 hx6;go_wp2_with fail;go_ret;refine⟨?_,A8 HB,fun h=>?_⟩
      ·rw[kM (A8 HF) (A8 HP) (A8 HM) (by simp)];rfl
      ·rw[kM (A8 HF) (A8 HP) (A8 HM) (by simp)]at h;exact A8 HX h
    ·rw[show decide (rs∈t.ss)=false from decide_eq_false hm];have HM:=AA hm;clear hm;go_wp2_with fail;go_ret;exact IE (B54 (A8 HF) ⟨A8 HG,A8 HR⟩ (A8 HM)) (by decide) rfl (A8 B2)
 ·have HF:=AA hf;have hc:decide (rf<0)=true∨(decide (rf<0)=false∧decide (3<rf)=true):=by
   by_cases h:rf<0
   ·exact .inl (by simp[h])
   ·exact .inr ⟨by simp;omega,by simp;omega⟩
  clear hf;rcases hc with h|⟨h,h'⟩
  all_goals
   simp only[decide_eq_true_eq,decide_eq_false_iff_not]at h
   (try simp only[decide_eq_true_eq]at h')
   go_enter func154,ntmps154;go_wp2_with fail;go_ret;exact IE (AL3 (A8 HF)) (by decide) rfl (AL (AL (A8 B0) (AB _ _)) (AB _ _))
theorem AX7(t:Tr)(z:Int)(vn vs:Value)(r:Rq)(g:Nat)(u w:World)(gt:MZ t)(hn:BZ u vn t.ns)(hs:BZ u vs t.ss)(hb:B0 u w)(hg:u.heap.size≤g)(hx:TAt w g ⟨z,r.o,r.s,[],[],0,0⟩)(hp:r.p.length≤140737488355328)(hd:r.d.length≤140737488355328)(htab:Lib.TabIs prog u "internal/strconv.uint64pow10" .u64 Lib.pow10Tab):
  Calls prog 109 #[P0 g,.agg #[I0 t.z,vn,vs],rqV r] w (YV u g (fU t r) (YF t z r)):=by
 have CA:=AA (fun(ho:r.o=4∨r.o=5) W (hW:B0 u W) hx=>xP t z vn vs r g u W gt hn hs hW hg hx ho hp hd);have CC:=AA (fun W (hW:B0 u W) hx=>xR t z vn vs r g u W gt hn hs hW hg hx hp hd htab);obtain⟨na,nc,rfl⟩:=AU hn;obtain⟨sa,sc,rfl⟩:=AU hs;obtain⟨ro,rs,rp,rd,rv,rf⟩:=r;unfold rqV at*;simp only at*;have X0:=AA hx;have B0:=AA hb;have X1:=AA (hx.next (AL (AB w (.cells #[I0 t.z,.slice na t.ns.length nc,.slice sa t.ss.length sc] 55)) (AB _ (.cells #[I0 ro,I0 rs,S0 rp,S0 rd,I0 rv,I0 rf] 27))));have B1:=AA (AL hb (AL (AB w (.cells #[I0 t.z,.slice na t.ns.length nc,.slice sa t.ss.length sc] 55)) (AB _ (.cells #[I0 ro,I0 rs,S0 rp,S0 rd,I0 rv,I0 rf] 27))));clear hn hs hb hx htab;by_cases h1:ro=1∨ro=2
 ·have HE:=AA (AL4 (t:=t) (z:=z) (r:=⟨ro,rs,rp,rd,rv,rf⟩) h1);clear CA CC;rcases h1 with rfl|rfl
  all_goals
   go_enter func109,ntmps109;go_wp2_with fail;go_ret;exact U0 (A8 HE).1 rfl (A8 B1) (by rw[(A8 HE).2];exact A8 X1)
 ·by_cases h3:ro=3
  ·have HE:=AA (BO5 (t:=t) (z:=z) (r:=⟨ro,rs,rp,rd,rv,rf⟩) h3);subst h3;clear CA h1;go_enter func109,ntmps109;go_wp2_with fail;refine(A8 CC _ (A8 B1) (A8 X1)).mono ?_;rintro e w6 ⟨rfl,hb6,hx6⟩;have HB:=AA hb6;have HX:=AA hx6;clear hb6 hx6;go_wp2_with fail;go_ret;refine⟨?_,A8 HB,fun h=>?_⟩
   ·rw[(A8 HE).1];rfl
   ·rw[(A8 HE).1]at h;rw[(A8 HE).2];exact A8 HX h
  ·by_cases h4:ro=4∨ro=5
   ·have HE:=AA (BO6 (t:=t) (z:=z) (r:=⟨ro,rs,rp,rd,rv,rf⟩) h4);have CB:=AA (A8 CA h4);clear CA CC h1 h3;rcases h4 with rfl|rfl
    all_goals
     go_enter func109,ntmps109;go_wp2_with fail;refine(A8 CB _ (A8 B1) (A8 X1)).mono ?_;rintro e w6 ⟨rfl,hb6,hx6⟩;have HB:=AA hb6;have HX:=AA hx6;clear hb6 hx6;go_wp2_with fail;go_ret;refine⟨?_,A8 HB,fun h=>?_⟩
     ·rw[(A8 HE).1];rfl
     ·rw[(A8 HE).1]at h;rw[(A8 HE).2];exact A8 HX h
   ·have HE:=AA (B55 (t:=t) (r:=⟨ro,rs,rp,rd,rv,rf⟩) (by simp only;omega));have e1:(ro==1)=false:=by simp;omega
    have e2:(ro==2)=false:=by simp;omega
    have e3:(ro==3)=false:=by simp;omega
    have e4:(ro==4)=false:=by simp;omega
    have e5:(ro==5)=false:=by simp;omega
    clear CA CC h1 h3 h4;go_enter func109,ntmps109;go_wp2_with fail;go_ret;exact IE (A8 HE) (by decide) rfl (A8 B1)
def A44(w:World)(t:Tr)(z:Int)(r:Rq)(e:Ending)(w':World):Prop:=
 e=.returned (.tuple #[DW (AG6 t z r),I0 (ZM t z r)])∧B0 w w'
theorem QC{w:World}{r:Rq}(hE:ZM t z r=E)(h0:E≠0)(he:e=.returned (.tuple #[DW t0,I0 E]))(hb:B0 w w'):A44 w t z r e w':=by
 refine⟨?_,hb⟩;rw[BO7 (by rw[hE];exact h0),hE];exact he
theorem AX8{w:World}{r:Rq}(hE:ZM t z r=0)(hX:AG6 t z r=x)(he:e=.returned (.tuple #[DW x,I0 0]))(hb:B0 w w'):A44 w t z r e w':=by
 refine⟨?_,hb⟩;rw[hE,hX];exact he
structure PB(w W:World)(z:Int)(vn vs:Value)(r:Rq):Prop where
 t:TR W w.heap.size z vn vs r
 a:TAt W (w.heap.size+2) t0
 b:B0 w W
section
variable {w W V:World} {z:Int} {vn vs:Value} {r:Rq}
theorem PB.next(h:PB w W z vn vs r)(hb:B0 W V):PB w V z vn vs r:=⟨h.t.next hb,h.a.next hb,AL h.b hb⟩
theorem PB.new(w:World)(z:Int)(vn vs:Value)(r:Rq):PB w (((w.alloc (.cells #[I0 z,vn,vs] 55)).alloc (.cells #[I0 r.o,I0 r.s,S0 r.p,S0 r.d,I0 r.v,I0 r.f] 27)).alloc (.cells #[I0 0,I0 0,I0 0,.string ⟨#[]⟩,.string ⟨#[]⟩,I0 0,I0 0] 39)) z vn vs r:=by
 refine⟨(TR.new w z vn vs r).next (AB _ _),?_,AL (AL (AB _ _) (AB _ _)) (AB _ _)⟩;have h:=TAt.new ((w.alloc (.cells #[I0 z,vn,vs] 55)).alloc (.cells #[I0 r.o,I0 r.s,S0 r.p,S0 r.d,I0 r.v,I0 r.f] 27)) t0;rw[show ((w.alloc (.cells #[I0 z,vn,vs] 55)).alloc (.cells #[I0 r.o,I0 r.s,S0 r.p,S0 r.d,I0 r.v,I0 r.f] 27)).heap.size=w.heap.size+2 by simp]at h;exact h
theorem PB.cells(h:PB w W z vn vs r):(W.cell? ⟨w.heap.size+2,0,none⟩=some (I0 0)∧W.cell? ⟨w.heap.size+2,1,none⟩=some (I0 0)∧W.cell? ⟨w.heap.size+2,2,none⟩=some (I0 0)∧W.cell? ⟨w.heap.size+2,3,none⟩=some (.string ⟨#[]⟩)∧W.cell? ⟨w.heap.size+2,4,none⟩=some (.string ⟨#[]⟩)∧W.cell? ⟨w.heap.size+2,5,none⟩=some (I0 0)∧W.cell? ⟨w.heap.size+2,6,none⟩=some (I0 0)):=⟨h.a.c0,h.a.c1,h.a.c2,h.a.c3,h.a.c4,h.a.c5,h.a.c6⟩
end
def put7(W:World)(g:Nat)(t:AQ):World:=
 ((((((W.setCell ⟨g,0,none⟩ (I0 t.z)).setCell ⟨g,1,none⟩ (I0 t.o)).setCell ⟨g,2,none⟩ (I0 t.s)).setCell ⟨g,3,none⟩ (S0 t.p)).setCell ⟨g,4,none⟩ (S0 t.d)).setCell ⟨g,5,none⟩ (I0 t.v)).setCell ⟨g,6,none⟩ (I0 t.w)
theorem KD{w:World}(t:AQ)(hb:B0 w W)(hg:w.heap.size≤g):B0 w (put7 W g t):=
 ((((((hb.setCell hg _).setCell hg _).setCell hg _).setCell hg _).setCell hg _).setCell hg _).setCell hg _
theorem xU(t:Tr)(z:Int)(vn vs:Value)(r:Rq)(w:World)(hn:BZ w vn t.ns)(hs:BZ w vs t.ss)(hw:WfT t)(hp:r.p.length≤140737488355328)(hd:r.d.length≤140737488355328)(htab:Lib.TabIs prog w "internal/strconv.uint64pow10" .u64 Lib.pow10Tab):
  Calls prog 67 #[.agg #[I0 t.z,vn,vs],I0 z,rqV r] w (A44 w t z r):=by
 have CG:=AA (fun W (hW:B0 w W)=>XD t vn vs W (hn.next hW) (hs.next hW) hw);have CZ:=AA (fun W=>EM z W);have CF:=AA (fun(gt:MZ t) g u (hu:B0 w u) W hW hg hx=>AX7 t z vn vs r g u W gt (hn.next hu) (hs.next hu) hW hg hx hp hd (yZ htab hu));have CA:=AA (fun W (hW:B0 w W)=>qE t vn vs (YF t z r) W (hn.next hW) (hs.next hW) hw (by have:=C29 t z r;omega));obtain⟨na,nc,rfl⟩:=AU hn;obtain⟨sa,sc,rfl⟩:=AU hs;obtain⟨ro,rs,rp,rd,rv,rf⟩:=r;unfold rqV at*;simp only at*;have P0:=AA (PB.new w t.z (.slice na t.ns.length nc) (.slice sa t.ss.length sc) ⟨ro,rs,rp,rd,rv,rf⟩);simp only at P0;clear hn hs htab;go_enter func67,ntmps67;go_wp2_with fail;refine(A8 CG _ (A8 P0).b).mono ?_;rintro e w1 ⟨rfl,hb1⟩;have P1:=AA ((A8 P0).next hb1);obtain⟨b0,b1,b2,b3,b4,b5,b6,b7,b8⟩:=(A8 P1).t.nine;obtain⟨c0,c1,c2,c3,c4,c5,c6⟩:=(A8 P1).cells;have f:=(A8 P1).a.f;have f0:=f 0;have f1:=f 1;have f2:=f 2;have f3:=f 3;have f4:=f 4;have f5:=f 5;have f6:=f 6;simp only at b0 b1 b2 b3 b4 b5 b6 b7 b8;clear hb1 P0 CG f
 cases hgd:PI t with
 |false=>
  have HE:Hid (ZM t z ⟨ro,rs,rp,rd,rv,rf⟩=3):=AA (WR (by simp[YG,hgd]));clear hgd;go_wp2_with fail;exact bodyPost_ret (v:=.tuple #[DW t0,I0 3]) (by simp[results,results67,go_sem,DW,t0,c0,c1,c2,c3,c4,c5,c6]) rfl (QC (A8 HE) (by decide) rfl (KD t0 (A8 P1).b (by omega)))
 |true=>
  have HG:=AA (NQ.1 hgd);have HGB:=AA hgd;clear hgd;go_wp2_with fail;refine(A8 CZ _).mono ?_;rintro e w2 ⟨rfl,rfl⟩;clear CZ
  cases hzd:FQ z with
  |false=>
   have HE:Hid (ZM t z ⟨ro,rs,rp,rd,rv,rf⟩=3):=AA (WR (by simp[YG,hzd]));clear hzd;go_wp2_with fail;exact bodyPost_ret (v:=.tuple #[DW t0,I0 3]) (by simp[results,results67,go_sem,DW,t0,c0,c1,c2,c3,c4,c5,c6]) rfl (QC (A8 HE) (by decide) rfl (KD t0 (A8 P1).b (by omega)))
  |true=>
   by_cases h1:rs<1
   ·have HE:Hid (ZM t z ⟨ro,rs,rp,rd,rv,rf⟩=3):=AA (WR (by simp[YG];intros;omega));have hd1:decide (rs<1)=true:=decide_eq_true h1;clear hzd h1;go_wp2_with fail;exact bodyPost_ret (v:=.tuple #[DW t0,I0 3]) (by simp[results,results67,go_sem,DW,t0,c0,c1,c2,c3,c4,c5,c6]) rfl (QC (A8 HE) (by decide) rfl (KD t0 (A8 P1).b (by omega)))
   ·by_cases h2:2147483647<rs
    ·have HE:Hid (ZM t z ⟨ro,rs,rp,rd,rv,rf⟩=3):=AA (WR (by simp[YG];intros;omega));have hd1:decide (rs<1)=false:=decide_eq_false h1;have hd2:decide (2147483647<rs)=true:=decide_eq_true h2;clear hzd h1 h2;go_wp2_with fail;exact bodyPost_ret (v:=.tuple #[DW t0,I0 3]) (by simp[results,results67,go_sem,DW,t0,c0,c1,c2,c3,c4,c5,c6]) rfl (QC (A8 HE) (by decide) rfl (KD t0 (A8 P1).b (by omega)))
    ·have HH:Hid (YG t z ⟨ro,rs,rp,rd,rv,rf⟩=true):=AA (iO.2 ⟨A8 HG,hzd,by simp only;omega,by simp only;omega⟩);have hd1:decide (rs<1)=false:=decide_eq_false h1;have hd2:decide (2147483647<rs)=false:=decide_eq_false h2;clear hzd h1 h2;have X2:=AA (TAt.new w2 ⟨z,ro,rs,[],[],0,0⟩);have P2:=AA ((A8 P1).next (AB w2 (.cells #[I0 z,I0 ro,I0 rs,.string ⟨#[]⟩,.string ⟨#[]⟩,I0 0,I0 0] 39)));obtain⟨d0,d1,d2,d3,d4,d5,d6,d7,d8⟩:=(A8 P2).t.nine;simp only at d0 d1 d2 d3 d4 d5 d6 d7 d8;clear c0 c1 c2 c3 c4 c5 c6 f0 f1 f2 f3 f4 f5 f6;go_wp2_with fail;refine(A8 CF (A8 HG) w2.heap.size w2 (A8 P1).b _ (AB _ _) (Nat.le_refl _) (A8 X2)).mono ?_;rintro e w3 ⟨rfl,hb3,hx3⟩;have P3:=AA ((A8 P1).next hb3);have HX3:=AA hx3;have PF:Hid (fU t ⟨ro,rs,rp,rd,rv,rf⟩≠0→ZM t z ⟨ro,rs,rp,rd,rv,rf⟩=fU t ⟨ro,rs,rp,rd,rv,rf⟩):=AA (fun h=>zI (A8 HH) h);have PA:Hid (fU t ⟨ro,rs,rp,rd,rv,rf⟩=0→ZM t z ⟨ro,rs,rp,rd,rv,rf⟩=UN t (YF t z ⟨ro,rs,rp,rd,rv,rf⟩)):=AA (fun h=>uJ (A8 HH) h);clear d0 d1 d2 d3 d4 d5 d6 d7 d8 b0 b1 b2 b3 b4 b5 b6 b7 b8 P2 X2 CF HG HGB HH hb3 hx3;generalize fU t ⟨ro,rs,rp,rd,rv,rf⟩=F at*;by_cases hF:F=0
     ·have PE:=AA (A8 PA hF);have X3:=AA (A8 HX3 hF);subst hF;have KX:Hid (ZM t z ⟨ro,rs,rp,rd,rv,rf⟩=0→AG6 t z ⟨ro,rs,rp,rd,rv,rf⟩=YF t z ⟨ro,rs,rp,rd,rv,rf⟩):=AA (fun h=>uK h);unfold XE at CA;clear PF PA HX3;generalize bI t (YF t z ⟨ro,rs,rp,rd,rv,rf⟩)=T at*;generalize UW t (YF t z ⟨ro,rs,rp,rd,rv,rf⟩)=V at*;generalize UN t (YF t z ⟨ro,rs,rp,rd,rv,rf⟩)=E at*;generalize YF t z ⟨ro,rs,rp,rd,rv,rf⟩=x at*;obtain⟨xz,xo,xs,xp,xd,xv,xw⟩:=x;unfold DW at CA;simp only at CA;have x0:=(A8 X3).c0;have x1:=(A8 X3).c1;have x2:=(A8 X3).c2;have x3:=(A8 X3).c3;have x4:=(A8 X3).c4;have x5:=(A8 X3).c5;have x6:=(A8 X3).c6;simp only at x0 x1 x2 x3 x4 x5 x6;obtain⟨e0,e1,e2,e3,e4,e5,e6,e7,e8⟩:=(A8 P3).t.nine;obtain⟨c0,c1,c2,c3,c4,c5,c6⟩:=(A8 P3).cells;have f:=(A8 P3).a.f;have f0:=f 0;have f1:=f 1;have f2:=f 2;have f3:=f 3;have f4:=f 4;have f5:=f 5;have f6:=f 6;simp only at e0 e1 e2 e3 e4 e5 e6 e7 e8;clear f;go_wp2_with fail;refine(A8 CA _ (A8 P3).b).mono ?_;rintro e w4 ⟨vn4,vs4,ve4,rfl,n4,s4,e4,hb4⟩;obtain⟨an,cn,rfl,_⟩:=n4.slice;obtain⟨ai,ci,rfl,_⟩:=s4.slice;obtain⟨ae,ce,rfl,_⟩:=e4.slice;have P5:=AA ((A8 P3).next (AL hb4 (AB w4 (.cells #[I0 T.z,.slice an T.ns.length cn,.slice ai T.ss.length ci] 55))));have X5:=AA ((A8 X3).next (AL hb4 (AB w4 (.cells #[I0 T.z,.slice an T.ns.length cn,.slice ai T.ss.length ci] 55))));clear c0 c1 c2 c3 c4 c5 c6 f0 f1 f2 f3 f4 f5 f6 x0 x1 x2 x3 x4 x5 x6 e0 e1 e2 e3 e5 e6 e7 e8 hb4 n4 s4 e4 P3 X3 CA;obtain⟨c0,c1,c2,c3,c4,c5,c6⟩:=(A8 P5).cells;have f:=(A8 P5).a.f;have f0:=f 0;have f1:=f 1;have f2:=f 2;have f3:=f 3;have f4:=f 4;have f5:=f 5;have f6:=f 6;have x0:=(A8 X5).c0;have x1:=(A8 X5).c1;have x2:=(A8 X5).c2;have x3:=(A8 X5).c3;have x4:=(A8 X5).c4;have x5:=(A8 X5).c5;have x6:=(A8 X5).c6;simp only at x0 x1 x2 x3 x4 x5 x6;clear f;by_cases hE:E=0
      ·subst hE;have HX:=AA (A8 KX (A8 PE));go_wp2_with fail;exact bodyPost_ret (v:=.tuple #[DW ⟨xz,xo,xs,xp,xd,xv,xw⟩,I0 0]) (by simp[results,results67,go_sem,DW,c0,c1,c2,c3,c4,c5,c6]) rfl (AX8 (A8 PE) (A8 HX) rfl (KD ⟨xz,xo,xs,xp,xd,xv,xw⟩ (A8 P5).b (by omega)))
      ·have hEb:(E !=0)=true:=by simpa using hE
       have HE:=AA hE;clear hE;go_wp2_with fail;exact bodyPost_ret (v:=.tuple #[DW t0,I0 E]) (by simp[results,results67,go_sem,DW,t0,c0,c1,c2,c3,c4,c5,c6]) rfl (QC (A8 PE) (A8 HE) rfl (KD t0 (A8 P5).b (by omega)))
     ·have PE:=AA (A8 PF hF);have hFb:(F !=0)=true:=by simpa using hF
      have HF:=AA hF;clear PF PA HX3 hF CA;obtain⟨e0,e1,e2,e3,e4,e5,e6,e7,e8⟩:=(A8 P3).t.nine;obtain⟨c0,c1,c2,c3,c4,c5,c6⟩:=(A8 P3).cells;have f:=(A8 P3).a.f;have f0:=f 0;have f1:=f 1;have f2:=f 2;have f3:=f 3;have f4:=f 4;have f5:=f 5;have f6:=f 6;simp only at e0 e1 e2 e3 e4 e5 e6 e7 e8;clear f;go_wp2_with fail;exact bodyPost_ret (v:=.tuple #[DW t0,I0 F]) (by simp[results,results67,go_sem,DW,t0,c0,c1,c2,c3,c4,c5,c6]) rfl (QC (A8 PE) (A8 HF) rfl (KD t0 (A8 P3).b (by omega)))
end Go.Proofs.YtnjehbehmkfngaaGreatDoor
