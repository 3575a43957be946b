/-
  Part.
-/
import Derived.Test.YtppjdeblncincaaGreatDoorLOQ
set_option maxRecDepth 20000
set_option maxHeartbeats 8000000
namespace Go.Proofs.YtppjdeblncincaaGreatDoor
open Go.RowKit Go.Proofs.Tryz
open Go.World renaming cell?->AX
open Go.Value renaming slice->FU
open Go.Obj renaming cells->FV
open Go renaming World->FW,Value->FX,Calls->FZ
open _root_.Option renaming none->G5,some->G6
variable{t:Tr}{n u:Nd}{z E:Int}{g:Nat}{x:GN}{e:Ending}{w' W:FW}
structure Rq where
 o:Int
 s:Int
 p:List UInt8
 d:List UInt8
 v:Int
 f:Int
def rqV(r:Rq):FX:=.agg #[I0 r.o,I0 r.s,S0 r.p,S0 r.d,I0 r.v,I0 r.f]
def AI3(l:List UInt8)(n:Int):List UInt8:=if nU l n=0 then l++ten n.toNat else []
theorem AW8(l:List UInt8)(n:Int):BX2 l n=⟨(AI3 l n).toArray⟩:=by
 by_cases h:nU l n=0
 .rw[(AV9 h).2.2.2,AI3,if_pos h]
 .rw[C20 h,AI3,if_neg h]
theorem BH5(l:List UInt8)(n:Int):(AI3 l n).length<=40:=by
 by_cases h:nU l n=0
 .obtain⟨_,_,hn,_⟩:=AV9 h;rw[AI3,if_pos h];simp only[JB,Bool.and_eq_true,decide_eq_true_eq]at hn;exact hn.1.2
 .rw[AI3,if_neg h];simp
def A86(t:Tr)(r:Rq):Int:=if J6 r.p=true then(if r.s∈t.ss then(match LU t.ns r.p with
 |none=>7
 |some n=>if r.v=-1\/r.v=n.v then 0 else 9)else 12)else 2
def CS1(t:Tr)(r:Rq):Int:=match LU t.ns r.p with
 |none=>0
 |some n=>n.v
def C21(t:Tr)(z:Int)(r:Rq):GN:=⟨z,r.o,r.s,r.p,if r.o=5 then r.d else [],if r.o=5 then CS1 t r+1 else 0,0⟩
theorem BH6{r:Rq}(h:J6 r.p=false):A86 t r=2:=by rw[A86,if_neg (by simp[h])]
theorem BH7{r:Rq}(h:J6 r.p=true)(hs:r.s∉t.ss):A86 t r=12:=by rw[A86,if_pos h,if_neg hs]
theorem BH8{r:Rq}(h:J6 r.p=true)(hs:r.s∈t.ss)(hn:LU t.ns r.p=G5):A86 t r=7:=by rw[A86,if_pos h,if_pos hs,hn]
theorem A87{r:Rq}(h:J6 r.p=true)(hs:r.s∈t.ss)(hn:LU t.ns r.p=G6 n):A86 t r=if r.v=-1\/r.v=n.v then 0 else 9:=by rw[A86,if_pos h,if_pos hs,hn]
theorem BH9{r:Rq}(hn:LU t.ns r.p=G6 n):CS1 t r=n.v:=by rw[CS1,hn]
def cvN(t:Tr)(r:Rq):Int:=match LU t.ns (IK r.p)with
 |none=>0
 |some u=>u.k
def AR7(t:Tr)(r:Rq):Int:=match LU t.ns (IK r.p)with
 |none=>7
 |some u=>if nU (NU r.p) u.k=0 then dQ (IK r.p) (AI3 (NU r.p) u.k)else nU (NU r.p) u.k
def CS2(t:Tr)(r:Rq):List UInt8:=mM (IK r.p) (AI3 (NU r.p) (cvN t r))
def A88(t:Tr)(r:Rq):Int:=if 0<=r.f/\r.f<=3 then(if J6 r.p=true/\r.p≠[47]then(if r.s∈t.ss then(if 2<=r.f then AR7 t r else 0)else 12)else 2)else 3
def CS3(t:Tr)(z:Int)(r:Rq):GN:=⟨z,r.o,r.s,if 2<=r.f then CS2 t r else r.p,r.d,0,if r.f%2=1 then r.s else 0⟩
theorem BI0{r:Rq}(h:LU t.ns (IK r.p)=G5):AR7 t r=7:=by rw[AR7,h]
theorem C22{r:Rq}(h:LU t.ns (IK r.p)=G6 u)(h0:nU (NU r.p) u.k≠0):AR7 t r=nU (NU r.p) u.k:=by rw[AR7,h];simp only;rw[if_neg h0]
theorem BI1{r:Rq}(h:LU t.ns (IK r.p)=G6 u)(h0:nU (NU r.p) u.k=0):AR7 t r=dQ (IK r.p) (AI3 (NU r.p) u.k):=by rw[AR7,h];simp only;rw[if_pos h0]
theorem C23{r:Rq}(h:LU t.ns (IK r.p)=G6 u):cvN t r=u.k:=by rw[cvN,h]
theorem AW9{r:Rq}(h:¬ (0<=r.f/\r.f<=3)):A88 t r=3:=by rw[A88,if_neg h]
theorem A89{r:Rq}(h:0<=r.f/\r.f<=3)(hp:¬ (J6 r.p=true/\r.p≠[47])):A88 t r=2:=by rw[A88,if_pos h,if_neg hp]
theorem BI2{r:Rq}(h:0<=r.f/\r.f<=3)(hp:J6 r.p=true/\r.p≠[47])(hs:r.s∉t.ss):A88 t r=12:=by rw[A88,if_pos h,if_pos hp,if_neg hs]
theorem uZ{r:Rq}(h:0<=r.f/\r.f<=3)(hp:J6 r.p=true/\r.p≠[47])(hs:r.s∈t.ss)(hf:r.f<2):A88 t r=0:=by rw[A88,if_pos h,if_pos hp,if_pos hs,if_neg (by omega)]
theorem qK{r:Rq}(h:0<=r.f/\r.f<=3)(hp:J6 r.p=true/\r.p≠[47])(hs:r.s∈t.ss)(hf:2<=r.f):A88 t r=AR7 t r:=by rw[A88,if_pos h,if_pos hp,if_pos hs,if_pos hf]
def mD(t:Tr)(r:Rq):Int:=if r.o=1\/r.o=2 then 0 else if r.o=3 then A88 t r else if r.o=4\/r.o=5 then A86 t r else 4
def dR(t:Tr)(z:Int)(r:Rq):GN:=if r.o=3 then CS3 t z r else if r.o=4\/r.o=5 then C21 t z r else⟨z,r.o,r.s,[],[],0,0⟩
theorem AX0{r:Rq}(h:r.o=1\/r.o=2):mD t r=0/\dR t z r=⟨z,r.o,r.s,[],[],0,0⟩:=by
 refine⟨by rw[mD,if_pos h],?_⟩;rw[dR,if_neg (by omega),if_neg (by omega)]
theorem C24{r:Rq}(h:r.o=3):mD t r=A88 t r/\dR t z r=CS3 t z r:=by
 refine⟨by rw[mD,if_neg (by omega),if_pos h],by rw[dR,if_pos h]⟩
theorem C25{r:Rq}(h:r.o=4\/r.o=5):mD t r=A86 t r/\dR t z r=C21 t z r:=by
 refine⟨by rw[mD,if_neg (by omega),if_neg (by omega),if_pos h],by rw[dR,if_neg (by omega),if_pos h]⟩
theorem BI3{r:Rq}(h:r.o<1\/5<r.o):mD t r=4:=by
 rw[mD,if_neg (by omega),if_neg (by omega),if_neg (by omega)]
noncomputable def dS(t:Tr)(z:Int)(r:Rq):Bool:=UG t&&KN z&&decide (1<=r.s)&&decide (r.s<=2147483647)
noncomputable def gK(t:Tr)(z:Int)(r:Rq):Int:=if dS t z r=true then(if mD t r=0 then YS t (dR t z r)else mD t r)else 3
noncomputable def AR8(t:Tr)(z:Int)(r:Rq):GN:=if gK t z r=0 then dR t z r else t0
theorem nX{r:Rq}:dS t z r=true↔QW t/\KN z=true/\1<=r.s/\r.s<=2147483647:=by
 simp only[dS,Bool.and_eq_true,decide_eq_true_eq,SC,and_assoc]
theorem aU{r:Rq}(h:dS t z r=false):gK t z r=3:=by rw[gK,if_neg (by simp[h])]
theorem A90{r:Rq}(h:dS t z r=true)(hf:mD t r≠0):gK t z r=mD t r:=by rw[gK,if_pos h,if_neg hf]
theorem zS{r:Rq}(h:dS t z r=true)(hf:mD t r=0):gK t z r=YS t (dR t z r):=by rw[gK,if_pos h,if_pos hf]
theorem C26{r:Rq}(h:gK t z r≠0):AR8 t z r=t0:=by rw[AR8,if_neg h]
theorem zT{r:Rq}(h:gK t z r=0):AR8 t z r=dR t z r:=by rw[AR8,if_pos h]
theorem BI4{r:Rq}(h:gK t z r=0):dS t z r=true/\mD t r=0/\YS t (dR t z r)=0:=by
 cases hh:dS t z r with
 |false=>rw[aU hh]at h;exact absurd h (by decide)
 |true=>
  by_cases hf:mD t r=0
  .exact⟨rfl,hf,by rw[<-zS hh hf];exact h⟩
  .rw[A90 hh hf]at h;exact absurd h hf
theorem AI4(t:Tr)(z:Int)(r:Rq):(dR t z r).z=z/\(dR t z r).o=r.o/\(dR t z r).s=r.s/\((dR t z r).w=0\/(dR t z r).w=r.s):=by
 unfold dR
 split
 .refine⟨rfl,rfl,rfl,?_⟩;simp only[CS3]
  split
  .exact .inr rfl
  .exact .inl rfl
 .split
  .exact⟨rfl,rfl,rfl,.inl rfl⟩
  .exact⟨rfl,rfl,rfl,.inl rfl⟩
theorem CH4(t:Tr)(z:Int)(r:Rq):(dR t z r).d.length<=r.d.length:=by
 unfold dR
 split
 .exact Nat.le_refl _
 .split
  .simp only[C21]
   split
   .exact Nat.le_refl _
   .simp
  .simp
structure FitP(t:Tr)(z:Int)(r:Rq)(x:GN):Prop where
 app:YS t x=0
 az:(jI t x).z=z
 z:x.z=z
 o:x.o=r.o
 s:x.s=r.s
 gd:gdE x=0
 w:x.w=0\/x.w=r.s
theorem AI5{r:Rq}(h:gK t z r=0):FitP t z r (AR8 t z r):=by
 obtain⟨_,_,ha⟩:=BI4 h;rw[zT h];obtain⟨e1,e2,e3,e4⟩:=AI4 t z r;exact⟨ha,(aS ha).2.1.trans e1,e1,e2,e3,(QC (qJ ha).1).2.1,e4⟩
theorem QW.pwf(g:QW t):WfT t:=by
 refine⟨fun s hs=>by have:=g.ses.2 s hs;omega,fun n hn=>?_⟩;have k:=g.nod.ok n hn;exact⟨by have:=MO k.path;omega,by have:=k.data;omega⟩
def lU(t:Tr)(p:List UInt8):Nd:=(LU t.ns p).getD WG
def yT(t:Tr)(p:List UInt8):Int:=if(LU t.ns p).isSome=true then 0 else 7
theorem iR{p:List UInt8}(h:LU t.ns p=G6 n):lU t p=n/\yT t p=0:=by
 rw[lU,yT,h];exact⟨rfl,rfl⟩
theorem iT{p:List UInt8}(h:LU t.ns p=G5):lU t p=WG/\yT t p=7:=by
 rw[lU,yT,h];exact⟨rfl,rfl⟩
theorem dA(t:Tr)(vn vs:FX)(p:List UInt8)(w:FW)(g:QW t)(hn:IL w vn t.ns):
  FZ prog 13 #[.agg #[I0 t.z,vn,vs],S0 p] w (R0 w (.tuple #[TI (lU t p),I0 (yT t p)])):=by
 have few:=g.nod.few;rcases YV p t.ns g.nod.asc with⟨A,n,B,T⟩|⟨A,B,G⟩
 .have hm:n∈t.ns:=by rw[T.eq];simp
  have sl:=g.pwf.CJ7 n hm;rw[(iR T.look).1,(iR T.look).2];exact AM1 t.z vn vs t.ns A B n p w hn (by omega) T sl.1 sl.2
 .rw[(iT G.look).1,(iT G.look).2];exact BM7 t.z vn vs t.ns A B p w hn (by omega) G
structure TR(W:FW)(q:Nat)(z:Int)(vn vs:FX)(r:Rq):Prop where
 t:W.heap[q]?=G6 (FV #[I0 z,vn,vs] 37 (0,0))
 r:W.heap[q+1]?=G6 (FV #[I0 r.o,I0 r.s,S0 r.p,S0 r.d,I0 r.v,I0 r.f] 56 (0,0))
section
variable {W V:FW} {q:Nat} {z:Int} {vn vs:FX} {r:Rq}
theorem TR.lt(h:TR W q z vn vs r):q+1<W.heap.size:=(Array.getElem?_eq_some_iff.1 h.r).1
theorem TR.next(h:TR W q z vn vs r)(hb:B0 W V):TR V q z vn vs r:=⟨(hb.block _ (by have:=h.lt;omega)).trans h.t,(hb.block _ h.lt).trans h.r⟩
theorem TR.other(h:TR W q z vn vs r){a:Addr}(v:FX)(h1:a.block<q\/q+1<a.block):TR (W.setCell a v) q z vn vs r:=
 ⟨(Below.heap_setCell W a v q (by omega)).trans h.t,(Below.heap_setCell W a v (q+1) (by omega)).trans h.r⟩
theorem TR.nine(h:TR W q z vn vs r):W.cell? ⟨q,0,G5⟩=G6 (I0 z)/\W.cell? ⟨q,1,G5⟩=G6 vn/\W.cell? ⟨q,2,G5⟩=G6 vs/\W.cell? ⟨q+1,0,G5⟩=G6 (I0 r.o)/\W.cell? ⟨q+1,1,G5⟩=G6 (I0 r.s)/\W.cell? ⟨q+1,2,G5⟩=G6 (S0 r.p)/\W.cell? ⟨q+1,3,G5⟩=G6 (S0 r.d)/\W.cell? ⟨q+1,4,G5⟩=G6 (I0 r.v)/\W.cell? ⟨q+1,5,G5⟩=G6 (I0 r.f):=by
 have h1:=h.t;have h2:=h.r;refine⟨?_,?_,?_,?_,?_,?_,?_,?_,?_⟩<;>simp[AX,h1,h2]
end
theorem TR.new(w:FW)(z:Int)(vn vs:FX)(r:Rq):TR ((w.alloc (FV #[I0 z,vn,vs] 37)).alloc (FV #[I0 r.o,I0 r.s,S0 r.p,S0 r.d,I0 r.v,I0 r.f] 56)) w.heap.size z vn vs r:=by
 refine⟨?_,?_⟩
 .rw[(G9 _ _).block _ (by simp)];exact heap_alloc_new w _
 .have h:=heap_alloc_new (w.alloc (FV #[I0 z,vn,vs] 37)) (FV #[I0 r.o,I0 r.s,S0 r.p,S0 r.d,I0 r.v,I0 r.f] 56);rw[show (w.alloc (FV #[I0 z,vn,vs] 37)).heap.size=w.heap.size+1 by simp]at h;exact h
def fE(u:FW)(g:Nat)(E:Int)(x:GN)(e:Ending)(w':FW):Prop:=
 e=.returned (I0 E)/\B0 u w'/\(E=0->TAt w' g x)
theorem MK{u:FW}{E':Int}(hE:E=E')(h0:E'≠0)(he:e=.returned (I0 E'))(hb:B0 u w'):fE u g E x e w':=
 ⟨by rw[hE];exact he,hb,fun h=>absurd (hE.symm.trans h) h0⟩
theorem Y8{u:FW}(hE:E=0)(he:e=.returned (I0 0))(hb:B0 u w')(hx:TAt w' g x):fE u g E x e w':=
 ⟨by rw[hE];exact he,hb,fun _=>hx⟩
theorem AP6{a:Addr}{v x:FX}{k j:Nat}(h:W.cell? ⟨k,j,G5⟩=G6 x)(hk:k≠a.block):(W.setCell a v).cell? ⟨k,j,G5⟩=G6 x:=by
 have e:=Below.heap_setCell W a v k hk;unfold AX at h⊢;simp only at h⊢;rw[e];exact h
theorem TAt.p(h:TAt W g x)(l:List UInt8):TAt (W.setCell ⟨g,3,G5⟩ (S0 l)) g {x with p:=l}:=by
 unfold TAt at*;rw[GV _ h];simp
theorem TAt.d(h:TAt W g x)(l:List UInt8):TAt (W.setCell ⟨g,4,G5⟩ (S0 l)) g {x with d:=l}:=by
 unfold TAt at*;rw[GV _ h];simp
theorem TAt.v(h:TAt W g x)(l:Int):TAt (W.setCell ⟨g,5,G5⟩ (I0 l)) g {x with v:=l}:=by
 unfold TAt at*;rw[GV _ h];simp
theorem TAt.w(h:TAt W g x)(l:Int):TAt (W.setCell ⟨g,6,G5⟩ (I0 l)) g {x with w:=l}:=by
 unfold TAt at*;rw[GV _ h];simp
theorem A53(t:Tr)(z:Int)(vn vs:FX)(r:Rq)(g:Nat)(u w:FW)(gt:QW t)(hn:IL u vn t.ns)(hs:IL u vs t.ss)(hb:B0 u w)(hg:u.heap.size<=g)(hx:TAt w g ⟨z,r.o,r.s,[],[],0,0⟩)(ho:r.o=4\/r.o=5)(hp:r.p.length<=140737488355328)(hd:r.d.length<=140737488355328):
  FZ prog 168 #[P0 g,.agg #[I0 t.z,vn,vs],rqV r] w (fE u g (A86 t r) (C21 t z r)):=by
 have CG:=G8 (fun W (hW:B0 u W)=>dA t vn vs r.p W gt (hn.next hW));have CO:=G8 (fun W (hW:B0 u W)=>bH t.z vn vs t.ss r.s W (hs.next hW) gt.ses);have CP:=G8 (fun W=>LX ⟨r.p.toArray⟩ W);have CL:=G8 (fun W=>NQ r.p W (by omega));have CD:=G8 (fun W=>NQ r.d W (by omega));obtain⟨na,nc,rfl⟩:=GK hn;obtain⟨sa,sc,rfl⟩:=GK hs;unfold TI at CG;obtain⟨ro,rs,rp,rd,rv,rf⟩:=r;unfold rqV;simp only at*;have X0:=G8 hx;have B0:=G8 hb;have hgl:=hx.lt;have R0:=G8 (TR.new w t.z (FU na t.ns.length nc) (FU sa t.ss.length sc) ⟨ro,rs,rp,rd,rv,rf⟩);clear hn hs hb hx;go_enter func168,ntmps168;go_wp2_with fail;refine(G7 CG _ (GH (GH (G7 B0) (G9 _ _)) (G9 _ _))).mono ?_;rintro e w1 ⟨rfl,hb1⟩;have R1:=G8 ((G7 R0).next hb1);have B1:=G8 (GH (G7 B0) (GX (GX hb1)));have X1:=G8 ((G7 X0).next (GX (GX hb1)));clear hb1 R0 B0 X0 CG;obtain⟨N,hN⟩:∃N,lU t rp=N:=⟨_,rfl⟩;obtain⟨E,hE⟩:∃E,yT t rp=E:=⟨_,rfl⟩;rw[hN,hE];have HN:=G8 hN;have HE:=G8 hE;clear hN hE;obtain⟨np,nd,nc,nm,nq,nv,nk,no,nn⟩:=N;simp only;have R2:=G8 ((G7 R1).next (G9 w1 (FV #[S0 np,S0 nd,I0 nc,I0 nm,I0 nq,I0 nv,I0 nk,I0 no,I0 nn] 62)));obtain⟨a0,a1,a2,a3,a4,a5,a6,a7,a8⟩:=(G7 R2).nine;simp only at a0 a1 a2 a3 a4 a5 a6 a7 a8;go_wp2_with fail;refine(G7 CP _).mono ?_;rintro e w2 ⟨rfl,hb2⟩;have R3:=G8 ((G7 R2).next hb2);have B3:=G8 (GH (G7 B1) (GX hb2));have X3:=G8 ((G7 X1).next (GX hb2));have D3:w2.cell? ⟨w1.heap.size,5,G5⟩=G6 (I0 nv):=by rw[hb2.cell (p:=⟨w1.heap.size,5,G5⟩) (by simp)];simp
 obtain⟨b0,b1,b2,b3,b4,b5,b6,b7,b8⟩:=(G7 R3).nine;simp only at b0 b1 b2 b3 b4 b5 b6 b7 b8;have hg1:=(G7 X1).lt;clear a0 a1 a2 a3 a4 a5 a6 a7 a8 hb2 R1 R2 B1 X1 CP
 cases hgd:J6 rp with
 |false=>
  have HG:=G8 hgd;clear hgd;go_wp2_with fail;go_ret;exact MK (BH6 (G7 HG)) (by decide) rfl (G7 B3)
 |true=>
  have HG:=G8 hgd;clear hgd;go_wp2_with fail;refine(G7 CO _ (G7 B3)).mono ?_;rintro e w3 ⟨rfl,hb3⟩;have R4:=G8 ((G7 R3).next hb3);have B4:=G8 (GH (G7 B3) hb3);have X4:=G8 ((G7 X3).next hb3);have D4:w3.cell? ⟨w1.heap.size,5,G5⟩=G6 (I0 nv):=by rw[hb3.cell (p:=⟨w1.heap.size,5,G5⟩) (World.block_lt_of_cell? _ _ D3)];exact D3
  obtain⟨d0,d1,d2,d3,d4,d5,d6,d7,d8⟩:=(G7 R4).nine;simp only at d0 d1 d2 d3 d4 d5 d6 d7 d8;clear b0 b1 b2 b3 b4 b5 b6 b7 b8 hb3 R3 B3 X3 CO D3;by_cases hm:rs∈t.ss
  .rw[show decide (rs∈t.ss)=true from decide_eq_true hm];have HM:=G8 hm;clear hm
   cases hl:LU t.ns rp with
   |none=>
    have HL:=G8 hl;obtain⟨_,h7⟩:=iT hl;rw[G7 HE]at h7;subst h7;clear hl;go_wp2_with fail;go_ret;exact MK (BH8 (G7 HG) (G7 HM) (G7 HL)) (by decide) rfl (G7 B4)
   |some n=>
    have HL:=G8 hl;obtain⟨hnn,h0⟩:=iR hl;rw[G7 HE]at h0;subst h0;rw[G7 HN]at hnn;have hnv:n.v=nv:=by rw[<-hnn]
    have hko:=gt.nod.ok n (YD hl).1;have hv0:0<=nv:=by have:=hko.v0;omega
    have hv1:nv<=2147483647:=by have:=hko.v1;omega
    have HV:=G8 hnv;clear hl hnn hnv hko;by_cases hv:rv=-1\/rv=nv
    .have HF:Hid (A86 t ⟨ro,rs,rp,rd,rv,rf⟩=0):=G8 ((A87 (G7 HG) (G7 HM) (G7 HL)).trans (if_pos (by rw[G7 HV];exact hv)));have HY:Hid (CS1 t ⟨ro,rs,rp,rd,rv,rf⟩=nv):=G8 ((BH9 (G7 HL)).trans (G7 HV));have hgw:=(G7 X4).lt;have hc:(rv !=-1)=false\/((rv !=-1)=true/\(rv !=nv)=false):=by
      rcases hv with h|h
      .exact .inl (by simp[h])
      .by_cases h1:rv=-1
       .exact .inl (by simp[h1])
       .exact .inr ⟨by simp[h1],by simp[h]⟩
     clear HN HE HG HM HL HV hv;rcases hc with hc1|⟨hc1,hc2⟩
     all_goals
      rcases ho with rfl|rfl
      .have HX:Hid (C21 t z ⟨4,rs,rp,rd,rv,rf⟩=⟨z,4,rs,rp,[],0,0⟩):=G8 rfl;go_wp2_with fail;refine(G7 CL _).mono ?_;rintro e w4 ⟨rfl,hb4⟩;have R5:=G8 ((G7 R4).next hb4);have B5:=G8 (GH (G7 B4) hb4);have X5:=G8 ((G7 X4).next hb4);have D5:w4.cell? ⟨w1.heap.size,5,G5⟩=G6 (I0 nv):=by rw[hb4.cell (p:=⟨w1.heap.size,5,G5⟩) (World.block_lt_of_cell? _ _ D4)];exact D4
       have k3:=(G7 X5).c3;have f3:=(G7 X5).f 3;have hgw5:=(G7 X5).lt;obtain⟨e0,e1,e2,e3,e4,e5,e6,e7,e8⟩:=(G7 R5).nine;simp only at e0 e1 e2 e3 e4 e5 e6 e7 e8;have hne:w.heap.size+1≠g:=by omega
       clear d0 d1 d2 d3 d4 d5 d6 d7 d8 hb4 R4 B4 X4 D4 CL;go_wp2_with fail;go_ret;exact Y8 (G7 HF) rfl ((G7 B5).setCell hg _) (by rw[G7 HX];exact(G7 X5).p rp)
      .have HX:Hid (C21 t z ⟨5,rs,rp,rd,rv,rf⟩=⟨z,5,rs,rp,rd,nv+1,0⟩):=G8 (by rw[C21,G7 HY];rfl);go_wp2_with fail;refine(G7 CL _).mono ?_;rintro e w4 ⟨rfl,hb4⟩;have R5:=G8 ((G7 R4).next hb4);have B5:=G8 (GH (G7 B4) hb4);have X5:=G8 ((G7 X4).next hb4);have D5:w4.cell? ⟨w1.heap.size,5,G5⟩=G6 (I0 nv):=by rw[hb4.cell (p:=⟨w1.heap.size,5,G5⟩) (World.block_lt_of_cell? _ _ D4)];exact D4
       have k3:=(G7 X5).c3;have f3:=(G7 X5).f 3;have hgw5:=(G7 X5).lt;obtain⟨e0,e1,e2,e3,e4,e5,e6,e7,e8⟩:=(G7 R5).nine;simp only at e0 e1 e2 e3 e4 e5 e6 e7 e8;have hne:w.heap.size+1≠g:=by omega
       clear d0 d1 d2 d3 d4 d5 d6 d7 d8 hb4 R4 B4 X4 D4 CL;go_wp2_with fail;refine(G7 CD _).mono ?_;rintro e w6 ⟨rfl,hb6⟩;have hgw6:g<(w4.setCell ⟨g,3,G5⟩ (S0 rp)).heap.size:=by simp;omega
       have B6:Hid (B0 u w6):=G8 (GH ((G7 B5).setCell (by exact hg) _) hb6);have X6:=G8 (((G7 X5).p rp).next hb6);have D6:w6.cell? ⟨w1.heap.size,5,G5⟩=G6 (I0 nv):=by
        have D7:=AP6 (a:=⟨g,3,G5⟩) (v:=S0 rp) D5 (by simp only;omega);rw[hb6.cell (p:=⟨w1.heap.size,5,G5⟩) (World.block_lt_of_cell? _ _ D7)];exact D7
       have k4:=(G7 X6).c4;have f4:=(G7 X6).f 4;have k5:=(G7 X6).c5;have f5:=(G7 X6).f 5;clear hb6 R5 B5 X5 D5 k3 f3 CD;go_wp2_with fail;go_ret;exact Y8 (G7 HF) rfl (((G7 B6).setCell hg _).setCell hg _) (by rw[G7 HX];exact((G7 X6).d rd).v (nv+1))
    .have HF:Hid (A86 t ⟨ro,rs,rp,rd,rv,rf⟩=9):=G8 ((A87 (G7 HG) (G7 HM) (G7 HL)).trans (if_neg (by rw[G7 HV];exact hv)));have hb1:(rv !=-1)=true:=by simp;omega
     have hb2:(rv !=nv)=true:=by simp;omega
     clear HN HE HG HM HL HV hv;go_wp2_with fail;go_ret;exact MK (G7 HF) (by decide) rfl (G7 B4)
  .rw[show decide (rs∈t.ss)=false from decide_eq_false hm];have HM:=G8 hm;clear hm;go_wp2_with fail;go_ret;exact MK (BH7 (G7 HG) (G7 HM)) (by decide) rfl (G7 B4)
theorem A54(t:Tr)(vn vs:FX)(r:Rq)(x:GN)(g:Nat)(u w:FW)(gt:QW t)(hn:IL u vn t.ns)(hb:B0 u w)(hg:u.heap.size<=g)(hx:TAt w g x)(hxp:x.p=r.p)(htab:Lib.TabIs prog u "internal/strconv.uint64pow10" .u64 Lib.pow10Tab):
  FZ prog 195 #[P0 g,.agg #[I0 t.z,vn,vs]] w (fE u g (AR7 t r) {x with p:=CS2 t r}):=by
 have CS:=G8 (fun W=>NH r.p W);have CG:=G8 (fun W (hW:B0 u W)=>dA t vn vs (IK r.p) W gt (hn.next hW));have hdl:=WY r.p;have hsl:(NU r.p).length<=200:=by
  rw[NU]
  split
  .rename_i h
   obtain⟨a,b,e,hb⟩:=aJ h.1;rw[e,TM b hb a];have:=MO h.1;rw[e]at this;simp at this⊢;omega
  .simp
 have CN:=G8 (fun(n:Int) W (hW:B0 u W)=>AH8 ⟨(NU r.p).toArray⟩ n W (by show (NU r.p).length<=_;omega) (A84 htab hW));have CJ:=G8 (fun(m:List UInt8) (hm:m.length<=140737488355328) W=>BH2 (IK r.p) m W hm);obtain⟨na,nc,rfl⟩:=GK hn;unfold TI at CG;rw[<-hxp]at CS;have k3:=hx.c3;rw[hxp]at k3 CS;have X0:=G8 hx;have B0:=G8 hb;have hgl:=hx.lt;have K0:∀W,Below (w.alloc (FV #[I0 t.z,FU na t.ns.length nc,vs] 37)).heap.size (w.alloc (FV #[I0 t.z,FU na t.ns.length nc,vs] 37)) W->W.heap[w.heap.size]?=G6 (FV #[I0 t.z,FU na t.ns.length nc,vs] 37 (0,0)):=fun W hW=>(hW.block _ (by simp)).trans (heap_alloc_new w _);have HK:=G8 K0;have HXP:=G8 hxp;clear hn hb hx K0 hxp;go_enter func195,ntmps195;go_wp2_with fail;refine(G7 CS _).mono ?_;rintro e w1 ⟨rfl,hb1⟩;have T1:=G7 HK w1 hb1;have B1:=G8 (GH (G7 B0) (GX hb1));have X1:=G8 ((G7 X0).next (GX hb1));have c0:w1.cell? ⟨w.heap.size,0,G5⟩=G6 (I0 t.z):=by simp[AX,T1]
 have c1:w1.cell? ⟨w.heap.size,1,G5⟩=G6 (FU na t.ns.length nc):=by simp[AX,T1]
 have c2:w1.cell? ⟨w.heap.size,2,G5⟩=G6 vs:=by simp[AX,T1]
 clear hb1 T1 B0 X0 CS HK k3;obtain⟨D,hD⟩:∃D,IK r.p=D:=⟨_,rfl⟩;obtain⟨S,hS⟩:∃S,NU r.p=S:=⟨_,rfl⟩;rw[hD]at CG hdl CJ⊢;rw[hS]at CN hsl⊢;have HD:=G8 hD;have HS:=G8 hS;clear hD hS;go_wp2_with fail;refine(G7 CG _ (G7 B1)).mono ?_;rintro e w2 ⟨rfl,hb2⟩;have B2:=G8 (GH (G7 B1) hb2);have X2:=G8 ((G7 X1).next hb2);clear hb2 B1 X1 c0 c1 c2 CG
 cases hl:LU t.ns D with
 |none=>
  obtain⟨h1,h2⟩:=iT hl;have HL:=G8 hl;rw[h1,h2];clear hl h1 h2;unfold WG;simp only;go_wp2_with fail;go_ret;exact MK (BI0 (by rw[G7 HD];exact G7 HL)) (by decide) rfl (GH (G7 B2) (G9 _ _))
 |some n=>
  obtain⟨h1,h2⟩:=iR hl;have HL:=G8 hl;rw[h1,h2];clear hl h1 h2;obtain⟨np,nd,nc',nm,nq,nv,nk,no,nn⟩:=n;simp only;have B3:=G8 (GH (G7 B2) (G9 w2 (FV #[S0 np,S0 nd,I0 nc',I0 nm,I0 nq,I0 nv,I0 nk,I0 no,I0 nn] 62)));go_wp2_with fail;refine(G7 CN nk _ (G7 B3)).mono ?_;rintro e w3 ⟨rfl,hb3⟩;rw[AW8];have B4:=G8 (GH (G7 B3) hb3);have X4:=G8 ((G7 X2).next (GX hb3));have hml:=BH5 S nk;have CJ1:=G8 (G7 CJ (AI3 S nk) (by omega));have NS:Hid (nU S nk≠0->AR7 t r=nU S nk):=G8 (fun h=>by
   have h':=C22 (t:=t) (r:=r) (u:=⟨np,nd,nc',nm,nq,nv,nk,no,nn⟩) (by rw[G7 HD];exact G7 HL) (by rw[G7 HS];exact h);rw[G7 HS]at h';exact h')
  have NJ:Hid (nU S nk=0->AR7 t r=dQ D (AI3 S nk)):=G8 (fun h=>by
   have h':=BI1 (t:=t) (r:=r) (u:=⟨np,nd,nc',nm,nq,nv,nk,no,nn⟩) (by rw[G7 HD];exact G7 HL) (by rw[G7 HS];exact h);rw[G7 HS,G7 HD]at h';exact h')
  have NP:Hid (CS2 t r=mM D (AI3 S nk)):=G8 (by
   rw[CS2,G7 HD,G7 HS,C23 (u:=⟨np,nd,nc',nm,nq,nv,nk,no,nn⟩) (by rw[G7 HD];exact G7 HL)])
  clear hb3 B3 X2 B2 CN CJ HL HD HS;generalize AI3 S nk=M at*;generalize nU S nk=F at*;by_cases hF:F=0
  .subst hF;have HN:=G8 (G7 NJ rfl);clear NS NJ;go_wp2_with fail;refine(G7 CJ1 _).mono ?_;rintro e w4 ⟨rfl,hb4⟩;have B5:=G8 (GH (G7 B4) hb4);have X5:=G8 ((G7 X4).next hb4);have k3:=(G7 X5).c3;have f3:=(G7 X5).f 3;clear hb4 B4 X4 CJ1;generalize mM D M=J at*;generalize dQ D M=G at*;go_wp2_with fail;go_ret;refine⟨?_,(G7 B5).setCell hg _,fun _=>?_⟩
   .rw[G7 HN];rfl
   .rw[G7 NP];exact(G7 X5).p J
  .have hFb:(F !=0)=true:=by simpa using hF
   have HN:=G8 (G7 NS hF);have HF:=G8 hF;clear NS NJ hF;go_wp2_with fail;go_ret;exact MK (G7 HN) (G7 HF) rfl (G7 B4)
theorem A55(t:Tr)(z:Int)(vn vs:FX)(r:Rq)(g:Nat)(u w:FW)(gt:QW t)(hn:IL u vn t.ns)(hs:IL u vs t.ss)(hb:B0 u w)(hg:u.heap.size<=g)(hx:TAt w g ⟨z,r.o,r.s,[],[],0,0⟩)(hp:r.p.length<=140737488355328)(hd:r.d.length<=140737488355328)(htab:Lib.TabIs prog u "internal/strconv.uint64pow10" .u64 Lib.pow10Tab):
  FZ prog 167 #[P0 g,.agg #[I0 t.z,vn,vs],rqV r] w (fE u g (A88 t r) (CS3 t z r)):=by
 have CO:=G8 (fun W (hW:B0 u W)=>bH t.z vn vs t.ss r.s W (hs.next hW) gt.ses);have CP:=G8 (fun W=>LX ⟨r.p.toArray⟩ W);have CL:=G8 (fun W=>NQ r.p W (by omega));have CD:=G8 (fun W=>NQ r.d W (by omega));have CN:=G8 (fun(x:GN) (hxp:x.p=r.p) W (hW:B0 u W) (hx:TAt W g x)=>A54 t vn vs r x g u W gt hn hW hg hx hxp htab);obtain⟨na,nc,rfl⟩:=GK hn;obtain⟨sa,sc,rfl⟩:=GK hs;obtain⟨ro,rs,rp,rd,rv,rf⟩:=r;unfold rqV;simp only at*;have X0:=G8 hx;have B0:=G8 hb;have hgl:=hx.lt;have R0:=G8 (TR.new w t.z (FU na t.ns.length nc) (FU sa t.ss.length sc) ⟨ro,rs,rp,rd,rv,rf⟩);clear hn hs hb hx;by_cases hf:0<=rf/\rf<=3
 .have hf1:=hf.1;have hf2:=hf.2;have HF:=G8 hf;have hfb1:(decide (rf<0))=false:=by simp;omega
  have hfb2:(decide (3<rf))=false:=by simp;omega
  clear hf;obtain⟨a0,a1,a2,a3,a4,a5,a6,a7,a8⟩:=(G7 R0).nine;simp only at a0 a1 a2 a3 a4 a5 a6 a7 a8;go_enter func167,ntmps167;go_wp2_with fail;refine(G7 CP _).mono ?_;rintro e w1 ⟨rfl,hb1⟩;have R1:=G8 ((G7 R0).next hb1);have B1:=G8 (GH (G7 B0) (GX (GX hb1)));have X1:=G8 ((G7 X0).next (GX (GX hb1)));obtain⟨b0,b1,b2,b3,b4,b5,b6,b7,b8⟩:=(G7 R1).nine;simp only at b0 b1 b2 b3 b4 b5 b6 b7 b8;clear a0 a1 a2 a3 a4 a5 a6 a7 a8 hb1 R0 B0 X0 CP
  cases hgd:J6 rp with
  |false=>
   have HG:=G8 hgd;clear hgd;go_wp2_with fail;go_ret;exact MK (A89 (G7 HF) (fun h=>by have h1:=h.1;rw[G7 HG]at h1;exact absurd h1 (by decide))) (by decide) rfl (G7 B1)
  |true=>
   have HG:=G8 hgd;clear hgd;by_cases hr:rp=[47]
   .have HR:=G8 hr;subst hr;go_wp2_with fail;go_ret;exact MK (A89 (G7 HF) (fun h=>h.2 rfl)) (by decide) rfl (G7 B1)
   .have HR:=G8 hr;have hrb:(rp==[47])=false:=by simpa using hr
    clear hr;go_wp2_with fail;refine(G7 CO _ (G7 B1)).mono ?_;rintro e w2 ⟨rfl,hb2⟩;have R2:=G8 ((G7 R1).next hb2);have B2:=G8 (GH (G7 B1) hb2);have X2:=G8 ((G7 X1).next hb2);obtain⟨d0,d1,d2,d3,d4,d5,d6,d7,d8⟩:=(G7 R2).nine;simp only at d0 d1 d2 d3 d4 d5 d6 d7 d8;clear b0 b1 b2 b3 b4 b5 b6 b7 b8 hb2 R1 B1 X1 CO hrb;by_cases hm:rs∈t.ss
    .rw[show decide (rs∈t.ss)=true from decide_eq_true hm];have HM:=G8 hm;clear hm;go_wp2_with fail;refine(G7 CL _).mono ?_;rintro e w3 ⟨rfl,hb3⟩;have R3:=G8 ((G7 R2).next hb3);have B3:=G8 (GH (G7 B2) hb3);have X3:=G8 ((G7 X2).next hb3);obtain⟨e0,e1,e2,e3,e4,e5,e6,e7,e8⟩:=(G7 R3).nine;simp only at e0 e1 e2 e3 e4 e5 e6 e7 e8;have k3:=(G7 X3).c3;have f3:=(G7 X3).f 3;have hne:w.heap.size+1≠g:=by omega
     have hne0:w.heap.size≠g:=by omega
     clear d0 d1 d2 d3 d4 d5 d6 d7 d8 hb3 R2 B2 X2 CL;go_wp2_with fail;refine(G7 CD _).mono ?_;rintro e w4 ⟨rfl,hb4⟩;have R4:=G8 (((G7 R3).other (a:=⟨g,3,G5⟩) (S0 rp) (.inl hgl)).next hb4);have B4:Hid (B0 u w4):=G8 (GH ((G7 B3).setCell (by exact hg) _) hb4);have X4:=G8 (((G7 X3).p rp).next hb4);obtain⟨i0,i1,i2,i3,i4,i5,i6,i7,i8⟩:=(G7 R4).nine;simp only at i0 i1 i2 i3 i4 i5 i6 i7 i8;have k4:=(G7 X4).c4;have f4:=(G7 X4).f 4;have k6:=(G7 X4).c6;have f6:=(G7 X4).f 6;clear e0 e1 e2 e3 e4 e5 e6 e7 e8 hb4 R3 B3 X3 CD k3 f3;have R5:=G8 ((G7 R4).other (a:=⟨g,4,G5⟩) (S0 rd) (.inl hgl));have B5:Hid (B0 u (w4.setCell ⟨g,4,G5⟩ (S0 rd))):=G8 ((G7 B4).setCell (by exact hg) _);have X5:=G8 ((G7 X4).d rd);have HP:Hid (J6 rp=true/\rp≠[47]):=G8 ⟨G7 HG,G7 HR⟩;have hfs:rf=0\/rf=1\/rf=2\/rf=3:=by omega
     clear HG HR;simp only at X5;rcases hfs with rfl|rfl|rfl|rfl
     .go_wp2_with fail;go_ret;exact Y8 (uZ (G7 HF) (G7 HP) (G7 HM) (by simp)) rfl (G7 B5) (G7 X5)
     .go_wp2_with fail;go_ret;exact Y8 (uZ (G7 HF) (G7 HP) (G7 HM) (by simp)) rfl ((G7 B5).setCell hg _) ((G7 X5).w rs)
     .go_wp2_with fail;refine(G7 CN _ rfl _ (G7 B5) (G7 X5)).mono ?_;rintro e w6 ⟨rfl,hb6,hx6⟩;have HB:=G8 hb6;have HX:=G8 hx6;clear hb6 hx6;go_wp2_with fail;go_ret;refine⟨?_,G7 HB,fun h=>?_⟩
      .rw[qK (G7 HF) (G7 HP) (G7 HM) (by simp)];rfl
      .rw[qK (G7 HF) (G7 HP) (G7 HM) (by simp)]at h;exact G7 HX h
     .go_wp2_with fail;refine(G7 CN _ rfl _ ((G7 B5).setCell hg _) ((G7 X5).w rs)).mono ?_;rintro e w6 ⟨rfl,hb6,hx6⟩;have HB:=G8 hb6;have HX:=G8 hx6;clear hb6 hx6;go_wp2_with fail;go_ret;refine⟨?_,G7 HB,fun h=>?_⟩
      .rw[qK (G7 HF) (G7 HP) (G7 HM) (by simp)];rfl
      .rw[qK (G7 HF) (G7 HP) (G7 HM) (by simp)]at h;exact G7 HX h
    .rw[show decide (rs∈t.ss)=false from decide_eq_false hm];have HM:=G8 hm;clear hm;go_wp2_with fail;go_ret;exact MK (BI2 (G7 HF) ⟨G7 HG,G7 HR⟩ (G7 HM)) (by decide) rfl (G7 B2)
 .have HF:=G8 hf;have hc:decide (rf<0)=true\/(decide (rf<0)=false/\decide (3<rf)=true):=by
   by_cases h:rf<0
   .exact .inl (by simp[h])
   .exact .inr ⟨by simp;omega,by simp;omega⟩
  clear hf;rcases hc with h|⟨h,h'⟩
  all_goals
   simp only[decide_eq_true_eq,decide_eq_false_iff_not]at h
   (try simp only[decide_eq_true_eq]at h')
   go_enter func167,ntmps167;go_wp2_with fail;go_ret;exact MK (AW9 (G7 HF)) (by decide) rfl (GH (GH (G7 B0) (G9 _ _)) (G9 _ _))
theorem BA3(t:Tr)(z:Int)(vn vs:FX)(r:Rq)(g:Nat)(u w:FW)(gt:QW t)(hn:IL u vn t.ns)(hs:IL u vs t.ss)(hb:B0 u w)(hg:u.heap.size<=g)(hx:TAt w g ⟨z,r.o,r.s,[],[],0,0⟩)(hp:r.p.length<=140737488355328)(hd:r.d.length<=140737488355328)(htab:Lib.TabIs prog u "internal/strconv.uint64pow10" .u64 Lib.pow10Tab):
  FZ prog 117 #[P0 g,.agg #[I0 t.z,vn,vs],rqV r] w (fE u g (mD t r) (dR t z r)):=by
 have CA:=G8 (fun(ho:r.o=4\/r.o=5) W (hW:B0 u W) hx=>A53 t z vn vs r g u W gt hn hs hW hg hx ho hp hd);have CC:=G8 (fun W (hW:B0 u W) hx=>A55 t z vn vs r g u W gt hn hs hW hg hx hp hd htab);obtain⟨na,nc,rfl⟩:=GK hn;obtain⟨sa,sc,rfl⟩:=GK hs;obtain⟨ro,rs,rp,rd,rv,rf⟩:=r;unfold rqV at*;simp only at*;have X0:=G8 hx;have B0:=G8 hb;have X1:=G8 (hx.next (GH (G9 w (FV #[I0 t.z,FU na t.ns.length nc,FU sa t.ss.length sc] 37)) (G9 _ (FV #[I0 ro,I0 rs,S0 rp,S0 rd,I0 rv,I0 rf] 56))));have B1:=G8 (GH hb (GH (G9 w (FV #[I0 t.z,FU na t.ns.length nc,FU sa t.ss.length sc] 37)) (G9 _ (FV #[I0 ro,I0 rs,S0 rp,S0 rd,I0 rv,I0 rf] 56))));clear hn hs hb hx htab;by_cases h1:ro=1\/ro=2
 .have HE:=G8 (AX0 (t:=t) (z:=z) (r:=⟨ro,rs,rp,rd,rv,rf⟩) h1);clear CA CC;rcases h1 with rfl|rfl
  all_goals
   go_enter func117,ntmps117;go_wp2_with fail;go_ret;exact Y8 (G7 HE).1 rfl (G7 B1) (by rw[(G7 HE).2];exact G7 X1)
 .by_cases h3:ro=3
  .have HE:=G8 (C24 (t:=t) (z:=z) (r:=⟨ro,rs,rp,rd,rv,rf⟩) h3);subst h3;clear CA h1;go_enter func117,ntmps117;go_wp2_with fail;refine(G7 CC _ (G7 B1) (G7 X1)).mono ?_;rintro e w6 ⟨rfl,hb6,hx6⟩;have HB:=G8 hb6;have HX:=G8 hx6;clear hb6 hx6;go_wp2_with fail;go_ret;refine⟨?_,G7 HB,fun h=>?_⟩
   .rw[(G7 HE).1];rfl
   .rw[(G7 HE).1]at h;rw[(G7 HE).2];exact G7 HX h
  .by_cases h4:ro=4\/ro=5
   .have HE:=G8 (C25 (t:=t) (z:=z) (r:=⟨ro,rs,rp,rd,rv,rf⟩) h4);have CB:=G8 (G7 CA h4);clear CA CC h1 h3;rcases h4 with rfl|rfl
    all_goals
     go_enter func117,ntmps117;go_wp2_with fail;refine(G7 CB _ (G7 B1) (G7 X1)).mono ?_;rintro e w6 ⟨rfl,hb6,hx6⟩;have HB:=G8 hb6;have HX:=G8 hx6;clear hb6 hx6;go_wp2_with fail;go_ret;refine⟨?_,G7 HB,fun h=>?_⟩
     .rw[(G7 HE).1];rfl
     .rw[(G7 HE).1]at h;rw[(G7 HE).2];exact G7 HX h
   .have HE:=G8 (BI3 (t:=t) (r:=⟨ro,rs,rp,rd,rv,rf⟩) (by simp only;omega));have e1:(ro==1)=false:=by simp;omega
    have e2:(ro==2)=false:=by simp;omega
    have e3:(ro==3)=false:=by simp;omega
    have e4:(ro==4)=false:=by simp;omega
    have e5:(ro==5)=false:=by simp;omega
    clear CA CC h1 h3 h4;go_enter func117,ntmps117;go_wp2_with fail;go_ret;exact MK (G7 HE) (by decide) rfl (G7 B1)
def AF1(w:FW)(t:Tr)(z:Int)(r:Rq)(e:Ending)(w':FW):Prop:=
 e=.returned (.tuple #[J9 (AR8 t z r),I0 (gK t z r)])/\B0 w w'
theorem V6{w:FW}{r:Rq}(hE:gK t z r=E)(h0:E≠0)(he:e=.returned (.tuple #[J9 t0,I0 E]))(hb:B0 w w'):AF1 w t z r e w':=by
 refine⟨?_,hb⟩;rw[C26 (by rw[hE];exact h0),hE];exact he
theorem BA4{w:FW}{r:Rq}(hE:gK t z r=0)(hX:AR8 t z r=x)(he:e=.returned (.tuple #[J9 x,I0 0]))(hb:B0 w w'):AF1 w t z r e w':=by
 refine⟨?_,hb⟩;rw[hE,hX];exact he
structure PB(w W:FW)(z:Int)(vn vs:FX)(r:Rq):Prop where
 t:TR W w.heap.size z vn vs r
 a:TAt W (w.heap.size+2) t0
 b:B0 w W
section
variable {w W V:FW} {z:Int} {vn vs:FX} {r:Rq}
theorem PB.next(h:PB w W z vn vs r)(hb:B0 W V):PB w V z vn vs r:=⟨h.t.next hb,h.a.next hb,GH h.b hb⟩
theorem PB.new(w:FW)(z:Int)(vn vs:FX)(r:Rq):PB w (((w.alloc (FV #[I0 z,vn,vs] 37)).alloc (FV #[I0 r.o,I0 r.s,S0 r.p,S0 r.d,I0 r.v,I0 r.f] 56)).alloc (FV #[I0 0,I0 0,I0 0,.string ⟨#[]⟩,.string ⟨#[]⟩,I0 0,I0 0] 79)) z vn vs r:=by
 refine⟨(TR.new w z vn vs r).next (G9 _ _),?_,GH (GH (G9 _ _) (G9 _ _)) (G9 _ _)⟩;have h:=TAt.new ((w.alloc (FV #[I0 z,vn,vs] 37)).alloc (FV #[I0 r.o,I0 r.s,S0 r.p,S0 r.d,I0 r.v,I0 r.f] 56)) t0;rw[show ((w.alloc (FV #[I0 z,vn,vs] 37)).alloc (FV #[I0 r.o,I0 r.s,S0 r.p,S0 r.d,I0 r.v,I0 r.f] 56)).heap.size=w.heap.size+2 by simp]at h;exact h
theorem PB.cells(h:PB w W z vn vs r):(W.cell? ⟨w.heap.size+2,0,G5⟩=G6 (I0 0)/\W.cell? ⟨w.heap.size+2,1,G5⟩=G6 (I0 0)/\W.cell? ⟨w.heap.size+2,2,G5⟩=G6 (I0 0)/\W.cell? ⟨w.heap.size+2,3,G5⟩=G6 (.string ⟨#[]⟩)/\W.cell? ⟨w.heap.size+2,4,G5⟩=G6 (.string ⟨#[]⟩)/\W.cell? ⟨w.heap.size+2,5,G5⟩=G6 (I0 0)/\W.cell? ⟨w.heap.size+2,6,G5⟩=G6 (I0 0)):=⟨h.a.c0,h.a.c1,h.a.c2,h.a.c3,h.a.c4,h.a.c5,h.a.c6⟩
end
def put7(W:FW)(g:Nat)(t:GN):FW:=
 ((((((W.setCell ⟨g,0,G5⟩ (I0 t.z)).setCell ⟨g,1,G5⟩ (I0 t.o)).setCell ⟨g,2,G5⟩ (I0 t.s)).setCell ⟨g,3,G5⟩ (S0 t.p)).setCell ⟨g,4,G5⟩ (S0 t.d)).setCell ⟨g,5,G5⟩ (I0 t.v)).setCell ⟨g,6,G5⟩ (I0 t.w)
theorem OU{w:FW}(t:GN)(hb:B0 w W)(hg:w.heap.size<=g):B0 w (put7 W g t):=
 ((((((hb.setCell hg _).setCell hg _).setCell hg _).setCell hg _).setCell hg _).setCell hg _).setCell hg _
theorem A56(t:Tr)(z:Int)(vn vs:FX)(r:Rq)(w:FW)(hn:IL w vn t.ns)(hs:IL w vs t.ss)(hw:WfT t)(hp:r.p.length<=140737488355328)(hd:r.d.length<=140737488355328)(htab:Lib.TabIs prog w "internal/strconv.uint64pow10" .u64 Lib.pow10Tab):
  FZ prog 77 #[.agg #[I0 t.z,vn,vs],I0 z,rqV r] w (AF1 w t z r):=by
 have CG:=G8 (fun W (hW:B0 w W)=>bJ t vn vs W (hn.next hW) (hs.next hW) hw);have CZ:=G8 (fun W=>JJ z W);have CF:=G8 (fun(gt:QW t) g u (hu:B0 w u) W hW hg hx=>BA3 t z vn vs r g u W gt (hn.next hu) (hs.next hu) hW hg hx hp hd (A84 htab hu));have CA:=G8 (fun W (hW:B0 w W)=>wJ t vn vs (dR t z r) W (hn.next hW) (hs.next hW) hw (by have:=CH4 t z r;omega));obtain⟨na,nc,rfl⟩:=GK hn;obtain⟨sa,sc,rfl⟩:=GK hs;obtain⟨ro,rs,rp,rd,rv,rf⟩:=r;unfold rqV at*;simp only at*;have P0:=G8 (PB.new w t.z (FU na t.ns.length nc) (FU sa t.ss.length sc) ⟨ro,rs,rp,rd,rv,rf⟩);simp only at P0;clear hn hs htab;go_enter func77,ntmps77;go_wp2_with fail;refine(G7 CG _ (G7 P0).b).mono ?_;rintro e w1 ⟨rfl,hb1⟩;have P1:=G8 ((G7 P0).next hb1);obtain⟨b0,b1,b2,b3,b4,b5,b6,b7,b8⟩:=(G7 P1).t.nine;obtain⟨c0,c1,c2,c3,c4,c5,c6⟩:=(G7 P1).cells;have f:=(G7 P1).a.f;have f0:=f 0;have f1:=f 1;have f2:=f 2;have f3:=f 3;have f4:=f 4;have f5:=f 5;have f6:=f 6;simp only at b0 b1 b2 b3 b4 b5 b6 b7 b8;clear hb1 P0 CG f
 cases hgd:UG t with
 |false=>
  have HE:Hid (gK t z ⟨ro,rs,rp,rd,rv,rf⟩=3):=G8 (aU (by simp[dS,hgd]));clear hgd;go_wp2_with fail;exact bodyPost_ret (v:=.tuple #[J9 t0,I0 3]) (by simp[results,results77,go_sem,J9,t0,c0,c1,c2,c3,c4,c5,c6]) rfl (V6 (G7 HE) (by decide) rfl (OU t0 (G7 P1).b (by omega)))
 |true=>
  have HG:=G8 (SC.1 hgd);have HGB:=G8 hgd;clear hgd;go_wp2_with fail;refine(G7 CZ _).mono ?_;rintro e w2 ⟨rfl,rfl⟩;clear CZ
  cases hzd:KN z with
  |false=>
   have HE:Hid (gK t z ⟨ro,rs,rp,rd,rv,rf⟩=3):=G8 (aU (by simp[dS,hzd]));clear hzd;go_wp2_with fail;exact bodyPost_ret (v:=.tuple #[J9 t0,I0 3]) (by simp[results,results77,go_sem,J9,t0,c0,c1,c2,c3,c4,c5,c6]) rfl (V6 (G7 HE) (by decide) rfl (OU t0 (G7 P1).b (by omega)))
  |true=>
   by_cases h1:rs<1
   .have HE:Hid (gK t z ⟨ro,rs,rp,rd,rv,rf⟩=3):=G8 (aU (by simp[dS];intros;omega));have hd1:decide (rs<1)=true:=decide_eq_true h1;clear hzd h1;go_wp2_with fail;exact bodyPost_ret (v:=.tuple #[J9 t0,I0 3]) (by simp[results,results77,go_sem,J9,t0,c0,c1,c2,c3,c4,c5,c6]) rfl (V6 (G7 HE) (by decide) rfl (OU t0 (G7 P1).b (by omega)))
   .by_cases h2:2147483647<rs
    .have HE:Hid (gK t z ⟨ro,rs,rp,rd,rv,rf⟩=3):=G8 (aU (by simp[dS];intros;omega));have hd1:decide (rs<1)=false:=decide_eq_false h1;have hd2:decide (2147483647<rs)=true:=decide_eq_true h2;clear hzd h1 h2;go_wp2_with fail;exact bodyPost_ret (v:=.tuple #[J9 t0,I0 3]) (by simp[results,results77,go_sem,J9,t0,c0,c1,c2,c3,c4,c5,c6]) rfl (V6 (G7 HE) (by decide) rfl (OU t0 (G7 P1).b (by omega)))
    .have HH:Hid (dS t z ⟨ro,rs,rp,rd,rv,rf⟩=true):=G8 (nX.2 ⟨G7 HG,hzd,by simp only;omega,by simp only;omega⟩);have hd1:decide (rs<1)=false:=decide_eq_false h1;have hd2:decide (2147483647<rs)=false:=decide_eq_false h2;clear hzd h1 h2;have X2:=G8 (TAt.new w2 ⟨z,ro,rs,[],[],0,0⟩);have P2:=G8 ((G7 P1).next (G9 w2 (FV #[I0 z,I0 ro,I0 rs,.string ⟨#[]⟩,.string ⟨#[]⟩,I0 0,I0 0] 79)));obtain⟨d0,d1,d2,d3,d4,d5,d6,d7,d8⟩:=(G7 P2).t.nine;simp only at d0 d1 d2 d3 d4 d5 d6 d7 d8;clear c0 c1 c2 c3 c4 c5 c6 f0 f1 f2 f3 f4 f5 f6;go_wp2_with fail;refine(G7 CF (G7 HG) w2.heap.size w2 (G7 P1).b _ (G9 _ _) (Nat.le_refl _) (G7 X2)).mono ?_;rintro e w3 ⟨rfl,hb3,hx3⟩;have P3:=G8 ((G7 P1).next hb3);have HX3:=G8 hx3;have PF:Hid (mD t ⟨ro,rs,rp,rd,rv,rf⟩≠0->gK t z ⟨ro,rs,rp,rd,rv,rf⟩=mD t ⟨ro,rs,rp,rd,rv,rf⟩):=G8 (fun h=>A90 (G7 HH) h);have PA:Hid (mD t ⟨ro,rs,rp,rd,rv,rf⟩=0->gK t z ⟨ro,rs,rp,rd,rv,rf⟩=YS t (dR t z ⟨ro,rs,rp,rd,rv,rf⟩)):=G8 (fun h=>zS (G7 HH) h);clear d0 d1 d2 d3 d4 d5 d6 d7 d8 b0 b1 b2 b3 b4 b5 b6 b7 b8 P2 X2 CF HG HGB HH hb3 hx3;generalize mD t ⟨ro,rs,rp,rd,rv,rf⟩=F at*;by_cases hF:F=0
     .have PE:=G8 (G7 PA hF);have X3:=G8 (G7 HX3 hF);subst hF;have KX:Hid (gK t z ⟨ro,rs,rp,rd,rv,rf⟩=0->AR8 t z ⟨ro,rs,rp,rd,rv,rf⟩=dR t z ⟨ro,rs,rp,rd,rv,rf⟩):=G8 (fun h=>zT h);unfold bK at CA;clear PF PA HX3;generalize jI t (dR t z ⟨ro,rs,rp,rd,rv,rf⟩)=T at*;generalize YX t (dR t z ⟨ro,rs,rp,rd,rv,rf⟩)=V at*;generalize YS t (dR t z ⟨ro,rs,rp,rd,rv,rf⟩)=E at*;generalize dR t z ⟨ro,rs,rp,rd,rv,rf⟩=x at*;obtain⟨xz,xo,xs,xp,xd,xv,xw⟩:=x;unfold J9 at CA;simp only at CA;have x0:=(G7 X3).c0;have x1:=(G7 X3).c1;have x2:=(G7 X3).c2;have x3:=(G7 X3).c3;have x4:=(G7 X3).c4;have x5:=(G7 X3).c5;have x6:=(G7 X3).c6;simp only at x0 x1 x2 x3 x4 x5 x6;obtain⟨e0,e1,e2,e3,e4,e5,e6,e7,e8⟩:=(G7 P3).t.nine;obtain⟨c0,c1,c2,c3,c4,c5,c6⟩:=(G7 P3).cells;have f:=(G7 P3).a.f;have f0:=f 0;have f1:=f 1;have f2:=f 2;have f3:=f 3;have f4:=f 4;have f5:=f 5;have f6:=f 6;simp only at e0 e1 e2 e3 e4 e5 e6 e7 e8;clear f;go_wp2_with fail;refine(G7 CA _ (G7 P3).b).mono ?_;rintro e w4 ⟨vn4,vs4,ve4,rfl,n4,s4,e4,hb4⟩;obtain⟨an,cn,rfl,_⟩:=n4.slice;obtain⟨ai,ci,rfl,_⟩:=s4.slice;obtain⟨ae,ce,rfl,_⟩:=e4.slice;have P5:=G8 ((G7 P3).next (GH hb4 (G9 w4 (FV #[I0 T.z,FU an T.ns.length cn,FU ai T.ss.length ci] 37))));have X5:=G8 ((G7 X3).next (GH hb4 (G9 w4 (FV #[I0 T.z,FU an T.ns.length cn,FU ai T.ss.length ci] 37))));clear c0 c1 c2 c3 c4 c5 c6 f0 f1 f2 f3 f4 f5 f6 x0 x1 x2 x3 x4 x5 x6 e0 e1 e2 e3 e5 e6 e7 e8 hb4 n4 s4 e4 P3 X3 CA;obtain⟨c0,c1,c2,c3,c4,c5,c6⟩:=(G7 P5).cells;have f:=(G7 P5).a.f;have f0:=f 0;have f1:=f 1;have f2:=f 2;have f3:=f 3;have f4:=f 4;have f5:=f 5;have f6:=f 6;have x0:=(G7 X5).c0;have x1:=(G7 X5).c1;have x2:=(G7 X5).c2;have x3:=(G7 X5).c3;have x4:=(G7 X5).c4;have x5:=(G7 X5).c5;have x6:=(G7 X5).c6;simp only at x0 x1 x2 x3 x4 x5 x6;clear f;by_cases hE:E=0
      .subst hE;have HX:=G8 (G7 KX (G7 PE));go_wp2_with fail;exact bodyPost_ret (v:=.tuple #[J9 ⟨xz,xo,xs,xp,xd,xv,xw⟩,I0 0]) (by simp[results,results77,go_sem,J9,c0,c1,c2,c3,c4,c5,c6]) rfl (BA4 (G7 PE) (G7 HX) rfl (OU ⟨xz,xo,xs,xp,xd,xv,xw⟩ (G7 P5).b (by omega)))
      .have hEb:(E !=0)=true:=by simpa using hE
       have HE:=G8 hE;clear hE;go_wp2_with fail;exact bodyPost_ret (v:=.tuple #[J9 t0,I0 E]) (by simp[results,results77,go_sem,J9,t0,c0,c1,c2,c3,c4,c5,c6]) rfl (V6 (G7 PE) (G7 HE) rfl (OU t0 (G7 P5).b (by omega)))
     .have PE:=G8 (G7 PF hF);have hFb:(F !=0)=true:=by simpa using hF
      have HF:=G8 hF;clear PF PA HX3 hF CA;obtain⟨e0,e1,e2,e3,e4,e5,e6,e7,e8⟩:=(G7 P3).t.nine;obtain⟨c0,c1,c2,c3,c4,c5,c6⟩:=(G7 P3).cells;have f:=(G7 P3).a.f;have f0:=f 0;have f1:=f 1;have f2:=f 2;have f3:=f 3;have f4:=f 4;have f5:=f 5;have f6:=f 6;simp only at e0 e1 e2 e3 e4 e5 e6 e7 e8;clear f;go_wp2_with fail;exact bodyPost_ret (v:=.tuple #[J9 t0,I0 F]) (by simp[results,results77,go_sem,J9,t0,c0,c1,c2,c3,c4,c5,c6]) rfl (V6 (G7 PE) (G7 HF) rfl (OU t0 (G7 P3).b (by omega)))
