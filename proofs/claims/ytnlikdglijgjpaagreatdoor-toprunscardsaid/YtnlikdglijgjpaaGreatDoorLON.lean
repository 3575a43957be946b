/-
  Part.
-/
import Derived.Test.YtnlikdglijgjpaaGreatDoorLOM
set_option maxRecDepth 20000
set_option maxHeartbeats 8000000
namespace Go.Proofs.YtnlikdglijgjpaaGreatDoor
open Go.RowKit Go.Proofs.Tryz
open Go.World renaming cell?->AV
open Go.Value renaming slice->FT
open Go.Obj renaming cells->FU
open Go renaming World->FV,Value->FW,Calls->FX
open _root_.Option renaming none->FZ,some->G5
variable{t:Tr}{n u:Nd}{z E:Int}{g:Nat}{x:GK}{e:Ending}{w' W:FV}
structure Rq where
 o:Int
 s:Int
 p:List UInt8
 d:List UInt8
 v:Int
 f:Int
def rqV(r:Rq):FW:=.agg #[I0 r.o,I0 r.s,S0 r.p,S0 r.d,I0 r.v,I0 r.f]
def AH6(l:List UInt8)(n:Int):List UInt8:=if mQ l n=0 then l++ten n.toNat else []
theorem AV8(l:List UInt8)(n:Int):BV6 l n=⟨(AH6 l n).toArray⟩:=by
 by_cases h:mQ l n=0
 .rw[(AV3 h).2.2.2,AH6,if_pos h]
 .rw[C01 h,AH6,if_neg h]
theorem BG0(l:List UInt8)(n:Int):(AH6 l n).length<=40:=by
 by_cases h:mQ l n=0
 .obtain⟨_,_,hn,_⟩:=AV3 h;rw[AH6,if_pos h];simp only[JA,Bool.and_eq_true,decide_eq_true_eq]at hn;exact hn.1.2
 .rw[AH6,if_neg h];simp
def A79(t:Tr)(r:Rq):Int:=if J4 r.p=true then(if r.s∈t.ss then(match LQ t.ns r.p with
 |none=>7
 |some n=>if r.v=-1\/r.v=n.v then 0 else 9)else 12)else 2
def CQ9(t:Tr)(r:Rq):Int:=match LQ t.ns r.p with
 |none=>0
 |some n=>n.v
def C02(t:Tr)(z:Int)(r:Rq):GK:=⟨z,r.o,r.s,r.p,if r.o=5 then r.d else [],if r.o=5 then CQ9 t r+1 else 0,0⟩
theorem BG1{r:Rq}(h:J4 r.p=false):A79 t r=2:=by rw[A79,if_neg (by simp[h])]
theorem BG2{r:Rq}(h:J4 r.p=true)(hs:r.s∉t.ss):A79 t r=12:=by rw[A79,if_pos h,if_neg hs]
theorem BG3{r:Rq}(h:J4 r.p=true)(hs:r.s∈t.ss)(hn:LQ t.ns r.p=FZ):A79 t r=7:=by rw[A79,if_pos h,if_pos hs,hn]
theorem A80{r:Rq}(h:J4 r.p=true)(hs:r.s∈t.ss)(hn:LQ t.ns r.p=G5 n):A79 t r=if r.v=-1\/r.v=n.v then 0 else 9:=by rw[A79,if_pos h,if_pos hs,hn]
theorem BG4{r:Rq}(hn:LQ t.ns r.p=G5 n):CQ9 t r=n.v:=by rw[CQ9,hn]
def cvN(t:Tr)(r:Rq):Int:=match LQ t.ns (II r.p)with
 |none=>0
 |some u=>u.k
def AR3(t:Tr)(r:Rq):Int:=match LQ t.ns (II r.p)with
 |none=>7
 |some u=>if mQ (NQ r.p) u.k=0 then bZ (II r.p) (AH6 (NQ r.p) u.k)else mQ (NQ r.p) u.k
def CR0(t:Tr)(r:Rq):List UInt8:=lI (II r.p) (AH6 (NQ r.p) (cvN t r))
def A81(t:Tr)(r:Rq):Int:=if 0<=r.f/\r.f<=3 then(if J4 r.p=true/\r.p≠[47]then(if r.s∈t.ss then(if 2<=r.f then AR3 t r else 0)else 12)else 2)else 3
def CR1(t:Tr)(z:Int)(r:Rq):GK:=⟨z,r.o,r.s,if 2<=r.f then CR0 t r else r.p,r.d,0,if r.f%2=1 then r.s else 0⟩
theorem BG5{r:Rq}(h:LQ t.ns (II r.p)=FZ):AR3 t r=7:=by rw[AR3,h]
theorem C03{r:Rq}(h:LQ t.ns (II r.p)=G5 u)(h0:mQ (NQ r.p) u.k≠0):AR3 t r=mQ (NQ r.p) u.k:=by rw[AR3,h];simp only;rw[if_neg h0]
theorem BG6{r:Rq}(h:LQ t.ns (II r.p)=G5 u)(h0:mQ (NQ r.p) u.k=0):AR3 t r=bZ (II r.p) (AH6 (NQ r.p) u.k):=by rw[AR3,h];simp only;rw[if_pos h0]
theorem C04{r:Rq}(h:LQ t.ns (II r.p)=G5 u):cvN t r=u.k:=by rw[cvN,h]
theorem AV9{r:Rq}(h:¬ (0<=r.f/\r.f<=3)):A81 t r=3:=by rw[A81,if_neg h]
theorem A82{r:Rq}(h:0<=r.f/\r.f<=3)(hp:¬ (J4 r.p=true/\r.p≠[47])):A81 t r=2:=by rw[A81,if_pos h,if_neg hp]
theorem BG7{r:Rq}(h:0<=r.f/\r.f<=3)(hp:J4 r.p=true/\r.p≠[47])(hs:r.s∉t.ss):A81 t r=12:=by rw[A81,if_pos h,if_pos hp,if_neg hs]
theorem uH{r:Rq}(h:0<=r.f/\r.f<=3)(hp:J4 r.p=true/\r.p≠[47])(hs:r.s∈t.ss)(hf:r.f<2):A81 t r=0:=by rw[A81,if_pos h,if_pos hp,if_pos hs,if_neg (by omega)]
theorem pK{r:Rq}(h:0<=r.f/\r.f<=3)(hp:J4 r.p=true/\r.p≠[47])(hs:r.s∈t.ss)(hf:2<=r.f):A81 t r=AR3 t r:=by rw[A81,if_pos h,if_pos hp,if_pos hs,if_pos hf]
def lC(t:Tr)(r:Rq):Int:=if r.o=1\/r.o=2 then 0 else if r.o=3 then A81 t r else if r.o=4\/r.o=5 then A79 t r else 4
def cO(t:Tr)(z:Int)(r:Rq):GK:=if r.o=3 then CR1 t z r else if r.o=4\/r.o=5 then C02 t z r else⟨z,r.o,r.s,[],[],0,0⟩
theorem AW4{r:Rq}(h:r.o=1\/r.o=2):lC t r=0/\cO t z r=⟨z,r.o,r.s,[],[],0,0⟩:=by
 refine⟨by rw[lC,if_pos h],?_⟩;rw[cO,if_neg (by omega),if_neg (by omega)]
theorem C05{r:Rq}(h:r.o=3):lC t r=A81 t r/\cO t z r=CR1 t z r:=by
 refine⟨by rw[lC,if_neg (by omega),if_pos h],by rw[cO,if_pos h]⟩
theorem C06{r:Rq}(h:r.o=4\/r.o=5):lC t r=A79 t r/\cO t z r=C02 t z r:=by
 refine⟨by rw[lC,if_neg (by omega),if_neg (by omega),if_pos h],by rw[cO,if_neg (by omega),if_pos h]⟩
theorem BG8{r:Rq}(h:r.o<1\/5<r.o):lC t r=4:=by
 rw[lC,if_neg (by omega),if_neg (by omega),if_neg (by omega)]
noncomputable def cZ(t:Tr)(z:Int)(r:Rq):Bool:=TW t&&KL z&&decide (1<=r.s)&&decide (r.s<=2147483647)
noncomputable def fG(t:Tr)(z:Int)(r:Rq):Int:=if cZ t z r=true then(if lC t r=0 then Y7 t (cO t z r)else lC t r)else 3
noncomputable def AR4(t:Tr)(z:Int)(r:Rq):GK:=if fG t z r=0 then cO t z r else t0
theorem mV{r:Rq}:cZ t z r=true↔QZ t/\KL z=true/\1<=r.s/\r.s<=2147483647:=by
 simp only[cZ,Bool.and_eq_true,decide_eq_true_eq,RV,and_assoc]
theorem ZV{r:Rq}(h:cZ t z r=false):fG t z r=3:=by rw[fG,if_neg (by simp[h])]
theorem A83{r:Rq}(h:cZ t z r=true)(hf:lC t r≠0):fG t z r=lC t r:=by rw[fG,if_pos h,if_neg hf]
theorem zA{r:Rq}(h:cZ t z r=true)(hf:lC t r=0):fG t z r=Y7 t (cO t z r):=by rw[fG,if_pos h,if_pos hf]
theorem C07{r:Rq}(h:fG t z r≠0):AR4 t z r=t0:=by rw[AR4,if_neg h]
theorem zC{r:Rq}(h:fG t z r=0):AR4 t z r=cO t z r:=by rw[AR4,if_pos h]
theorem BG9{r:Rq}(h:fG t z r=0):cZ t z r=true/\lC t r=0/\Y7 t (cO t z r)=0:=by
 cases hh:cZ t z r with
 |false=>rw[ZV hh]at h;exact absurd h (by decide)
 |true=>
  by_cases hf:lC t r=0
  .exact⟨rfl,hf,by rw[<-zA hh hf];exact h⟩
  .rw[A83 hh hf]at h;exact absurd h hf
theorem AH7(t:Tr)(z:Int)(r:Rq):(cO t z r).z=z/\(cO t z r).o=r.o/\(cO t z r).s=r.s/\((cO t z r).w=0\/(cO t z r).w=r.s):=by
 unfold cO
 split
 .refine⟨rfl,rfl,rfl,?_⟩;simp only[CR1]
  split
  .exact .inr rfl
  .exact .inl rfl
 .split
  .exact⟨rfl,rfl,rfl,.inl rfl⟩
  .exact⟨rfl,rfl,rfl,.inl rfl⟩
theorem CG5(t:Tr)(z:Int)(r:Rq):(cO t z r).d.length<=r.d.length:=by
 unfold cO
 split
 .exact Nat.le_refl _
 .split
  .simp only[C02]
   split
   .exact Nat.le_refl _
   .simp
  .simp
structure FitP(t:Tr)(z:Int)(r:Rq)(x:GK):Prop where
 app:Y7 t x=0
 az:(iR t x).z=z
 z:x.z=z
 o:x.o=r.o
 s:x.s=r.s
 gd:gdE x=0
 w:x.w=0\/x.w=r.s
theorem AH8{r:Rq}(h:fG t z r=0):FitP t z r (AR4 t z r):=by
 obtain⟨_,_,ha⟩:=BG9 h;rw[zC h];obtain⟨e1,e2,e3,e4⟩:=AH7 t z r;exact⟨ha,(ZT ha).2.1.trans e1,e1,e2,e3,(PZ (pJ ha).1).2.1,e4⟩
theorem QZ.pwf(g:QZ t):WfT t:=by
 refine⟨fun s hs=>by have:=g.ses.2 s hs;omega,fun n hn=>?_⟩;have k:=g.nod.ok n hn;exact⟨by have:=MP k.path;omega,by have:=k.data;omega⟩
def oH(t:Tr)(p:List UInt8):Nd:=(LQ t.ns p).getD VK
def AE2(t:Tr)(p:List UInt8):Int:=if(LQ t.ns p).isSome=true then 0 else 7
theorem gY{p:List UInt8}(h:LQ t.ns p=G5 n):oH t p=n/\AE2 t p=0:=by
 rw[oH,AE2,h];exact⟨rfl,rfl⟩
theorem gZ{p:List UInt8}(h:LQ t.ns p=FZ):oH t p=VK/\AE2 t p=7:=by
 rw[oH,AE2,h];exact⟨rfl,rfl⟩
theorem iC(t:Tr)(vn vs:FW)(p:List UInt8)(w:FV)(g:QZ t)(hn:IE w vn t.ns):
  FX prog 55 #[.agg #[I0 t.z,vn,vs],S0 p] w (R0 w (.tuple #[TM (oH t p),I0 (AE2 t p)])):=by
 have few:=g.nod.few;rcases YB p t.ns g.nod.asc with⟨A,n,B,T⟩|⟨A,B,G⟩
 .have hm:n∈t.ns:=by rw[T.eq];simp
  have sl:=g.pwf.CI7 n hm;rw[(gY T.look).1,(gY T.look).2];exact AL4 t.z vn vs t.ns A B n p w hn (by omega) T sl.1 sl.2
 .rw[(gZ G.look).1,(gZ G.look).2];exact BL3 t.z vn vs t.ns A B p w hn (by omega) G
structure TR(W:FV)(q:Nat)(z:Int)(vn vs:FW)(r:Rq):Prop where
 t:W.heap[q]?=G5 (FU #[I0 z,vn,vs] 58 (0,0))
 r:W.heap[q+1]?=G5 (FU #[I0 r.o,I0 r.s,S0 r.p,S0 r.d,I0 r.v,I0 r.f] 41 (0,0))
section
variable {W V:FV} {q:Nat} {z:Int} {vn vs:FW} {r:Rq}
theorem TR.lt(h:TR W q z vn vs r):q+1<W.heap.size:=(Array.getElem?_eq_some_iff.1 h.r).1
theorem TR.next(h:TR W q z vn vs r)(hb:B0 W V):TR V q z vn vs r:=⟨(hb.block _ (by have:=h.lt;omega)).trans h.t,(hb.block _ h.lt).trans h.r⟩
theorem TR.other(h:TR W q z vn vs r){a:Addr}(v:FW)(h1:a.block<q\/q+1<a.block):TR (W.setCell a v) q z vn vs r:=
 ⟨(Below.heap_setCell W a v q (by omega)).trans h.t,(Below.heap_setCell W a v (q+1) (by omega)).trans h.r⟩
theorem TR.nine(h:TR W q z vn vs r):W.cell? ⟨q,0,FZ⟩=G5 (I0 z)/\W.cell? ⟨q,1,FZ⟩=G5 vn/\W.cell? ⟨q,2,FZ⟩=G5 vs/\W.cell? ⟨q+1,0,FZ⟩=G5 (I0 r.o)/\W.cell? ⟨q+1,1,FZ⟩=G5 (I0 r.s)/\W.cell? ⟨q+1,2,FZ⟩=G5 (S0 r.p)/\W.cell? ⟨q+1,3,FZ⟩=G5 (S0 r.d)/\W.cell? ⟨q+1,4,FZ⟩=G5 (I0 r.v)/\W.cell? ⟨q+1,5,FZ⟩=G5 (I0 r.f):=by
 have h1:=h.t;have h2:=h.r;refine⟨?_,?_,?_,?_,?_,?_,?_,?_,?_⟩<;>simp[AV,h1,h2]
end
theorem TR.new(w:FV)(z:Int)(vn vs:FW)(r:Rq):TR ((w.alloc (FU #[I0 z,vn,vs] 58)).alloc (FU #[I0 r.o,I0 r.s,S0 r.p,S0 r.d,I0 r.v,I0 r.f] 41)) w.heap.size z vn vs r:=by
 refine⟨?_,?_⟩
 .rw[(G8 _ _).block _ (by simp)];exact heap_alloc_new w _
 .have h:=heap_alloc_new (w.alloc (FU #[I0 z,vn,vs] 58)) (FU #[I0 r.o,I0 r.s,S0 r.p,S0 r.d,I0 r.v,I0 r.f] 41);rw[show (w.alloc (FU #[I0 z,vn,vs] 58)).heap.size=w.heap.size+1 by simp]at h;exact h
def dS(u:FV)(g:Nat)(E:Int)(x:GK)(e:Ending)(w':FV):Prop:=
 e=.returned (I0 E)/\B0 u w'/\(E=0->TAt w' g x)
theorem MK{u:FV}{E':Int}(hE:E=E')(h0:E'≠0)(he:e=.returned (I0 E'))(hb:B0 u w'):dS u g E x e w':=
 ⟨by rw[hE];exact he,hb,fun h=>absurd (hE.symm.trans h) h0⟩
theorem XF{u:FV}(hE:E=0)(he:e=.returned (I0 0))(hb:B0 u w')(hx:TAt w' g x):dS u g E x e w':=
 ⟨by rw[hE];exact he,hb,fun _=>hx⟩
theorem AO6{a:Addr}{v x:FW}{k j:Nat}(h:W.cell? ⟨k,j,FZ⟩=G5 x)(hk:k≠a.block):(W.setCell a v).cell? ⟨k,j,FZ⟩=G5 x:=by
 have e:=Below.heap_setCell W a v k hk;unfold AV at h⊢;simp only at h⊢;rw[e];exact h
theorem TAt.p(h:TAt W g x)(l:List UInt8):TAt (W.setCell ⟨g,3,FZ⟩ (S0 l)) g {x with p:=l}:=by
 unfold TAt at*;rw[GU _ h];simp
theorem TAt.d(h:TAt W g x)(l:List UInt8):TAt (W.setCell ⟨g,4,FZ⟩ (S0 l)) g {x with d:=l}:=by
 unfold TAt at*;rw[GU _ h];simp
theorem TAt.v(h:TAt W g x)(l:Int):TAt (W.setCell ⟨g,5,FZ⟩ (I0 l)) g {x with v:=l}:=by
 unfold TAt at*;rw[GU _ h];simp
theorem TAt.w(h:TAt W g x)(l:Int):TAt (W.setCell ⟨g,6,FZ⟩ (I0 l)) g {x with w:=l}:=by
 unfold TAt at*;rw[GU _ h];simp
theorem A39(t:Tr)(z:Int)(vn vs:FW)(r:Rq)(g:Nat)(u w:FV)(gt:QZ t)(hn:IE u vn t.ns)(hs:IE u vs t.ss)(hb:B0 u w)(hg:u.heap.size<=g)(hx:TAt w g ⟨z,r.o,r.s,[],[],0,0⟩)(ho:r.o=4\/r.o=5)(hp:r.p.length<=140737488355328)(hd:r.d.length<=140737488355328):
  FX prog 166 #[P0 g,.agg #[I0 t.z,vn,vs],rqV r] w (dS u g (A79 t r) (C02 t z r)):=by
 have CG:=G7 (fun W (hW:B0 u W)=>iC t vn vs r.p W gt (hn.next hW));have CO:=G7 (fun W (hW:B0 u W)=>aH t.z vn vs t.ss r.s W (hs.next hW) gt.ses);have CP:=G7 (fun W=>LX ⟨r.p.toArray⟩ W);have CL:=G7 (fun W=>NK r.p W (by omega));have CD:=G7 (fun W=>NK r.d W (by omega));obtain⟨na,nc,rfl⟩:=GL hn;obtain⟨sa,sc,rfl⟩:=GL hs;unfold TM at CG;obtain⟨ro,rs,rp,rd,rv,rf⟩:=r;unfold rqV;simp only at*;have X0:=G7 hx;have B0:=G7 hb;have hgl:=hx.lt;have R0:=G7 (TR.new w t.z (FT na t.ns.length nc) (FT sa t.ss.length sc) ⟨ro,rs,rp,rd,rv,rf⟩);clear hn hs hb hx;go_enter func166,ntmps166;go_wp2_with fail;refine(G6 CG _ (G9 (G9 (G6 B0) (G8 _ _)) (G8 _ _))).mono ?_;rintro e w1 ⟨rfl,hb1⟩;have R1:=G7 ((G6 R0).next hb1);have B1:=G7 (G9 (G6 B0) (GY (GY hb1)));have X1:=G7 ((G6 X0).next (GY (GY hb1)));clear hb1 R0 B0 X0 CG;obtain⟨N,hN⟩:∃N,oH t rp=N:=⟨_,rfl⟩;obtain⟨E,hE⟩:∃E,AE2 t rp=E:=⟨_,rfl⟩;rw[hN,hE];have HN:=G7 hN;have HE:=G7 hE;clear hN hE;obtain⟨np,nd,nc,nm,nq,nv,nk,no,nn⟩:=N;simp only;have R2:=G7 ((G6 R1).next (G8 w1 (FU #[S0 np,S0 nd,I0 nc,I0 nm,I0 nq,I0 nv,I0 nk,I0 no,I0 nn] 67)));obtain⟨a0,a1,a2,a3,a4,a5,a6,a7,a8⟩:=(G6 R2).nine;simp only at a0 a1 a2 a3 a4 a5 a6 a7 a8;go_wp2_with fail;refine(G6 CP _).mono ?_;rintro e w2 ⟨rfl,hb2⟩;have R3:=G7 ((G6 R2).next hb2);have B3:=G7 (G9 (G6 B1) (GY hb2));have X3:=G7 ((G6 X1).next (GY hb2));have D3:w2.cell? ⟨w1.heap.size,5,FZ⟩=G5 (I0 nv):=by rw[hb2.cell (p:=⟨w1.heap.size,5,FZ⟩) (by simp)];simp
 obtain⟨b0,b1,b2,b3,b4,b5,b6,b7,b8⟩:=(G6 R3).nine;simp only at b0 b1 b2 b3 b4 b5 b6 b7 b8;have hg1:=(G6 X1).lt;clear a0 a1 a2 a3 a4 a5 a6 a7 a8 hb2 R1 R2 B1 X1 CP
 cases hgd:J4 rp with
 |false=>
  have HG:=G7 hgd;clear hgd;go_wp2_with fail;go_ret;exact MK (BG1 (G6 HG)) (by decide) rfl (G6 B3)
 |true=>
  have HG:=G7 hgd;clear hgd;go_wp2_with fail;refine(G6 CO _ (G6 B3)).mono ?_;rintro e w3 ⟨rfl,hb3⟩;have R4:=G7 ((G6 R3).next hb3);have B4:=G7 (G9 (G6 B3) hb3);have X4:=G7 ((G6 X3).next hb3);have D4:w3.cell? ⟨w1.heap.size,5,FZ⟩=G5 (I0 nv):=by rw[hb3.cell (p:=⟨w1.heap.size,5,FZ⟩) (World.block_lt_of_cell? _ _ D3)];exact D3
  obtain⟨d0,d1,d2,d3,d4,d5,d6,d7,d8⟩:=(G6 R4).nine;simp only at d0 d1 d2 d3 d4 d5 d6 d7 d8;clear b0 b1 b2 b3 b4 b5 b6 b7 b8 hb3 R3 B3 X3 CO D3;by_cases hm:rs∈t.ss
  .rw[show decide (rs∈t.ss)=true from decide_eq_true hm];have HM:=G7 hm;clear hm
   cases hl:LQ t.ns rp with
   |none=>
    have HL:=G7 hl;obtain⟨_,h7⟩:=gZ hl;rw[G6 HE]at h7;subst h7;clear hl;go_wp2_with fail;go_ret;exact MK (BG3 (G6 HG) (G6 HM) (G6 HL)) (by decide) rfl (G6 B4)
   |some n=>
    have HL:=G7 hl;obtain⟨hnn,h0⟩:=gY hl;rw[G6 HE]at h0;subst h0;rw[G6 HN]at hnn;have hnv:n.v=nv:=by rw[<-hnn]
    have hko:=gt.nod.ok n (XK hl).1;have hv0:0<=nv:=by have:=hko.v0;omega
    have hv1:nv<=2147483647:=by have:=hko.v1;omega
    have HV:=G7 hnv;clear hl hnn hnv hko;by_cases hv:rv=-1\/rv=nv
    .have HF:Hid (A79 t ⟨ro,rs,rp,rd,rv,rf⟩=0):=G7 ((A80 (G6 HG) (G6 HM) (G6 HL)).trans (if_pos (by rw[G6 HV];exact hv)));have HY:Hid (CQ9 t ⟨ro,rs,rp,rd,rv,rf⟩=nv):=G7 ((BG4 (G6 HL)).trans (G6 HV));have hgw:=(G6 X4).lt;have hc:(rv !=-1)=false\/((rv !=-1)=true/\(rv !=nv)=false):=by
      rcases hv with h|h
      .exact .inl (by simp[h])
      .by_cases h1:rv=-1
       .exact .inl (by simp[h1])
       .exact .inr ⟨by simp[h1],by simp[h]⟩
     clear HN HE HG HM HL HV hv;rcases hc with hc1|⟨hc1,hc2⟩
     all_goals
      rcases ho with rfl|rfl
      .have HX:Hid (C02 t z ⟨4,rs,rp,rd,rv,rf⟩=⟨z,4,rs,rp,[],0,0⟩):=G7 rfl;go_wp2_with fail;refine(G6 CL _).mono ?_;rintro e w4 ⟨rfl,hb4⟩;have R5:=G7 ((G6 R4).next hb4);have B5:=G7 (G9 (G6 B4) hb4);have X5:=G7 ((G6 X4).next hb4);have D5:w4.cell? ⟨w1.heap.size,5,FZ⟩=G5 (I0 nv):=by rw[hb4.cell (p:=⟨w1.heap.size,5,FZ⟩) (World.block_lt_of_cell? _ _ D4)];exact D4
       have k3:=(G6 X5).c3;have f3:=(G6 X5).f 3;have hgw5:=(G6 X5).lt;obtain⟨e0,e1,e2,e3,e4,e5,e6,e7,e8⟩:=(G6 R5).nine;simp only at e0 e1 e2 e3 e4 e5 e6 e7 e8;have hne:w.heap.size+1≠g:=by omega
       clear d0 d1 d2 d3 d4 d5 d6 d7 d8 hb4 R4 B4 X4 D4 CL;go_wp2_with fail;go_ret;exact XF (G6 HF) rfl ((G6 B5).setCell hg _) (by rw[G6 HX];exact(G6 X5).p rp)
      .have HX:Hid (C02 t z ⟨5,rs,rp,rd,rv,rf⟩=⟨z,5,rs,rp,rd,nv+1,0⟩):=G7 (by rw[C02,G6 HY];rfl);go_wp2_with fail;refine(G6 CL _).mono ?_;rintro e w4 ⟨rfl,hb4⟩;have R5:=G7 ((G6 R4).next hb4);have B5:=G7 (G9 (G6 B4) hb4);have X5:=G7 ((G6 X4).next hb4);have D5:w4.cell? ⟨w1.heap.size,5,FZ⟩=G5 (I0 nv):=by rw[hb4.cell (p:=⟨w1.heap.size,5,FZ⟩) (World.block_lt_of_cell? _ _ D4)];exact D4
       have k3:=(G6 X5).c3;have f3:=(G6 X5).f 3;have hgw5:=(G6 X5).lt;obtain⟨e0,e1,e2,e3,e4,e5,e6,e7,e8⟩:=(G6 R5).nine;simp only at e0 e1 e2 e3 e4 e5 e6 e7 e8;have hne:w.heap.size+1≠g:=by omega
       clear d0 d1 d2 d3 d4 d5 d6 d7 d8 hb4 R4 B4 X4 D4 CL;go_wp2_with fail;refine(G6 CD _).mono ?_;rintro e w6 ⟨rfl,hb6⟩;have hgw6:g<(w4.setCell ⟨g,3,FZ⟩ (S0 rp)).heap.size:=by simp;omega
       have B6:Hid (B0 u w6):=G7 (G9 ((G6 B5).setCell (by exact hg) _) hb6);have X6:=G7 (((G6 X5).p rp).next hb6);have D6:w6.cell? ⟨w1.heap.size,5,FZ⟩=G5 (I0 nv):=by
        have D7:=AO6 (a:=⟨g,3,FZ⟩) (v:=S0 rp) D5 (by simp only;omega);rw[hb6.cell (p:=⟨w1.heap.size,5,FZ⟩) (World.block_lt_of_cell? _ _ D7)];exact D7
       have k4:=(G6 X6).c4;have f4:=(G6 X6).f 4;have k5:=(G6 X6).c5;have f5:=(G6 X6).f 5;clear hb6 R5 B5 X5 D5 k3 f3 CD;go_wp2_with fail;go_ret;exact XF (G6 HF) rfl (((G6 B6).setCell hg _).setCell hg _) (by rw[G6 HX];exact((G6 X6).d rd).v (nv+1))
    .have HF:Hid (A79 t ⟨ro,rs,rp,rd,rv,rf⟩=9):=G7 ((A80 (G6 HG) (G6 HM) (G6 HL)).trans (if_neg (by rw[G6 HV];exact hv)));have hb1:(rv !=-1)=true:=by simp;omega
     have hb2:(rv !=nv)=true:=by simp;omega
     clear HN HE HG HM HL HV hv;go_wp2_with fail;go_ret;exact MK (G6 HF) (by decide) rfl (G6 B4)
  .rw[show decide (rs∈t.ss)=false from decide_eq_false hm];have HM:=G7 hm;clear hm;go_wp2_with fail;go_ret;exact MK (BG2 (G6 HG) (G6 HM)) (by decide) rfl (G6 B4)
theorem A40(t:Tr)(vn vs:FW)(r:Rq)(x:GK)(g:Nat)(u w:FV)(gt:QZ t)(hn:IE u vn t.ns)(hb:B0 u w)(hg:u.heap.size<=g)(hx:TAt w g x)(hxp:x.p=r.p)(htab:Lib.TabIs prog u "internal/strconv.uint64pow10" .u64 Lib.pow10Tab):
  FX prog 198 #[P0 g,.agg #[I0 t.z,vn,vs]] w (dS u g (AR3 t r) {x with p:=CR0 t r}):=by
 have CS:=G7 (fun W=>ND r.p W);have CG:=G7 (fun W (hW:B0 u W)=>iC t vn vs (II r.p) W gt (hn.next hW));have hdl:=WC r.p;have hsl:(NQ r.p).length<=200:=by
  rw[NQ]
  split
  .rename_i h
   obtain⟨a,b,e,hb⟩:=ZN h.1;rw[e,TB b hb a];have:=MP h.1;rw[e]at this;simp at this⊢;omega
  .simp
 have CN:=G7 (fun(n:Int) W (hW:B0 u W)=>AH1 ⟨(NQ r.p).toArray⟩ n W (by show (NQ r.p).length<=_;omega) (A77 htab hW));have CJ:=G7 (fun(m:List UInt8) (hm:m.length<=140737488355328) W=>BF7 (II r.p) m W hm);obtain⟨na,nc,rfl⟩:=GL hn;unfold TM at CG;rw[<-hxp]at CS;have k3:=hx.c3;rw[hxp]at k3 CS;have X0:=G7 hx;have B0:=G7 hb;have hgl:=hx.lt;have K0:∀W,Below (w.alloc (FU #[I0 t.z,FT na t.ns.length nc,vs] 58)).heap.size (w.alloc (FU #[I0 t.z,FT na t.ns.length nc,vs] 58)) W->W.heap[w.heap.size]?=G5 (FU #[I0 t.z,FT na t.ns.length nc,vs] 58 (0,0)):=fun W hW=>(hW.block _ (by simp)).trans (heap_alloc_new w _);have HK:=G7 K0;have HXP:=G7 hxp;clear hn hb hx K0 hxp;go_enter func198,ntmps198;go_wp2_with fail;refine(G6 CS _).mono ?_;rintro e w1 ⟨rfl,hb1⟩;have T1:=G6 HK w1 hb1;have B1:=G7 (G9 (G6 B0) (GY hb1));have X1:=G7 ((G6 X0).next (GY hb1));have c0:w1.cell? ⟨w.heap.size,0,FZ⟩=G5 (I0 t.z):=by simp[AV,T1]
 have c1:w1.cell? ⟨w.heap.size,1,FZ⟩=G5 (FT na t.ns.length nc):=by simp[AV,T1]
 have c2:w1.cell? ⟨w.heap.size,2,FZ⟩=G5 vs:=by simp[AV,T1]
 clear hb1 T1 B0 X0 CS HK k3;obtain⟨D,hD⟩:∃D,II r.p=D:=⟨_,rfl⟩;obtain⟨S,hS⟩:∃S,NQ r.p=S:=⟨_,rfl⟩;rw[hD]at CG hdl CJ⊢;rw[hS]at CN hsl⊢;have HD:=G7 hD;have HS:=G7 hS;clear hD hS;go_wp2_with fail;refine(G6 CG _ (G6 B1)).mono ?_;rintro e w2 ⟨rfl,hb2⟩;have B2:=G7 (G9 (G6 B1) hb2);have X2:=G7 ((G6 X1).next hb2);clear hb2 B1 X1 c0 c1 c2 CG
 cases hl:LQ t.ns D with
 |none=>
  obtain⟨h1,h2⟩:=gZ hl;have HL:=G7 hl;rw[h1,h2];clear hl h1 h2;unfold VK;simp only;go_wp2_with fail;go_ret;exact MK (BG5 (by rw[G6 HD];exact G6 HL)) (by decide) rfl (G9 (G6 B2) (G8 _ _))
 |some n=>
  obtain⟨h1,h2⟩:=gY hl;have HL:=G7 hl;rw[h1,h2];clear hl h1 h2;obtain⟨np,nd,nc',nm,nq,nv,nk,no,nn⟩:=n;simp only;have B3:=G7 (G9 (G6 B2) (G8 w2 (FU #[S0 np,S0 nd,I0 nc',I0 nm,I0 nq,I0 nv,I0 nk,I0 no,I0 nn] 67)));go_wp2_with fail;refine(G6 CN nk _ (G6 B3)).mono ?_;rintro e w3 ⟨rfl,hb3⟩;rw[AV8];have B4:=G7 (G9 (G6 B3) hb3);have X4:=G7 ((G6 X2).next (GY hb3));have hml:=BG0 S nk;have CJ1:=G7 (G6 CJ (AH6 S nk) (by omega));have NS:Hid (mQ S nk≠0->AR3 t r=mQ S nk):=G7 (fun h=>by
   have h':=C03 (t:=t) (r:=r) (u:=⟨np,nd,nc',nm,nq,nv,nk,no,nn⟩) (by rw[G6 HD];exact G6 HL) (by rw[G6 HS];exact h);rw[G6 HS]at h';exact h')
  have NJ:Hid (mQ S nk=0->AR3 t r=bZ D (AH6 S nk)):=G7 (fun h=>by
   have h':=BG6 (t:=t) (r:=r) (u:=⟨np,nd,nc',nm,nq,nv,nk,no,nn⟩) (by rw[G6 HD];exact G6 HL) (by rw[G6 HS];exact h);rw[G6 HS,G6 HD]at h';exact h')
  have NP:Hid (CR0 t r=lI D (AH6 S nk)):=G7 (by
   rw[CR0,G6 HD,G6 HS,C04 (u:=⟨np,nd,nc',nm,nq,nv,nk,no,nn⟩) (by rw[G6 HD];exact G6 HL)])
  clear hb3 B3 X2 B2 CN CJ HL HD HS;generalize AH6 S nk=M at*;generalize mQ S nk=F at*;by_cases hF:F=0
  .subst hF;have HN:=G7 (G6 NJ rfl);clear NS NJ;go_wp2_with fail;refine(G6 CJ1 _).mono ?_;rintro e w4 ⟨rfl,hb4⟩;have B5:=G7 (G9 (G6 B4) hb4);have X5:=G7 ((G6 X4).next hb4);have k3:=(G6 X5).c3;have f3:=(G6 X5).f 3;clear hb4 B4 X4 CJ1;generalize lI D M=J at*;generalize bZ D M=G at*;go_wp2_with fail;go_ret;refine⟨?_,(G6 B5).setCell hg _,fun _=>?_⟩
   .rw[G6 HN];rfl
   .rw[G6 NP];exact(G6 X5).p J
  .have hFb:(F !=0)=true:=by simpa using hF
   have HN:=G7 (G6 NS hF);have HF:=G7 hF;clear NS NJ hF;go_wp2_with fail;go_ret;exact MK (G6 HN) (G6 HF) rfl (G6 B4)
theorem A41(t:Tr)(z:Int)(vn vs:FW)(r:Rq)(g:Nat)(u w:FV)(gt:QZ t)(hn:IE u vn t.ns)(hs:IE u vs t.ss)(hb:B0 u w)(hg:u.heap.size<=g)(hx:TAt w g ⟨z,r.o,r.s,[],[],0,0⟩)(hp:r.p.length<=140737488355328)(hd:r.d.length<=140737488355328)(htab:Lib.TabIs prog u "internal/strconv.uint64pow10" .u64 Lib.pow10Tab):
  FX prog 165 #[P0 g,.agg #[I0 t.z,vn,vs],rqV r] w (dS u g (A81 t r) (CR1 t z r)):=by
 have CO:=G7 (fun W (hW:B0 u W)=>aH t.z vn vs t.ss r.s W (hs.next hW) gt.ses);have CP:=G7 (fun W=>LX ⟨r.p.toArray⟩ W);have CL:=G7 (fun W=>NK r.p W (by omega));have CD:=G7 (fun W=>NK r.d W (by omega));have CN:=G7 (fun(x:GK) (hxp:x.p=r.p) W (hW:B0 u W) (hx:TAt W g x)=>A40 t vn vs r x g u W gt hn hW hg hx hxp htab);obtain⟨na,nc,rfl⟩:=GL hn;obtain⟨sa,sc,rfl⟩:=GL hs;obtain⟨ro,rs,rp,rd,rv,rf⟩:=r;unfold rqV;simp only at*;have X0:=G7 hx;have B0:=G7 hb;have hgl:=hx.lt;have R0:=G7 (TR.new w t.z (FT na t.ns.length nc) (FT sa t.ss.length sc) ⟨ro,rs,rp,rd,rv,rf⟩);clear hn hs hb hx;by_cases hf:0<=rf/\rf<=3
 .have hf1:=hf.1;have hf2:=hf.2;have HF:=G7 hf;have hfb1:(decide (rf<0))=false:=by simp;omega
  have hfb2:(decide (3<rf))=false:=by simp;omega
  clear hf;obtain⟨a0,a1,a2,a3,a4,a5,a6,a7,a8⟩:=(G6 R0).nine;simp only at a0 a1 a2 a3 a4 a5 a6 a7 a8;go_enter func165,ntmps165;go_wp2_with fail;refine(G6 CP _).mono ?_;rintro e w1 ⟨rfl,hb1⟩;have R1:=G7 ((G6 R0).next hb1);have B1:=G7 (G9 (G6 B0) (GY (GY hb1)));have X1:=G7 ((G6 X0).next (GY (GY hb1)));obtain⟨b0,b1,b2,b3,b4,b5,b6,b7,b8⟩:=(G6 R1).nine;simp only at b0 b1 b2 b3 b4 b5 b6 b7 b8;clear a0 a1 a2 a3 a4 a5 a6 a7 a8 hb1 R0 B0 X0 CP
  cases hgd:J4 rp with
  |false=>
   have HG:=G7 hgd;clear hgd;go_wp2_with fail;go_ret;exact MK (A82 (G6 HF) (fun h=>by have h1:=h.1;rw[G6 HG]at h1;exact absurd h1 (by decide))) (by decide) rfl (G6 B1)
  |true=>
   have HG:=G7 hgd;clear hgd;by_cases hr:rp=[47]
   .have HR:=G7 hr;subst hr;go_wp2_with fail;go_ret;exact MK (A82 (G6 HF) (fun h=>h.2 rfl)) (by decide) rfl (G6 B1)
   .have HR:=G7 hr;have hrb:(rp==[47])=false:=by simpa using hr
    clear hr;go_wp2_with fail;refine(G6 CO _ (G6 B1)).mono ?_;rintro e w2 ⟨rfl,hb2⟩;have R2:=G7 ((G6 R1).next hb2);have B2:=G7 (G9 (G6 B1) hb2);have X2:=G7 ((G6 X1).next hb2);obtain⟨d0,d1,d2,d3,d4,d5,d6,d7,d8⟩:=(G6 R2).nine;simp only at d0 d1 d2 d3 d4 d5 d6 d7 d8;clear b0 b1 b2 b3 b4 b5 b6 b7 b8 hb2 R1 B1 X1 CO hrb;by_cases hm:rs∈t.ss
    .rw[show decide (rs∈t.ss)=true from decide_eq_true hm];have HM:=G7 hm;clear hm;go_wp2_with fail;refine(G6 CL _).mono ?_;rintro e w3 ⟨rfl,hb3⟩;have R3:=G7 ((G6 R2).next hb3);have B3:=G7 (G9 (G6 B2) hb3);have X3:=G7 ((G6 X2).next hb3);obtain⟨e0,e1,e2,e3,e4,e5,e6,e7,e8⟩:=(G6 R3).nine;simp only at e0 e1 e2 e3 e4 e5 e6 e7 e8;have k3:=(G6 X3).c3;have f3:=(G6 X3).f 3;have hne:w.heap.size+1≠g:=by omega
     have hne0:w.heap.size≠g:=by omega
     clear d0 d1 d2 d3 d4 d5 d6 d7 d8 hb3 R2 B2 X2 CL;go_wp2_with fail;refine(G6 CD _).mono ?_;rintro e w4 ⟨rfl,hb4⟩;have R4:=G7 (((G6 R3).other (a:=⟨g,3,FZ⟩) (S0 rp) (.inl hgl)).next hb4);have B4:Hid (B0 u w4):=G7 (G9 ((G6 B3).setCell (by exact hg) _) hb4);have X4:=G7 (((G6 X3).p rp).next hb4);obtain⟨i0,i1,i2,i3,i4,i5,i6,i7,i8⟩:=(G6 R4).nine;simp only at i0 i1 i2 i3 i4 i5 i6 i7 i8;have k4:=(G6 X4).c4;have f4:=(G6 X4).f 4;have k6:=(G6 X4).c6;have f6:=(G6 X4).f 6;clear e0 e1 e2 e3 e4 e5 e6 e7 e8 hb4 R3 B3 X3 CD k3 f3;have R5:=G7 ((G6 R4).other (a:=⟨g,4,FZ⟩) (S0 rd) (.inl hgl));have B5:Hid (B0 u (w4.setCell ⟨g,4,FZ⟩ (S0 rd))):=G7 ((G6 B4).setCell (by exact hg) _);have X5:=G7 ((G6 X4).d rd);have HP:Hid (J4 rp=true/\rp≠[47]):=G7 ⟨G6 HG,G6 HR⟩;have hfs:rf=0\/rf=1\/rf=2\/rf=3:=by omega
     clear HG HR;simp only at X5;rcases hfs with rfl|rfl|rfl|rfl
     .go_wp2_with fail;go_ret;exact XF (uH (G6 HF) (G6 HP) (G6 HM) (by simp)) rfl (G6 B5) (G6 X5)
     .go_wp2_with fail;go_ret;exact XF (uH (G6 HF) (G6 HP) (G6 HM) (by simp)) rfl ((G6 B5).setCell hg _) ((G6 X5).w rs)
     .go_wp2_with fail;refine(G6 CN _ rfl _ (G6 B5) (G6 X5)).mono ?_;rintro e w6 ⟨rfl,hb6,hx6⟩;have HB:=G7 hb6;have HX:=G7 hx6;clear hb6 hx6;go_wp2_with fail;go_ret;refine⟨?_,G6 HB,fun h=>?_⟩
      .rw[pK (G6 HF) (G6 HP) (G6 HM) (by simp)];rfl
      .rw[pK (G6 HF) (G6 HP) (G6 HM) (by simp)]at h;exact G6 HX h
     .go_wp2_with fail;refine(G6 CN _ rfl _ ((G6 B5).setCell hg _) ((G6 X5).w rs)).mono ?_;rintro e w6 ⟨rfl,hb6,hx6⟩;have HB:=G7 hb6;have HX:=G7 hx6;clear hb6 hx6;go_wp2_with fail;go_ret;refine⟨?_,G6 HB,fun h=>?_⟩
      .rw[pK (G6 HF) (G6 HP) (G6 HM) (by simp)];rfl
      .rw[pK (G6 HF) (G6 HP) (G6 HM) (by simp)]at h;exact G6 HX h
    .rw[show decide (rs∈t.ss)=false from decide_eq_false hm];have HM:=G7 hm;clear hm;go_wp2_with fail;go_ret;exact MK (BG7 (G6 HF) ⟨G6 HG,G6 HR⟩ (G6 HM)) (by decide) rfl (G6 B2)
 .have HF:=G7 hf;have hc:decide (rf<0)=true\/(decide (rf<0)=false/\decide (3<rf)=true):=by
   by_cases h:rf<0
   .exact .inl (by simp[h])
   .exact .inr ⟨by simp;omega,by simp;omega⟩
  clear hf;rcases hc with h|⟨h,h'⟩
  all_goals
   simp only[decide_eq_true_eq,decide_eq_false_iff_not]at h
   (try simp only[decide_eq_true_eq]at h')
   go_enter func165,ntmps165;go_wp2_with fail;go_ret;exact MK (AV9 (G6 HF)) (by decide) rfl (G9 (G9 (G6 B0) (G8 _ _)) (G8 _ _))
theorem B84(t:Tr)(z:Int)(vn vs:FW)(r:Rq)(g:Nat)(u w:FV)(gt:QZ t)(hn:IE u vn t.ns)(hs:IE u vs t.ss)(hb:B0 u w)(hg:u.heap.size<=g)(hx:TAt w g ⟨z,r.o,r.s,[],[],0,0⟩)(hp:r.p.length<=140737488355328)(hd:r.d.length<=140737488355328)(htab:Lib.TabIs prog u "internal/strconv.uint64pow10" .u64 Lib.pow10Tab):
  FX prog 122 #[P0 g,.agg #[I0 t.z,vn,vs],rqV r] w (dS u g (lC t r) (cO t z r)):=by
 have CA:=G7 (fun(ho:r.o=4\/r.o=5) W (hW:B0 u W) hx=>A39 t z vn vs r g u W gt hn hs hW hg hx ho hp hd);have CC:=G7 (fun W (hW:B0 u W) hx=>A41 t z vn vs r g u W gt hn hs hW hg hx hp hd htab);obtain⟨na,nc,rfl⟩:=GL hn;obtain⟨sa,sc,rfl⟩:=GL hs;obtain⟨ro,rs,rp,rd,rv,rf⟩:=r;unfold rqV at*;simp only at*;have X0:=G7 hx;have B0:=G7 hb;have X1:=G7 (hx.next (G9 (G8 w (FU #[I0 t.z,FT na t.ns.length nc,FT sa t.ss.length sc] 58)) (G8 _ (FU #[I0 ro,I0 rs,S0 rp,S0 rd,I0 rv,I0 rf] 41))));have B1:=G7 (G9 hb (G9 (G8 w (FU #[I0 t.z,FT na t.ns.length nc,FT sa t.ss.length sc] 58)) (G8 _ (FU #[I0 ro,I0 rs,S0 rp,S0 rd,I0 rv,I0 rf] 41))));clear hn hs hb hx htab;by_cases h1:ro=1\/ro=2
 .have HE:=G7 (AW4 (t:=t) (z:=z) (r:=⟨ro,rs,rp,rd,rv,rf⟩) h1);clear CA CC;rcases h1 with rfl|rfl
  all_goals
   go_enter func122,ntmps122;go_wp2_with fail;go_ret;exact XF (G6 HE).1 rfl (G6 B1) (by rw[(G6 HE).2];exact G6 X1)
 .by_cases h3:ro=3
  .have HE:=G7 (C05 (t:=t) (z:=z) (r:=⟨ro,rs,rp,rd,rv,rf⟩) h3);subst h3;clear CA h1;go_enter func122,ntmps122;go_wp2_with fail;refine(G6 CC _ (G6 B1) (G6 X1)).mono ?_;rintro e w6 ⟨rfl,hb6,hx6⟩;have HB:=G7 hb6;have HX:=G7 hx6;clear hb6 hx6;go_wp2_with fail;go_ret;refine⟨?_,G6 HB,fun h=>?_⟩
   .rw[(G6 HE).1];rfl
   .rw[(G6 HE).1]at h;rw[(G6 HE).2];exact G6 HX h
  .by_cases h4:ro=4\/ro=5
   .have HE:=G7 (C06 (t:=t) (z:=z) (r:=⟨ro,rs,rp,rd,rv,rf⟩) h4);have CB:=G7 (G6 CA h4);clear CA CC h1 h3;rcases h4 with rfl|rfl
    all_goals
     go_enter func122,ntmps122;go_wp2_with fail;refine(G6 CB _ (G6 B1) (G6 X1)).mono ?_;rintro e w6 ⟨rfl,hb6,hx6⟩;have HB:=G7 hb6;have HX:=G7 hx6;clear hb6 hx6;go_wp2_with fail;go_ret;refine⟨?_,G6 HB,fun h=>?_⟩
     .rw[(G6 HE).1];rfl
     .rw[(G6 HE).1]at h;rw[(G6 HE).2];exact G6 HX h
   .have HE:=G7 (BG8 (t:=t) (r:=⟨ro,rs,rp,rd,rv,rf⟩) (by simp only;omega));have e1:(ro==1)=false:=by simp;omega
    have e2:(ro==2)=false:=by simp;omega
    have e3:(ro==3)=false:=by simp;omega
    have e4:(ro==4)=false:=by simp;omega
    have e5:(ro==5)=false:=by simp;omega
    clear CA CC h1 h3 h4;go_enter func122,ntmps122;go_wp2_with fail;go_ret;exact MK (G6 HE) (by decide) rfl (G6 B1)
def AE3(w:FV)(t:Tr)(z:Int)(r:Rq)(e:Ending)(w':FV):Prop:=
 e=.returned (.tuple #[J7 (AR4 t z r),I0 (fG t z r)])/\B0 w w'
theorem UE{w:FV}{r:Rq}(hE:fG t z r=E)(h0:E≠0)(he:e=.returned (.tuple #[J7 t0,I0 E]))(hb:B0 w w'):AE3 w t z r e w':=by
 refine⟨?_,hb⟩;rw[C07 (by rw[hE];exact h0),hE];exact he
theorem B85{w:FV}{r:Rq}(hE:fG t z r=0)(hX:AR4 t z r=x)(he:e=.returned (.tuple #[J7 x,I0 0]))(hb:B0 w w'):AE3 w t z r e w':=by
 refine⟨?_,hb⟩;rw[hE,hX];exact he
structure PB(w W:FV)(z:Int)(vn vs:FW)(r:Rq):Prop where
 t:TR W w.heap.size z vn vs r
 a:TAt W (w.heap.size+2) t0
 b:B0 w W
section
variable {w W V:FV} {z:Int} {vn vs:FW} {r:Rq}
theorem PB.next(h:PB w W z vn vs r)(hb:B0 W V):PB w V z vn vs r:=⟨h.t.next hb,h.a.next hb,G9 h.b hb⟩
theorem PB.new(w:FV)(z:Int)(vn vs:FW)(r:Rq):PB w (((w.alloc (FU #[I0 z,vn,vs] 58)).alloc (FU #[I0 r.o,I0 r.s,S0 r.p,S0 r.d,I0 r.v,I0 r.f] 41)).alloc (FU #[I0 0,I0 0,I0 0,.string ⟨#[]⟩,.string ⟨#[]⟩,I0 0,I0 0] 65)) z vn vs r:=by
 refine⟨(TR.new w z vn vs r).next (G8 _ _),?_,G9 (G9 (G8 _ _) (G8 _ _)) (G8 _ _)⟩;have h:=TAt.new ((w.alloc (FU #[I0 z,vn,vs] 58)).alloc (FU #[I0 r.o,I0 r.s,S0 r.p,S0 r.d,I0 r.v,I0 r.f] 41)) t0;rw[show ((w.alloc (FU #[I0 z,vn,vs] 58)).alloc (FU #[I0 r.o,I0 r.s,S0 r.p,S0 r.d,I0 r.v,I0 r.f] 41)).heap.size=w.heap.size+2 by simp]at h;exact h
theorem PB.cells(h:PB w W z vn vs r):(W.cell? ⟨w.heap.size+2,0,FZ⟩=G5 (I0 0)/\W.cell? ⟨w.heap.size+2,1,FZ⟩=G5 (I0 0)/\W.cell? ⟨w.heap.size+2,2,FZ⟩=G5 (I0 0)/\W.cell? ⟨w.heap.size+2,3,FZ⟩=G5 (.string ⟨#[]⟩)/\W.cell? ⟨w.heap.size+2,4,FZ⟩=G5 (.string ⟨#[]⟩)/\W.cell? ⟨w.heap.size+2,5,FZ⟩=G5 (I0 0)/\W.cell? ⟨w.heap.size+2,6,FZ⟩=G5 (I0 0)):=⟨h.a.c0,h.a.c1,h.a.c2,h.a.c3,h.a.c4,h.a.c5,h.a.c6⟩
end
def put7(W:FV)(g:Nat)(t:GK):FV:=
 ((((((W.setCell ⟨g,0,FZ⟩ (I0 t.z)).setCell ⟨g,1,FZ⟩ (I0 t.o)).setCell ⟨g,2,FZ⟩ (I0 t.s)).setCell ⟨g,3,FZ⟩ (S0 t.p)).setCell ⟨g,4,FZ⟩ (S0 t.d)).setCell ⟨g,5,FZ⟩ (I0 t.v)).setCell ⟨g,6,FZ⟩ (I0 t.w)
theorem OO{w:FV}(t:GK)(hb:B0 w W)(hg:w.heap.size<=g):B0 w (put7 W g t):=
 ((((((hb.setCell hg _).setCell hg _).setCell hg _).setCell hg _).setCell hg _).setCell hg _).setCell hg _
theorem A42(t:Tr)(z:Int)(vn vs:FW)(r:Rq)(w:FV)(hn:IE w vn t.ns)(hs:IE w vs t.ss)(hw:WfT t)(hp:r.p.length<=140737488355328)(hd:r.d.length<=140737488355328)(htab:Lib.TabIs prog w "internal/strconv.uint64pow10" .u64 Lib.pow10Tab):
  FX prog 81 #[.agg #[I0 t.z,vn,vs],I0 z,rqV r] w (AE3 w t z r):=by
 have CG:=G7 (fun W (hW:B0 w W)=>aJ t vn vs W (hn.next hW) (hs.next hW) hw);have CZ:=G7 (fun W=>JH z W);have CF:=G7 (fun(gt:QZ t) g u (hu:B0 w u) W hW hg hx=>B84 t z vn vs r g u W gt (hn.next hu) (hs.next hu) hW hg hx hp hd (A77 htab hu));have CA:=G7 (fun W (hW:B0 w W)=>vP t vn vs (cO t z r) W (hn.next hW) (hs.next hW) hw (by have:=CG5 t z r;omega));obtain⟨na,nc,rfl⟩:=GL hn;obtain⟨sa,sc,rfl⟩:=GL hs;obtain⟨ro,rs,rp,rd,rv,rf⟩:=r;unfold rqV at*;simp only at*;have P0:=G7 (PB.new w t.z (FT na t.ns.length nc) (FT sa t.ss.length sc) ⟨ro,rs,rp,rd,rv,rf⟩);simp only at P0;clear hn hs htab;go_enter func81,ntmps81;go_wp2_with fail;refine(G6 CG _ (G6 P0).b).mono ?_;rintro e w1 ⟨rfl,hb1⟩;have P1:=G7 ((G6 P0).next hb1);obtain⟨b0,b1,b2,b3,b4,b5,b6,b7,b8⟩:=(G6 P1).t.nine;obtain⟨c0,c1,c2,c3,c4,c5,c6⟩:=(G6 P1).cells;have f:=(G6 P1).a.f;have f0:=f 0;have f1:=f 1;have f2:=f 2;have f3:=f 3;have f4:=f 4;have f5:=f 5;have f6:=f 6;simp only at b0 b1 b2 b3 b4 b5 b6 b7 b8;clear hb1 P0 CG f
 cases hgd:TW t with
 |false=>
  have HE:Hid (fG t z ⟨ro,rs,rp,rd,rv,rf⟩=3):=G7 (ZV (by simp[cZ,hgd]));clear hgd;go_wp2_with fail;exact bodyPost_ret (v:=.tuple #[J7 t0,I0 3]) (by simp[results,results81,go_sem,J7,t0,c0,c1,c2,c3,c4,c5,c6]) rfl (UE (G6 HE) (by decide) rfl (OO t0 (G6 P1).b (by omega)))
 |true=>
  have HG:=G7 (RV.1 hgd);have HGB:=G7 hgd;clear hgd;go_wp2_with fail;refine(G6 CZ _).mono ?_;rintro e w2 ⟨rfl,rfl⟩;clear CZ
  cases hzd:KL z with
  |false=>
   have HE:Hid (fG t z ⟨ro,rs,rp,rd,rv,rf⟩=3):=G7 (ZV (by simp[cZ,hzd]));clear hzd;go_wp2_with fail;exact bodyPost_ret (v:=.tuple #[J7 t0,I0 3]) (by simp[results,results81,go_sem,J7,t0,c0,c1,c2,c3,c4,c5,c6]) rfl (UE (G6 HE) (by decide) rfl (OO t0 (G6 P1).b (by omega)))
  |true=>
   by_cases h1:rs<1
   .have HE:Hid (fG t z ⟨ro,rs,rp,rd,rv,rf⟩=3):=G7 (ZV (by simp[cZ];intros;omega));have hd1:decide (rs<1)=true:=decide_eq_true h1;clear hzd h1;go_wp2_with fail;exact bodyPost_ret (v:=.tuple #[J7 t0,I0 3]) (by simp[results,results81,go_sem,J7,t0,c0,c1,c2,c3,c4,c5,c6]) rfl (UE (G6 HE) (by decide) rfl (OO t0 (G6 P1).b (by omega)))
   .by_cases h2:2147483647<rs
    .have HE:Hid (fG t z ⟨ro,rs,rp,rd,rv,rf⟩=3):=G7 (ZV (by simp[cZ];intros;omega));have hd1:decide (rs<1)=false:=decide_eq_false h1;have hd2:decide (2147483647<rs)=true:=decide_eq_true h2;clear hzd h1 h2;go_wp2_with fail;exact bodyPost_ret (v:=.tuple #[J7 t0,I0 3]) (by simp[results,results81,go_sem,J7,t0,c0,c1,c2,c3,c4,c5,c6]) rfl (UE (G6 HE) (by decide) rfl (OO t0 (G6 P1).b (by omega)))
    .have HH:Hid (cZ t z ⟨ro,rs,rp,rd,rv,rf⟩=true):=G7 (mV.2 ⟨G6 HG,hzd,by simp only;omega,by simp only;omega⟩);have hd1:decide (rs<1)=false:=decide_eq_false h1;have hd2:decide (2147483647<rs)=false:=decide_eq_false h2;clear hzd h1 h2;have X2:=G7 (TAt.new w2 ⟨z,ro,rs,[],[],0,0⟩);have P2:=G7 ((G6 P1).next (G8 w2 (FU #[I0 z,I0 ro,I0 rs,.string ⟨#[]⟩,.string ⟨#[]⟩,I0 0,I0 0] 65)));obtain⟨d0,d1,d2,d3,d4,d5,d6,d7,d8⟩:=(G6 P2).t.nine;simp only at d0 d1 d2 d3 d4 d5 d6 d7 d8;clear c0 c1 c2 c3 c4 c5 c6 f0 f1 f2 f3 f4 f5 f6;go_wp2_with fail;refine(G6 CF (G6 HG) w2.heap.size w2 (G6 P1).b _ (G8 _ _) (Nat.le_refl _) (G6 X2)).mono ?_;rintro e w3 ⟨rfl,hb3,hx3⟩;have P3:=G7 ((G6 P1).next hb3);have HX3:=G7 hx3;have PF:Hid (lC t ⟨ro,rs,rp,rd,rv,rf⟩≠0->fG t z ⟨ro,rs,rp,rd,rv,rf⟩=lC t ⟨ro,rs,rp,rd,rv,rf⟩):=G7 (fun h=>A83 (G6 HH) h);have PA:Hid (lC t ⟨ro,rs,rp,rd,rv,rf⟩=0->fG t z ⟨ro,rs,rp,rd,rv,rf⟩=Y7 t (cO t z ⟨ro,rs,rp,rd,rv,rf⟩)):=G7 (fun h=>zA (G6 HH) h);clear d0 d1 d2 d3 d4 d5 d6 d7 d8 b0 b1 b2 b3 b4 b5 b6 b7 b8 P2 X2 CF HG HGB HH hb3 hx3;generalize lC t ⟨ro,rs,rp,rd,rv,rf⟩=F at*;by_cases hF:F=0
     .have PE:=G7 (G6 PA hF);have X3:=G7 (G6 HX3 hF);subst hF;have KX:Hid (fG t z ⟨ro,rs,rp,rd,rv,rf⟩=0->AR4 t z ⟨ro,rs,rp,rd,rv,rf⟩=cO t z ⟨ro,rs,rp,rd,rv,rf⟩):=G7 (fun h=>zC h);unfold aK at CA;clear PF PA HX3;generalize iR t (cO t z ⟨ro,rs,rp,rd,rv,rf⟩)=T at*;generalize YD t (cO t z ⟨ro,rs,rp,rd,rv,rf⟩)=V at*;generalize Y7 t (cO t z ⟨ro,rs,rp,rd,rv,rf⟩)=E at*;generalize cO t z ⟨ro,rs,rp,rd,rv,rf⟩=x at*;obtain⟨xz,xo,xs,xp,xd,xv,xw⟩:=x;unfold J7 at CA;simp only at CA;have x0:=(G6 X3).c0;have x1:=(G6 X3).c1;have x2:=(G6 X3).c2;have x3:=(G6 X3).c3;have x4:=(G6 X3).c4;have x5:=(G6 X3).c5;have x6:=(G6 X3).c6;simp only at x0 x1 x2 x3 x4 x5 x6;obtain⟨e0,e1,e2,e3,e4,e5,e6,e7,e8⟩:=(G6 P3).t.nine;obtain⟨c0,c1,c2,c3,c4,c5,c6⟩:=(G6 P3).cells;have f:=(G6 P3).a.f;have f0:=f 0;have f1:=f 1;have f2:=f 2;have f3:=f 3;have f4:=f 4;have f5:=f 5;have f6:=f 6;simp only at e0 e1 e2 e3 e4 e5 e6 e7 e8;clear f;go_wp2_with fail;refine(G6 CA _ (G6 P3).b).mono ?_;rintro e w4 ⟨vn4,vs4,ve4,rfl,n4,s4,e4,hb4⟩;obtain⟨an,cn,rfl,_⟩:=n4.slice;obtain⟨ai,ci,rfl,_⟩:=s4.slice;obtain⟨ae,ce,rfl,_⟩:=e4.slice;have P5:=G7 ((G6 P3).next (G9 hb4 (G8 w4 (FU #[I0 T.z,FT an T.ns.length cn,FT ai T.ss.length ci] 58))));have X5:=G7 ((G6 X3).next (G9 hb4 (G8 w4 (FU #[I0 T.z,FT an T.ns.length cn,FT ai T.ss.length ci] 58))));clear c0 c1 c2 c3 c4 c5 c6 f0 f1 f2 f3 f4 f5 f6 x0 x1 x2 x3 x4 x5 x6 e0 e1 e2 e3 e5 e6 e7 e8 hb4 n4 s4 e4 P3 X3 CA;obtain⟨c0,c1,c2,c3,c4,c5,c6⟩:=(G6 P5).cells;have f:=(G6 P5).a.f;have f0:=f 0;have f1:=f 1;have f2:=f 2;have f3:=f 3;have f4:=f 4;have f5:=f 5;have f6:=f 6;have x0:=(G6 X5).c0;have x1:=(G6 X5).c1;have x2:=(G6 X5).c2;have x3:=(G6 X5).c3;have x4:=(G6 X5).c4;have x5:=(G6 X5).c5;have x6:=(G6 X5).c6;simp only at x0 x1 x2 x3 x4 x5 x6;clear f;by_cases hE:E=0
      .subst hE;have HX:=G7 (G6 KX (G6 PE));go_wp2_with fail;exact bodyPost_ret (v:=.tuple #[J7 ⟨xz,xo,xs,xp,xd,xv,xw⟩,I0 0]) (by simp[results,results81,go_sem,J7,c0,c1,c2,c3,c4,c5,c6]) rfl (B85 (G6 PE) (G6 HX) rfl (OO ⟨xz,xo,xs,xp,xd,xv,xw⟩ (G6 P5).b (by omega)))
      .have hEb:(E !=0)=true:=by simpa using hE
       have HE:=G7 hE;clear hE;go_wp2_with fail;exact bodyPost_ret (v:=.tuple #[J7 t0,I0 E]) (by simp[results,results81,go_sem,J7,t0,c0,c1,c2,c3,c4,c5,c6]) rfl (UE (G6 PE) (G6 HE) rfl (OO t0 (G6 P5).b (by omega)))
     .have PE:=G7 (G6 PF hF);have hFb:(F !=0)=true:=by simpa using hF
      have HF:=G7 hF;clear PF PA HX3 hF CA;obtain⟨e0,e1,e2,e3,e4,e5,e6,e7,e8⟩:=(G6 P3).t.nine;obtain⟨c0,c1,c2,c3,c4,c5,c6⟩:=(G6 P3).cells;have f:=(G6 P3).a.f;have f0:=f 0;have f1:=f 1;have f2:=f 2;have f3:=f 3;have f4:=f 4;have f5:=f 5;have f6:=f 6;simp only at e0 e1 e2 e3 e4 e5 e6 e7 e8;clear f;go_wp2_with fail;exact bodyPost_ret (v:=.tuple #[J7 t0,I0 F]) (by simp[results,results81,go_sem,J7,t0,c0,c1,c2,c3,c4,c5,c6]) rfl (UE (G6 PE) (G6 HF) rfl (OO t0 (G6 P3).b (by omega)))
