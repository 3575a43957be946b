/-
  Part.
-/
import Derived.Test.YtefephchbjfdfaaGreatDoorLMM
set_option maxRecDepth 20000
set_option maxHeartbeats 8000000
namespace Go.Proofs.YtefephchbjfdfaaGreatDoor
open Go.RowKit Go.Proofs.Tryz
open Go.World renaming cell?->AX
open Go.Value renaming slice->FV
open Go.Obj renaming cells->FW
open Go renaming World->FX,Value->FZ,Calls->G5
open _root_.Option renaming none->G6,some->G8
variable{t:Tr}{n u:Nd}{z E:Int}{g:Nat}{x:GV}{e:Ending}{w' W:FX}
structure Rq where
 o:Int
 s:Int
 p:List UInt8
 d:List UInt8
 v:Int
 f:Int
def rqV(r:Rq):FZ:=.agg #[I0 r.o,I0 r.s,S0 r.p,S0 r.d,I0 r.v,I0 r.f]
def AI4(l:List UInt8)(n:Int):List UInt8:=if nS l n=0 then l++ten n.toNat else []
theorem AX1(l:List UInt8)(n:Int):BW9 l n=⟨(AI4 l n).toArray⟩:=by
 by_cases h:nS l n=0
 .rw[(AW6 h).2.2.2,AI4,if_pos h]
 .rw[C15 h,AI4,if_neg h]
theorem BG9(l:List UInt8)(n:Int):(AI4 l n).length<=40:=by
 by_cases h:nS l n=0
 .obtain⟨_,_,hn,_⟩:=AW6 h;rw[AI4,if_pos h];simp only[JF,Bool.and_eq_true,decide_eq_true_eq]at hn;exact hn.1.2
 .rw[AI4,if_neg h];simp
def A90(t:Tr)(r:Rq):Int:=if J8 r.p=true then(if r.s∈t.ss then(match LW t.ns r.p with
 |none=>7
 |some n=>if r.v=-1\/r.v=n.v then 0 else 9)else 12)else 2
def CS0(t:Tr)(r:Rq):Int:=match LW t.ns r.p with
 |none=>0
 |some n=>n.v
def C16(t:Tr)(z:Int)(r:Rq):GV:=⟨z,r.o,r.s,r.p,if r.o=5 then r.d else [],if r.o=5 then CS0 t r+1 else 0,0⟩
theorem BH0{r:Rq}(h:J8 r.p=false):A90 t r=2:=by rw[A90,if_neg (by simp[h])]
theorem BH1{r:Rq}(h:J8 r.p=true)(hs:r.s∉t.ss):A90 t r=12:=by rw[A90,if_pos h,if_neg hs]
theorem BH2{r:Rq}(h:J8 r.p=true)(hs:r.s∈t.ss)(hn:LW t.ns r.p=G6):A90 t r=7:=by rw[A90,if_pos h,if_pos hs,hn]
theorem A91{r:Rq}(h:J8 r.p=true)(hs:r.s∈t.ss)(hn:LW t.ns r.p=G8 n):A90 t r=if r.v=-1\/r.v=n.v then 0 else 9:=by rw[A90,if_pos h,if_pos hs,hn]
theorem BH3{r:Rq}(hn:LW t.ns r.p=G8 n):CS0 t r=n.v:=by rw[CS0,hn]
def cvN(t:Tr)(r:Rq):Int:=match LW t.ns (IL r.p)with
 |none=>0
 |some u=>u.k
def AS2(t:Tr)(r:Rq):Int:=match LW t.ns (IL r.p)with
 |none=>7
 |some u=>if nS (OD r.p) u.k=0 then dS (IL r.p) (AI4 (OD r.p) u.k)else nS (OD r.p) u.k
def CS1(t:Tr)(r:Rq):List UInt8:=mG (IL r.p) (AI4 (OD r.p) (cvN t r))
def A92(t:Tr)(r:Rq):Int:=if 0<=r.f/\r.f<=3 then(if J8 r.p=true/\r.p≠[47]then(if r.s∈t.ss then(if 2<=r.f then AS2 t r else 0)else 12)else 2)else 3
def CS2(t:Tr)(z:Int)(r:Rq):GV:=⟨z,r.o,r.s,if 2<=r.f then CS1 t r else r.p,r.d,0,if r.f%2=1 then r.s else 0⟩
theorem BH4{r:Rq}(h:LW t.ns (IL r.p)=G6):AS2 t r=7:=by rw[AS2,h]
theorem C17{r:Rq}(h:LW t.ns (IL r.p)=G8 u)(h0:nS (OD r.p) u.k≠0):AS2 t r=nS (OD r.p) u.k:=by rw[AS2,h];simp only;rw[if_neg h0]
theorem BH5{r:Rq}(h:LW t.ns (IL r.p)=G8 u)(h0:nS (OD r.p) u.k=0):AS2 t r=dS (IL r.p) (AI4 (OD r.p) u.k):=by rw[AS2,h];simp only;rw[if_pos h0]
theorem C18{r:Rq}(h:LW t.ns (IL r.p)=G8 u):cvN t r=u.k:=by rw[cvN,h]
theorem AX2{r:Rq}(h:¬ (0<=r.f/\r.f<=3)):A92 t r=3:=by rw[A92,if_neg h]
theorem A93{r:Rq}(h:0<=r.f/\r.f<=3)(hp:¬ (J8 r.p=true/\r.p≠[47])):A92 t r=2:=by rw[A92,if_pos h,if_neg hp]
theorem BH6{r:Rq}(h:0<=r.f/\r.f<=3)(hp:J8 r.p=true/\r.p≠[47])(hs:r.s∉t.ss):A92 t r=12:=by rw[A92,if_pos h,if_pos hp,if_neg hs]
theorem vJ{r:Rq}(h:0<=r.f/\r.f<=3)(hp:J8 r.p=true/\r.p≠[47])(hs:r.s∈t.ss)(hf:r.f<2):A92 t r=0:=by rw[A92,if_pos h,if_pos hp,if_pos hs,if_neg (by omega)]
theorem qM{r:Rq}(h:0<=r.f/\r.f<=3)(hp:J8 r.p=true/\r.p≠[47])(hs:r.s∈t.ss)(hf:2<=r.f):A92 t r=AS2 t r:=by rw[A92,if_pos h,if_pos hp,if_pos hs,if_pos hf]
def lZ(t:Tr)(r:Rq):Int:=if r.o=1\/r.o=2 then 0 else if r.o=3 then A92 t r else if r.o=4\/r.o=5 then A90 t r else 4
def dU(t:Tr)(z:Int)(r:Rq):GV:=if r.o=3 then CS2 t z r else if r.o=4\/r.o=5 then C16 t z r else⟨z,r.o,r.s,[],[],0,0⟩
theorem AX3{r:Rq}(h:r.o=1\/r.o=2):lZ t r=0/\dU t z r=⟨z,r.o,r.s,[],[],0,0⟩:=by
 refine⟨by rw[lZ,if_pos h],?_⟩;rw[dU,if_neg (by omega),if_neg (by omega)]
theorem C19{r:Rq}(h:r.o=3):lZ t r=A92 t r/\dU t z r=CS2 t z r:=by
 refine⟨by rw[lZ,if_neg (by omega),if_pos h],by rw[dU,if_pos h]⟩
theorem C20{r:Rq}(h:r.o=4\/r.o=5):lZ t r=A90 t r/\dU t z r=C16 t z r:=by
 refine⟨by rw[lZ,if_neg (by omega),if_neg (by omega),if_pos h],by rw[dU,if_neg (by omega),if_pos h]⟩
theorem BH7{r:Rq}(h:r.o<1\/5<r.o):lZ t r=4:=by
 rw[lZ,if_neg (by omega),if_neg (by omega),if_neg (by omega)]
noncomputable def dV(t:Tr)(z:Int)(r:Rq):Bool:=UK t&&KP z&&decide (1<=r.s)&&decide (r.s<=2147483647)
noncomputable def gU(t:Tr)(z:Int)(r:Rq):Int:=if dV t z r=true then(if lZ t r=0 then YR t (dU t z r)else lZ t r)else 3
noncomputable def AS3(t:Tr)(z:Int)(r:Rq):GV:=if gU t z r=0 then dU t z r else t0
theorem nT{r:Rq}:dV t z r=true↔RX t/\KP z=true/\1<=r.s/\r.s<=2147483647:=by
 simp only[dV,Bool.and_eq_true,decide_eq_true_eq,SV,and_assoc]
theorem aV{r:Rq}(h:dV t z r=false):gU t z r=3:=by rw[gU,if_neg (by simp[h])]
theorem A94{r:Rq}(h:dV t z r=true)(hf:lZ t r≠0):gU t z r=lZ t r:=by rw[gU,if_pos h,if_neg hf]
theorem zV{r:Rq}(h:dV t z r=true)(hf:lZ t r=0):gU t z r=YR t (dU t z r):=by rw[gU,if_pos h,if_pos hf]
theorem C21{r:Rq}(h:gU t z r≠0):AS3 t z r=t0:=by rw[AS3,if_neg h]
theorem zX{r:Rq}(h:gU t z r=0):AS3 t z r=dU t z r:=by rw[AS3,if_pos h]
theorem BH8{r:Rq}(h:gU t z r=0):dV t z r=true/\lZ t r=0/\YR t (dU t z r)=0:=by
 cases hh:dV t z r with
 |false=>rw[aV hh]at h;exact absurd h (by decide)
 |true=>
  by_cases hf:lZ t r=0
  .exact⟨rfl,hf,by rw[<-zV hh hf];exact h⟩
  .rw[A94 hh hf]at h;exact absurd h hf
theorem AI5(t:Tr)(z:Int)(r:Rq):(dU t z r).z=z/\(dU t z r).o=r.o/\(dU t z r).s=r.s/\((dU t z r).w=0\/(dU t z r).w=r.s):=by
 unfold dU
 split
 .refine⟨rfl,rfl,rfl,?_⟩;simp only[CS2]
  split
  .exact .inr rfl
  .exact .inl rfl
 .split
  .exact⟨rfl,rfl,rfl,.inl rfl⟩
  .exact⟨rfl,rfl,rfl,.inl rfl⟩
theorem CH5(t:Tr)(z:Int)(r:Rq):(dU t z r).d.length<=r.d.length:=by
 unfold dU
 split
 .exact Nat.le_refl _
 .split
  .simp only[C16]
   split
   .exact Nat.le_refl _
   .simp
  .simp
structure FitP(t:Tr)(z:Int)(r:Rq)(x:GV):Prop where
 app:YR t x=0
 az:(jI t x).z=z
 z:x.z=z
 o:x.o=r.o
 s:x.s=r.s
 gd:gdE x=0
 w:x.w=0\/x.w=r.s
theorem AI6{r:Rq}(h:gU t z r=0):FitP t z r (AS3 t z r):=by
 obtain⟨_,_,ha⟩:=BH8 h;rw[zX h];obtain⟨e1,e2,e3,e4⟩:=AI5 t z r;exact⟨ha,(aT ha).2.1.trans e1,e1,e2,e3,(QK (qL ha).1).2.1,e4⟩
theorem RX.pwf(g:RX t):WfT t:=by
 refine⟨fun s hs=>by have:=g.ses.2 s hs;omega,fun n hn=>?_⟩;have k:=g.nod.ok n hn;exact⟨by have:=MV k.path;omega,by have:=k.data;omega⟩
def pK(t:Tr)(p:List UInt8):Nd:=(LW t.ns p).getD WH
def AF2(t:Tr)(p:List UInt8):Int:=if(LW t.ns p).isSome=true then 0 else 7
theorem iQ{p:List UInt8}(h:LW t.ns p=G8 n):pK t p=n/\AF2 t p=0:=by
 rw[pK,AF2,h];exact⟨rfl,rfl⟩
theorem iR{p:List UInt8}(h:LW t.ns p=G6):pK t p=WH/\AF2 t p=7:=by
 rw[pK,AF2,h];exact⟨rfl,rfl⟩
theorem iT(t:Tr)(vn vs:FZ)(p:List UInt8)(w:FX)(g:RX t)(hn:IV w vn t.ns):
  G5 prog 53 #[.agg #[I0 t.z,vn,vs],S0 p] w (R0 w (.tuple #[U8 (pK t p),I0 (AF2 t p)])):=by
 have few:=g.nod.few;rcases YU p t.ns g.nod.asc with⟨A,n,B,T⟩|⟨A,B,G⟩
 .have hm:n∈t.ns:=by rw[T.eq];simp
  have sl:=g.pwf.CJ8 n hm;rw[(iQ T.look).1,(iQ T.look).2];exact AM3 t.z vn vs t.ns A B n p w hn (by omega) T sl.1 sl.2
 .rw[(iR G.look).1,(iR G.look).2];exact BM2 t.z vn vs t.ns A B p w hn (by omega) G
structure TR(W:FX)(q:Nat)(z:Int)(vn vs:FZ)(r:Rq):Prop where
 t:W.heap[q]?=G8 (FW #[I0 z,vn,vs] 52 (0,0))
 r:W.heap[q+1]?=G8 (FW #[I0 r.o,I0 r.s,S0 r.p,S0 r.d,I0 r.v,I0 r.f] 28 (0,0))
section
variable {W V:FX} {q:Nat} {z:Int} {vn vs:FZ} {r:Rq}
theorem TR.lt(h:TR W q z vn vs r):q+1<W.heap.size:=(Array.getElem?_eq_some_iff.1 h.r).1
theorem TR.next(h:TR W q z vn vs r)(hb:B0 W V):TR V q z vn vs r:=⟨(hb.block _ (by have:=h.lt;omega)).trans h.t,(hb.block _ h.lt).trans h.r⟩
theorem TR.other(h:TR W q z vn vs r){a:Addr}(v:FZ)(h1:a.block<q\/q+1<a.block):TR (W.setCell a v) q z vn vs r:=
 ⟨(Below.heap_setCell W a v q (by omega)).trans h.t,(Below.heap_setCell W a v (q+1) (by omega)).trans h.r⟩
theorem TR.nine(h:TR W q z vn vs r):W.cell? ⟨q,0,G6⟩=G8 (I0 z)/\W.cell? ⟨q,1,G6⟩=G8 vn/\W.cell? ⟨q,2,G6⟩=G8 vs/\W.cell? ⟨q+1,0,G6⟩=G8 (I0 r.o)/\W.cell? ⟨q+1,1,G6⟩=G8 (I0 r.s)/\W.cell? ⟨q+1,2,G6⟩=G8 (S0 r.p)/\W.cell? ⟨q+1,3,G6⟩=G8 (S0 r.d)/\W.cell? ⟨q+1,4,G6⟩=G8 (I0 r.v)/\W.cell? ⟨q+1,5,G6⟩=G8 (I0 r.f):=by
 have h1:=h.t;have h2:=h.r;refine⟨?_,?_,?_,?_,?_,?_,?_,?_,?_⟩<;>simp[AX,h1,h2]
end
theorem TR.new(w:FX)(z:Int)(vn vs:FZ)(r:Rq):TR ((w.alloc (FW #[I0 z,vn,vs] 52)).alloc (FW #[I0 r.o,I0 r.s,S0 r.p,S0 r.d,I0 r.v,I0 r.f] 28)) w.heap.size z vn vs r:=by
 refine⟨?_,?_⟩
 .rw[(GI _ _).block _ (by simp)];exact heap_alloc_new w _
 .have h:=heap_alloc_new (w.alloc (FW #[I0 z,vn,vs] 52)) (FW #[I0 r.o,I0 r.s,S0 r.p,S0 r.d,I0 r.v,I0 r.f] 28);rw[show (w.alloc (FW #[I0 z,vn,vs] 52)).heap.size=w.heap.size+1 by simp]at h;exact h
def fF(u:FX)(g:Nat)(E:Int)(x:GV)(e:Ending)(w':FX):Prop:=
 e=.returned (I0 E)/\B0 u w'/\(E=0->TAt w' g x)
theorem MQ{u:FX}{E':Int}(hE:E=E')(h0:E'≠0)(he:e=.returned (I0 E'))(hb:B0 u w'):fF u g E x e w':=
 ⟨by rw[hE];exact he,hb,fun h=>absurd (hE.symm.trans h) h0⟩
theorem Y8{u:FX}(hE:E=0)(he:e=.returned (I0 0))(hb:B0 u w')(hx:TAt w' g x):fF u g E x e w':=
 ⟨by rw[hE];exact he,hb,fun _=>hx⟩
theorem AP9{a:Addr}{v x:FZ}{k j:Nat}(h:W.cell? ⟨k,j,G6⟩=G8 x)(hk:k≠a.block):(W.setCell a v).cell? ⟨k,j,G6⟩=G8 x:=by
 have e:=Below.heap_setCell W a v k hk;unfold AX at h⊢;simp only at h⊢;rw[e];exact h
theorem TAt.p(h:TAt W g x)(l:List UInt8):TAt (W.setCell ⟨g,3,G6⟩ (S0 l)) g {x with p:=l}:=by
 unfold TAt at*;rw[GY _ h];simp
theorem TAt.d(h:TAt W g x)(l:List UInt8):TAt (W.setCell ⟨g,4,G6⟩ (S0 l)) g {x with d:=l}:=by
 unfold TAt at*;rw[GY _ h];simp
theorem TAt.v(h:TAt W g x)(l:Int):TAt (W.setCell ⟨g,5,G6⟩ (I0 l)) g {x with v:=l}:=by
 unfold TAt at*;rw[GY _ h];simp
theorem TAt.w(h:TAt W g x)(l:Int):TAt (W.setCell ⟨g,6,G6⟩ (I0 l)) g {x with w:=l}:=by
 unfold TAt at*;rw[GY _ h];simp
theorem A54(t:Tr)(z:Int)(vn vs:FZ)(r:Rq)(g:Nat)(u w:FX)(gt:RX t)(hn:IV u vn t.ns)(hs:IV u vs t.ss)(hb:B0 u w)(hg:u.heap.size<=g)(hx:TAt w g ⟨z,r.o,r.s,[],[],0,0⟩)(ho:r.o=4\/r.o=5)(hp:r.p.length<=140737488355328)(hd:r.d.length<=140737488355328):
  G5 prog 164 #[P0 g,.agg #[I0 t.z,vn,vs],rqV r] w (fF u g (A90 t r) (C16 t z r)):=by
 have CG:=GH (fun W (hW:B0 u W)=>iT t vn vs r.p W gt (hn.next hW));have CO:=GH (fun W (hW:B0 u W)=>bI t.z vn vs t.ss r.s W (hs.next hW) gt.ses);have CP:=GH (fun W=>MB ⟨r.p.toArray⟩ W);have CL:=GH (fun W=>O8 r.p W (by omega));have CD:=GH (fun W=>O8 r.d W (by omega));obtain⟨na,nc,rfl⟩:=GU hn;obtain⟨sa,sc,rfl⟩:=GU hs;unfold U8 at CG;obtain⟨ro,rs,rp,rd,rv,rf⟩:=r;unfold rqV;simp only at*;have X0:=GH hx;have B0:=GH hb;have hgl:=hx.lt;have R0:=GH (TR.new w t.z (FV na t.ns.length nc) (FV sa t.ss.length sc) ⟨ro,rs,rp,rd,rv,rf⟩);clear hn hs hb hx;go_enter func164,ntmps164;go_wp2_with fail;refine(G9 CG _ (GK (GK (G9 B0) (GI _ _)) (GI _ _))).mono ?_;rintro e w1 ⟨rfl,hb1⟩;have R1:=GH ((G9 R0).next hb1);have B1:=GH (GK (G9 B0) (H7 (H7 hb1)));have X1:=GH ((G9 X0).next (H7 (H7 hb1)));clear hb1 R0 B0 X0 CG;obtain⟨N,hN⟩:∃N,pK t rp=N:=⟨_,rfl⟩;obtain⟨E,hE⟩:∃E,AF2 t rp=E:=⟨_,rfl⟩;rw[hN,hE];have HN:=GH hN;have HE:=GH hE;clear hN hE;obtain⟨np,nd,nc,nm,nq,nv,nk,no,nn⟩:=N;simp only;have R2:=GH ((G9 R1).next (GI w1 (FW #[S0 np,S0 nd,I0 nc,I0 nm,I0 nq,I0 nv,I0 nk,I0 no,I0 nn] 61)));obtain⟨a0,a1,a2,a3,a4,a5,a6,a7,a8⟩:=(G9 R2).nine;simp only at a0 a1 a2 a3 a4 a5 a6 a7 a8;go_wp2_with fail;refine(G9 CP _).mono ?_;rintro e w2 ⟨rfl,hb2⟩;have R3:=GH ((G9 R2).next hb2);have B3:=GH (GK (G9 B1) (H7 hb2));have X3:=GH ((G9 X1).next (H7 hb2));have D3:w2.cell? ⟨w1.heap.size,5,G6⟩=G8 (I0 nv):=by rw[hb2.cell (p:=⟨w1.heap.size,5,G6⟩) (by simp)];simp
 obtain⟨b0,b1,b2,b3,b4,b5,b6,b7,b8⟩:=(G9 R3).nine;simp only at b0 b1 b2 b3 b4 b5 b6 b7 b8;have hg1:=(G9 X1).lt;clear a0 a1 a2 a3 a4 a5 a6 a7 a8 hb2 R1 R2 B1 X1 CP
 cases hgd:J8 rp with
 |false=>
  have HG:=GH hgd;clear hgd;go_wp2_with fail;go_ret;exact MQ (BH0 (G9 HG)) (by decide) rfl (G9 B3)
 |true=>
  have HG:=GH hgd;clear hgd;go_wp2_with fail;refine(G9 CO _ (G9 B3)).mono ?_;rintro e w3 ⟨rfl,hb3⟩;have R4:=GH ((G9 R3).next hb3);have B4:=GH (GK (G9 B3) hb3);have X4:=GH ((G9 X3).next hb3);have D4:w3.cell? ⟨w1.heap.size,5,G6⟩=G8 (I0 nv):=by rw[hb3.cell (p:=⟨w1.heap.size,5,G6⟩) (World.block_lt_of_cell? _ _ D3)];exact D3
  obtain⟨d0,d1,d2,d3,d4,d5,d6,d7,d8⟩:=(G9 R4).nine;simp only at d0 d1 d2 d3 d4 d5 d6 d7 d8;clear b0 b1 b2 b3 b4 b5 b6 b7 b8 hb3 R3 B3 X3 CO D3;by_cases hm:rs∈t.ss
  .rw[show decide (rs∈t.ss)=true from decide_eq_true hm];have HM:=GH hm;clear hm
   cases hl:LW t.ns rp with
   |none=>
    have HL:=GH hl;obtain⟨_,h7⟩:=iR hl;rw[G9 HE]at h7;subst h7;clear hl;go_wp2_with fail;go_ret;exact MQ (BH2 (G9 HG) (G9 HM) (G9 HL)) (by decide) rfl (G9 B4)
   |some n=>
    have HL:=GH hl;obtain⟨hnn,h0⟩:=iQ hl;rw[G9 HE]at h0;subst h0;rw[G9 HN]at hnn;have hnv:n.v=nv:=by rw[<-hnn]
    have hko:=gt.nod.ok n (YE hl).1;have hv0:0<=nv:=by have:=hko.v0;omega
    have hv1:nv<=2147483647:=by have:=hko.v1;omega
    have HV:=GH hnv;clear hl hnn hnv hko;by_cases hv:rv=-1\/rv=nv
    .have HF:Hid (A90 t ⟨ro,rs,rp,rd,rv,rf⟩=0):=GH ((A91 (G9 HG) (G9 HM) (G9 HL)).trans (if_pos (by rw[G9 HV];exact hv)));have HY:Hid (CS0 t ⟨ro,rs,rp,rd,rv,rf⟩=nv):=GH ((BH3 (G9 HL)).trans (G9 HV));have hgw:=(G9 X4).lt;have hc:(rv !=-1)=false\/((rv !=-1)=true/\(rv !=nv)=false):=by
      rcases hv with h|h
      .exact .inl (by simp[h])
      .by_cases h1:rv=-1
       .exact .inl (by simp[h1])
       .exact .inr ⟨by simp[h1],by simp[h]⟩
     clear HN HE HG HM HL HV hv;rcases hc with hc1|⟨hc1,hc2⟩
     all_goals
      rcases ho with rfl|rfl
      .have HX:Hid (C16 t z ⟨4,rs,rp,rd,rv,rf⟩=⟨z,4,rs,rp,[],0,0⟩):=GH rfl;go_wp2_with fail;refine(G9 CL _).mono ?_;rintro e w4 ⟨rfl,hb4⟩;have R5:=GH ((G9 R4).next hb4);have B5:=GH (GK (G9 B4) hb4);have X5:=GH ((G9 X4).next hb4);have D5:w4.cell? ⟨w1.heap.size,5,G6⟩=G8 (I0 nv):=by rw[hb4.cell (p:=⟨w1.heap.size,5,G6⟩) (World.block_lt_of_cell? _ _ D4)];exact D4
       have k3:=(G9 X5).c3;have f3:=(G9 X5).f 3;have hgw5:=(G9 X5).lt;obtain⟨e0,e1,e2,e3,e4,e5,e6,e7,e8⟩:=(G9 R5).nine;simp only at e0 e1 e2 e3 e4 e5 e6 e7 e8;have hne:w.heap.size+1≠g:=by omega
       clear d0 d1 d2 d3 d4 d5 d6 d7 d8 hb4 R4 B4 X4 D4 CL;go_wp2_with fail;go_ret;exact Y8 (G9 HF) rfl ((G9 B5).setCell hg _) (by rw[G9 HX];exact(G9 X5).p rp)
      .have HX:Hid (C16 t z ⟨5,rs,rp,rd,rv,rf⟩=⟨z,5,rs,rp,rd,nv+1,0⟩):=GH (by rw[C16,G9 HY];rfl);go_wp2_with fail;refine(G9 CL _).mono ?_;rintro e w4 ⟨rfl,hb4⟩;have R5:=GH ((G9 R4).next hb4);have B5:=GH (GK (G9 B4) hb4);have X5:=GH ((G9 X4).next hb4);have D5:w4.cell? ⟨w1.heap.size,5,G6⟩=G8 (I0 nv):=by rw[hb4.cell (p:=⟨w1.heap.size,5,G6⟩) (World.block_lt_of_cell? _ _ D4)];exact D4
       have k3:=(G9 X5).c3;have f3:=(G9 X5).f 3;have hgw5:=(G9 X5).lt;obtain⟨e0,e1,e2,e3,e4,e5,e6,e7,e8⟩:=(G9 R5).nine;simp only at e0 e1 e2 e3 e4 e5 e6 e7 e8;have hne:w.heap.size+1≠g:=by omega
       clear d0 d1 d2 d3 d4 d5 d6 d7 d8 hb4 R4 B4 X4 D4 CL;go_wp2_with fail;refine(G9 CD _).mono ?_;rintro e w6 ⟨rfl,hb6⟩;have hgw6:g<(w4.setCell ⟨g,3,G6⟩ (S0 rp)).heap.size:=by simp;omega
       have B6:Hid (B0 u w6):=GH (GK ((G9 B5).setCell (by exact hg) _) hb6);have X6:=GH (((G9 X5).p rp).next hb6);have D6:w6.cell? ⟨w1.heap.size,5,G6⟩=G8 (I0 nv):=by
        have D7:=AP9 (a:=⟨g,3,G6⟩) (v:=S0 rp) D5 (by simp only;omega);rw[hb6.cell (p:=⟨w1.heap.size,5,G6⟩) (World.block_lt_of_cell? _ _ D7)];exact D7
       have k4:=(G9 X6).c4;have f4:=(G9 X6).f 4;have k5:=(G9 X6).c5;have f5:=(G9 X6).f 5;clear hb6 R5 B5 X5 D5 k3 f3 CD;go_wp2_with fail;go_ret;exact Y8 (G9 HF) rfl (((G9 B6).setCell hg _).setCell hg _) (by rw[G9 HX];exact((G9 X6).d rd).v (nv+1))
    .have HF:Hid (A90 t ⟨ro,rs,rp,rd,rv,rf⟩=9):=GH ((A91 (G9 HG) (G9 HM) (G9 HL)).trans (if_neg (by rw[G9 HV];exact hv)));have hb1:(rv !=-1)=true:=by simp;omega
     have hb2:(rv !=nv)=true:=by simp;omega
     clear HN HE HG HM HL HV hv;go_wp2_with fail;go_ret;exact MQ (G9 HF) (by decide) rfl (G9 B4)
  .rw[show decide (rs∈t.ss)=false from decide_eq_false hm];have HM:=GH hm;clear hm;go_wp2_with fail;go_ret;exact MQ (BH1 (G9 HG) (G9 HM)) (by decide) rfl (G9 B4)
theorem A55(t:Tr)(vn vs:FZ)(r:Rq)(x:GV)(g:Nat)(u w:FX)(gt:RX t)(hn:IV u vn t.ns)(hb:B0 u w)(hg:u.heap.size<=g)(hx:TAt w g x)(hxp:x.p=r.p)(htab:Lib.TabIs prog u "internal/strconv.uint64pow10" .u64 Lib.pow10Tab):
  G5 prog 196 #[P0 g,.agg #[I0 t.z,vn,vs]] w (fF u g (AS2 t r) {x with p:=CS1 t r}):=by
 have CS:=GH (fun W=>NU r.p W);have CG:=GH (fun W (hW:B0 u W)=>iT t vn vs (IL r.p) W gt (hn.next hW));have hdl:=WZ r.p;have hsl:(OD r.p).length<=200:=by
  rw[OD]
  split
  .rename_i h
   obtain⟨a,b,e,hb⟩:=aK h.1;rw[e,TV b hb a];have:=MV h.1;rw[e]at this;simp at this⊢;omega
  .simp
 have CN:=GH (fun(n:Int) W (hW:B0 u W)=>AH9 ⟨(OD r.p).toArray⟩ n W (by show (OD r.p).length<=_;omega) (A88 htab hW));have CJ:=GH (fun(m:List UInt8) (hm:m.length<=140737488355328) W=>BG6 (IL r.p) m W hm);obtain⟨na,nc,rfl⟩:=GU hn;unfold U8 at CG;rw[<-hxp]at CS;have k3:=hx.c3;rw[hxp]at k3 CS;have X0:=GH hx;have B0:=GH hb;have hgl:=hx.lt;have K0:∀W,Below (w.alloc (FW #[I0 t.z,FV na t.ns.length nc,vs] 52)).heap.size (w.alloc (FW #[I0 t.z,FV na t.ns.length nc,vs] 52)) W->W.heap[w.heap.size]?=G8 (FW #[I0 t.z,FV na t.ns.length nc,vs] 52 (0,0)):=fun W hW=>(hW.block _ (by simp)).trans (heap_alloc_new w _);have HK:=GH K0;have HXP:=GH hxp;clear hn hb hx K0 hxp;go_enter func196,ntmps196;go_wp2_with fail;refine(G9 CS _).mono ?_;rintro e w1 ⟨rfl,hb1⟩;have T1:=G9 HK w1 hb1;have B1:=GH (GK (G9 B0) (H7 hb1));have X1:=GH ((G9 X0).next (H7 hb1));have c0:w1.cell? ⟨w.heap.size,0,G6⟩=G8 (I0 t.z):=by simp[AX,T1]
 have c1:w1.cell? ⟨w.heap.size,1,G6⟩=G8 (FV na t.ns.length nc):=by simp[AX,T1]
 have c2:w1.cell? ⟨w.heap.size,2,G6⟩=G8 vs:=by simp[AX,T1]
 clear hb1 T1 B0 X0 CS HK k3;obtain⟨D,hD⟩:∃D,IL r.p=D:=⟨_,rfl⟩;obtain⟨S,hS⟩:∃S,OD r.p=S:=⟨_,rfl⟩;rw[hD]at CG hdl CJ⊢;rw[hS]at CN hsl⊢;have HD:=GH hD;have HS:=GH hS;clear hD hS;go_wp2_with fail;refine(G9 CG _ (G9 B1)).mono ?_;rintro e w2 ⟨rfl,hb2⟩;have B2:=GH (GK (G9 B1) hb2);have X2:=GH ((G9 X1).next hb2);clear hb2 B1 X1 c0 c1 c2 CG
 cases hl:LW t.ns D with
 |none=>
  obtain⟨h1,h2⟩:=iR hl;have HL:=GH hl;rw[h1,h2];clear hl h1 h2;unfold WH;simp only;go_wp2_with fail;go_ret;exact MQ (BH4 (by rw[G9 HD];exact G9 HL)) (by decide) rfl (GK (G9 B2) (GI _ _))
 |some n=>
  obtain⟨h1,h2⟩:=iQ hl;have HL:=GH hl;rw[h1,h2];clear hl h1 h2;obtain⟨np,nd,nc',nm,nq,nv,nk,no,nn⟩:=n;simp only;have B3:=GH (GK (G9 B2) (GI w2 (FW #[S0 np,S0 nd,I0 nc',I0 nm,I0 nq,I0 nv,I0 nk,I0 no,I0 nn] 61)));go_wp2_with fail;refine(G9 CN nk _ (G9 B3)).mono ?_;rintro e w3 ⟨rfl,hb3⟩;rw[AX1];have B4:=GH (GK (G9 B3) hb3);have X4:=GH ((G9 X2).next (H7 hb3));have hml:=BG9 S nk;have CJ1:=GH (G9 CJ (AI4 S nk) (by omega));have NS:Hid (nS S nk≠0->AS2 t r=nS S nk):=GH (fun h=>by
   have h':=C17 (t:=t) (r:=r) (u:=⟨np,nd,nc',nm,nq,nv,nk,no,nn⟩) (by rw[G9 HD];exact G9 HL) (by rw[G9 HS];exact h);rw[G9 HS]at h';exact h')
  have NJ:Hid (nS S nk=0->AS2 t r=dS D (AI4 S nk)):=GH (fun h=>by
   have h':=BH5 (t:=t) (r:=r) (u:=⟨np,nd,nc',nm,nq,nv,nk,no,nn⟩) (by rw[G9 HD];exact G9 HL) (by rw[G9 HS];exact h);rw[G9 HS,G9 HD]at h';exact h')
  have NP:Hid (CS1 t r=mG D (AI4 S nk)):=GH (by
   rw[CS1,G9 HD,G9 HS,C18 (u:=⟨np,nd,nc',nm,nq,nv,nk,no,nn⟩) (by rw[G9 HD];exact G9 HL)])
  clear hb3 B3 X2 B2 CN CJ HL HD HS;generalize AI4 S nk=M at*;generalize nS S nk=F at*;by_cases hF:F=0
  .subst hF;have HN:=GH (G9 NJ rfl);clear NS NJ;go_wp2_with fail;refine(G9 CJ1 _).mono ?_;rintro e w4 ⟨rfl,hb4⟩;have B5:=GH (GK (G9 B4) hb4);have X5:=GH ((G9 X4).next hb4);have k3:=(G9 X5).c3;have f3:=(G9 X5).f 3;clear hb4 B4 X4 CJ1;generalize mG D M=J at*;generalize dS D M=G at*;go_wp2_with fail;go_ret;refine⟨?_,(G9 B5).setCell hg _,fun _=>?_⟩
   .rw[G9 HN];rfl
   .rw[G9 NP];exact(G9 X5).p J
  .have hFb:(F !=0)=true:=by simpa using hF
   have HN:=GH (G9 NS hF);have HF:=GH hF;clear NS NJ hF;go_wp2_with fail;go_ret;exact MQ (G9 HN) (G9 HF) rfl (G9 B4)
theorem A56(t:Tr)(z:Int)(vn vs:FZ)(r:Rq)(g:Nat)(u w:FX)(gt:RX t)(hn:IV u vn t.ns)(hs:IV u vs t.ss)(hb:B0 u w)(hg:u.heap.size<=g)(hx:TAt w g ⟨z,r.o,r.s,[],[],0,0⟩)(hp:r.p.length<=140737488355328)(hd:r.d.length<=140737488355328)(htab:Lib.TabIs prog u "internal/strconv.uint64pow10" .u64 Lib.pow10Tab):
  G5 prog 163 #[P0 g,.agg #[I0 t.z,vn,vs],rqV r] w (fF u g (A92 t r) (CS2 t z r)):=by
 have CO:=GH (fun W (hW:B0 u W)=>bI t.z vn vs t.ss r.s W (hs.next hW) gt.ses);have CP:=GH (fun W=>MB ⟨r.p.toArray⟩ W);have CL:=GH (fun W=>O8 r.p W (by omega));have CD:=GH (fun W=>O8 r.d W (by omega));have CN:=GH (fun(x:GV) (hxp:x.p=r.p) W (hW:B0 u W) (hx:TAt W g x)=>A55 t vn vs r x g u W gt hn hW hg hx hxp htab);obtain⟨na,nc,rfl⟩:=GU hn;obtain⟨sa,sc,rfl⟩:=GU hs;obtain⟨ro,rs,rp,rd,rv,rf⟩:=r;unfold rqV;simp only at*;have X0:=GH hx;have B0:=GH hb;have hgl:=hx.lt;have R0:=GH (TR.new w t.z (FV na t.ns.length nc) (FV sa t.ss.length sc) ⟨ro,rs,rp,rd,rv,rf⟩);clear hn hs hb hx;by_cases hf:0<=rf/\rf<=3
 .have hf1:=hf.1;have hf2:=hf.2;have HF:=GH hf;have hfb1:(decide (rf<0))=false:=by simp;omega
  have hfb2:(decide (3<rf))=false:=by simp;omega
  clear hf;obtain⟨a0,a1,a2,a3,a4,a5,a6,a7,a8⟩:=(G9 R0).nine;simp only at a0 a1 a2 a3 a4 a5 a6 a7 a8;go_enter func163,ntmps163;go_wp2_with fail;refine(G9 CP _).mono ?_;rintro e w1 ⟨rfl,hb1⟩;have R1:=GH ((G9 R0).next hb1);have B1:=GH (GK (G9 B0) (H7 (H7 hb1)));have X1:=GH ((G9 X0).next (H7 (H7 hb1)));obtain⟨b0,b1,b2,b3,b4,b5,b6,b7,b8⟩:=(G9 R1).nine;simp only at b0 b1 b2 b3 b4 b5 b6 b7 b8;clear a0 a1 a2 a3 a4 a5 a6 a7 a8 hb1 R0 B0 X0 CP
  cases hgd:J8 rp with
  |false=>
   have HG:=GH hgd;clear hgd;go_wp2_with fail;go_ret;exact MQ (A93 (G9 HF) (fun h=>by have h1:=h.1;rw[G9 HG]at h1;exact absurd h1 (by decide))) (by decide) rfl (G9 B1)
  |true=>
   have HG:=GH hgd;clear hgd;by_cases hr:rp=[47]
   .have HR:=GH hr;subst hr;go_wp2_with fail;go_ret;exact MQ (A93 (G9 HF) (fun h=>h.2 rfl)) (by decide) rfl (G9 B1)
   .have HR:=GH hr;have hrb:(rp==[47])=false:=by simpa using hr
    clear hr;go_wp2_with fail;refine(G9 CO _ (G9 B1)).mono ?_;rintro e w2 ⟨rfl,hb2⟩;have R2:=GH ((G9 R1).next hb2);have B2:=GH (GK (G9 B1) hb2);have X2:=GH ((G9 X1).next hb2);obtain⟨d0,d1,d2,d3,d4,d5,d6,d7,d8⟩:=(G9 R2).nine;simp only at d0 d1 d2 d3 d4 d5 d6 d7 d8;clear b0 b1 b2 b3 b4 b5 b6 b7 b8 hb2 R1 B1 X1 CO hrb;by_cases hm:rs∈t.ss
    .rw[show decide (rs∈t.ss)=true from decide_eq_true hm];have HM:=GH hm;clear hm;go_wp2_with fail;refine(G9 CL _).mono ?_;rintro e w3 ⟨rfl,hb3⟩;have R3:=GH ((G9 R2).next hb3);have B3:=GH (GK (G9 B2) hb3);have X3:=GH ((G9 X2).next hb3);obtain⟨e0,e1,e2,e3,e4,e5,e6,e7,e8⟩:=(G9 R3).nine;simp only at e0 e1 e2 e3 e4 e5 e6 e7 e8;have k3:=(G9 X3).c3;have f3:=(G9 X3).f 3;have hne:w.heap.size+1≠g:=by omega
     have hne0:w.heap.size≠g:=by omega
     clear d0 d1 d2 d3 d4 d5 d6 d7 d8 hb3 R2 B2 X2 CL;go_wp2_with fail;refine(G9 CD _).mono ?_;rintro e w4 ⟨rfl,hb4⟩;have R4:=GH (((G9 R3).other (a:=⟨g,3,G6⟩) (S0 rp) (.inl hgl)).next hb4);have B4:Hid (B0 u w4):=GH (GK ((G9 B3).setCell (by exact hg) _) hb4);have X4:=GH (((G9 X3).p rp).next hb4);obtain⟨i0,i1,i2,i3,i4,i5,i6,i7,i8⟩:=(G9 R4).nine;simp only at i0 i1 i2 i3 i4 i5 i6 i7 i8;have k4:=(G9 X4).c4;have f4:=(G9 X4).f 4;have k6:=(G9 X4).c6;have f6:=(G9 X4).f 6;clear e0 e1 e2 e3 e4 e5 e6 e7 e8 hb4 R3 B3 X3 CD k3 f3;have R5:=GH ((G9 R4).other (a:=⟨g,4,G6⟩) (S0 rd) (.inl hgl));have B5:Hid (B0 u (w4.setCell ⟨g,4,G6⟩ (S0 rd))):=GH ((G9 B4).setCell (by exact hg) _);have X5:=GH ((G9 X4).d rd);have HP:Hid (J8 rp=true/\rp≠[47]):=GH ⟨G9 HG,G9 HR⟩;have hfs:rf=0\/rf=1\/rf=2\/rf=3:=by omega
     clear HG HR;simp only at X5;rcases hfs with rfl|rfl|rfl|rfl
     .go_wp2_with fail;go_ret;exact Y8 (vJ (G9 HF) (G9 HP) (G9 HM) (by simp)) rfl (G9 B5) (G9 X5)
     .go_wp2_with fail;go_ret;exact Y8 (vJ (G9 HF) (G9 HP) (G9 HM) (by simp)) rfl ((G9 B5).setCell hg _) ((G9 X5).w rs)
     .go_wp2_with fail;refine(G9 CN _ rfl _ (G9 B5) (G9 X5)).mono ?_;rintro e w6 ⟨rfl,hb6,hx6⟩;have HB:=GH hb6;have HX:=GH hx6;clear hb6 hx6;go_wp2_with fail;go_ret;refine⟨?_,G9 HB,fun h=>?_⟩
      .rw[qM (G9 HF) (G9 HP) (G9 HM) (by simp)];rfl
      .rw[qM (G9 HF) (G9 HP) (G9 HM) (by simp)]at h;exact G9 HX h
     .go_wp2_with fail;refine(G9 CN _ rfl _ ((G9 B5).setCell hg _) ((G9 X5).w rs)).mono ?_;rintro e w6 ⟨rfl,hb6,hx6⟩;have HB:=GH hb6;have HX:=GH hx6;clear hb6 hx6;go_wp2_with fail;go_ret;refine⟨?_,G9 HB,fun h=>?_⟩
      .rw[qM (G9 HF) (G9 HP) (G9 HM) (by simp)];rfl
      .rw[qM (G9 HF) (G9 HP) (G9 HM) (by simp)]at h;exact G9 HX h
    .rw[show decide (rs∈t.ss)=false from decide_eq_false hm];have HM:=GH hm;clear hm;go_wp2_with fail;go_ret;exact MQ (BH6 (G9 HF) ⟨G9 HG,G9 HR⟩ (G9 HM)) (by decide) rfl (G9 B2)
 .have HF:=GH hf;have hc:decide (rf<0)=true\/(decide (rf<0)=false/\decide (3<rf)=true):=by
   by_cases h:rf<0
   .exact .inl (by simp[h])
   .exact .inr ⟨by simp;omega,by simp;omega⟩
  clear hf;rcases hc with h|⟨h,h'⟩
  all_goals
   simp only[decide_eq_true_eq,decide_eq_false_iff_not]at h
   (try simp only[decide_eq_true_eq]at h')
   go_enter func163,ntmps163;go_wp2_with fail;go_ret;exact MQ (AX2 (G9 HF)) (by decide) rfl (GK (GK (G9 B0) (GI _ _)) (GI _ _))
theorem B95(t:Tr)(z:Int)(vn vs:FZ)(r:Rq)(g:Nat)(u w:FX)(gt:RX t)(hn:IV u vn t.ns)(hs:IV u vs t.ss)(hb:B0 u w)(hg:u.heap.size<=g)(hx:TAt w g ⟨z,r.o,r.s,[],[],0,0⟩)(hp:r.p.length<=140737488355328)(hd:r.d.length<=140737488355328)(htab:Lib.TabIs prog u "internal/strconv.uint64pow10" .u64 Lib.pow10Tab):
  G5 prog 120 #[P0 g,.agg #[I0 t.z,vn,vs],rqV r] w (fF u g (lZ t r) (dU t z r)):=by
 have CA:=GH (fun(ho:r.o=4\/r.o=5) W (hW:B0 u W) hx=>A54 t z vn vs r g u W gt hn hs hW hg hx ho hp hd);have CC:=GH (fun W (hW:B0 u W) hx=>A56 t z vn vs r g u W gt hn hs hW hg hx hp hd htab);obtain⟨na,nc,rfl⟩:=GU hn;obtain⟨sa,sc,rfl⟩:=GU hs;obtain⟨ro,rs,rp,rd,rv,rf⟩:=r;unfold rqV at*;simp only at*;have X0:=GH hx;have B0:=GH hb;have X1:=GH (hx.next (GK (GI w (FW #[I0 t.z,FV na t.ns.length nc,FV sa t.ss.length sc] 52)) (GI _ (FW #[I0 ro,I0 rs,S0 rp,S0 rd,I0 rv,I0 rf] 28))));have B1:=GH (GK hb (GK (GI w (FW #[I0 t.z,FV na t.ns.length nc,FV sa t.ss.length sc] 52)) (GI _ (FW #[I0 ro,I0 rs,S0 rp,S0 rd,I0 rv,I0 rf] 28))));clear hn hs hb hx htab;by_cases h1:ro=1\/ro=2
 .have HE:=GH (AX3 (t:=t) (z:=z) (r:=⟨ro,rs,rp,rd,rv,rf⟩) h1);clear CA CC;rcases h1 with rfl|rfl
  all_goals
   go_enter func120,ntmps120;go_wp2_with fail;go_ret;exact Y8 (G9 HE).1 rfl (G9 B1) (by rw[(G9 HE).2];exact G9 X1)
 .by_cases h3:ro=3
  .have HE:=GH (C19 (t:=t) (z:=z) (r:=⟨ro,rs,rp,rd,rv,rf⟩) h3);subst h3;clear CA h1;go_enter func120,ntmps120;go_wp2_with fail;refine(G9 CC _ (G9 B1) (G9 X1)).mono ?_;rintro e w6 ⟨rfl,hb6,hx6⟩;have HB:=GH hb6;have HX:=GH hx6;clear hb6 hx6;go_wp2_with fail;go_ret;refine⟨?_,G9 HB,fun h=>?_⟩
   .rw[(G9 HE).1];rfl
   .rw[(G9 HE).1]at h;rw[(G9 HE).2];exact G9 HX h
  .by_cases h4:ro=4\/ro=5
   .have HE:=GH (C20 (t:=t) (z:=z) (r:=⟨ro,rs,rp,rd,rv,rf⟩) h4);have CB:=GH (G9 CA h4);clear CA CC h1 h3;rcases h4 with rfl|rfl
    all_goals
     go_enter func120,ntmps120;go_wp2_with fail;refine(G9 CB _ (G9 B1) (G9 X1)).mono ?_;rintro e w6 ⟨rfl,hb6,hx6⟩;have HB:=GH hb6;have HX:=GH hx6;clear hb6 hx6;go_wp2_with fail;go_ret;refine⟨?_,G9 HB,fun h=>?_⟩
     .rw[(G9 HE).1];rfl
     .rw[(G9 HE).1]at h;rw[(G9 HE).2];exact G9 HX h
   .have HE:=GH (BH7 (t:=t) (r:=⟨ro,rs,rp,rd,rv,rf⟩) (by simp only;omega));have e1:(ro==1)=false:=by simp;omega
    have e2:(ro==2)=false:=by simp;omega
    have e3:(ro==3)=false:=by simp;omega
    have e4:(ro==4)=false:=by simp;omega
    have e5:(ro==5)=false:=by simp;omega
    clear CA CC h1 h3 h4;go_enter func120,ntmps120;go_wp2_with fail;go_ret;exact MQ (G9 HE) (by decide) rfl (G9 B1)
def AF3(w:FX)(t:Tr)(z:Int)(r:Rq)(e:Ending)(w':FX):Prop:=
 e=.returned (.tuple #[JC (AS3 t z r),I0 (gU t z r)])/\B0 w w'
theorem V7{w:FX}{r:Rq}(hE:gU t z r=E)(h0:E≠0)(he:e=.returned (.tuple #[JC t0,I0 E]))(hb:B0 w w'):AF3 w t z r e w':=by
 refine⟨?_,hb⟩;rw[C21 (by rw[hE];exact h0),hE];exact he
theorem B96{w:FX}{r:Rq}(hE:gU t z r=0)(hX:AS3 t z r=x)(he:e=.returned (.tuple #[JC x,I0 0]))(hb:B0 w w'):AF3 w t z r e w':=by
 refine⟨?_,hb⟩;rw[hE,hX];exact he
structure PB(w W:FX)(z:Int)(vn vs:FZ)(r:Rq):Prop where
 t:TR W w.heap.size z vn vs r
 a:TAt W (w.heap.size+2) t0
 b:B0 w W
section
variable {w W V:FX} {z:Int} {vn vs:FZ} {r:Rq}
theorem PB.next(h:PB w W z vn vs r)(hb:B0 W V):PB w V z vn vs r:=⟨h.t.next hb,h.a.next hb,GK h.b hb⟩
theorem PB.new(w:FX)(z:Int)(vn vs:FZ)(r:Rq):PB w (((w.alloc (FW #[I0 z,vn,vs] 52)).alloc (FW #[I0 r.o,I0 r.s,S0 r.p,S0 r.d,I0 r.v,I0 r.f] 28)).alloc (FW #[I0 0,I0 0,I0 0,.string ⟨#[]⟩,.string ⟨#[]⟩,I0 0,I0 0] 59)) z vn vs r:=by
 refine⟨(TR.new w z vn vs r).next (GI _ _),?_,GK (GK (GI _ _) (GI _ _)) (GI _ _)⟩;have h:=TAt.new ((w.alloc (FW #[I0 z,vn,vs] 52)).alloc (FW #[I0 r.o,I0 r.s,S0 r.p,S0 r.d,I0 r.v,I0 r.f] 28)) t0;rw[show ((w.alloc (FW #[I0 z,vn,vs] 52)).alloc (FW #[I0 r.o,I0 r.s,S0 r.p,S0 r.d,I0 r.v,I0 r.f] 28)).heap.size=w.heap.size+2 by simp]at h;exact h
theorem PB.cells(h:PB w W z vn vs r):(W.cell? ⟨w.heap.size+2,0,G6⟩=G8 (I0 0)/\W.cell? ⟨w.heap.size+2,1,G6⟩=G8 (I0 0)/\W.cell? ⟨w.heap.size+2,2,G6⟩=G8 (I0 0)/\W.cell? ⟨w.heap.size+2,3,G6⟩=G8 (.string ⟨#[]⟩)/\W.cell? ⟨w.heap.size+2,4,G6⟩=G8 (.string ⟨#[]⟩)/\W.cell? ⟨w.heap.size+2,5,G6⟩=G8 (I0 0)/\W.cell? ⟨w.heap.size+2,6,G6⟩=G8 (I0 0)):=⟨h.a.c0,h.a.c1,h.a.c2,h.a.c3,h.a.c4,h.a.c5,h.a.c6⟩
end
def put7(W:FX)(g:Nat)(t:GV):FX:=
 ((((((W.setCell ⟨g,0,G6⟩ (I0 t.z)).setCell ⟨g,1,G6⟩ (I0 t.o)).setCell ⟨g,2,G6⟩ (I0 t.s)).setCell ⟨g,3,G6⟩ (S0 t.p)).setCell ⟨g,4,G6⟩ (S0 t.d)).setCell ⟨g,5,G6⟩ (I0 t.v)).setCell ⟨g,6,G6⟩ (I0 t.w)
theorem PG{w:FX}(t:GV)(hb:B0 w W)(hg:w.heap.size<=g):B0 w (put7 W g t):=
 ((((((hb.setCell hg _).setCell hg _).setCell hg _).setCell hg _).setCell hg _).setCell hg _).setCell hg _
theorem A57(t:Tr)(z:Int)(vn vs:FZ)(r:Rq)(w:FX)(hn:IV w vn t.ns)(hs:IV w vs t.ss)(hw:WfT t)(hp:r.p.length<=140737488355328)(hd:r.d.length<=140737488355328)(htab:Lib.TabIs prog w "internal/strconv.uint64pow10" .u64 Lib.pow10Tab):
  G5 prog 79 #[.agg #[I0 t.z,vn,vs],I0 z,rqV r] w (AF3 w t z r):=by
 have CG:=GH (fun W (hW:B0 w W)=>bK t vn vs W (hn.next hW) (hs.next hW) hw);have CZ:=GH (fun W=>JM z W);have CF:=GH (fun(gt:RX t) g u (hu:B0 w u) W hW hg hx=>B95 t z vn vs r g u W gt (hn.next hu) (hs.next hu) hW hg hx hp hd (A88 htab hu));have CA:=GH (fun W (hW:B0 w W)=>wW t vn vs (dU t z r) W (hn.next hW) (hs.next hW) hw (by have:=CH5 t z r;omega));obtain⟨na,nc,rfl⟩:=GU hn;obtain⟨sa,sc,rfl⟩:=GU hs;obtain⟨ro,rs,rp,rd,rv,rf⟩:=r;unfold rqV at*;simp only at*;have P0:=GH (PB.new w t.z (FV na t.ns.length nc) (FV sa t.ss.length sc) ⟨ro,rs,rp,rd,rv,rf⟩);simp only at P0;clear hn hs htab;go_enter func79,ntmps79;go_wp2_with fail;refine(G9 CG _ (G9 P0).b).mono ?_;rintro e w1 ⟨rfl,hb1⟩;have P1:=GH ((G9 P0).next hb1);obtain⟨b0,b1,b2,b3,b4,b5,b6,b7,b8⟩:=(G9 P1).t.nine;obtain⟨c0,c1,c2,c3,c4,c5,c6⟩:=(G9 P1).cells;have f:=(G9 P1).a.f;have f0:=f 0;have f1:=f 1;have f2:=f 2;have f3:=f 3;have f4:=f 4;have f5:=f 5;have f6:=f 6;simp only at b0 b1 b2 b3 b4 b5 b6 b7 b8;clear hb1 P0 CG f
 cases hgd:UK t with
 |false=>
  have HE:Hid (gU t z ⟨ro,rs,rp,rd,rv,rf⟩=3):=GH (aV (by simp[dV,hgd]));clear hgd;go_wp2_with fail;exact bodyPost_ret (v:=.tuple #[JC t0,I0 3]) (by simp[results,results79,go_sem,JC,t0,c0,c1,c2,c3,c4,c5,c6]) rfl (V7 (G9 HE) (by decide) rfl (PG t0 (G9 P1).b (by omega)))
 |true=>
  have HG:=GH (SV.1 hgd);have HGB:=GH hgd;clear hgd;go_wp2_with fail;refine(G9 CZ _).mono ?_;rintro e w2 ⟨rfl,rfl⟩;clear CZ
  cases hzd:KP z with
  |false=>
   have HE:Hid (gU t z ⟨ro,rs,rp,rd,rv,rf⟩=3):=GH (aV (by simp[dV,hzd]));clear hzd;go_wp2_with fail;exact bodyPost_ret (v:=.tuple #[JC t0,I0 3]) (by simp[results,results79,go_sem,JC,t0,c0,c1,c2,c3,c4,c5,c6]) rfl (V7 (G9 HE) (by decide) rfl (PG t0 (G9 P1).b (by omega)))
  |true=>
   by_cases h1:rs<1
   .have HE:Hid (gU t z ⟨ro,rs,rp,rd,rv,rf⟩=3):=GH (aV (by simp[dV];intros;omega));have hd1:decide (rs<1)=true:=decide_eq_true h1;clear hzd h1;go_wp2_with fail;exact bodyPost_ret (v:=.tuple #[JC t0,I0 3]) (by simp[results,results79,go_sem,JC,t0,c0,c1,c2,c3,c4,c5,c6]) rfl (V7 (G9 HE) (by decide) rfl (PG t0 (G9 P1).b (by omega)))
   .by_cases h2:2147483647<rs
    .have HE:Hid (gU t z ⟨ro,rs,rp,rd,rv,rf⟩=3):=GH (aV (by simp[dV];intros;omega));have hd1:decide (rs<1)=false:=decide_eq_false h1;have hd2:decide (2147483647<rs)=true:=decide_eq_true h2;clear hzd h1 h2;go_wp2_with fail;exact bodyPost_ret (v:=.tuple #[JC t0,I0 3]) (by simp[results,results79,go_sem,JC,t0,c0,c1,c2,c3,c4,c5,c6]) rfl (V7 (G9 HE) (by decide) rfl (PG t0 (G9 P1).b (by omega)))
    .have HH:Hid (dV t z ⟨ro,rs,rp,rd,rv,rf⟩=true):=GH (nT.2 ⟨G9 HG,hzd,by simp only;omega,by simp only;omega⟩);have hd1:decide (rs<1)=false:=decide_eq_false h1;have hd2:decide (2147483647<rs)=false:=decide_eq_false h2;clear hzd h1 h2;have X2:=GH (TAt.new w2 ⟨z,ro,rs,[],[],0,0⟩);have P2:=GH ((G9 P1).next (GI w2 (FW #[I0 z,I0 ro,I0 rs,.string ⟨#[]⟩,.string ⟨#[]⟩,I0 0,I0 0] 59)));obtain⟨d0,d1,d2,d3,d4,d5,d6,d7,d8⟩:=(G9 P2).t.nine;simp only at d0 d1 d2 d3 d4 d5 d6 d7 d8;clear c0 c1 c2 c3 c4 c5 c6 f0 f1 f2 f3 f4 f5 f6;go_wp2_with fail;refine(G9 CF (G9 HG) w2.heap.size w2 (G9 P1).b _ (GI _ _) (Nat.le_refl _) (G9 X2)).mono ?_;rintro e w3 ⟨rfl,hb3,hx3⟩;have P3:=GH ((G9 P1).next hb3);have HX3:=GH hx3;have PF:Hid (lZ t ⟨ro,rs,rp,rd,rv,rf⟩≠0->gU t z ⟨ro,rs,rp,rd,rv,rf⟩=lZ t ⟨ro,rs,rp,rd,rv,rf⟩):=GH (fun h=>A94 (G9 HH) h);have PA:Hid (lZ t ⟨ro,rs,rp,rd,rv,rf⟩=0->gU t z ⟨ro,rs,rp,rd,rv,rf⟩=YR t (dU t z ⟨ro,rs,rp,rd,rv,rf⟩)):=GH (fun h=>zV (G9 HH) h);clear d0 d1 d2 d3 d4 d5 d6 d7 d8 b0 b1 b2 b3 b4 b5 b6 b7 b8 P2 X2 CF HG HGB HH hb3 hx3;generalize lZ t ⟨ro,rs,rp,rd,rv,rf⟩=F at*;by_cases hF:F=0
     .have PE:=GH (G9 PA hF);have X3:=GH (G9 HX3 hF);subst hF;have KX:Hid (gU t z ⟨ro,rs,rp,rd,rv,rf⟩=0->AS3 t z ⟨ro,rs,rp,rd,rv,rf⟩=dU t z ⟨ro,rs,rp,rd,rv,rf⟩):=GH (fun h=>zX h);unfold bM at CA;clear PF PA HX3;generalize jI t (dU t z ⟨ro,rs,rp,rd,rv,rf⟩)=T at*;generalize YW t (dU t z ⟨ro,rs,rp,rd,rv,rf⟩)=V at*;generalize YR t (dU t z ⟨ro,rs,rp,rd,rv,rf⟩)=E at*;generalize dU t z ⟨ro,rs,rp,rd,rv,rf⟩=x at*;obtain⟨xz,xo,xs,xp,xd,xv,xw⟩:=x;unfold JC at CA;simp only at CA;have x0:=(G9 X3).c0;have x1:=(G9 X3).c1;have x2:=(G9 X3).c2;have x3:=(G9 X3).c3;have x4:=(G9 X3).c4;have x5:=(G9 X3).c5;have x6:=(G9 X3).c6;simp only at x0 x1 x2 x3 x4 x5 x6;obtain⟨e0,e1,e2,e3,e4,e5,e6,e7,e8⟩:=(G9 P3).t.nine;obtain⟨c0,c1,c2,c3,c4,c5,c6⟩:=(G9 P3).cells;have f:=(G9 P3).a.f;have f0:=f 0;have f1:=f 1;have f2:=f 2;have f3:=f 3;have f4:=f 4;have f5:=f 5;have f6:=f 6;simp only at e0 e1 e2 e3 e4 e5 e6 e7 e8;clear f;go_wp2_with fail;refine(G9 CA _ (G9 P3).b).mono ?_;rintro e w4 ⟨vn4,vs4,ve4,rfl,n4,s4,e4,hb4⟩;obtain⟨an,cn,rfl,_⟩:=n4.slice;obtain⟨ai,ci,rfl,_⟩:=s4.slice;obtain⟨ae,ce,rfl,_⟩:=e4.slice;have P5:=GH ((G9 P3).next (GK hb4 (GI w4 (FW #[I0 T.z,FV an T.ns.length cn,FV ai T.ss.length ci] 52))));have X5:=GH ((G9 X3).next (GK hb4 (GI w4 (FW #[I0 T.z,FV an T.ns.length cn,FV ai T.ss.length ci] 52))));clear c0 c1 c2 c3 c4 c5 c6 f0 f1 f2 f3 f4 f5 f6 x0 x1 x2 x3 x4 x5 x6 e0 e1 e2 e3 e5 e6 e7 e8 hb4 n4 s4 e4 P3 X3 CA;obtain⟨c0,c1,c2,c3,c4,c5,c6⟩:=(G9 P5).cells;have f:=(G9 P5).a.f;have f0:=f 0;have f1:=f 1;have f2:=f 2;have f3:=f 3;have f4:=f 4;have f5:=f 5;have f6:=f 6;have x0:=(G9 X5).c0;have x1:=(G9 X5).c1;have x2:=(G9 X5).c2;have x3:=(G9 X5).c3;have x4:=(G9 X5).c4;have x5:=(G9 X5).c5;have x6:=(G9 X5).c6;simp only at x0 x1 x2 x3 x4 x5 x6;clear f;by_cases hE:E=0
      .subst hE;have HX:=GH (G9 KX (G9 PE));go_wp2_with fail;exact bodyPost_ret (v:=.tuple #[JC ⟨xz,xo,xs,xp,xd,xv,xw⟩,I0 0]) (by simp[results,results79,go_sem,JC,c0,c1,c2,c3,c4,c5,c6]) rfl (B96 (G9 PE) (G9 HX) rfl (PG ⟨xz,xo,xs,xp,xd,xv,xw⟩ (G9 P5).b (by omega)))
      .have hEb:(E !=0)=true:=by simpa using hE
       have HE:=GH hE;clear hE;go_wp2_with fail;exact bodyPost_ret (v:=.tuple #[JC t0,I0 E]) (by simp[results,results79,go_sem,JC,t0,c0,c1,c2,c3,c4,c5,c6]) rfl (V7 (G9 PE) (G9 HE) rfl (PG t0 (G9 P5).b (by omega)))
     .have PE:=GH (G9 PF hF);have hFb:(F !=0)=true:=by simpa using hF
      have HF:=GH hF;clear PF PA HX3 hF CA;obtain⟨e0,e1,e2,e3,e4,e5,e6,e7,e8⟩:=(G9 P3).t.nine;obtain⟨c0,c1,c2,c3,c4,c5,c6⟩:=(G9 P3).cells;have f:=(G9 P3).a.f;have f0:=f 0;have f1:=f 1;have f2:=f 2;have f3:=f 3;have f4:=f 4;have f5:=f 5;have f6:=f 6;simp only at e0 e1 e2 e3 e4 e5 e6 e7 e8;clear f;go_wp2_with fail;exact bodyPost_ret (v:=.tuple #[JC t0,I0 F]) (by simp[results,results79,go_sem,JC,t0,c0,c1,c2,c3,c4,c5,c6]) rfl (V7 (G9 PE) (G9 HF) rfl (PG t0 (G9 P3).b (by omega)))
