/-
  Part.
-/
import Derived.Test.YtkpojhhfjddegaaGreatDoorLON
set_option maxRecDepth 20000
set_option maxHeartbeats 8000000
namespace Go.Proofs.YtkpojhhfjddegaaGreatDoor
open Go.RowKit Go.Proofs.Tryz
open Go.World renaming cell?->AX
open Go.Value renaming slice->FV
open Go.Obj renaming cells->FW
open Go renaming World->FX,Value->FZ,Calls->G5
open _root_.Option renaming none->G6,some->G7
variable{t:Tr}{n u:Nd}{z E:Int}{g:Nat}{x:GU}{e:Ending}{w' W:FX}
structure Rq where
 o:Int
 s:Int
 p:List UInt8
 d:List UInt8
 v:Int
 f:Int
def rqV(r:Rq):FZ:=.agg #[I0 r.o,I0 r.s,S0 r.p,S0 r.d,I0 r.v,I0 r.f]
def AL7(l:List UInt8)(n:Int):List UInt8:=if oO l n=0 then l++ten n.toNat else []
theorem AZ9(l:List UInt8)(n:Int):BZ8 l n=⟨(AL7 l n).toArray⟩:=by
 by_cases h:oO l n=0
 .rw[(AZ4 h).2.2.2,AL7,if_pos h]
 .rw[C47 h,AL7,if_neg h]
theorem BK0(l:List UInt8)(n:Int):(AL7 l n).length<=40:=by
 by_cases h:oO l n=0
 .obtain⟨_,_,hn,_⟩:=AZ4 h;rw[AL7,if_pos h];simp only[JC,Bool.and_eq_true,decide_eq_true_eq]at hn;exact hn.1.2
 .rw[AL7,if_neg h];simp
def AB6(t:Tr)(r:Rq):Int:=if J7 r.p=true then(if r.s∈t.ss then(match LW t.ns r.p with
 |none=>7
 |some n=>if r.v=-1\/r.v=n.v then 0 else 9)else 12)else 2
def CV5(t:Tr)(r:Rq):Int:=match LW t.ns r.p with
 |none=>0
 |some n=>n.v
def C48(t:Tr)(z:Int)(r:Rq):GU:=⟨z,r.o,r.s,r.p,if r.o=5 then r.d else [],if r.o=5 then CV5 t r+1 else 0,0⟩
theorem BK1{r:Rq}(h:J7 r.p=false):AB6 t r=2:=by rw[AB6,if_neg (by simp[h])]
theorem BK2{r:Rq}(h:J7 r.p=true)(hs:r.s∉t.ss):AB6 t r=12:=by rw[AB6,if_pos h,if_neg hs]
theorem BK3{r:Rq}(h:J7 r.p=true)(hs:r.s∈t.ss)(hn:LW t.ns r.p=G6):AB6 t r=7:=by rw[AB6,if_pos h,if_pos hs,hn]
theorem AB7{r:Rq}(h:J7 r.p=true)(hs:r.s∈t.ss)(hn:LW t.ns r.p=G7 n):AB6 t r=if r.v=-1\/r.v=n.v then 0 else 9:=by rw[AB6,if_pos h,if_pos hs,hn]
theorem BK4{r:Rq}(hn:LW t.ns r.p=G7 n):CV5 t r=n.v:=by rw[CV5,hn]
def cvN(t:Tr)(r:Rq):Int:=match LW t.ns (IQ r.p)with
 |none=>0
 |some u=>u.k
def AU8(t:Tr)(r:Rq):Int:=match LW t.ns (IQ r.p)with
 |none=>7
 |some u=>if oO (O8 r.p) u.k=0 then eY (IQ r.p) (AL7 (O8 r.p) u.k)else oO (O8 r.p) u.k
def CV6(t:Tr)(r:Rq):List UInt8:=nO (IQ r.p) (AL7 (O8 r.p) (cvN t r))
def AB8(t:Tr)(r:Rq):Int:=if 0<=r.f/\r.f<=3 then(if J7 r.p=true/\r.p≠[47]then(if r.s∈t.ss then(if 2<=r.f then AU8 t r else 0)else 12)else 2)else 3
def CV7(t:Tr)(z:Int)(r:Rq):GU:=⟨z,r.o,r.s,if 2<=r.f then CV6 t r else r.p,r.d,0,if r.f%2=1 then r.s else 0⟩
theorem BK5{r:Rq}(h:LW t.ns (IQ r.p)=G6):AU8 t r=7:=by rw[AU8,h]
theorem C49{r:Rq}(h:LW t.ns (IQ r.p)=G7 u)(h0:oO (O8 r.p) u.k≠0):AU8 t r=oO (O8 r.p) u.k:=by rw[AU8,h];simp only;rw[if_neg h0]
theorem BK6{r:Rq}(h:LW t.ns (IQ r.p)=G7 u)(h0:oO (O8 r.p) u.k=0):AU8 t r=eY (IQ r.p) (AL7 (O8 r.p) u.k):=by rw[AU8,h];simp only;rw[if_pos h0]
theorem C50{r:Rq}(h:LW t.ns (IQ r.p)=G7 u):cvN t r=u.k:=by rw[cvN,h]
theorem B00{r:Rq}(h:¬ (0<=r.f/\r.f<=3)):AB8 t r=3:=by rw[AB8,if_neg h]
theorem AB9{r:Rq}(h:0<=r.f/\r.f<=3)(hp:¬ (J7 r.p=true/\r.p≠[47])):AB8 t r=2:=by rw[AB8,if_pos h,if_neg hp]
theorem BK7{r:Rq}(h:0<=r.f/\r.f<=3)(hp:J7 r.p=true/\r.p≠[47])(hs:r.s∉t.ss):AB8 t r=12:=by rw[AB8,if_pos h,if_pos hp,if_neg hs]
theorem wF{r:Rq}(h:0<=r.f/\r.f<=3)(hp:J7 r.p=true/\r.p≠[47])(hs:r.s∈t.ss)(hf:r.f<2):AB8 t r=0:=by rw[AB8,if_pos h,if_pos hp,if_pos hs,if_neg (by omega)]
theorem rH{r:Rq}(h:0<=r.f/\r.f<=3)(hp:J7 r.p=true/\r.p≠[47])(hs:r.s∈t.ss)(hf:2<=r.f):AB8 t r=AU8 t r:=by rw[AB8,if_pos h,if_pos hp,if_pos hs,if_pos hf]
def nJ(t:Tr)(r:Rq):Int:=if r.o=1\/r.o=2 then 0 else if r.o=3 then AB8 t r else if r.o=4\/r.o=5 then AB6 t r else 4
def fA(t:Tr)(z:Int)(r:Rq):GU:=if r.o=3 then CV7 t z r else if r.o=4\/r.o=5 then C48 t z r else⟨z,r.o,r.s,[],[],0,0⟩
theorem B01{r:Rq}(h:r.o=1\/r.o=2):nJ t r=0/\fA t z r=⟨z,r.o,r.s,[],[],0,0⟩:=by
 refine⟨by rw[nJ,if_pos h],?_⟩;rw[fA,if_neg (by omega),if_neg (by omega)]
theorem C51{r:Rq}(h:r.o=3):nJ t r=AB8 t r/\fA t z r=CV7 t z r:=by
 refine⟨by rw[nJ,if_neg (by omega),if_pos h],by rw[fA,if_pos h]⟩
theorem C52{r:Rq}(h:r.o=4\/r.o=5):nJ t r=AB6 t r/\fA t z r=C48 t z r:=by
 refine⟨by rw[nJ,if_neg (by omega),if_neg (by omega),if_pos h],by rw[fA,if_neg (by omega),if_pos h]⟩
theorem BK8{r:Rq}(h:r.o<1\/5<r.o):nJ t r=4:=by
 rw[nJ,if_neg (by omega),if_neg (by omega),if_neg (by omega)]
noncomputable def fB(t:Tr)(z:Int)(r:Rq):Bool:=V7 t&&KP z&&decide (1<=r.s)&&decide (r.s<=2147483647)
noncomputable def iL(t:Tr)(z:Int)(r:Rq):Int:=if fB t z r=true then(if nJ t r=0 then Z7 t (fA t z r)else nJ t r)else 3
noncomputable def AU9(t:Tr)(z:Int)(r:Rq):GU:=if iL t z r=0 then fA t z r else t0
theorem oP{r:Rq}:fB t z r=true↔SN t/\KP z=true/\1<=r.s/\r.s<=2147483647:=by
 simp only[fB,Bool.and_eq_true,decide_eq_true_eq,TK,and_assoc]
theorem bI{r:Rq}(h:fB t z r=false):iL t z r=3:=by rw[iL,if_neg (by simp[h])]
theorem AC0{r:Rq}(h:fB t z r=true)(hf:nJ t r≠0):iL t z r=nJ t r:=by rw[iL,if_pos h,if_neg hf]
theorem A19{r:Rq}(h:fB t z r=true)(hf:nJ t r=0):iL t z r=Z7 t (fA t z r):=by rw[iL,if_pos h,if_pos hf]
theorem C53{r:Rq}(h:iL t z r≠0):AU9 t z r=t0:=by rw[AU9,if_neg h]
theorem A20{r:Rq}(h:iL t z r=0):AU9 t z r=fA t z r:=by rw[AU9,if_pos h]
theorem BK9{r:Rq}(h:iL t z r=0):fB t z r=true/\nJ t r=0/\Z7 t (fA t z r)=0:=by
 cases hh:fB t z r with
 |false=>rw[bI hh]at h;exact absurd h (by decide)
 |true=>
  by_cases hf:nJ t r=0
  .exact⟨rfl,hf,by rw[<-A19 hh hf];exact h⟩
  .rw[AC0 hh hf]at h;exact absurd h hf
theorem AL8(t:Tr)(z:Int)(r:Rq):(fA t z r).z=z/\(fA t z r).o=r.o/\(fA t z r).s=r.s/\((fA t z r).w=0\/(fA t z r).w=r.s):=by
 unfold fA
 split
 .refine⟨rfl,rfl,rfl,?_⟩;simp only[CV7]
  split
  .exact .inr rfl
  .exact .inl rfl
 .split
  .exact⟨rfl,rfl,rfl,.inl rfl⟩
  .exact⟨rfl,rfl,rfl,.inl rfl⟩
theorem CL0(t:Tr)(z:Int)(r:Rq):(fA t z r).d.length<=r.d.length:=by
 unfold fA
 split
 .exact Nat.le_refl _
 .split
  .simp only[C48]
   split
   .exact Nat.le_refl _
   .simp
  .simp
structure FitP(t:Tr)(z:Int)(r:Rq)(x:GU):Prop where
 app:Z7 t x=0
 az:(kC t x).z=z
 z:x.z=z
 o:x.o=r.o
 s:x.s=r.s
 gd:gdE x=0
 w:x.w=0\/x.w=r.s
theorem AL9{r:Rq}(h:iL t z r=0):FitP t z r (AU9 t z r):=by
 obtain⟨_,_,ha⟩:=BK9 h;rw[A20 h];obtain⟨e1,e2,e3,e4⟩:=AL8 t z r;exact⟨ha,(bG ha).2.1.trans e1,e1,e2,e3,(QT (rG ha).1).2.1,e4⟩
theorem SN.pwf(g:SN t):WfT t:=by
 refine⟨fun s hs=>by have:=g.ses.2 s hs;omega,fun n hn=>?_⟩;have k:=g.nod.ok n hn;exact⟨by have:=MR k.path;omega,by have:=k.data;omega⟩
def qL(t:Tr)(p:List UInt8):Nd:=(LW t.ns p).getD WU
def AH9(t:Tr)(p:List UInt8):Int:=if(LW t.ns p).isSome=true then 0 else 7
theorem jJ{p:List UInt8}(h:LW t.ns p=G7 n):qL t p=n/\AH9 t p=0:=by
 rw[qL,AH9,h];exact⟨rfl,rfl⟩
theorem jK{p:List UInt8}(h:LW t.ns p=G6):qL t p=WU/\AH9 t p=7:=by
 rw[qL,AH9,h];exact⟨rfl,rfl⟩
theorem jL(t:Tr)(vn vs:FZ)(p:List UInt8)(w:FX)(g:SN t)(hn:IK w vn t.ns):
  G5 prog 51 #[.agg #[I0 t.z,vn,vs],S0 p] w (R0 w (.tuple #[UO (qL t p),I0 (AH9 t p)])):=by
 have few:=g.nod.few;rcases ZB p t.ns g.nod.asc with⟨A,n,B,T⟩|⟨A,B,G⟩
 .have hm:n∈t.ns:=by rw[T.eq];simp
  have sl:=g.pwf.CN0 n hm;rw[(jJ T.look).1,(jJ T.look).2];exact AP5 t.z vn vs t.ns A B n p w hn (by omega) T sl.1 sl.2
 .rw[(jK G.look).1,(jK G.look).2];exact BP3 t.z vn vs t.ns A B p w hn (by omega) G
structure TR(W:FX)(q:Nat)(z:Int)(vn vs:FZ)(r:Rq):Prop where
 t:W.heap[q]?=G7 (FW #[I0 z,vn,vs] 52 (0,0))
 r:W.heap[q+1]?=G7 (FW #[I0 r.o,I0 r.s,S0 r.p,S0 r.d,I0 r.v,I0 r.f] 28 (0,0))
section
variable {W V:FX} {q:Nat} {z:Int} {vn vs:FZ} {r:Rq}
theorem TR.lt(h:TR W q z vn vs r):q+1<W.heap.size:=(Array.getElem?_eq_some_iff.1 h.r).1
theorem TR.next(h:TR W q z vn vs r)(hb:B0 W V):TR V q z vn vs r:=⟨(hb.block _ (by have:=h.lt;omega)).trans h.t,(hb.block _ h.lt).trans h.r⟩
theorem TR.other(h:TR W q z vn vs r){a:Addr}(v:FZ)(h1:a.block<q\/q+1<a.block):TR (W.setCell a v) q z vn vs r:=
 ⟨(Below.heap_setCell W a v q (by omega)).trans h.t,(Below.heap_setCell W a v (q+1) (by omega)).trans h.r⟩
theorem TR.nine(h:TR W q z vn vs r):W.cell? ⟨q,0,G6⟩=G7 (I0 z)/\W.cell? ⟨q,1,G6⟩=G7 vn/\W.cell? ⟨q,2,G6⟩=G7 vs/\W.cell? ⟨q+1,0,G6⟩=G7 (I0 r.o)/\W.cell? ⟨q+1,1,G6⟩=G7 (I0 r.s)/\W.cell? ⟨q+1,2,G6⟩=G7 (S0 r.p)/\W.cell? ⟨q+1,3,G6⟩=G7 (S0 r.d)/\W.cell? ⟨q+1,4,G6⟩=G7 (I0 r.v)/\W.cell? ⟨q+1,5,G6⟩=G7 (I0 r.f):=by
 have h1:=h.t;have h2:=h.r;refine⟨?_,?_,?_,?_,?_,?_,?_,?_,?_⟩<;>simp[AX,h1,h2]
end
theorem TR.new(w:FX)(z:Int)(vn vs:FZ)(r:Rq):TR ((w.alloc (FW #[I0 z,vn,vs] 52)).alloc (FW #[I0 r.o,I0 r.s,S0 r.p,S0 r.d,I0 r.v,I0 r.f] 28)) w.heap.size z vn vs r:=by
 refine⟨?_,?_⟩
 .rw[(GH _ _).block _ (by simp)];exact heap_alloc_new w _
 .have h:=heap_alloc_new (w.alloc (FW #[I0 z,vn,vs] 52)) (FW #[I0 r.o,I0 r.s,S0 r.p,S0 r.d,I0 r.v,I0 r.f] 28);rw[show (w.alloc (FW #[I0 z,vn,vs] 52)).heap.size=w.heap.size+1 by simp]at h;exact h
def gG(u:FX)(g:Nat)(E:Int)(x:GU)(e:Ending)(w':FX):Prop:=
 e=.returned (I0 E)/\B0 u w'/\(E=0->TAt w' g x)
theorem MP{u:FX}{E':Int}(hE:E=E')(h0:E'≠0)(he:e=.returned (I0 E'))(hb:B0 u w'):gG u g E x e w':=
 ⟨by rw[hE];exact he,hb,fun h=>absurd (hE.symm.trans h) h0⟩
theorem YJ{u:FX}(hE:E=0)(he:e=.returned (I0 0))(hb:B0 u w')(hx:TAt w' g x):gG u g E x e w':=
 ⟨by rw[hE];exact he,hb,fun _=>hx⟩
theorem AS8{a:Addr}{v x:FZ}{k j:Nat}(h:W.cell? ⟨k,j,G6⟩=G7 x)(hk:k≠a.block):(W.setCell a v).cell? ⟨k,j,G6⟩=G7 x:=by
 have e:=Below.heap_setCell W a v k hk;unfold AX at h⊢;simp only at h⊢;rw[e];exact h
theorem TAt.p(h:TAt W g x)(l:List UInt8):TAt (W.setCell ⟨g,3,G6⟩ (S0 l)) g {x with p:=l}:=by
 unfold TAt at*;rw[GV _ h];simp
theorem TAt.d(h:TAt W g x)(l:List UInt8):TAt (W.setCell ⟨g,4,G6⟩ (S0 l)) g {x with d:=l}:=by
 unfold TAt at*;rw[GV _ h];simp
theorem TAt.v(h:TAt W g x)(l:Int):TAt (W.setCell ⟨g,5,G6⟩ (I0 l)) g {x with v:=l}:=by
 unfold TAt at*;rw[GV _ h];simp
theorem TAt.w(h:TAt W g x)(l:Int):TAt (W.setCell ⟨g,6,G6⟩ (I0 l)) g {x with w:=l}:=by
 unfold TAt at*;rw[GV _ h];simp
theorem A82(t:Tr)(z:Int)(vn vs:FZ)(r:Rq)(g:Nat)(u w:FX)(gt:SN t)(hn:IK u vn t.ns)(hs:IK u vs t.ss)(hb:B0 u w)(hg:u.heap.size<=g)(hx:TAt w g ⟨z,r.o,r.s,[],[],0,0⟩)(ho:r.o=4\/r.o=5)(hp:r.p.length<=140737488355328)(hd:r.d.length<=140737488355328):
  G5 prog 164 #[P0 g,.agg #[I0 t.z,vn,vs],rqV r] w (gG u g (AB6 t r) (C48 t z r)):=by
 have CG:=G9 (fun W (hW:B0 u W)=>jL t vn vs r.p W gt (hn.next hW));have CO:=G9 (fun W (hW:B0 u W)=>bY t.z vn vs t.ss r.s W (hs.next hW) gt.ses);have CP:=G9 (fun W=>LZ ⟨r.p.toArray⟩ W);have CL:=G9 (fun W=>NY r.p W (by omega));have CD:=G9 (fun W=>NY r.d W (by omega));obtain⟨na,nc,rfl⟩:=GL hn;obtain⟨sa,sc,rfl⟩:=GL hs;unfold UO at CG;obtain⟨ro,rs,rp,rd,rv,rf⟩:=r;unfold rqV;simp only at*;have X0:=G9 hx;have B0:=G9 hb;have hgl:=hx.lt;have R0:=G9 (TR.new w t.z (FV na t.ns.length nc) (FV sa t.ss.length sc) ⟨ro,rs,rp,rd,rv,rf⟩);clear hn hs hb hx;go_enter func164,ntmps164;go_wp2_with fail;refine(G8 CG _ (GI (GI (G8 B0) (GH _ _)) (GH _ _))).mono ?_;rintro e w1 ⟨rfl,hb1⟩;have R1:=G9 ((G8 R0).next hb1);have B1:=G9 (GI (G8 B0) (GZ (GZ hb1)));have X1:=G9 ((G8 X0).next (GZ (GZ hb1)));clear hb1 R0 B0 X0 CG;obtain⟨N,hN⟩:∃N,qL t rp=N:=⟨_,rfl⟩;obtain⟨E,hE⟩:∃E,AH9 t rp=E:=⟨_,rfl⟩;rw[hN,hE];have HN:=G9 hN;have HE:=G9 hE;clear hN hE;obtain⟨np,nd,nc,nm,nq,nv,nk,no,nn⟩:=N;simp only;have R2:=G9 ((G8 R1).next (GH w1 (FW #[S0 np,S0 nd,I0 nc,I0 nm,I0 nq,I0 nv,I0 nk,I0 no,I0 nn] 104)));obtain⟨a0,a1,a2,a3,a4,a5,a6,a7,a8⟩:=(G8 R2).nine;simp only at a0 a1 a2 a3 a4 a5 a6 a7 a8;go_wp2_with fail;refine(G8 CP _).mono ?_;rintro e w2 ⟨rfl,hb2⟩;have R3:=G9 ((G8 R2).next hb2);have B3:=G9 (GI (G8 B1) (GZ hb2));have X3:=G9 ((G8 X1).next (GZ hb2));have D3:w2.cell? ⟨w1.heap.size,5,G6⟩=G7 (I0 nv):=by rw[hb2.cell (p:=⟨w1.heap.size,5,G6⟩) (by simp)];simp
 obtain⟨b0,b1,b2,b3,b4,b5,b6,b7,b8⟩:=(G8 R3).nine;simp only at b0 b1 b2 b3 b4 b5 b6 b7 b8;have hg1:=(G8 X1).lt;clear a0 a1 a2 a3 a4 a5 a6 a7 a8 hb2 R1 R2 B1 X1 CP
 cases hgd:J7 rp with
 |false=>
  have HG:=G9 hgd;clear hgd;go_wp2_with fail;go_ret;exact MP (BK1 (G8 HG)) (by decide) rfl (G8 B3)
 |true=>
  have HG:=G9 hgd;clear hgd;go_wp2_with fail;refine(G8 CO _ (G8 B3)).mono ?_;rintro e w3 ⟨rfl,hb3⟩;have R4:=G9 ((G8 R3).next hb3);have B4:=G9 (GI (G8 B3) hb3);have X4:=G9 ((G8 X3).next hb3);have D4:w3.cell? ⟨w1.heap.size,5,G6⟩=G7 (I0 nv):=by rw[hb3.cell (p:=⟨w1.heap.size,5,G6⟩) (World.block_lt_of_cell? _ _ D3)];exact D3
  obtain⟨d0,d1,d2,d3,d4,d5,d6,d7,d8⟩:=(G8 R4).nine;simp only at d0 d1 d2 d3 d4 d5 d6 d7 d8;clear b0 b1 b2 b3 b4 b5 b6 b7 b8 hb3 R3 B3 X3 CO D3;by_cases hm:rs∈t.ss
  .rw[show decide (rs∈t.ss)=true from decide_eq_true hm];have HM:=G9 hm;clear hm
   cases hl:LW t.ns rp with
   |none=>
    have HL:=G9 hl;obtain⟨_,h7⟩:=jK hl;rw[G8 HE]at h7;subst h7;clear hl;go_wp2_with fail;go_ret;exact MP (BK3 (G8 HG) (G8 HM) (G8 HL)) (by decide) rfl (G8 B4)
   |some n=>
    have HL:=G9 hl;obtain⟨hnn,h0⟩:=jJ hl;rw[G8 HE]at h0;subst h0;rw[G8 HN]at hnn;have hnv:n.v=nv:=by rw[<-hnn]
    have hko:=gt.nod.ok n (YO hl).1;have hv0:0<=nv:=by have:=hko.v0;omega
    have hv1:nv<=2147483647:=by have:=hko.v1;omega
    have HV:=G9 hnv;clear hl hnn hnv hko;by_cases hv:rv=-1\/rv=nv
    .have HF:Hid (AB6 t ⟨ro,rs,rp,rd,rv,rf⟩=0):=G9 ((AB7 (G8 HG) (G8 HM) (G8 HL)).trans (if_pos (by rw[G8 HV];exact hv)));have HY:Hid (CV5 t ⟨ro,rs,rp,rd,rv,rf⟩=nv):=G9 ((BK4 (G8 HL)).trans (G8 HV));have hgw:=(G8 X4).lt;have hc:(rv !=-1)=false\/((rv !=-1)=true/\(rv !=nv)=false):=by
      rcases hv with h|h
      .exact .inl (by simp[h])
      .by_cases h1:rv=-1
       .exact .inl (by simp[h1])
       .exact .inr ⟨by simp[h1],by simp[h]⟩
     clear HN HE HG HM HL HV hv;rcases hc with hc1|⟨hc1,hc2⟩
     all_goals
      rcases ho with rfl|rfl
      .have HX:Hid (C48 t z ⟨4,rs,rp,rd,rv,rf⟩=⟨z,4,rs,rp,[],0,0⟩):=G9 rfl;go_wp2_with fail;refine(G8 CL _).mono ?_;rintro e w4 ⟨rfl,hb4⟩;have R5:=G9 ((G8 R4).next hb4);have B5:=G9 (GI (G8 B4) hb4);have X5:=G9 ((G8 X4).next hb4);have D5:w4.cell? ⟨w1.heap.size,5,G6⟩=G7 (I0 nv):=by rw[hb4.cell (p:=⟨w1.heap.size,5,G6⟩) (World.block_lt_of_cell? _ _ D4)];exact D4
       have k3:=(G8 X5).c3;have f3:=(G8 X5).f 3;have hgw5:=(G8 X5).lt;obtain⟨e0,e1,e2,e3,e4,e5,e6,e7,e8⟩:=(G8 R5).nine;simp only at e0 e1 e2 e3 e4 e5 e6 e7 e8;have hne:w.heap.size+1≠g:=by omega
       clear d0 d1 d2 d3 d4 d5 d6 d7 d8 hb4 R4 B4 X4 D4 CL;go_wp2_with fail;go_ret;exact YJ (G8 HF) rfl ((G8 B5).setCell hg _) (by rw[G8 HX];exact(G8 X5).p rp)
      .have HX:Hid (C48 t z ⟨5,rs,rp,rd,rv,rf⟩=⟨z,5,rs,rp,rd,nv+1,0⟩):=G9 (by rw[C48,G8 HY];rfl);go_wp2_with fail;refine(G8 CL _).mono ?_;rintro e w4 ⟨rfl,hb4⟩;have R5:=G9 ((G8 R4).next hb4);have B5:=G9 (GI (G8 B4) hb4);have X5:=G9 ((G8 X4).next hb4);have D5:w4.cell? ⟨w1.heap.size,5,G6⟩=G7 (I0 nv):=by rw[hb4.cell (p:=⟨w1.heap.size,5,G6⟩) (World.block_lt_of_cell? _ _ D4)];exact D4
       have k3:=(G8 X5).c3;have f3:=(G8 X5).f 3;have hgw5:=(G8 X5).lt;obtain⟨e0,e1,e2,e3,e4,e5,e6,e7,e8⟩:=(G8 R5).nine;simp only at e0 e1 e2 e3 e4 e5 e6 e7 e8;have hne:w.heap.size+1≠g:=by omega
       clear d0 d1 d2 d3 d4 d5 d6 d7 d8 hb4 R4 B4 X4 D4 CL;go_wp2_with fail;refine(G8 CD _).mono ?_;rintro e w6 ⟨rfl,hb6⟩;have hgw6:g<(w4.setCell ⟨g,3,G6⟩ (S0 rp)).heap.size:=by simp;omega
       have B6:Hid (B0 u w6):=G9 (GI ((G8 B5).setCell (by exact hg) _) hb6);have X6:=G9 (((G8 X5).p rp).next hb6);have D6:w6.cell? ⟨w1.heap.size,5,G6⟩=G7 (I0 nv):=by
        have D7:=AS8 (a:=⟨g,3,G6⟩) (v:=S0 rp) D5 (by simp only;omega);rw[hb6.cell (p:=⟨w1.heap.size,5,G6⟩) (World.block_lt_of_cell? _ _ D7)];exact D7
       have k4:=(G8 X6).c4;have f4:=(G8 X6).f 4;have k5:=(G8 X6).c5;have f5:=(G8 X6).f 5;clear hb6 R5 B5 X5 D5 k3 f3 CD;go_wp2_with fail;go_ret;exact YJ (G8 HF) rfl (((G8 B6).setCell hg _).setCell hg _) (by rw[G8 HX];exact((G8 X6).d rd).v (nv+1))
    .have HF:Hid (AB6 t ⟨ro,rs,rp,rd,rv,rf⟩=9):=G9 ((AB7 (G8 HG) (G8 HM) (G8 HL)).trans (if_neg (by rw[G8 HV];exact hv)));have hb1:(rv !=-1)=true:=by simp;omega
     have hb2:(rv !=nv)=true:=by simp;omega
     clear HN HE HG HM HL HV hv;go_wp2_with fail;go_ret;exact MP (G8 HF) (by decide) rfl (G8 B4)
  .rw[show decide (rs∈t.ss)=false from decide_eq_false hm];have HM:=G9 hm;clear hm;go_wp2_with fail;go_ret;exact MP (BK2 (G8 HG) (G8 HM)) (by decide) rfl (G8 B4)
theorem A83(t:Tr)(vn vs:FZ)(r:Rq)(x:GU)(g:Nat)(u w:FX)(gt:SN t)(hn:IK u vn t.ns)(hb:B0 u w)(hg:u.heap.size<=g)(hx:TAt w g x)(hxp:x.p=r.p)(htab:Lib.TabIs prog u "internal/strconv.uint64pow10" .u64 Lib.pow10Tab):
  G5 prog 192 #[P0 g,.agg #[I0 t.z,vn,vs]] w (gG u g (AU8 t r) {x with p:=CV6 t r}):=by
 have CS:=G9 (fun W=>NM r.p W);have CG:=G9 (fun W (hW:B0 u W)=>jL t vn vs (IQ r.p) W gt (hn.next hW));have hdl:=XK r.p;have hsl:(O8 r.p).length<=200:=by
  rw[O8]
  split
  .rename_i h
   obtain⟨a,b,e,hb⟩:=aX h.1;rw[e,UE b hb a];have:=MR h.1;rw[e]at this;simp at this⊢;omega
  .simp
 have CN:=G9 (fun(n:Int) W (hW:B0 u W)=>AL2 ⟨(O8 r.p).toArray⟩ n W (by show (O8 r.p).length<=_;omega) (AB4 htab hW));have CJ:=G9 (fun(m:List UInt8) (hm:m.length<=140737488355328) W=>BJ7 (IQ r.p) m W hm);obtain⟨na,nc,rfl⟩:=GL hn;unfold UO at CG;rw[<-hxp]at CS;have k3:=hx.c3;rw[hxp]at k3 CS;have X0:=G9 hx;have B0:=G9 hb;have hgl:=hx.lt;have K0:∀W,Below (w.alloc (FW #[I0 t.z,FV na t.ns.length nc,vs] 52)).heap.size (w.alloc (FW #[I0 t.z,FV na t.ns.length nc,vs] 52)) W->W.heap[w.heap.size]?=G7 (FW #[I0 t.z,FV na t.ns.length nc,vs] 52 (0,0)):=fun W hW=>(hW.block _ (by simp)).trans (heap_alloc_new w _);have HK:=G9 K0;have HXP:=G9 hxp;clear hn hb hx K0 hxp;go_enter func192,ntmps192;go_wp2_with fail;refine(G8 CS _).mono ?_;rintro e w1 ⟨rfl,hb1⟩;have T1:=G8 HK w1 hb1;have B1:=G9 (GI (G8 B0) (GZ hb1));have X1:=G9 ((G8 X0).next (GZ hb1));have c0:w1.cell? ⟨w.heap.size,0,G6⟩=G7 (I0 t.z):=by simp[AX,T1]
 have c1:w1.cell? ⟨w.heap.size,1,G6⟩=G7 (FV na t.ns.length nc):=by simp[AX,T1]
 have c2:w1.cell? ⟨w.heap.size,2,G6⟩=G7 vs:=by simp[AX,T1]
 clear hb1 T1 B0 X0 CS HK k3;obtain⟨D,hD⟩:∃D,IQ r.p=D:=⟨_,rfl⟩;obtain⟨S,hS⟩:∃S,O8 r.p=S:=⟨_,rfl⟩;rw[hD]at CG hdl CJ⊢;rw[hS]at CN hsl⊢;have HD:=G9 hD;have HS:=G9 hS;clear hD hS;go_wp2_with fail;refine(G8 CG _ (G8 B1)).mono ?_;rintro e w2 ⟨rfl,hb2⟩;have B2:=G9 (GI (G8 B1) hb2);have X2:=G9 ((G8 X1).next hb2);clear hb2 B1 X1 c0 c1 c2 CG
 cases hl:LW t.ns D with
 |none=>
  obtain⟨h1,h2⟩:=jK hl;have HL:=G9 hl;rw[h1,h2];clear hl h1 h2;unfold WU;simp only;go_wp2_with fail;go_ret;exact MP (BK5 (by rw[G8 HD];exact G8 HL)) (by decide) rfl (GI (G8 B2) (GH _ _))
 |some n=>
  obtain⟨h1,h2⟩:=jJ hl;have HL:=G9 hl;rw[h1,h2];clear hl h1 h2;obtain⟨np,nd,nc',nm,nq,nv,nk,no,nn⟩:=n;simp only;have B3:=G9 (GI (G8 B2) (GH w2 (FW #[S0 np,S0 nd,I0 nc',I0 nm,I0 nq,I0 nv,I0 nk,I0 no,I0 nn] 104)));go_wp2_with fail;refine(G8 CN nk _ (G8 B3)).mono ?_;rintro e w3 ⟨rfl,hb3⟩;rw[AZ9];have B4:=G9 (GI (G8 B3) hb3);have X4:=G9 ((G8 X2).next (GZ hb3));have hml:=BK0 S nk;have CJ1:=G9 (G8 CJ (AL7 S nk) (by omega));have NS:Hid (oO S nk≠0->AU8 t r=oO S nk):=G9 (fun h=>by
   have h':=C49 (t:=t) (r:=r) (u:=⟨np,nd,nc',nm,nq,nv,nk,no,nn⟩) (by rw[G8 HD];exact G8 HL) (by rw[G8 HS];exact h);rw[G8 HS]at h';exact h')
  have NJ:Hid (oO S nk=0->AU8 t r=eY D (AL7 S nk)):=G9 (fun h=>by
   have h':=BK6 (t:=t) (r:=r) (u:=⟨np,nd,nc',nm,nq,nv,nk,no,nn⟩) (by rw[G8 HD];exact G8 HL) (by rw[G8 HS];exact h);rw[G8 HS,G8 HD]at h';exact h')
  have NP:Hid (CV6 t r=nO D (AL7 S nk)):=G9 (by
   rw[CV6,G8 HD,G8 HS,C50 (u:=⟨np,nd,nc',nm,nq,nv,nk,no,nn⟩) (by rw[G8 HD];exact G8 HL)])
  clear hb3 B3 X2 B2 CN CJ HL HD HS;generalize AL7 S nk=M at*;generalize oO S nk=F at*;by_cases hF:F=0
  .subst hF;have HN:=G9 (G8 NJ rfl);clear NS NJ;go_wp2_with fail;refine(G8 CJ1 _).mono ?_;rintro e w4 ⟨rfl,hb4⟩;have B5:=G9 (GI (G8 B4) hb4);have X5:=G9 ((G8 X4).next hb4);have k3:=(G8 X5).c3;have f3:=(G8 X5).f 3;clear hb4 B4 X4 CJ1;generalize nO D M=J at*;generalize eY D M=G at*;go_wp2_with fail;go_ret;refine⟨?_,(G8 B5).setCell hg _,fun _=>?_⟩
   .rw[G8 HN];rfl
   .rw[G8 NP];exact(G8 X5).p J
  .have hFb:(F !=0)=true:=by simpa using hF
   have HN:=G9 (G8 NS hF);have HF:=G9 hF;clear NS NJ hF;go_wp2_with fail;go_ret;exact MP (G8 HN) (G8 HF) rfl (G8 B4)
theorem A84(t:Tr)(z:Int)(vn vs:FZ)(r:Rq)(g:Nat)(u w:FX)(gt:SN t)(hn:IK u vn t.ns)(hs:IK u vs t.ss)(hb:B0 u w)(hg:u.heap.size<=g)(hx:TAt w g ⟨z,r.o,r.s,[],[],0,0⟩)(hp:r.p.length<=140737488355328)(hd:r.d.length<=140737488355328)(htab:Lib.TabIs prog u "internal/strconv.uint64pow10" .u64 Lib.pow10Tab):
  G5 prog 163 #[P0 g,.agg #[I0 t.z,vn,vs],rqV r] w (gG u g (AB8 t r) (CV7 t z r)):=by
 have CO:=G9 (fun W (hW:B0 u W)=>bY t.z vn vs t.ss r.s W (hs.next hW) gt.ses);have CP:=G9 (fun W=>LZ ⟨r.p.toArray⟩ W);have CL:=G9 (fun W=>NY r.p W (by omega));have CD:=G9 (fun W=>NY r.d W (by omega));have CN:=G9 (fun(x:GU) (hxp:x.p=r.p) W (hW:B0 u W) (hx:TAt W g x)=>A83 t vn vs r x g u W gt hn hW hg hx hxp htab);obtain⟨na,nc,rfl⟩:=GL hn;obtain⟨sa,sc,rfl⟩:=GL hs;obtain⟨ro,rs,rp,rd,rv,rf⟩:=r;unfold rqV;simp only at*;have X0:=G9 hx;have B0:=G9 hb;have hgl:=hx.lt;have R0:=G9 (TR.new w t.z (FV na t.ns.length nc) (FV sa t.ss.length sc) ⟨ro,rs,rp,rd,rv,rf⟩);clear hn hs hb hx;by_cases hf:0<=rf/\rf<=3
 .have hf1:=hf.1;have hf2:=hf.2;have HF:=G9 hf;have hfb1:(decide (rf<0))=false:=by simp;omega
  have hfb2:(decide (3<rf))=false:=by simp;omega
  clear hf;obtain⟨a0,a1,a2,a3,a4,a5,a6,a7,a8⟩:=(G8 R0).nine;simp only at a0 a1 a2 a3 a4 a5 a6 a7 a8;go_enter func163,ntmps163;go_wp2_with fail;refine(G8 CP _).mono ?_;rintro e w1 ⟨rfl,hb1⟩;have R1:=G9 ((G8 R0).next hb1);have B1:=G9 (GI (G8 B0) (GZ (GZ hb1)));have X1:=G9 ((G8 X0).next (GZ (GZ hb1)));obtain⟨b0,b1,b2,b3,b4,b5,b6,b7,b8⟩:=(G8 R1).nine;simp only at b0 b1 b2 b3 b4 b5 b6 b7 b8;clear a0 a1 a2 a3 a4 a5 a6 a7 a8 hb1 R0 B0 X0 CP
  cases hgd:J7 rp with
  |false=>
   have HG:=G9 hgd;clear hgd;go_wp2_with fail;go_ret;exact MP (AB9 (G8 HF) (fun h=>by have h1:=h.1;rw[G8 HG]at h1;exact absurd h1 (by decide))) (by decide) rfl (G8 B1)
  |true=>
   have HG:=G9 hgd;clear hgd;by_cases hr:rp=[47]
   .have HR:=G9 hr;subst hr;go_wp2_with fail;go_ret;exact MP (AB9 (G8 HF) (fun h=>h.2 rfl)) (by decide) rfl (G8 B1)
   .have HR:=G9 hr;have hrb:(rp==[47])=false:=by simpa using hr
    clear hr;go_wp2_with fail;refine(G8 CO _ (G8 B1)).mono ?_;rintro e w2 ⟨rfl,hb2⟩;have R2:=G9 ((G8 R1).next hb2);have B2:=G9 (GI (G8 B1) hb2);have X2:=G9 ((G8 X1).next hb2);obtain⟨d0,d1,d2,d3,d4,d5,d6,d7,d8⟩:=(G8 R2).nine;simp only at d0 d1 d2 d3 d4 d5 d6 d7 d8;clear b0 b1 b2 b3 b4 b5 b6 b7 b8 hb2 R1 B1 X1 CO hrb;by_cases hm:rs∈t.ss
    .rw[show decide (rs∈t.ss)=true from decide_eq_true hm];have HM:=G9 hm;clear hm;go_wp2_with fail;refine(G8 CL _).mono ?_;rintro e w3 ⟨rfl,hb3⟩;have R3:=G9 ((G8 R2).next hb3);have B3:=G9 (GI (G8 B2) hb3);have X3:=G9 ((G8 X2).next hb3);obtain⟨e0,e1,e2,e3,e4,e5,e6,e7,e8⟩:=(G8 R3).nine;simp only at e0 e1 e2 e3 e4 e5 e6 e7 e8;have k3:=(G8 X3).c3;have f3:=(G8 X3).f 3;have hne:w.heap.size+1≠g:=by omega
     have hne0:w.heap.size≠g:=by omega
     clear d0 d1 d2 d3 d4 d5 d6 d7 d8 hb3 R2 B2 X2 CL;go_wp2_with fail;refine(G8 CD _).mono ?_;rintro e w4 ⟨rfl,hb4⟩;have R4:=G9 (((G8 R3).other (a:=⟨g,3,G6⟩) (S0 rp) (.inl hgl)).next hb4);have B4:Hid (B0 u w4):=G9 (GI ((G8 B3).setCell (by exact hg) _) hb4);have X4:=G9 (((G8 X3).p rp).next hb4);obtain⟨i0,i1,i2,i3,i4,i5,i6,i7,i8⟩:=(G8 R4).nine;simp only at i0 i1 i2 i3 i4 i5 i6 i7 i8;have k4:=(G8 X4).c4;have f4:=(G8 X4).f 4;have k6:=(G8 X4).c6;have f6:=(G8 X4).f 6;clear e0 e1 e2 e3 e4 e5 e6 e7 e8 hb4 R3 B3 X3 CD k3 f3;have R5:=G9 ((G8 R4).other (a:=⟨g,4,G6⟩) (S0 rd) (.inl hgl));have B5:Hid (B0 u (w4.setCell ⟨g,4,G6⟩ (S0 rd))):=G9 ((G8 B4).setCell (by exact hg) _);have X5:=G9 ((G8 X4).d rd);have HP:Hid (J7 rp=true/\rp≠[47]):=G9 ⟨G8 HG,G8 HR⟩;have hfs:rf=0\/rf=1\/rf=2\/rf=3:=by omega
     clear HG HR;simp only at X5;rcases hfs with rfl|rfl|rfl|rfl
     .go_wp2_with fail;go_ret;exact YJ (wF (G8 HF) (G8 HP) (G8 HM) (by simp)) rfl (G8 B5) (G8 X5)
     .go_wp2_with fail;go_ret;exact YJ (wF (G8 HF) (G8 HP) (G8 HM) (by simp)) rfl ((G8 B5).setCell hg _) ((G8 X5).w rs)
     .go_wp2_with fail;refine(G8 CN _ rfl _ (G8 B5) (G8 X5)).mono ?_;rintro e w6 ⟨rfl,hb6,hx6⟩;have HB:=G9 hb6;have HX:=G9 hx6;clear hb6 hx6;go_wp2_with fail;go_ret;refine⟨?_,G8 HB,fun h=>?_⟩
      .rw[rH (G8 HF) (G8 HP) (G8 HM) (by simp)];rfl
      .rw[rH (G8 HF) (G8 HP) (G8 HM) (by simp)]at h;exact G8 HX h
     .go_wp2_with fail;refine(G8 CN _ rfl _ ((G8 B5).setCell hg _) ((G8 X5).w rs)).mono ?_;rintro e w6 ⟨rfl,hb6,hx6⟩;have HB:=G9 hb6;have HX:=G9 hx6;clear hb6 hx6;go_wp2_with fail;go_ret;refine⟨?_,G8 HB,fun h=>?_⟩
      .rw[rH (G8 HF) (G8 HP) (G8 HM) (by simp)];rfl
      .rw[rH (G8 HF) (G8 HP) (G8 HM) (by simp)]at h;exact G8 HX h
    .rw[show decide (rs∈t.ss)=false from decide_eq_false hm];have HM:=G9 hm;clear hm;go_wp2_with fail;go_ret;exact MP (BK7 (G8 HF) ⟨G8 HG,G8 HR⟩ (G8 HM)) (by decide) rfl (G8 B2)
 .have HF:=G9 hf;have hc:decide (rf<0)=true\/(decide (rf<0)=false/\decide (3<rf)=true):=by
   by_cases h:rf<0
   .exact .inl (by simp[h])
   .exact .inr ⟨by simp;omega,by simp;omega⟩
  clear hf;rcases hc with h|⟨h,h'⟩
  all_goals
   simp only[decide_eq_true_eq,decide_eq_false_iff_not]at h
   (try simp only[decide_eq_true_eq]at h')
   go_enter func163,ntmps163;go_wp2_with fail;go_ret;exact MP (B00 (G8 HF)) (by decide) rfl (GI (GI (G8 B0) (GH _ _)) (GH _ _))
theorem BD1(t:Tr)(z:Int)(vn vs:FZ)(r:Rq)(g:Nat)(u w:FX)(gt:SN t)(hn:IK u vn t.ns)(hs:IK u vs t.ss)(hb:B0 u w)(hg:u.heap.size<=g)(hx:TAt w g ⟨z,r.o,r.s,[],[],0,0⟩)(hp:r.p.length<=140737488355328)(hd:r.d.length<=140737488355328)(htab:Lib.TabIs prog u "internal/strconv.uint64pow10" .u64 Lib.pow10Tab):
  G5 prog 109 #[P0 g,.agg #[I0 t.z,vn,vs],rqV r] w (gG u g (nJ t r) (fA t z r)):=by
 have CA:=G9 (fun(ho:r.o=4\/r.o=5) W (hW:B0 u W) hx=>A82 t z vn vs r g u W gt hn hs hW hg hx ho hp hd);have CC:=G9 (fun W (hW:B0 u W) hx=>A84 t z vn vs r g u W gt hn hs hW hg hx hp hd htab);obtain⟨na,nc,rfl⟩:=GL hn;obtain⟨sa,sc,rfl⟩:=GL hs;obtain⟨ro,rs,rp,rd,rv,rf⟩:=r;unfold rqV at*;simp only at*;have X0:=G9 hx;have B0:=G9 hb;have X1:=G9 (hx.next (GI (GH w (FW #[I0 t.z,FV na t.ns.length nc,FV sa t.ss.length sc] 52)) (GH _ (FW #[I0 ro,I0 rs,S0 rp,S0 rd,I0 rv,I0 rf] 28))));have B1:=G9 (GI hb (GI (GH w (FW #[I0 t.z,FV na t.ns.length nc,FV sa t.ss.length sc] 52)) (GH _ (FW #[I0 ro,I0 rs,S0 rp,S0 rd,I0 rv,I0 rf] 28))));clear hn hs hb hx htab;by_cases h1:ro=1\/ro=2
 .have HE:=G9 (B01 (t:=t) (z:=z) (r:=⟨ro,rs,rp,rd,rv,rf⟩) h1);clear CA CC;rcases h1 with rfl|rfl
  all_goals
   go_enter func109,ntmps109;go_wp2_with fail;go_ret;exact YJ (G8 HE).1 rfl (G8 B1) (by rw[(G8 HE).2];exact G8 X1)
 .by_cases h3:ro=3
  .have HE:=G9 (C51 (t:=t) (z:=z) (r:=⟨ro,rs,rp,rd,rv,rf⟩) h3);subst h3;clear CA h1;go_enter func109,ntmps109;go_wp2_with fail;refine(G8 CC _ (G8 B1) (G8 X1)).mono ?_;rintro e w6 ⟨rfl,hb6,hx6⟩;have HB:=G9 hb6;have HX:=G9 hx6;clear hb6 hx6;go_wp2_with fail;go_ret;refine⟨?_,G8 HB,fun h=>?_⟩
   .rw[(G8 HE).1];rfl
   .rw[(G8 HE).1]at h;rw[(G8 HE).2];exact G8 HX h
  .by_cases h4:ro=4\/ro=5
   .have HE:=G9 (C52 (t:=t) (z:=z) (r:=⟨ro,rs,rp,rd,rv,rf⟩) h4);have CB:=G9 (G8 CA h4);clear CA CC h1 h3;rcases h4 with rfl|rfl
    all_goals
     go_enter func109,ntmps109;go_wp2_with fail;refine(G8 CB _ (G8 B1) (G8 X1)).mono ?_;rintro e w6 ⟨rfl,hb6,hx6⟩;have HB:=G9 hb6;have HX:=G9 hx6;clear hb6 hx6;go_wp2_with fail;go_ret;refine⟨?_,G8 HB,fun h=>?_⟩
     .rw[(G8 HE).1];rfl
     .rw[(G8 HE).1]at h;rw[(G8 HE).2];exact G8 HX h
   .have HE:=G9 (BK8 (t:=t) (r:=⟨ro,rs,rp,rd,rv,rf⟩) (by simp only;omega));have e1:(ro==1)=false:=by simp;omega
    have e2:(ro==2)=false:=by simp;omega
    have e3:(ro==3)=false:=by simp;omega
    have e4:(ro==4)=false:=by simp;omega
    have e5:(ro==5)=false:=by simp;omega
    clear CA CC h1 h3 h4;go_enter func109,ntmps109;go_wp2_with fail;go_ret;exact MP (G8 HE) (by decide) rfl (G8 B1)
def AI0(w:FX)(t:Tr)(z:Int)(r:Rq)(e:Ending)(w':FX):Prop:=
 e=.returned (.tuple #[JA (AU9 t z r),I0 (iL t z r)])/\B0 w w'
theorem VN{w:FX}{r:Rq}(hE:iL t z r=E)(h0:E≠0)(he:e=.returned (.tuple #[JA t0,I0 E]))(hb:B0 w w'):AI0 w t z r e w':=by
 refine⟨?_,hb⟩;rw[C53 (by rw[hE];exact h0),hE];exact he
theorem BD2{w:FX}{r:Rq}(hE:iL t z r=0)(hX:AU9 t z r=x)(he:e=.returned (.tuple #[JA x,I0 0]))(hb:B0 w w'):AI0 w t z r e w':=by
 refine⟨?_,hb⟩;rw[hE,hX];exact he
structure PB(w W:FX)(z:Int)(vn vs:FZ)(r:Rq):Prop where
 t:TR W w.heap.size z vn vs r
 a:TAt W (w.heap.size+2) t0
 b:B0 w W
section
variable {w W V:FX} {z:Int} {vn vs:FZ} {r:Rq}
theorem PB.next(h:PB w W z vn vs r)(hb:B0 W V):PB w V z vn vs r:=⟨h.t.next hb,h.a.next hb,GI h.b hb⟩
theorem PB.new(w:FX)(z:Int)(vn vs:FZ)(r:Rq):PB w (((w.alloc (FW #[I0 z,vn,vs] 52)).alloc (FW #[I0 r.o,I0 r.s,S0 r.p,S0 r.d,I0 r.v,I0 r.f] 28)).alloc (FW #[I0 0,I0 0,I0 0,.string ⟨#[]⟩,.string ⟨#[]⟩,I0 0,I0 0] 83)) z vn vs r:=by
 refine⟨(TR.new w z vn vs r).next (GH _ _),?_,GI (GI (GH _ _) (GH _ _)) (GH _ _)⟩;have h:=TAt.new ((w.alloc (FW #[I0 z,vn,vs] 52)).alloc (FW #[I0 r.o,I0 r.s,S0 r.p,S0 r.d,I0 r.v,I0 r.f] 28)) t0;rw[show ((w.alloc (FW #[I0 z,vn,vs] 52)).alloc (FW #[I0 r.o,I0 r.s,S0 r.p,S0 r.d,I0 r.v,I0 r.f] 28)).heap.size=w.heap.size+2 by simp]at h;exact h
theorem PB.cells(h:PB w W z vn vs r):(W.cell? ⟨w.heap.size+2,0,G6⟩=G7 (I0 0)/\W.cell? ⟨w.heap.size+2,1,G6⟩=G7 (I0 0)/\W.cell? ⟨w.heap.size+2,2,G6⟩=G7 (I0 0)/\W.cell? ⟨w.heap.size+2,3,G6⟩=G7 (.string ⟨#[]⟩)/\W.cell? ⟨w.heap.size+2,4,G6⟩=G7 (.string ⟨#[]⟩)/\W.cell? ⟨w.heap.size+2,5,G6⟩=G7 (I0 0)/\W.cell? ⟨w.heap.size+2,6,G6⟩=G7 (I0 0)):=⟨h.a.c0,h.a.c1,h.a.c2,h.a.c3,h.a.c4,h.a.c5,h.a.c6⟩
end
def put7(W:FX)(g:Nat)(t:GU):FX:=
 ((((((W.setCell ⟨g,0,G6⟩ (I0 t.z)).setCell ⟨g,1,G6⟩ (I0 t.o)).setCell ⟨g,2,G6⟩ (I0 t.s)).setCell ⟨g,3,G6⟩ (S0 t.p)).setCell ⟨g,4,G6⟩ (S0 t.d)).setCell ⟨g,5,G6⟩ (I0 t.v)).setCell ⟨g,6,G6⟩ (I0 t.w)
theorem PI{w:FX}(t:GU)(hb:B0 w W)(hg:w.heap.size<=g):B0 w (put7 W g t):=
 ((((((hb.setCell hg _).setCell hg _).setCell hg _).setCell hg _).setCell hg _).setCell hg _).setCell hg _
theorem A85(t:Tr)(z:Int)(vn vs:FZ)(r:Rq)(w:FX)(hn:IK w vn t.ns)(hs:IK w vs t.ss)(hw:WfT t)(hp:r.p.length<=140737488355328)(hd:r.d.length<=140737488355328)(htab:Lib.TabIs prog w "internal/strconv.uint64pow10" .u64 Lib.pow10Tab):
  G5 prog 67 #[.agg #[I0 t.z,vn,vs],I0 z,rqV r] w (AI0 w t z r):=by
 have CG:=G9 (fun W (hW:B0 w W)=>cO t vn vs W (hn.next hW) (hs.next hW) hw);have CZ:=G9 (fun W=>JJ z W);have CF:=G9 (fun(gt:SN t) g u (hu:B0 w u) W hW hg hx=>BD1 t z vn vs r g u W gt (hn.next hu) (hs.next hu) hW hg hx hp hd (AB4 htab hu));have CA:=G9 (fun W (hW:B0 w W)=>xQ t vn vs (fA t z r) W (hn.next hW) (hs.next hW) hw (by have:=CL0 t z r;omega));obtain⟨na,nc,rfl⟩:=GL hn;obtain⟨sa,sc,rfl⟩:=GL hs;obtain⟨ro,rs,rp,rd,rv,rf⟩:=r;unfold rqV at*;simp only at*;have P0:=G9 (PB.new w t.z (FV na t.ns.length nc) (FV sa t.ss.length sc) ⟨ro,rs,rp,rd,rv,rf⟩);simp only at P0;clear hn hs htab;go_enter func67,ntmps67;go_wp2_with fail;refine(G8 CG _ (G8 P0).b).mono ?_;rintro e w1 ⟨rfl,hb1⟩;have P1:=G9 ((G8 P0).next hb1);obtain⟨b0,b1,b2,b3,b4,b5,b6,b7,b8⟩:=(G8 P1).t.nine;obtain⟨c0,c1,c2,c3,c4,c5,c6⟩:=(G8 P1).cells;have f:=(G8 P1).a.f;have f0:=f 0;have f1:=f 1;have f2:=f 2;have f3:=f 3;have f4:=f 4;have f5:=f 5;have f6:=f 6;simp only at b0 b1 b2 b3 b4 b5 b6 b7 b8;clear hb1 P0 CG f
 cases hgd:V7 t with
 |false=>
  have HE:Hid (iL t z ⟨ro,rs,rp,rd,rv,rf⟩=3):=G9 (bI (by simp[fB,hgd]));clear hgd;go_wp2_with fail;exact bodyPost_ret (v:=.tuple #[JA t0,I0 3]) (by simp[results,results67,go_sem,JA,t0,c0,c1,c2,c3,c4,c5,c6]) rfl (VN (G8 HE) (by decide) rfl (PI t0 (G8 P1).b (by omega)))
 |true=>
  have HG:=G9 (TK.1 hgd);have HGB:=G9 hgd;clear hgd;go_wp2_with fail;refine(G8 CZ _).mono ?_;rintro e w2 ⟨rfl,rfl⟩;clear CZ
  cases hzd:KP z with
  |false=>
   have HE:Hid (iL t z ⟨ro,rs,rp,rd,rv,rf⟩=3):=G9 (bI (by simp[fB,hzd]));clear hzd;go_wp2_with fail;exact bodyPost_ret (v:=.tuple #[JA t0,I0 3]) (by simp[results,results67,go_sem,JA,t0,c0,c1,c2,c3,c4,c5,c6]) rfl (VN (G8 HE) (by decide) rfl (PI t0 (G8 P1).b (by omega)))
  |true=>
   by_cases h1:rs<1
   .have HE:Hid (iL t z ⟨ro,rs,rp,rd,rv,rf⟩=3):=G9 (bI (by simp[fB];intros;omega));have hd1:decide (rs<1)=true:=decide_eq_true h1;clear hzd h1;go_wp2_with fail;exact bodyPost_ret (v:=.tuple #[JA t0,I0 3]) (by simp[results,results67,go_sem,JA,t0,c0,c1,c2,c3,c4,c5,c6]) rfl (VN (G8 HE) (by decide) rfl (PI t0 (G8 P1).b (by omega)))
   .by_cases h2:2147483647<rs
    .have HE:Hid (iL t z ⟨ro,rs,rp,rd,rv,rf⟩=3):=G9 (bI (by simp[fB];intros;omega));have hd1:decide (rs<1)=false:=decide_eq_false h1;have hd2:decide (2147483647<rs)=true:=decide_eq_true h2;clear hzd h1 h2;go_wp2_with fail;exact bodyPost_ret (v:=.tuple #[JA t0,I0 3]) (by simp[results,results67,go_sem,JA,t0,c0,c1,c2,c3,c4,c5,c6]) rfl (VN (G8 HE) (by decide) rfl (PI t0 (G8 P1).b (by omega)))
    .have HH:Hid (fB t z ⟨ro,rs,rp,rd,rv,rf⟩=true):=G9 (oP.2 ⟨G8 HG,hzd,by simp only;omega,by simp only;omega⟩);have hd1:decide (rs<1)=false:=decide_eq_false h1;have hd2:decide (2147483647<rs)=false:=decide_eq_false h2;clear hzd h1 h2;have X2:=G9 (TAt.new w2 ⟨z,ro,rs,[],[],0,0⟩);have P2:=G9 ((G8 P1).next (GH w2 (FW #[I0 z,I0 ro,I0 rs,.string ⟨#[]⟩,.string ⟨#[]⟩,I0 0,I0 0] 83)));obtain⟨d0,d1,d2,d3,d4,d5,d6,d7,d8⟩:=(G8 P2).t.nine;simp only at d0 d1 d2 d3 d4 d5 d6 d7 d8;clear c0 c1 c2 c3 c4 c5 c6 f0 f1 f2 f3 f4 f5 f6;go_wp2_with fail;refine(G8 CF (G8 HG) w2.heap.size w2 (G8 P1).b _ (GH _ _) (Nat.le_refl _) (G8 X2)).mono ?_;rintro e w3 ⟨rfl,hb3,hx3⟩;have P3:=G9 ((G8 P1).next hb3);have HX3:=G9 hx3;have PF:Hid (nJ t ⟨ro,rs,rp,rd,rv,rf⟩≠0->iL t z ⟨ro,rs,rp,rd,rv,rf⟩=nJ t ⟨ro,rs,rp,rd,rv,rf⟩):=G9 (fun h=>AC0 (G8 HH) h);have PA:Hid (nJ t ⟨ro,rs,rp,rd,rv,rf⟩=0->iL t z ⟨ro,rs,rp,rd,rv,rf⟩=Z7 t (fA t z ⟨ro,rs,rp,rd,rv,rf⟩)):=G9 (fun h=>A19 (G8 HH) h);clear d0 d1 d2 d3 d4 d5 d6 d7 d8 b0 b1 b2 b3 b4 b5 b6 b7 b8 P2 X2 CF HG HGB HH hb3 hx3;generalize nJ t ⟨ro,rs,rp,rd,rv,rf⟩=F at*;by_cases hF:F=0
     .have PE:=G9 (G8 PA hF);have X3:=G9 (G8 HX3 hF);subst hF;have KX:Hid (iL t z ⟨ro,rs,rp,rd,rv,rf⟩=0->AU9 t z ⟨ro,rs,rp,rd,rv,rf⟩=fA t z ⟨ro,rs,rp,rd,rv,rf⟩):=G9 (fun h=>A20 h);unfold cZ at CA;clear PF PA HX3;generalize kC t (fA t z ⟨ro,rs,rp,rd,rv,rf⟩)=T at*;generalize ZE t (fA t z ⟨ro,rs,rp,rd,rv,rf⟩)=V at*;generalize Z7 t (fA t z ⟨ro,rs,rp,rd,rv,rf⟩)=E at*;generalize fA t z ⟨ro,rs,rp,rd,rv,rf⟩=x at*;obtain⟨xz,xo,xs,xp,xd,xv,xw⟩:=x;unfold JA at CA;simp only at CA;have x0:=(G8 X3).c0;have x1:=(G8 X3).c1;have x2:=(G8 X3).c2;have x3:=(G8 X3).c3;have x4:=(G8 X3).c4;have x5:=(G8 X3).c5;have x6:=(G8 X3).c6;simp only at x0 x1 x2 x3 x4 x5 x6;obtain⟨e0,e1,e2,e3,e4,e5,e6,e7,e8⟩:=(G8 P3).t.nine;obtain⟨c0,c1,c2,c3,c4,c5,c6⟩:=(G8 P3).cells;have f:=(G8 P3).a.f;have f0:=f 0;have f1:=f 1;have f2:=f 2;have f3:=f 3;have f4:=f 4;have f5:=f 5;have f6:=f 6;simp only at e0 e1 e2 e3 e4 e5 e6 e7 e8;clear f;go_wp2_with fail;refine(G8 CA _ (G8 P3).b).mono ?_;rintro e w4 ⟨vn4,vs4,ve4,rfl,n4,s4,e4,hb4⟩;obtain⟨an,cn,rfl,_⟩:=n4.slice;obtain⟨ai,ci,rfl,_⟩:=s4.slice;obtain⟨ae,ce,rfl,_⟩:=e4.slice;have P5:=G9 ((G8 P3).next (GI hb4 (GH w4 (FW #[I0 T.z,FV an T.ns.length cn,FV ai T.ss.length ci] 52))));have X5:=G9 ((G8 X3).next (GI hb4 (GH w4 (FW #[I0 T.z,FV an T.ns.length cn,FV ai T.ss.length ci] 52))));clear c0 c1 c2 c3 c4 c5 c6 f0 f1 f2 f3 f4 f5 f6 x0 x1 x2 x3 x4 x5 x6 e0 e1 e2 e3 e5 e6 e7 e8 hb4 n4 s4 e4 P3 X3 CA;obtain⟨c0,c1,c2,c3,c4,c5,c6⟩:=(G8 P5).cells;have f:=(G8 P5).a.f;have f0:=f 0;have f1:=f 1;have f2:=f 2;have f3:=f 3;have f4:=f 4;have f5:=f 5;have f6:=f 6;have x0:=(G8 X5).c0;have x1:=(G8 X5).c1;have x2:=(G8 X5).c2;have x3:=(G8 X5).c3;have x4:=(G8 X5).c4;have x5:=(G8 X5).c5;have x6:=(G8 X5).c6;simp only at x0 x1 x2 x3 x4 x5 x6;clear f;by_cases hE:E=0
      .subst hE;have HX:=G9 (G8 KX (G8 PE));go_wp2_with fail;exact bodyPost_ret (v:=.tuple #[JA ⟨xz,xo,xs,xp,xd,xv,xw⟩,I0 0]) (by simp[results,results67,go_sem,JA,c0,c1,c2,c3,c4,c5,c6]) rfl (BD2 (G8 PE) (G8 HX) rfl (PI ⟨xz,xo,xs,xp,xd,xv,xw⟩ (G8 P5).b (by omega)))
      .have hEb:(E !=0)=true:=by simpa using hE
       have HE:=G9 hE;clear hE;go_wp2_with fail;exact bodyPost_ret (v:=.tuple #[JA t0,I0 E]) (by simp[results,results67,go_sem,JA,t0,c0,c1,c2,c3,c4,c5,c6]) rfl (VN (G8 PE) (G8 HE) rfl (PI t0 (G8 P5).b (by omega)))
     .have PE:=G9 (G8 PF hF);have hFb:(F !=0)=true:=by simpa using hF
      have HF:=G9 hF;clear PF PA HX3 hF CA;obtain⟨e0,e1,e2,e3,e4,e5,e6,e7,e8⟩:=(G8 P3).t.nine;obtain⟨c0,c1,c2,c3,c4,c5,c6⟩:=(G8 P3).cells;have f:=(G8 P3).a.f;have f0:=f 0;have f1:=f 1;have f2:=f 2;have f3:=f 3;have f4:=f 4;have f5:=f 5;have f6:=f 6;simp only at e0 e1 e2 e3 e4 e5 e6 e7 e8;clear f;go_wp2_with fail;exact bodyPost_ret (v:=.tuple #[JA t0,I0 F]) (by simp[results,results67,go_sem,JA,t0,c0,c1,c2,c3,c4,c5,c6]) rfl (VN (G8 PE) (G8 HF) rfl (PI t0 (G8 P3).b (by omega)))
