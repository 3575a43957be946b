/-
  Part.
-/
import Derived.Test.YtenkgjfahcgppaaGreatDoorLON
set_option maxRecDepth 20000
set_option maxHeartbeats 8000000
namespace Go.Proofs.YtenkgjfahcgppaaGreatDoor
open Go.RowKit Go.Proofs.Tryz
variable{t:Tr}{n u:Nd}{z E:Int}{g:Nat}{x:AQ}{e:Ending}{w' W:World}
structure Rq where
 o:Int
 s:Int
 p:List UInt8
 d:List UInt8
 v:Int
 f:Int
def rqV(r:Rq):Value:=.agg #[I0 r.o,I0 r.s,S0 r.p,S0 r.d,I0 r.v,I0 r.f]
def AB1(l:List UInt8)(n:Int):List UInt8:=if jK l n=0 then l++ten n.toNat else []
theorem AP1(l:List UInt8)(n:Int):BP7 l n=⟨(AB1 l n).toArray⟩:=by
 by_cases h:jK l n=0
 .rw[(AO6 h).2.2.2,AB1,if_pos h]
 .rw[BU4 h,AB1,if_neg h]
theorem B97(l:List UInt8)(n:Int):(AB1 l n).length<=40:=by
 by_cases h:jK l n=0
 .obtain⟨_,_,hn,_⟩:=AO6 h;rw[AB1,if_pos h];simp only[EC,Bool.and_eq_true,decide_eq_true_eq]at hn;exact hn.1.2
 .rw[AB1,if_neg h];simp
def A18(t:Tr)(r:Rq):Int:=if DN r.p=true then(if r.s∈t.ss then(match H7 t.ns r.p with
 |none=>7
 |some n=>if r.v=-1\/r.v=n.v then 0 else 9)else 12)else 2
def CL4(t:Tr)(r:Rq):Int:=match H7 t.ns r.p with
 |none=>0
 |some n=>n.v
def BU5(t:Tr)(z:Int)(r:Rq):AQ:=⟨z,r.o,r.s,r.p,if r.o=5 then r.d else [],if r.o=5 then CL4 t r+1 else 0,0⟩
theorem B98{r:Rq}(h:DN r.p=false):A18 t r=2:=by rw[A18,if_neg (by simp[h])]
theorem B99{r:Rq}(h:DN r.p=true)(hs:r.s∉t.ss):A18 t r=12:=by rw[A18,if_pos h,if_neg hs]
theorem BA0{r:Rq}(h:DN r.p=true)(hs:r.s∈t.ss)(hn:H7 t.ns r.p=none):A18 t r=7:=by rw[A18,if_pos h,if_pos hs,hn]
theorem A19{r:Rq}(h:DN r.p=true)(hs:r.s∈t.ss)(hn:H7 t.ns r.p=some n):A18 t r=if r.v=-1\/r.v=n.v then 0 else 9:=by rw[A18,if_pos h,if_pos hs,hn]
theorem BA1{r:Rq}(hn:H7 t.ns r.p=some n):CL4 t r=n.v:=by rw[CL4,hn]
def cvN(t:Tr)(r:Rq):Int:=match H7 t.ns (BU r.p)with
 |none=>0
 |some u=>u.k
def AK5(t:Tr)(r:Rq):Int:=match H7 t.ns (BU r.p)with
 |none=>7
 |some u=>if jK (JH r.p) u.k=0 then YV (BU r.p) (AB1 (JH r.p) u.k)else jK (JH r.p) u.k
def CL5(t:Tr)(r:Rq):List UInt8:=iL (BU r.p) (AB1 (JH r.p) (cvN t r))
def A20(t:Tr)(r:Rq):Int:=if 0<=r.f/\r.f<=3 then(if DN r.p=true/\r.p≠[47]then(if r.s∈t.ss then(if 2<=r.f then AK5 t r else 0)else 12)else 2)else 3
def CL6(t:Tr)(z:Int)(r:Rq):AQ:=⟨z,r.o,r.s,if 2<=r.f then CL5 t r else r.p,r.d,0,if r.f%2=1 then r.s else 0⟩
theorem BA2{r:Rq}(h:H7 t.ns (BU r.p)=none):AK5 t r=7:=by rw[AK5,h]
theorem BU6{r:Rq}(h:H7 t.ns (BU r.p)=some u)(h0:jK (JH r.p) u.k≠0):AK5 t r=jK (JH r.p) u.k:=by rw[AK5,h];simp only;rw[if_neg h0]
theorem BA3{r:Rq}(h:H7 t.ns (BU r.p)=some u)(h0:jK (JH r.p) u.k=0):AK5 t r=YV (BU r.p) (AB1 (JH r.p) u.k):=by rw[AK5,h];simp only;rw[if_pos h0]
theorem BU7{r:Rq}(h:H7 t.ns (BU r.p)=some u):cvN t r=u.k:=by rw[cvN,h]
theorem AP2{r:Rq}(h:¬ (0<=r.f/\r.f<=3)):A20 t r=3:=by rw[A20,if_neg h]
theorem A21{r:Rq}(h:0<=r.f/\r.f<=3)(hp:¬ (DN r.p=true/\r.p≠[47])):A20 t r=2:=by rw[A20,if_pos h,if_neg hp]
theorem BA4{r:Rq}(h:0<=r.f/\r.f<=3)(hp:DN r.p=true/\r.p≠[47])(hs:r.s∉t.ss):A20 t r=12:=by rw[A20,if_pos h,if_pos hp,if_neg hs]
theorem qI{r:Rq}(h:0<=r.f/\r.f<=3)(hp:DN r.p=true/\r.p≠[47])(hs:r.s∈t.ss)(hf:r.f<2):A20 t r=0:=by rw[A20,if_pos h,if_pos hp,if_pos hs,if_neg (by omega)]
theorem lS{r:Rq}(h:0<=r.f/\r.f<=3)(hp:DN r.p=true/\r.p≠[47])(hs:r.s∈t.ss)(hf:2<=r.f):A20 t r=AK5 t r:=by rw[A20,if_pos h,if_pos hp,if_pos hs,if_pos hf]
def iI(t:Tr)(r:Rq):Int:=if r.o=1\/r.o=2 then 0 else if r.o=3 then A20 t r else if r.o=4\/r.o=5 then A18 t r else 4
def YW(t:Tr)(z:Int)(r:Rq):AQ:=if r.o=3 then CL6 t z r else if r.o=4\/r.o=5 then BU5 t z r else⟨z,r.o,r.s,[],[],0,0⟩
theorem AP3{r:Rq}(h:r.o=1\/r.o=2):iI t r=0/\YW t z r=⟨z,r.o,r.s,[],[],0,0⟩:=by
 refine⟨by rw[iI,if_pos h],?_⟩;rw[YW,if_neg (by omega),if_neg (by omega)]
theorem BU8{r:Rq}(h:r.o=3):iI t r=A20 t r/\YW t z r=CL6 t z r:=by
 refine⟨by rw[iI,if_neg (by omega),if_pos h],by rw[YW,if_pos h]⟩
theorem BU9{r:Rq}(h:r.o=4\/r.o=5):iI t r=A18 t r/\YW t z r=BU5 t z r:=by
 refine⟨by rw[iI,if_neg (by omega),if_neg (by omega),if_pos h],by rw[YW,if_neg (by omega),if_pos h]⟩
theorem BA5{r:Rq}(h:r.o<1\/5<r.o):iI t r=4:=by
 rw[iI,if_neg (by omega),if_neg (by omega),if_neg (by omega)]
noncomputable def YX(t:Tr)(z:Int)(r:Rq):Bool:=QC t&&FU z&&decide (1<=r.s)&&decide (r.s<=2147483647)
noncomputable def aK(t:Tr)(z:Int)(r:Rq):Int:=if YX t z r=true then(if iI t r=0 then UL t (YW t z r)else iI t r)else 3
noncomputable def AK6(t:Tr)(z:Int)(r:Rq):AQ:=if aK t z r=0 then YW t z r else t0
theorem jL{r:Rq}:YX t z r=true↔NI t/\FU z=true/\1<=r.s/\r.s<=2147483647:=by
 simp only[YX,Bool.and_eq_true,decide_eq_true_eq,LW,and_assoc]
theorem XL{r:Rq}(h:YX t z r=false):aK t z r=3:=by rw[aK,if_neg (by simp[h])]
theorem A22{r:Rq}(h:YX t z r=true)(hf:iI t r≠0):aK t z r=iI t r:=by rw[aK,if_pos h,if_neg hf]
theorem wC{r:Rq}(h:YX t z r=true)(hf:iI t r=0):aK t z r=UL t (YW t z r):=by rw[aK,if_pos h,if_pos hf]
theorem BV0{r:Rq}(h:aK t z r≠0):AK6 t z r=t0:=by rw[AK6,if_neg h]
theorem wF{r:Rq}(h:aK t z r=0):AK6 t z r=YW t z r:=by rw[AK6,if_pos h]
theorem BA6{r:Rq}(h:aK t z r=0):YX t z r=true/\iI t r=0/\UL t (YW t z r)=0:=by
 cases hh:YX t z r with
 |false=>rw[XL hh]at h;exact absurd h (by decide)
 |true=>
  by_cases hf:iI t r=0
  .exact⟨rfl,hf,by rw[<-wC hh hf];exact h⟩
  .rw[A22 hh hf]at h;exact absurd h hf
theorem AB2(t:Tr)(z:Int)(r:Rq):(YW t z r).z=z/\(YW t z r).o=r.o/\(YW t z r).s=r.s/\((YW t z r).w=0\/(YW t z r).w=r.s):=by
 unfold YW
 split
 .refine⟨rfl,rfl,rfl,?_⟩;simp only[CL6]
  split
  .exact .inr rfl
  .exact .inl rfl
 .split
  .exact⟨rfl,rfl,rfl,.inl rfl⟩
  .exact⟨rfl,rfl,rfl,.inl rfl⟩
theorem C99(t:Tr)(z:Int)(r:Rq):(YW t z r).d.length<=r.d.length:=by
 unfold YW
 split
 .exact Nat.le_refl _
 .split
  .simp only[BU5]
   split
   .exact Nat.le_refl _
   .simp
  .simp
structure FitP(t:Tr)(z:Int)(r:Rq)(x:AQ):Prop where
 app:UL t x=0
 az:(aX t x).z=z
 z:x.z=z
 o:x.o=r.o
 s:x.s=r.s
 gd:gdE x=0
 w:x.w=0\/x.w=r.s
theorem AB3{r:Rq}(h:aK t z r=0):FitP t z r (AK6 t z r):=by
 obtain⟨_,_,ha⟩:=BA6 h;rw[wF h];obtain⟨e1,e2,e3,e4⟩:=AB2 t z r;exact⟨ha,(XJ ha).2.1.trans e1,e1,e2,e3,(MI (lQ ha).1).2.1,e4⟩
theorem NI.pwf(g:NI t):WfT t:=by
 refine⟨fun s hs=>by have:=g.ses.2 s hs;omega,fun n hn=>?_⟩;have k:=g.nod.ok n hn;exact⟨by have:=IU k.path;omega,by have:=k.data;omega⟩
def kT(t:Tr)(p:List UInt8):Nd:=(H7 t.ns p).getD SC
def A77(t:Tr)(p:List UInt8):Int:=if(H7 t.ns p).isSome=true then 0 else 7
theorem bQ{p:List UInt8}(h:H7 t.ns p=some n):kT t p=n/\A77 t p=0:=by
 rw[kT,A77,h];exact⟨rfl,rfl⟩
theorem bT{p:List UInt8}(h:H7 t.ns p=none):kT t p=SC/\A77 t p=7:=by
 rw[kT,A77,h];exact⟨rfl,rfl⟩
theorem bU(t:Tr)(vn vs:Value)(p:List UInt8)(w:World)(g:NI t)(hn:BQ w vn t.ns):
  Calls prog 111 #[.agg #[I0 t.z,vn,vs],S0 p] w (R0 w (.tuple #[PS (kT t p),I0 (A77 t p)])):=by
 have few:=g.nod.few;rcases VF p t.ns g.nod.asc with⟨A,n,B,T⟩|⟨A,B,G⟩
 .have hm:n∈t.ns:=by rw[T.eq];simp
  have sl:=g.pwf.CC4 n hm;rw[(bQ T.look).1,(bQ T.look).2];exact AE9 t.z vn vs t.ns A B n p w hn (by omega) T sl.1 sl.2
 .rw[(bT G.look).1,(bT G.look).2];exact BF0 t.z vn vs t.ns A B p w hn (by omega) G
structure TR(W:World)(q:Nat)(z:Int)(vn vs:Value)(r:Rq):Prop where
 t:W.heap[q]?=some (.cells #[I0 z,vn,vs] 40 (0,0))
 r:W.heap[q+1]?=some (.cells #[I0 r.o,I0 r.s,S0 r.p,S0 r.d,I0 r.v,I0 r.f] 58 (0,0))
section
variable {W V:World} {q:Nat} {z:Int} {vn vs:Value} {r:Rq}
theorem TR.lt(h:TR W q z vn vs r):q+1<W.heap.size:=(Array.getElem?_eq_some_iff.1 h.r).1
theorem TR.next(h:TR W q z vn vs r)(hb:B0 W V):TR V q z vn vs r:=⟨(hb.block _ (by have:=h.lt;omega)).trans h.t,(hb.block _ h.lt).trans h.r⟩
theorem TR.other(h:TR W q z vn vs r){a:Addr}(v:Value)(h1:a.block<q\/q+1<a.block):TR (W.setCell a v) q z vn vs r:=
 ⟨(Below.heap_setCell W a v q (by omega)).trans h.t,(Below.heap_setCell W a v (q+1) (by omega)).trans h.r⟩
theorem TR.nine(h:TR W q z vn vs r):W.cell? ⟨q,0,none⟩=some (I0 z)/\W.cell? ⟨q,1,none⟩=some vn/\W.cell? ⟨q,2,none⟩=some vs/\W.cell? ⟨q+1,0,none⟩=some (I0 r.o)/\W.cell? ⟨q+1,1,none⟩=some (I0 r.s)/\W.cell? ⟨q+1,2,none⟩=some (S0 r.p)/\W.cell? ⟨q+1,3,none⟩=some (S0 r.d)/\W.cell? ⟨q+1,4,none⟩=some (I0 r.v)/\W.cell? ⟨q+1,5,none⟩=some (I0 r.f):=by
 have h1:=h.t;have h2:=h.r;refine⟨?_,?_,?_,?_,?_,?_,?_,?_,?_⟩<;>simp[World.cell?,h1,h2]
end
theorem TR.new(w:World)(z:Int)(vn vs:Value)(r:Rq):TR ((w.alloc (.cells #[I0 z,vn,vs] 40)).alloc (.cells #[I0 r.o,I0 r.s,S0 r.p,S0 r.d,I0 r.v,I0 r.f] 58)) w.heap.size z vn vs r:=by
 refine⟨?_,?_⟩
 .rw[(AB _ _).block _ (by simp)];exact heap_alloc_new w _
 .have h:=heap_alloc_new (w.alloc (.cells #[I0 z,vn,vs] 40)) (.cells #[I0 r.o,I0 r.s,S0 r.p,S0 r.d,I0 r.v,I0 r.f] 58);rw[show (w.alloc (.cells #[I0 z,vn,vs] 40)).heap.size=w.heap.size+1 by simp]at h;exact h
def ZP(u:World)(g:Nat)(E:Int)(x:AQ)(e:Ending)(w':World):Prop:=
 e=.returned (I0 E)/\B0 u w'/\(E=0->TAt w' g x)
theorem IL{u:World}{E':Int}(hE:E=E')(h0:E'≠0)(he:e=.returned (I0 E'))(hb:B0 u w'):ZP u g E x e w':=
 ⟨by rw[hE];exact he,hb,fun h=>absurd (hE.symm.trans h) h0⟩
theorem UE{u:World}(hE:E=0)(he:e=.returned (I0 0))(hb:B0 u w')(hx:TAt w' g x):ZP u g E x e w':=
 ⟨by rw[hE];exact he,hb,fun _=>hx⟩
theorem AI0{a:Addr}{v x:Value}{k j:Nat}(h:W.cell? ⟨k,j,none⟩=some x)(hk:k≠a.block):(W.setCell a v).cell? ⟨k,j,none⟩=some x:=by
 have e:=Below.heap_setCell W a v k hk;unfold World.cell? at h⊢;simp only at h⊢;rw[e];exact h
theorem TAt.p(h:TAt W g x)(l:List UInt8):TAt (W.setCell ⟨g,3,none⟩ (S0 l)) g {x with p:=l}:=by
 unfold TAt at*;rw[AV _ h];simp
theorem TAt.d(h:TAt W g x)(l:List UInt8):TAt (W.setCell ⟨g,4,none⟩ (S0 l)) g {x with d:=l}:=by
 unfold TAt at*;rw[AV _ h];simp
theorem TAt.v(h:TAt W g x)(l:Int):TAt (W.setCell ⟨g,5,none⟩ (I0 l)) g {x with v:=l}:=by
 unfold TAt at*;rw[AV _ h];simp
theorem TAt.w(h:TAt W g x)(l:Int):TAt (W.setCell ⟨g,6,none⟩ (I0 l)) g {x with w:=l}:=by
 unfold TAt at*;rw[AV _ h];simp
theorem zC(t:Tr)(z:Int)(vn vs:Value)(r:Rq)(g:Nat)(u w:World)(gt:NI t)(hn:BQ u vn t.ns)(hs:BQ u vs t.ss)(hb:B0 u w)(hg:u.heap.size<=g)(hx:TAt w g ⟨z,r.o,r.s,[],[],0,0⟩)(ho:r.o=4\/r.o=5)(hp:r.p.length<=140737488355328)(hd:r.d.length<=140737488355328):
  Calls prog 219 #[P0 g,.agg #[I0 t.z,vn,vs],rqV r] w (ZP u g (A18 t r) (BU5 t z r)):=by
 have CG:=AA (fun W (hW:B0 u W)=>bU t vn vs r.p W gt (hn.next hW));have CO:=AA (fun W (hW:B0 u W)=>XY t.z vn vs t.ss r.s W (hs.next hW) gt.ses);have CP:=AA (fun W=>GN ⟨r.p.toArray⟩ W);have CL:=AA (fun W=>JF r.p W (by omega));have CD:=AA (fun W=>JF r.d W (by omega));obtain⟨na,nc,rfl⟩:=AU hn;obtain⟨sa,sc,rfl⟩:=AU hs;unfold PS at CG;obtain⟨ro,rs,rp,rd,rv,rf⟩:=r;unfold rqV;simp only at*;have X0:=AA hx;have B0:=AA hb;have hgl:=hx.lt;have R0:=AA (TR.new w t.z (.slice na t.ns.length nc) (.slice sa t.ss.length sc) ⟨ro,rs,rp,rd,rv,rf⟩);clear hn hs hb hx;go_enter func219,ntmps219;go_wp2_with fail;refine(A8 CG _ (AL (AL (A8 B0) (AB _ _)) (AB _ _))).mono ?_;rintro e w1 ⟨rfl,hb1⟩;have R1:=AA ((A8 R0).next hb1);have B1:=AA (AL (A8 B0) (AY (AY hb1)));have X1:=AA ((A8 X0).next (AY (AY hb1)));clear hb1 R0 B0 X0 CG;obtain⟨N,hN⟩:∃N,kT t rp=N:=⟨_,rfl⟩;obtain⟨E,hE⟩:∃E,A77 t rp=E:=⟨_,rfl⟩;rw[hN,hE];have HN:=AA hN;have HE:=AA hE;clear hN hE;obtain⟨np,nd,nc,nm,nq,nv,nk,no,nn⟩:=N;simp only;have R2:=AA ((A8 R1).next (AB w1 (.cells #[S0 np,S0 nd,I0 nc,I0 nm,I0 nq,I0 nv,I0 nk,I0 no,I0 nn] 96)));obtain⟨a0,a1,a2,a3,a4,a5,a6,a7,a8⟩:=(A8 R2).nine;simp only at a0 a1 a2 a3 a4 a5 a6 a7 a8;go_wp2_with fail;refine(A8 CP _).mono ?_;rintro e w2 ⟨rfl,hb2⟩;have R3:=AA ((A8 R2).next hb2);have B3:=AA (AL (A8 B1) (AY hb2));have X3:=AA ((A8 X1).next (AY hb2));have D3:w2.cell? ⟨w1.heap.size,5,none⟩=some (I0 nv):=by rw[hb2.cell (p:=⟨w1.heap.size,5,none⟩) (by simp)];simp
 obtain⟨b0,b1,b2,b3,b4,b5,b6,b7,b8⟩:=(A8 R3).nine;simp only at b0 b1 b2 b3 b4 b5 b6 b7 b8;have hg1:=(A8 X1).lt;clear a0 a1 a2 a3 a4 a5 a6 a7 a8 hb2 R1 R2 B1 X1 CP
 cases hgd:DN rp with
 |false=>
  have HG:=AA hgd;clear hgd;go_wp2_with fail;go_ret;exact IL (B98 (A8 HG)) (by decide) rfl (A8 B3)
 |true=>
  have HG:=AA hgd;clear hgd;go_wp2_with fail;refine(A8 CO _ (A8 B3)).mono ?_;rintro e w3 ⟨rfl,hb3⟩;have R4:=AA ((A8 R3).next hb3);have B4:=AA (AL (A8 B3) hb3);have X4:=AA ((A8 X3).next hb3);have D4:w3.cell? ⟨w1.heap.size,5,none⟩=some (I0 nv):=by rw[hb3.cell (p:=⟨w1.heap.size,5,none⟩) (World.block_lt_of_cell? _ _ D3)];exact D3
  obtain⟨d0,d1,d2,d3,d4,d5,d6,d7,d8⟩:=(A8 R4).nine;simp only at d0 d1 d2 d3 d4 d5 d6 d7 d8;clear b0 b1 b2 b3 b4 b5 b6 b7 b8 hb3 R3 B3 X3 CO D3;by_cases hm:rs∈t.ss
  .rw[show decide (rs∈t.ss)=true from decide_eq_true hm];have HM:=AA hm;clear hm
   cases hl:H7 t.ns rp with
   |none=>
    have HL:=AA hl;obtain⟨_,h7⟩:=bT hl;rw[A8 HE]at h7;subst h7;clear hl;go_wp2_with fail;go_ret;exact IL (BA0 (A8 HG) (A8 HM) (A8 HL)) (by decide) rfl (A8 B4)
   |some n=>
    have HL:=AA hl;obtain⟨hnn,h0⟩:=bQ hl;rw[A8 HE]at h0;subst h0;rw[A8 HN]at hnn;have hnv:n.v=nv:=by rw[<-hnn]
    have hko:=gt.nod.ok n (UK hl).1;have hv0:0<=nv:=by have:=hko.v0;omega
    have hv1:nv<=2147483647:=by have:=hko.v1;omega
    have HV:=AA hnv;clear hl hnn hnv hko;by_cases hv:rv=-1\/rv=nv
    .have HF:Hid (A18 t ⟨ro,rs,rp,rd,rv,rf⟩=0):=AA ((A19 (A8 HG) (A8 HM) (A8 HL)).trans (if_pos (by rw[A8 HV];exact hv)));have HY:Hid (CL4 t ⟨ro,rs,rp,rd,rv,rf⟩=nv):=AA ((BA1 (A8 HL)).trans (A8 HV));have hgw:=(A8 X4).lt;have hc:(rv !=-1)=false\/((rv !=-1)=true/\(rv !=nv)=false):=by
      rcases hv with h|h
      .exact .inl (by simp[h])
      .by_cases h1:rv=-1
       .exact .inl (by simp[h1])
       .exact .inr ⟨by simp[h1],by simp[h]⟩
     clear HN HE HG HM HL HV hv;rcases hc with hc1|⟨hc1,hc2⟩
     all_goals
      rcases ho with rfl|rfl
      .have HX:Hid (BU5 t z ⟨4,rs,rp,rd,rv,rf⟩=⟨z,4,rs,rp,[],0,0⟩):=AA rfl;go_wp2_with fail;refine(A8 CL _).mono ?_;rintro e w4 ⟨rfl,hb4⟩;have R5:=AA ((A8 R4).next hb4);have B5:=AA (AL (A8 B4) hb4);have X5:=AA ((A8 X4).next hb4);have D5:w4.cell? ⟨w1.heap.size,5,none⟩=some (I0 nv):=by rw[hb4.cell (p:=⟨w1.heap.size,5,none⟩) (World.block_lt_of_cell? _ _ D4)];exact D4
       have k3:=(A8 X5).c3;have f3:=(A8 X5).f 3;have hgw5:=(A8 X5).lt;obtain⟨e0,e1,e2,e3,e4,e5,e6,e7,e8⟩:=(A8 R5).nine;simp only at e0 e1 e2 e3 e4 e5 e6 e7 e8;have hne:w.heap.size+1≠g:=by omega
       clear d0 d1 d2 d3 d4 d5 d6 d7 d8 hb4 R4 B4 X4 D4 CL;go_wp2_with fail;go_ret;exact UE (A8 HF) rfl ((A8 B5).setCell hg _) (by rw[A8 HX];exact(A8 X5).p rp)
      .have HX:Hid (BU5 t z ⟨5,rs,rp,rd,rv,rf⟩=⟨z,5,rs,rp,rd,nv+1,0⟩):=AA (by rw[BU5,A8 HY];rfl);go_wp2_with fail;refine(A8 CL _).mono ?_;rintro e w4 ⟨rfl,hb4⟩;have R5:=AA ((A8 R4).next hb4);have B5:=AA (AL (A8 B4) hb4);have X5:=AA ((A8 X4).next hb4);have D5:w4.cell? ⟨w1.heap.size,5,none⟩=some (I0 nv):=by rw[hb4.cell (p:=⟨w1.heap.size,5,none⟩) (World.block_lt_of_cell? _ _ D4)];exact D4
       have k3:=(A8 X5).c3;have f3:=(A8 X5).f 3;have hgw5:=(A8 X5).lt;obtain⟨e0,e1,e2,e3,e4,e5,e6,e7,e8⟩:=(A8 R5).nine;simp only at e0 e1 e2 e3 e4 e5 e6 e7 e8;have hne:w.heap.size+1≠g:=by omega
       clear d0 d1 d2 d3 d4 d5 d6 d7 d8 hb4 R4 B4 X4 D4 CL;go_wp2_with fail;refine(A8 CD _).mono ?_;rintro e w6 ⟨rfl,hb6⟩;have hgw6:g<(w4.setCell ⟨g,3,none⟩ (S0 rp)).heap.size:=by simp;omega
       have B6:Hid (B0 u w6):=AA (AL ((A8 B5).setCell (by exact hg) _) hb6);have X6:=AA (((A8 X5).p rp).next hb6);have D6:w6.cell? ⟨w1.heap.size,5,none⟩=some (I0 nv):=by
        have D7:=AI0 (a:=⟨g,3,none⟩) (v:=S0 rp) D5 (by simp only;omega);rw[hb6.cell (p:=⟨w1.heap.size,5,none⟩) (World.block_lt_of_cell? _ _ D7)];exact D7
       have k4:=(A8 X6).c4;have f4:=(A8 X6).f 4;have k5:=(A8 X6).c5;have f5:=(A8 X6).f 5;clear hb6 R5 B5 X5 D5 k3 f3 CD;go_wp2_with fail;go_ret;exact UE (A8 HF) rfl (((A8 B6).setCell hg _).setCell hg _) (by rw[A8 HX];exact((A8 X6).d rd).v (nv+1))
    .have HF:Hid (A18 t ⟨ro,rs,rp,rd,rv,rf⟩=9):=AA ((A19 (A8 HG) (A8 HM) (A8 HL)).trans (if_neg (by rw[A8 HV];exact hv)));have hb1:(rv !=-1)=true:=by simp;omega
     have hb2:(rv !=nv)=true:=by simp;omega
     clear HN HE HG HM HL HV hv;go_wp2_with fail;go_ret;exact IL (A8 HF) (by decide) rfl (A8 B4)
  .rw[show decide (rs∈t.ss)=false from decide_eq_false hm];have HM:=AA hm;clear hm;go_wp2_with fail;go_ret;exact IL (B99 (A8 HG) (A8 HM)) (by decide) rfl (A8 B4)
theorem zF(t:Tr)(vn vs:Value)(r:Rq)(x:AQ)(g:Nat)(u w:World)(gt:NI t)(hn:BQ u vn t.ns)(hb:B0 u w)(hg:u.heap.size<=g)(hx:TAt w g x)(hxp:x.p=r.p)(htab:Lib.TabIs prog u "internal/strconv.uint64pow10" .u64 Lib.pow10Tab):
  Calls prog 239 #[P0 g,.agg #[I0 t.z,vn,vs]] w (ZP u g (AK5 t r) {x with p:=CL5 t r}):=by
 have CS:=AA (fun W=>JA r.p W);have CG:=AA (fun W (hW:B0 u W)=>bU t vn vs (BU r.p) W gt (hn.next hW));have hdl:=TF r.p;have hsl:(JH r.p).length<=200:=by
  rw[JH]
  split
  .rename_i h
   obtain⟨a,b,e,hb⟩:=XE h.1;rw[e,P8 b hb a];have:=IU h.1;rw[e]at this;simp at this⊢;omega
  .simp
 have CN:=AA (fun(n:Int) W (hW:B0 u W)=>AA6 ⟨(JH r.p).toArray⟩ n W (by show (JH r.p).length<=_;omega) (A16 htab hW));have CJ:=AA (fun(m:List UInt8) (hm:m.length<=140737488355328) W=>B94 (BU r.p) m W hm);obtain⟨na,nc,rfl⟩:=AU hn;unfold PS at CG;rw[<-hxp]at CS;have k3:=hx.c3;rw[hxp]at k3 CS;have X0:=AA hx;have B0:=AA hb;have hgl:=hx.lt;have K0:∀W,Below (w.alloc (.cells #[I0 t.z,.slice na t.ns.length nc,vs] 40)).heap.size (w.alloc (.cells #[I0 t.z,.slice na t.ns.length nc,vs] 40)) W->W.heap[w.heap.size]?=some (.cells #[I0 t.z,.slice na t.ns.length nc,vs] 40 (0,0)):=fun W hW=>(hW.block _ (by simp)).trans (heap_alloc_new w _);have HK:=AA K0;have HXP:=AA hxp;clear hn hb hx K0 hxp;go_enter func239,ntmps239;go_wp2_with fail;refine(A8 CS _).mono ?_;rintro e w1 ⟨rfl,hb1⟩;have T1:=A8 HK w1 hb1;have B1:=AA (AL (A8 B0) (AY hb1));have X1:=AA ((A8 X0).next (AY hb1));have c0:w1.cell? ⟨w.heap.size,0,none⟩=some (I0 t.z):=by simp[World.cell?,T1]
 have c1:w1.cell? ⟨w.heap.size,1,none⟩=some (.slice na t.ns.length nc):=by simp[World.cell?,T1]
 have c2:w1.cell? ⟨w.heap.size,2,none⟩=some vs:=by simp[World.cell?,T1]
 clear hb1 T1 B0 X0 CS HK k3;obtain⟨D,hD⟩:∃D,BU r.p=D:=⟨_,rfl⟩;obtain⟨S,hS⟩:∃S,JH r.p=S:=⟨_,rfl⟩;rw[hD]at CG hdl CJ⊢;rw[hS]at CN hsl⊢;have HD:=AA hD;have HS:=AA hS;clear hD hS;go_wp2_with fail;refine(A8 CG _ (A8 B1)).mono ?_;rintro e w2 ⟨rfl,hb2⟩;have B2:=AA (AL (A8 B1) hb2);have X2:=AA ((A8 X1).next hb2);clear hb2 B1 X1 c0 c1 c2 CG
 cases hl:H7 t.ns D with
 |none=>
  obtain⟨h1,h2⟩:=bT hl;have HL:=AA hl;rw[h1,h2];clear hl h1 h2;unfold SC;simp only;go_wp2_with fail;go_ret;exact IL (BA2 (by rw[A8 HD];exact A8 HL)) (by decide) rfl (AL (A8 B2) (AB _ _))
 |some n=>
  obtain⟨h1,h2⟩:=bQ hl;have HL:=AA hl;rw[h1,h2];clear hl h1 h2;obtain⟨np,nd,nc',nm,nq,nv,nk,no,nn⟩:=n;simp only;have B3:=AA (AL (A8 B2) (AB w2 (.cells #[S0 np,S0 nd,I0 nc',I0 nm,I0 nq,I0 nv,I0 nk,I0 no,I0 nn] 96)));go_wp2_with fail;refine(A8 CN nk _ (A8 B3)).mono ?_;rintro e w3 ⟨rfl,hb3⟩;rw[AP1];have B4:=AA (AL (A8 B3) hb3);have X4:=AA ((A8 X2).next (AY hb3));have hml:=B97 S nk;have CJ1:=AA (A8 CJ (AB1 S nk) (by omega));have NS:Hid (jK S nk≠0->AK5 t r=jK S nk):=AA (fun h=>by
   have h':=BU6 (t:=t) (r:=r) (u:=⟨np,nd,nc',nm,nq,nv,nk,no,nn⟩) (by rw[A8 HD];exact A8 HL) (by rw[A8 HS];exact h);rw[A8 HS]at h';exact h')
  have NJ:Hid (jK S nk=0->AK5 t r=YV D (AB1 S nk)):=AA (fun h=>by
   have h':=BA3 (t:=t) (r:=r) (u:=⟨np,nd,nc',nm,nq,nv,nk,no,nn⟩) (by rw[A8 HD];exact A8 HL) (by rw[A8 HS];exact h);rw[A8 HS,A8 HD]at h';exact h')
  have NP:Hid (CL5 t r=iL D (AB1 S nk)):=AA (by
   rw[CL5,A8 HD,A8 HS,BU7 (u:=⟨np,nd,nc',nm,nq,nv,nk,no,nn⟩) (by rw[A8 HD];exact A8 HL)])
  clear hb3 B3 X2 B2 CN CJ HL HD HS;generalize AB1 S nk=M at*;generalize jK S nk=F at*;by_cases hF:F=0
  .subst hF;have HN:=AA (A8 NJ rfl);clear NS NJ;go_wp2_with fail;refine(A8 CJ1 _).mono ?_;rintro e w4 ⟨rfl,hb4⟩;have B5:=AA (AL (A8 B4) hb4);have X5:=AA ((A8 X4).next hb4);have k3:=(A8 X5).c3;have f3:=(A8 X5).f 3;clear hb4 B4 X4 CJ1;generalize iL D M=J at*;generalize YV D M=G at*;go_wp2_with fail;go_ret;refine⟨?_,(A8 B5).setCell hg _,fun _=>?_⟩
   .rw[A8 HN];rfl
   .rw[A8 NP];exact(A8 X5).p J
  .have hFb:(F !=0)=true:=by simpa using hF
   have HN:=AA (A8 NS hF);have HF:=AA hF;clear NS NJ hF;go_wp2_with fail;go_ret;exact IL (A8 HN) (A8 HF) rfl (A8 B4)
theorem zG(t:Tr)(z:Int)(vn vs:Value)(r:Rq)(g:Nat)(u w:World)(gt:NI t)(hn:BQ u vn t.ns)(hs:BQ u vs t.ss)(hb:B0 u w)(hg:u.heap.size<=g)(hx:TAt w g ⟨z,r.o,r.s,[],[],0,0⟩)(hp:r.p.length<=140737488355328)(hd:r.d.length<=140737488355328)(htab:Lib.TabIs prog u "internal/strconv.uint64pow10" .u64 Lib.pow10Tab):
  Calls prog 218 #[P0 g,.agg #[I0 t.z,vn,vs],rqV r] w (ZP u g (A20 t r) (CL6 t z r)):=by
 have CO:=AA (fun W (hW:B0 u W)=>XY t.z vn vs t.ss r.s W (hs.next hW) gt.ses);have CP:=AA (fun W=>GN ⟨r.p.toArray⟩ W);have CL:=AA (fun W=>JF r.p W (by omega));have CD:=AA (fun W=>JF r.d W (by omega));have CN:=AA (fun(x:AQ) (hxp:x.p=r.p) W (hW:B0 u W) (hx:TAt W g x)=>zF t vn vs r x g u W gt hn hW hg hx hxp htab);obtain⟨na,nc,rfl⟩:=AU hn;obtain⟨sa,sc,rfl⟩:=AU hs;obtain⟨ro,rs,rp,rd,rv,rf⟩:=r;unfold rqV;simp only at*;have X0:=AA hx;have B0:=AA hb;have hgl:=hx.lt;have R0:=AA (TR.new w t.z (.slice na t.ns.length nc) (.slice sa t.ss.length sc) ⟨ro,rs,rp,rd,rv,rf⟩);clear hn hs hb hx;by_cases hf:0<=rf/\rf<=3
 .have hf1:=hf.1;have hf2:=hf.2;have HF:=AA hf;have hfb1:(decide (rf<0))=false:=by simp;omega
  have hfb2:(decide (3<rf))=false:=by simp;omega
  clear hf;obtain⟨a0,a1,a2,a3,a4,a5,a6,a7,a8⟩:=(A8 R0).nine;simp only at a0 a1 a2 a3 a4 a5 a6 a7 a8;go_enter func218,ntmps218;go_wp2_with fail;refine(A8 CP _).mono ?_;rintro e w1 ⟨rfl,hb1⟩;have R1:=AA ((A8 R0).next hb1);have B1:=AA (AL (A8 B0) (AY (AY hb1)));have X1:=AA ((A8 X0).next (AY (AY hb1)));obtain⟨b0,b1,b2,b3,b4,b5,b6,b7,b8⟩:=(A8 R1).nine;simp only at b0 b1 b2 b3 b4 b5 b6 b7 b8;clear a0 a1 a2 a3 a4 a5 a6 a7 a8 hb1 R0 B0 X0 CP
  cases hgd:DN rp with
  |false=>
   have HG:=AA hgd;clear hgd;go_wp2_with fail;go_ret;exact IL (A21 (A8 HF) (fun h=>by have h1:=h.1;rw[A8 HG]at h1;exact absurd h1 (by decide))) (by decide) rfl (A8 B1)
  |true=>
   have HG:=AA hgd;clear hgd;by_cases hr:rp=[47]
   .have HR:=AA hr;subst hr;go_wp2_with fail;go_ret;exact IL (A21 (A8 HF) (fun h=>h.2 rfl)) (by decide) rfl (A8 B1)
   .have HR:=AA hr;have hrb:(rp==[47])=false:=by simpa using hr
    clear hr;go_wp2_with fail;refine(A8 CO _ (A8 B1)).mono ?_;rintro e w2 ⟨rfl,hb2⟩;have R2:=AA ((A8 R1).next hb2);have B2:=AA (AL (A8 B1) hb2);have X2:=AA ((A8 X1).next hb2);obtain⟨d0,d1,d2,d3,d4,d5,d6,d7,d8⟩:=(A8 R2).nine;simp only at d0 d1 d2 d3 d4 d5 d6 d7 d8;clear b0 b1 b2 b3 b4 b5 b6 b7 b8 hb2 R1 B1 X1 CO hrb;by_cases hm:rs∈t.ss
    .rw[show decide (rs∈t.ss)=true from decide_eq_true hm];have HM:=AA hm;clear hm;go_wp2_with fail;refine(A8 CL _).mono ?_;rintro e w3 ⟨rfl,hb3⟩;have R3:=AA ((A8 R2).next hb3);have B3:=AA (AL (A8 B2) hb3);have X3:=AA ((A8 X2).next hb3);obtain⟨e0,e1,e2,e3,e4,e5,e6,e7,e8⟩:=(A8 R3).nine;simp only at e0 e1 e2 e3 e4 e5 e6 e7 e8;have k3:=(A8 X3).c3;have f3:=(A8 X3).f 3;have hne:w.heap.size+1≠g:=by omega
     have hne0:w.heap.size≠g:=by omega
     clear d0 d1 d2 d3 d4 d5 d6 d7 d8 hb3 R2 B2 X2 CL;go_wp2_with fail;refine(A8 CD _).mono ?_;rintro e w4 ⟨rfl,hb4⟩;have R4:=AA (((A8 R3).other (a:=⟨g,3,none⟩) (S0 rp) (.inl hgl)).next hb4);have B4:Hid (B0 u w4):=AA (AL ((A8 B3).setCell (by exact hg) _) hb4);have X4:=AA (((A8 X3).p rp).next hb4);obtain⟨i0,i1,i2,i3,i4,i5,i6,i7,i8⟩:=(A8 R4).nine;simp only at i0 i1 i2 i3 i4 i5 i6 i7 i8;have k4:=(A8 X4).c4;have f4:=(A8 X4).f 4;have k6:=(A8 X4).c6;have f6:=(A8 X4).f 6;clear e0 e1 e2 e3 e4 e5 e6 e7 e8 hb4 R3 B3 X3 CD k3 f3;have R5:=AA ((A8 R4).other (a:=⟨g,4,none⟩) (S0 rd) (.inl hgl));have B5:Hid (B0 u (w4.setCell ⟨g,4,none⟩ (S0 rd))):=AA ((A8 B4).setCell (by exact hg) _);have X5:=AA ((A8 X4).d rd);have HP:Hid (DN rp=true/\rp≠[47]):=AA ⟨A8 HG,A8 HR⟩;have hfs:rf=0\/rf=1\/rf=2\/rf=3:=by omega
     clear HG HR;simp only at X5;rcases hfs with rfl|rfl|rfl|rfl
     .go_wp2_with fail;go_ret;exact UE (qI (A8 HF) (A8 HP) (A8 HM) (by simp)) rfl (A8 B5) (A8 X5)
     .go_wp2_with fail;go_ret;exact UE (qI (A8 HF) (A8 HP) (A8 HM) (by simp)) rfl ((A8 B5).setCell hg _) ((A8 X5).w rs)
     .go_wp2_with fail;refine(A8 CN _ rfl _ (A8 B5) (A8 X5)).mono ?_;rintro e w6 ⟨rfl,hb6,hx6⟩;have HB:=AA hb6;have HX:=AA hx6;clear hb6 hx6;go_wp2_with fail;go_ret;refine⟨?_,A8 HB,fun h=>?_⟩
      .rw[lS (A8 HF) (A8 HP) (A8 HM) (by simp)];rfl
      .rw[lS (A8 HF) (A8 HP) (A8 HM) (by simp)]at h;exact A8 HX h
     .go_wp2_with fail;refine(A8 CN _ rfl _ ((A8 B5).setCell hg _) ((A8 X5).w rs)).mono ?_;rintro e w6 ⟨rfl,hb6,hx6⟩;have HB:=AA hb6;have HX:=AA hx6;clear hb6 hx6;go_wp2_with fail;go_ret;refine⟨?_,A8 HB,fun h=>?_⟩
      .rw[lS (A8 HF) (A8 HP) (A8 HM) (by simp)];rfl
      .rw[lS (A8 HF) (A8 HP) (A8 HM) (by simp)]at h;exact A8 HX h
    .rw[show decide (rs∈t.ss)=false from decide_eq_false hm];have HM:=AA hm;clear hm;go_wp2_with fail;go_ret;exact IL (BA4 (A8 HF) ⟨A8 HG,A8 HR⟩ (A8 HM)) (by decide) rfl (A8 B2)
 .have HF:=AA hf;have hc:decide (rf<0)=true\/(decide (rf<0)=false/\decide (3<rf)=true):=by
   by_cases h:rf<0
   .exact .inl (by simp[h])
   .exact .inr ⟨by simp;omega,by simp;omega⟩
  clear hf;rcases hc with h|⟨h,h'⟩
  all_goals
   simp only[decide_eq_true_eq,decide_eq_false_iff_not]at h
   (try simp only[decide_eq_true_eq]at h')
   go_enter func218,ntmps218;go_wp2_with fail;go_ret;exact IL (AP2 (A8 HF)) (by decide) rfl (AL (AL (A8 B0) (AB _ _)) (AB _ _))
theorem B20(t:Tr)(z:Int)(vn vs:Value)(r:Rq)(g:Nat)(u w:World)(gt:NI t)(hn:BQ u vn t.ns)(hs:BQ u vs t.ss)(hb:B0 u w)(hg:u.heap.size<=g)(hx:TAt w g ⟨z,r.o,r.s,[],[],0,0⟩)(hp:r.p.length<=140737488355328)(hd:r.d.length<=140737488355328)(htab:Lib.TabIs prog u "internal/strconv.uint64pow10" .u64 Lib.pow10Tab):
  Calls prog 183 #[P0 g,.agg #[I0 t.z,vn,vs],rqV r] w (ZP u g (iI t r) (YW t z r)):=by
 have CA:=AA (fun(ho:r.o=4\/r.o=5) W (hW:B0 u W) hx=>zC t z vn vs r g u W gt hn hs hW hg hx ho hp hd);have CC:=AA (fun W (hW:B0 u W) hx=>zG t z vn vs r g u W gt hn hs hW hg hx hp hd htab);obtain⟨na,nc,rfl⟩:=AU hn;obtain⟨sa,sc,rfl⟩:=AU hs;obtain⟨ro,rs,rp,rd,rv,rf⟩:=r;unfold rqV at*;simp only at*;have X0:=AA hx;have B0:=AA hb;have X1:=AA (hx.next (AL (AB w (.cells #[I0 t.z,.slice na t.ns.length nc,.slice sa t.ss.length sc] 40)) (AB _ (.cells #[I0 ro,I0 rs,S0 rp,S0 rd,I0 rv,I0 rf] 58))));have B1:=AA (AL hb (AL (AB w (.cells #[I0 t.z,.slice na t.ns.length nc,.slice sa t.ss.length sc] 40)) (AB _ (.cells #[I0 ro,I0 rs,S0 rp,S0 rd,I0 rv,I0 rf] 58))));clear hn hs hb hx htab;by_cases h1:ro=1\/ro=2
 .have HE:=AA (AP3 (t:=t) (z:=z) (r:=⟨ro,rs,rp,rd,rv,rf⟩) h1);clear CA CC;rcases h1 with rfl|rfl
  all_goals
   go_enter func183,ntmps183;go_wp2_with fail;go_ret;exact UE (A8 HE).1 rfl (A8 B1) (by rw[(A8 HE).2];exact A8 X1)
 .by_cases h3:ro=3
  .have HE:=AA (BU8 (t:=t) (z:=z) (r:=⟨ro,rs,rp,rd,rv,rf⟩) h3);subst h3;clear CA h1;go_enter func183,ntmps183;go_wp2_with fail;refine(A8 CC _ (A8 B1) (A8 X1)).mono ?_;rintro e w6 ⟨rfl,hb6,hx6⟩;have HB:=AA hb6;have HX:=AA hx6;clear hb6 hx6;go_wp2_with fail;go_ret;refine⟨?_,A8 HB,fun h=>?_⟩
   .rw[(A8 HE).1];rfl
   .rw[(A8 HE).1]at h;rw[(A8 HE).2];exact A8 HX h
  .by_cases h4:ro=4\/ro=5
   .have HE:=AA (BU9 (t:=t) (z:=z) (r:=⟨ro,rs,rp,rd,rv,rf⟩) h4);have CB:=AA (A8 CA h4);clear CA CC h1 h3;rcases h4 with rfl|rfl
    all_goals
     go_enter func183,ntmps183;go_wp2_with fail;refine(A8 CB _ (A8 B1) (A8 X1)).mono ?_;rintro e w6 ⟨rfl,hb6,hx6⟩;have HB:=AA hb6;have HX:=AA hx6;clear hb6 hx6;go_wp2_with fail;go_ret;refine⟨?_,A8 HB,fun h=>?_⟩
     .rw[(A8 HE).1];rfl
     .rw[(A8 HE).1]at h;rw[(A8 HE).2];exact A8 HX h
   .have HE:=AA (BA5 (t:=t) (r:=⟨ro,rs,rp,rd,rv,rf⟩) (by simp only;omega));have e1:(ro==1)=false:=by simp;omega
    have e2:(ro==2)=false:=by simp;omega
    have e3:(ro==3)=false:=by simp;omega
    have e4:(ro==4)=false:=by simp;omega
    have e5:(ro==5)=false:=by simp;omega
    clear CA CC h1 h3 h4;go_enter func183,ntmps183;go_wp2_with fail;go_ret;exact IL (A8 HE) (by decide) rfl (A8 B1)
def A78(w:World)(t:Tr)(z:Int)(r:Rq)(e:Ending)(w':World):Prop:=
 e=.returned (.tuple #[DW (AK6 t z r),I0 (aK t z r)])/\B0 w w'
theorem QS{w:World}{r:Rq}(hE:aK t z r=E)(h0:E≠0)(he:e=.returned (.tuple #[DW t0,I0 E]))(hb:B0 w w'):A78 w t z r e w':=by
 refine⟨?_,hb⟩;rw[BV0 (by rw[hE];exact h0),hE];exact he
theorem B21{w:World}{r:Rq}(hE:aK t z r=0)(hX:AK6 t z r=x)(he:e=.returned (.tuple #[DW x,I0 0]))(hb:B0 w w'):A78 w t z r e w':=by
 refine⟨?_,hb⟩;rw[hE,hX];exact he
structure PB(w W:World)(z:Int)(vn vs:Value)(r:Rq):Prop where
 t:TR W w.heap.size z vn vs r
 a:TAt W (w.heap.size+2) t0
 b:B0 w W
section
variable {w W V:World} {z:Int} {vn vs:Value} {r:Rq}
theorem PB.next(h:PB w W z vn vs r)(hb:B0 W V):PB w V z vn vs r:=⟨h.t.next hb,h.a.next hb,AL h.b hb⟩
theorem PB.new(w:World)(z:Int)(vn vs:Value)(r:Rq):PB w (((w.alloc (.cells #[I0 z,vn,vs] 40)).alloc (.cells #[I0 r.o,I0 r.s,S0 r.p,S0 r.d,I0 r.v,I0 r.f] 58)).alloc (.cells #[I0 0,I0 0,I0 0,.string ⟨#[]⟩,.string ⟨#[]⟩,I0 0,I0 0] 49)) z vn vs r:=by
 refine⟨(TR.new w z vn vs r).next (AB _ _),?_,AL (AL (AB _ _) (AB _ _)) (AB _ _)⟩;have h:=TAt.new ((w.alloc (.cells #[I0 z,vn,vs] 40)).alloc (.cells #[I0 r.o,I0 r.s,S0 r.p,S0 r.d,I0 r.v,I0 r.f] 58)) t0;rw[show ((w.alloc (.cells #[I0 z,vn,vs] 40)).alloc (.cells #[I0 r.o,I0 r.s,S0 r.p,S0 r.d,I0 r.v,I0 r.f] 58)).heap.size=w.heap.size+2 by simp]at h;exact h
theorem PB.cells(h:PB w W z vn vs r):(W.cell? ⟨w.heap.size+2,0,none⟩=some (I0 0)/\W.cell? ⟨w.heap.size+2,1,none⟩=some (I0 0)/\W.cell? ⟨w.heap.size+2,2,none⟩=some (I0 0)/\W.cell? ⟨w.heap.size+2,3,none⟩=some (.string ⟨#[]⟩)/\W.cell? ⟨w.heap.size+2,4,none⟩=some (.string ⟨#[]⟩)/\W.cell? ⟨w.heap.size+2,5,none⟩=some (I0 0)/\W.cell? ⟨w.heap.size+2,6,none⟩=some (I0 0)):=⟨h.a.c0,h.a.c1,h.a.c2,h.a.c3,h.a.c4,h.a.c5,h.a.c6⟩
end
def put7(W:World)(g:Nat)(t:AQ):World:=
 ((((((W.setCell ⟨g,0,none⟩ (I0 t.z)).setCell ⟨g,1,none⟩ (I0 t.o)).setCell ⟨g,2,none⟩ (I0 t.s)).setCell ⟨g,3,none⟩ (S0 t.p)).setCell ⟨g,4,none⟩ (S0 t.d)).setCell ⟨g,5,none⟩ (I0 t.v)).setCell ⟨g,6,none⟩ (I0 t.w)
theorem KN{w:World}(t:AQ)(hb:B0 w W)(hg:w.heap.size<=g):B0 w (put7 W g t):=
 ((((((hb.setCell hg _).setCell hg _).setCell hg _).setCell hg _).setCell hg _).setCell hg _).setCell hg _
theorem zH(t:Tr)(z:Int)(vn vs:Value)(r:Rq)(w:World)(hn:BQ w vn t.ns)(hs:BQ w vs t.ss)(hw:WfT t)(hp:r.p.length<=140737488355328)(hd:r.d.length<=140737488355328)(htab:Lib.TabIs prog w "internal/strconv.uint64pow10" .u64 Lib.pow10Tab):
  Calls prog 145 #[.agg #[I0 t.z,vn,vs],I0 z,rqV r] w (A78 w t z r):=by
 have CG:=AA (fun W (hW:B0 w W)=>TS t vn vs W (hn.next hW) (hs.next hW) hw);have CZ:=AA (fun W=>EN z W);have CF:=AA (fun(gt:NI t) g u (hu:B0 w u) W hW hg hx=>B20 t z vn vs r g u W gt (hn.next hu) (hs.next hu) hW hg hx hp hd (A16 htab hu));have CA:=AA (fun W (hW:B0 w W)=>fC t vn vs (YW t z r) W (hn.next hW) (hs.next hW) hw (by have:=C99 t z r;omega));obtain⟨na,nc,rfl⟩:=AU hn;obtain⟨sa,sc,rfl⟩:=AU hs;obtain⟨ro,rs,rp,rd,rv,rf⟩:=r;unfold rqV at*;simp only at*;have P0:=AA (PB.new w t.z (.slice na t.ns.length nc) (.slice sa t.ss.length sc) ⟨ro,rs,rp,rd,rv,rf⟩);simp only at P0;clear hn hs htab;go_enter func145,ntmps145;go_wp2_with fail;refine(A8 CG _ (A8 P0).b).mono ?_;rintro e w1 ⟨rfl,hb1⟩;have P1:=AA ((A8 P0).next hb1);obtain⟨b0,b1,b2,b3,b4,b5,b6,b7,b8⟩:=(A8 P1).t.nine;obtain⟨c0,c1,c2,c3,c4,c5,c6⟩:=(A8 P1).cells;have f:=(A8 P1).a.f;have f0:=f 0;have f1:=f 1;have f2:=f 2;have f3:=f 3;have f4:=f 4;have f5:=f 5;have f6:=f 6;simp only at b0 b1 b2 b3 b4 b5 b6 b7 b8;clear hb1 P0 CG f
 cases hgd:QC t with
 |false=>
  have HE:Hid (aK t z ⟨ro,rs,rp,rd,rv,rf⟩=3):=AA (XL (by simp[YX,hgd]));clear hgd;go_wp2_with fail;exact bodyPost_ret (v:=.tuple #[DW t0,I0 3]) (by simp[results,results145,go_sem,DW,t0,c0,c1,c2,c3,c4,c5,c6]) rfl (QS (A8 HE) (by decide) rfl (KN t0 (A8 P1).b (by omega)))
 |true=>
  have HG:=AA (LW.1 hgd);have HGB:=AA hgd;clear hgd;go_wp2_with fail;refine(A8 CZ _).mono ?_;rintro e w2 ⟨rfl,rfl⟩;clear CZ
  cases hzd:FU z with
  |false=>
   have HE:Hid (aK t z ⟨ro,rs,rp,rd,rv,rf⟩=3):=AA (XL (by simp[YX,hzd]));clear hzd;go_wp2_with fail;exact bodyPost_ret (v:=.tuple #[DW t0,I0 3]) (by simp[results,results145,go_sem,DW,t0,c0,c1,c2,c3,c4,c5,c6]) rfl (QS (A8 HE) (by decide) rfl (KN t0 (A8 P1).b (by omega)))
  |true=>
   by_cases h1:rs<1
   .have HE:Hid (aK t z ⟨ro,rs,rp,rd,rv,rf⟩=3):=AA (XL (by simp[YX];intros;omega));have hd1:decide (rs<1)=true:=decide_eq_true h1;clear hzd h1;go_wp2_with fail;exact bodyPost_ret (v:=.tuple #[DW t0,I0 3]) (by simp[results,results145,go_sem,DW,t0,c0,c1,c2,c3,c4,c5,c6]) rfl (QS (A8 HE) (by decide) rfl (KN t0 (A8 P1).b (by omega)))
   .by_cases h2:2147483647<rs
    .have HE:Hid (aK t z ⟨ro,rs,rp,rd,rv,rf⟩=3):=AA (XL (by simp[YX];intros;omega));have hd1:decide (rs<1)=false:=decide_eq_false h1;have hd2:decide (2147483647<rs)=true:=decide_eq_true h2;clear hzd h1 h2;go_wp2_with fail;exact bodyPost_ret (v:=.tuple #[DW t0,I0 3]) (by simp[results,results145,go_sem,DW,t0,c0,c1,c2,c3,c4,c5,c6]) rfl (QS (A8 HE) (by decide) rfl (KN t0 (A8 P1).b (by omega)))
    .have HH:Hid (YX t z ⟨ro,rs,rp,rd,rv,rf⟩=true):=AA (jL.2 ⟨A8 HG,hzd,by simp only;omega,by simp only;omega⟩);have hd1:decide (rs<1)=false:=decide_eq_false h1;have hd2:decide (2147483647<rs)=false:=decide_eq_false h2;clear hzd h1 h2;have X2:=AA (TAt.new w2 ⟨z,ro,rs,[],[],0,0⟩);have P2:=AA ((A8 P1).next (AB w2 (.cells #[I0 z,I0 ro,I0 rs,.string ⟨#[]⟩,.string ⟨#[]⟩,I0 0,I0 0] 49)));obtain⟨d0,d1,d2,d3,d4,d5,d6,d7,d8⟩:=(A8 P2).t.nine;simp only at d0 d1 d2 d3 d4 d5 d6 d7 d8;clear c0 c1 c2 c3 c4 c5 c6 f0 f1 f2 f3 f4 f5 f6;go_wp2_with fail;refine(A8 CF (A8 HG) w2.heap.size w2 (A8 P1).b _ (AB _ _) (Nat.le_refl _) (A8 X2)).mono ?_;rintro e w3 ⟨rfl,hb3,hx3⟩;have P3:=AA ((A8 P1).next hb3);have HX3:=AA hx3;have PF:Hid (iI t ⟨ro,rs,rp,rd,rv,rf⟩≠0->aK t z ⟨ro,rs,rp,rd,rv,rf⟩=iI t ⟨ro,rs,rp,rd,rv,rf⟩):=AA (fun h=>A22 (A8 HH) h);have PA:Hid (iI t ⟨ro,rs,rp,rd,rv,rf⟩=0->aK t z ⟨ro,rs,rp,rd,rv,rf⟩=UL t (YW t z ⟨ro,rs,rp,rd,rv,rf⟩)):=AA (fun h=>wC (A8 HH) h);clear d0 d1 d2 d3 d4 d5 d6 d7 d8 b0 b1 b2 b3 b4 b5 b6 b7 b8 P2 X2 CF HG HGB HH hb3 hx3;generalize iI t ⟨ro,rs,rp,rd,rv,rf⟩=F at*;by_cases hF:F=0
     .have PE:=AA (A8 PA hF);have X3:=AA (A8 HX3 hF);subst hF;have KX:Hid (aK t z ⟨ro,rs,rp,rd,rv,rf⟩=0->AK6 t z ⟨ro,rs,rp,rd,rv,rf⟩=YW t z ⟨ro,rs,rp,rd,rv,rf⟩):=AA (fun h=>wF h);unfold VK at CA;clear PF PA HX3;generalize aX t (YW t z ⟨ro,rs,rp,rd,rv,rf⟩)=T at*;generalize VH t (YW t z ⟨ro,rs,rp,rd,rv,rf⟩)=V at*;generalize UL t (YW t z ⟨ro,rs,rp,rd,rv,rf⟩)=E at*;generalize YW t z ⟨ro,rs,rp,rd,rv,rf⟩=x at*;obtain⟨xz,xo,xs,xp,xd,xv,xw⟩:=x;unfold DW at CA;simp only at CA;have x0:=(A8 X3).c0;have x1:=(A8 X3).c1;have x2:=(A8 X3).c2;have x3:=(A8 X3).c3;have x4:=(A8 X3).c4;have x5:=(A8 X3).c5;have x6:=(A8 X3).c6;simp only at x0 x1 x2 x3 x4 x5 x6;obtain⟨e0,e1,e2,e3,e4,e5,e6,e7,e8⟩:=(A8 P3).t.nine;obtain⟨c0,c1,c2,c3,c4,c5,c6⟩:=(A8 P3).cells;have f:=(A8 P3).a.f;have f0:=f 0;have f1:=f 1;have f2:=f 2;have f3:=f 3;have f4:=f 4;have f5:=f 5;have f6:=f 6;simp only at e0 e1 e2 e3 e4 e5 e6 e7 e8;clear f;go_wp2_with fail;refine(A8 CA _ (A8 P3).b).mono ?_;rintro e w4 ⟨vn4,vs4,ve4,rfl,n4,s4,e4,hb4⟩;obtain⟨an,cn,rfl,_⟩:=n4.slice;obtain⟨ai,ci,rfl,_⟩:=s4.slice;obtain⟨ae,ce,rfl,_⟩:=e4.slice;have P5:=AA ((A8 P3).next (AL hb4 (AB w4 (.cells #[I0 T.z,.slice an T.ns.length cn,.slice ai T.ss.length ci] 40))));have X5:=AA ((A8 X3).next (AL hb4 (AB w4 (.cells #[I0 T.z,.slice an T.ns.length cn,.slice ai T.ss.length ci] 40))));clear c0 c1 c2 c3 c4 c5 c6 f0 f1 f2 f3 f4 f5 f6 x0 x1 x2 x3 x4 x5 x6 e0 e1 e2 e3 e5 e6 e7 e8 hb4 n4 s4 e4 P3 X3 CA;obtain⟨c0,c1,c2,c3,c4,c5,c6⟩:=(A8 P5).cells;have f:=(A8 P5).a.f;have f0:=f 0;have f1:=f 1;have f2:=f 2;have f3:=f 3;have f4:=f 4;have f5:=f 5;have f6:=f 6;have x0:=(A8 X5).c0;have x1:=(A8 X5).c1;have x2:=(A8 X5).c2;have x3:=(A8 X5).c3;have x4:=(A8 X5).c4;have x5:=(A8 X5).c5;have x6:=(A8 X5).c6;simp only at x0 x1 x2 x3 x4 x5 x6;clear f;by_cases hE:E=0
      .subst hE;have HX:=AA (A8 KX (A8 PE));go_wp2_with fail;exact bodyPost_ret (v:=.tuple #[DW ⟨xz,xo,xs,xp,xd,xv,xw⟩,I0 0]) (by simp[results,results145,go_sem,DW,c0,c1,c2,c3,c4,c5,c6]) rfl (B21 (A8 PE) (A8 HX) rfl (KN ⟨xz,xo,xs,xp,xd,xv,xw⟩ (A8 P5).b (by omega)))
      .have hEb:(E !=0)=true:=by simpa using hE
       have HE:=AA hE;clear hE;go_wp2_with fail;exact bodyPost_ret (v:=.tuple #[DW t0,I0 E]) (by simp[results,results145,go_sem,DW,t0,c0,c1,c2,c3,c4,c5,c6]) rfl (QS (A8 PE) (A8 HE) rfl (KN t0 (A8 P5).b (by omega)))
     .have PE:=AA (A8 PF hF);have hFb:(F !=0)=true:=by simpa using hF
      have HF:=AA hF;clear PF PA HX3 hF CA;obtain⟨e0,e1,e2,e3,e4,e5,e6,e7,e8⟩:=(A8 P3).t.nine;obtain⟨c0,c1,c2,c3,c4,c5,c6⟩:=(A8 P3).cells;have f:=(A8 P3).a.f;have f0:=f 0;have f1:=f 1;have f2:=f 2;have f3:=f 3;have f4:=f 4;have f5:=f 5;have f6:=f 6;simp only at e0 e1 e2 e3 e4 e5 e6 e7 e8;clear f;go_wp2_with fail;exact bodyPost_ret (v:=.tuple #[DW t0,I0 F]) (by simp[results,results145,go_sem,DW,t0,c0,c1,c2,c3,c4,c5,c6]) rfl (QS (A8 PE) (A8 HF) rfl (KN t0 (A8 P3).b (by omega)))
