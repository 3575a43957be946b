/-
  Part.
-/
import Derived.Test.YthcncjimjclfpaaGreatDoorLSM
set_option maxRecDepth 20000
set_option maxHeartbeats 8000000
namespace Go.Proofs.YthcncjimjclfpaaGreatDoor
open Go.RowKit Go.Proofs.Tryz
open Go.World renaming cell?->AV
open Go.Value renaming slice->FQ
open Go.Obj renaming cells->FT
open Go renaming World->FU,Value->FV,Calls->FW
open _root_.Option renaming none->FX,some->FZ
variable{t:Tr}{n u:Nd}{z E:Int}{g:Nat}{x:GI}{e:Ending}{w' W:FU}
structure Rq where
 o:Int
 s:Int
 p:List UInt8
 d:List UInt8
 v:Int
 f:Int
def rqV(r:Rq):FV:=.agg #[I0 r.o,I0 r.s,S0 r.p,S0 r.d,I0 r.v,I0 r.f]
def uJ(l:List UInt8)(n:Int):List UInt8:=if mZ l n=0 then l++ten n.toNat else []
theorem AX7(l:List UInt8)(n:Int):BX7 l n=⟨(uJ l n).toArray⟩:=by
 by_cases h:mZ l n=0
 .rw[(A07 h).2.2.2,uJ,if_pos h]
 .rw[C27 h,uJ,if_neg h]
theorem BH8(l:List UInt8)(n:Int):(uJ l n).length<=40:=by
 by_cases h:mZ l n=0
 .obtain⟨_,_,hn,_⟩:=A07 h;rw[uJ,if_pos h];simp only[IZ,Bool.and_eq_true,decide_eq_true_eq]at hn;exact hn.1.2
 .rw[uJ,if_neg h];simp
def AA7(t:Tr)(r:Rq):Int:=if II r.p=true then(if r.s∈t.ss then(match KJ t.ns r.p with
 |none=>7
 |some n=>if r.v=-1\/r.v=n.v then 0 else 9)else 12)else 2
def CS0(t:Tr)(r:Rq):Int:=match KJ t.ns r.p with
 |none=>0
 |some n=>n.v
def C28(t:Tr)(z:Int)(r:Rq):GI:=⟨z,r.o,r.s,r.p,if r.o=5 then r.d else [],if r.o=5 then CS0 t r+1 else 0,0⟩
theorem BH9{r:Rq}(h:II r.p=false):AA7 t r=2:=by rw[AA7,if_neg (by simp[h])]
theorem BI0{r:Rq}(h:II r.p=true)(hs:r.s∉t.ss):AA7 t r=12:=by rw[AA7,if_pos h,if_neg hs]
theorem BI1{r:Rq}(h:II r.p=true)(hs:r.s∈t.ss)(hn:KJ t.ns r.p=FX):AA7 t r=7:=by rw[AA7,if_pos h,if_pos hs,hn]
theorem AA8{r:Rq}(h:II r.p=true)(hs:r.s∈t.ss)(hn:KJ t.ns r.p=FZ n):AA7 t r=if r.v=-1\/r.v=n.v then 0 else 9:=by rw[AA7,if_pos h,if_pos hs,hn]
theorem BI2{r:Rq}(hn:KJ t.ns r.p=FZ n):CS0 t r=n.v:=by rw[CS0,hn]
def cvN(t:Tr)(r:Rq):Int:=match KJ t.ns (IB r.p)with
 |none=>0
 |some u=>u.k
def AA9(t:Tr)(r:Rq):Int:=match KJ t.ns (IB r.p)with
 |none=>7
 |some u=>if mZ (LC r.p) u.k=0 then dW (IB r.p) (uJ (LC r.p) u.k)else mZ (LC r.p) u.k
def BE9(t:Tr)(r:Rq):List UInt8:=nC (IB r.p) (uJ (LC r.p) (cvN t r))
def A09(t:Tr)(r:Rq):Int:=if 0<=r.f/\r.f<=3 then(if II r.p=true/\r.p≠[47]then(if r.s∈t.ss then(if 2<=r.f then AA9 t r else 0)else 12)else 2)else 3
def CF7(t:Tr)(z:Int)(r:Rq):GI:=⟨z,r.o,r.s,if 2<=r.f then BE9 t r else r.p,r.d,0,if r.f%2=1 then r.s else 0⟩
theorem AB0{r:Rq}(h:KJ t.ns (IB r.p)=FX):AA9 t r=7:=by rw[AA9,h]
theorem AX8{r:Rq}(h:KJ t.ns (IB r.p)=FZ u)(h0:mZ (LC r.p) u.k≠0):AA9 t r=mZ (LC r.p) u.k:=by rw[AA9,h];simp only;rw[if_neg h0]
theorem AB1{r:Rq}(h:KJ t.ns (IB r.p)=FZ u)(h0:mZ (LC r.p) u.k=0):AA9 t r=dW (IB r.p) (uJ (LC r.p) u.k):=by rw[AA9,h];simp only;rw[if_pos h0]
theorem AX9{r:Rq}(h:KJ t.ns (IB r.p)=FZ u):cvN t r=u.k:=by rw[cvN,h]
theorem vW{r:Rq}(h:¬ (0<=r.f/\r.f<=3)):A09 t r=3:=by rw[A09,if_neg h]
theorem qV{r:Rq}(h:0<=r.f/\r.f<=3)(hp:¬ (II r.p=true/\r.p≠[47])):A09 t r=2:=by rw[A09,if_pos h,if_neg hp]
theorem AB2{r:Rq}(h:0<=r.f/\r.f<=3)(hp:II r.p=true/\r.p≠[47])(hs:r.s∉t.ss):A09 t r=12:=by rw[A09,if_pos h,if_pos hp,if_neg hs]
theorem jO{r:Rq}(h:0<=r.f/\r.f<=3)(hp:II r.p=true/\r.p≠[47])(hs:r.s∈t.ss)(hf:r.f<2):A09 t r=0:=by rw[A09,if_pos h,if_pos hp,if_pos hs,if_neg (by omega)]
theorem jP{r:Rq}(h:0<=r.f/\r.f<=3)(hp:II r.p=true/\r.p≠[47])(hs:r.s∈t.ss)(hf:2<=r.f):A09 t r=AA9 t r:=by rw[A09,if_pos h,if_pos hp,if_pos hs,if_pos hf]
theorem BI3{r:Rq}(h:A09 t r=0):(0<=r.f/\r.f<=3)/\(II r.p=true/\r.p≠[47])/\r.s∈t.ss/\(2<=r.f->AA9 t r=0):=by
 by_cases hf:0<=r.f/\r.f<=3
 .by_cases hp:II r.p=true/\r.p≠[47]
  .by_cases hs:r.s∈t.ss
   .exact⟨hf,hp,hs,fun h2=>by rw[<-h,jP hf hp hs h2]⟩
   .rw[AB2 hf hp hs]at h;exact absurd h (by decide)
  .rw[qV hf hp]at h;exact absurd h (by decide)
 .rw[vW hf]at h;exact absurd h (by decide)
def mO(t:Tr)(r:Rq):Int:=if r.o=1\/r.o=2 then 0 else if r.o=3 then A09 t r else if r.o=4\/r.o=5 then AA7 t r else 4
def dY(t:Tr)(z:Int)(r:Rq):GI:=if r.o=3 then CF7 t z r else if r.o=4\/r.o=5 then C28 t z r else⟨z,r.o,r.s,[],[],0,0⟩
theorem qW{r:Rq}(h:r.o=1\/r.o=2):mO t r=0/\dY t z r=⟨z,r.o,r.s,[],[],0,0⟩:=by
 refine⟨by rw[mO,if_pos h],?_⟩;rw[dY,if_neg (by omega),if_neg (by omega)]
theorem jQ{r:Rq}(h:r.o=3):mO t r=A09 t r/\dY t z r=CF7 t z r:=by
 refine⟨by rw[mO,if_neg (by omega),if_pos h],by rw[dY,if_pos h]⟩
theorem C29{r:Rq}(h:r.o=4\/r.o=5):mO t r=AA7 t r/\dY t z r=C28 t z r:=by
 refine⟨by rw[mO,if_neg (by omega),if_neg (by omega),if_pos h],by rw[dY,if_neg (by omega),if_pos h]⟩
theorem BI4{r:Rq}(h:r.o<1\/5<r.o):mO t r=4:=by
 rw[mO,if_neg (by omega),if_neg (by omega),if_neg (by omega)]
noncomputable def dZ(t:Tr)(z:Int)(r:Rq):Bool:=UC t&&KD z&&decide (1<=r.s)&&decide (r.s<=2147483647)
noncomputable def fM(t:Tr)(z:Int)(r:Rq):Int:=if dZ t z r=true then(if mO t r=0 then WG t (dY t z r)else mO t r)else 3
noncomputable def AK2(t:Tr)(z:Int)(r:Rq):GI:=if fM t z r=0 then dY t z r else t0
theorem YL{r:Rq}:dZ t z r=true↔QA t/\KD z=true/\1<=r.s/\r.s<=2147483647:=by
 simp only[dZ,Bool.and_eq_true,decide_eq_true_eq,OL,and_assoc]
theorem aV{r:Rq}(h:dZ t z r=false):fM t z r=3:=by rw[fM,if_neg (by simp[h])]
theorem AB3{r:Rq}(h:dZ t z r=true)(hf:mO t r≠0):fM t z r=mO t r:=by rw[fM,if_pos h,if_neg hf]
theorem jR{r:Rq}(h:dZ t z r=true)(hf:mO t r=0):fM t z r=WG t (dY t z r):=by rw[fM,if_pos h,if_pos hf]
theorem C30{r:Rq}(h:fM t z r≠0):AK2 t z r=t0:=by rw[AK2,if_neg h]
theorem jS{r:Rq}(h:fM t z r=0):AK2 t z r=dY t z r:=by rw[AK2,if_pos h]
theorem AB4{r:Rq}(h:fM t z r=0):dZ t z r=true/\mO t r=0/\WG t (dY t z r)=0:=by
 cases hh:dZ t z r with
 |false=>rw[aV hh]at h;exact absurd h (by decide)
 |true=>
  by_cases hf:mO t r=0
  .exact⟨rfl,hf,by rw[<-jR hh hf];exact h⟩
  .rw[AB3 hh hf]at h;exact absurd h hf
theorem AK3(t:Tr)(z:Int)(r:Rq):(dY t z r).z=z/\(dY t z r).o=r.o/\(dY t z r).s=r.s/\((dY t z r).w=0\/(dY t z r).w=r.s):=by
 unfold dY
 split
 .refine⟨rfl,rfl,rfl,?_⟩;simp only[CF7]
  split
  .exact .inr rfl
  .exact .inl rfl
 .split
  .exact⟨rfl,rfl,rfl,.inl rfl⟩
  .exact⟨rfl,rfl,rfl,.inl rfl⟩
theorem CI1(t:Tr)(z:Int)(r:Rq):(dY t z r).d.length<=r.d.length:=by
 unfold dY
 split
 .exact Nat.le_refl _
 .split
  .simp only[C28]
   split
   .exact Nat.le_refl _
   .simp
  .simp
structure FitP(t:Tr)(z:Int)(r:Rq)(x:GI):Prop where
 app:WG t x=0
 az:(WY t x).z=z
 z:x.z=z
 o:x.o=r.o
 s:x.s=r.s
 gd:gdE x=0
 w:x.w=0\/x.w=r.s
theorem AK4{r:Rq}(h:fM t z r=0):FitP t z r (AK2 t z r):=by
 obtain⟨_,_,ha⟩:=AB4 h;rw[jS h];obtain⟨e1,e2,e3,e4⟩:=AK3 t z r;exact⟨ha,(YK ha).2.1.trans e1,e1,e2,e3,(PG (iG ha).1).2.1,e4⟩
theorem BI5{p:List UInt8}(hp:II p=true)(hr:p≠[47]):II (IB p)=true/\IZ (LC p)=true/\RG (IB p)++LC p=p:=by
 obtain⟨a,b,rfl,hb⟩:=YI hp;rw[U9 hp hr hb,nX hp hr hb];obtain⟨a',b',e,hb',h1,h2,h3,_⟩:=A08 hp hr;have e1:=OJ b hb a;rw[e,OJ b' hb' a']at e1;simp only[Option.some.injEq,Prod.mk.injEq]at e1;obtain⟨rfl,rfl⟩:=e1;exact⟨h2,h1,h3⟩
theorem BI6{r:Rq}(hp:II r.p=true)(hr:r.p≠[47])(h:AA9 t r=0):∃u,KJ t.ns (IB r.p)=FZ u/\0<=u.k/\u.k<=2147483647/\BE9 t r=r.p++ten u.k.toNat/\IB (BE9 t r)=IB r.p:=by
 cases hu:KJ t.ns (IB r.p)with
 |none=>rw[AB0 hu]at h;exact absurd h (by decide)
 |some u=>
  by_cases h0:mZ (LC r.p) u.k=0
  .rw[AB1 hu h0]at h;obtain⟨k0,k1,hn,_⟩:=A07 h0;obtain⟨hd,hs,he⟩:=BI5 hp hr;have e1:uJ (LC r.p) u.k=LC r.p++ten u.k.toNat:=by rw[uJ,if_pos h0]
   have hb:(II (IB r.p)&&IZ (uJ (LC r.p) u.k))=true:=by rw[hd,e1,hn];rfl
   have hl:(RG (IB r.p)++uJ (LC r.p) u.k).length<=200:=by
    by_cases hl:(RG (IB r.p)++uJ (LC r.p) u.k).length<=200
    .exact hl
    .rw[(vS hb (by omega)).2]at h;exact absurd h (by decide)
   have e2:BE9 t r=r.p++ten u.k.toNat:=by
    rw[BE9,AX9 hu,(vT hb hl).1,e1,<-List.append_assoc,he]
   refine⟨u,rfl,k0,k1,e2,?_⟩;rw[e1]at hl;obtain⟨a,ea,hm,hda,hg,hne,_⟩:=AK1 hd hn hl;rw[<-List.append_assoc,he]at ea hg hne;rw[e2];rw[ea]at hg hne⊢;rw[U9 hg hne hm];exact hda
  .rw[AX8 hu h0]at h;exact absurd h h0
theorem QA.pwf(g:QA t):WfT t:=by
 refine⟨fun s hs=>by have:=g.ses.2 s hs;omega,fun n hn=>?_⟩;have k:=g.nod.ok n hn;exact⟨by have:=MP k.path;omega,by have:=k.data;omega⟩
def qB(t:Tr)(p:List UInt8):Nd:=(KJ t.ns p).getD WI
def AH1(t:Tr)(p:List UInt8):Int:=if(KJ t.ns p).isSome=true then 0 else 7
theorem iT{p:List UInt8}(h:KJ t.ns p=FZ n):qB t p=n/\AH1 t p=0:=by
 rw[qB,AH1,h];exact⟨rfl,rfl⟩
theorem iU{p:List UInt8}(h:KJ t.ns p=FX):qB t p=WI/\AH1 t p=7:=by
 rw[qB,AH1,h];exact⟨rfl,rfl⟩
theorem iV(t:Tr)(vn vs:FV)(p:List UInt8)(w:FU)(g:QA t)(hn:IU w vn t.ns):
  FW prog 9 #[.agg #[I0 t.z,vn,vs],S0 p] w (R0 w (.tuple #[TY (qB t p),I0 (AH1 t p)])):=by
 have few:=g.nod.few;rcases Z4 p t.ns g.nod.asc with⟨A,n,B,T⟩|⟨A,B,G⟩
 .have hm:n∈t.ns:=by rw[T.eq];simp
  have sl:=g.pwf.CK3 n hm;rw[(iT T.look).1,(iT T.look).2];exact AN9 t.z vn vs t.ns A B n p w hn (by omega) T sl.1 sl.2
 .rw[(iU G.look).1,(iU G.look).2];exact BN0 t.z vn vs t.ns A B p w hn (by omega) G
structure TR(W:FU)(q:Nat)(z:Int)(vn vs:FV)(r:Rq):Prop where
 t:W.heap[q]?=FZ (FT #[I0 z,vn,vs] 61 (0,0))
 r:W.heap[q+1]?=FZ (FT #[I0 r.o,I0 r.s,S0 r.p,S0 r.d,I0 r.v,I0 r.f] 29 (0,0))
section
variable {W V:FU} {q:Nat} {z:Int} {vn vs:FV} {r:Rq}
theorem TR.lt(h:TR W q z vn vs r):q+1<W.heap.size:=(Array.getElem?_eq_some_iff.1 h.r).1
theorem TR.next(h:TR W q z vn vs r)(hb:B0 W V):TR V q z vn vs r:=⟨(hb.block _ (by have:=h.lt;omega)).trans h.t,(hb.block _ h.lt).trans h.r⟩
theorem TR.other(h:TR W q z vn vs r){a:Addr}(v:FV)(h1:a.block<q\/q+1<a.block):TR (W.setCell a v) q z vn vs r:=
 ⟨(Below.heap_setCell W a v q (by omega)).trans h.t,(Below.heap_setCell W a v (q+1) (by omega)).trans h.r⟩
theorem TR.nine(h:TR W q z vn vs r):W.cell? ⟨q,0,FX⟩=FZ (I0 z)/\W.cell? ⟨q,1,FX⟩=FZ vn/\W.cell? ⟨q,2,FX⟩=FZ vs/\W.cell? ⟨q+1,0,FX⟩=FZ (I0 r.o)/\W.cell? ⟨q+1,1,FX⟩=FZ (I0 r.s)/\W.cell? ⟨q+1,2,FX⟩=FZ (S0 r.p)/\W.cell? ⟨q+1,3,FX⟩=FZ (S0 r.d)/\W.cell? ⟨q+1,4,FX⟩=FZ (I0 r.v)/\W.cell? ⟨q+1,5,FX⟩=FZ (I0 r.f):=by
 have h1:=h.t;have h2:=h.r;refine⟨?_,?_,?_,?_,?_,?_,?_,?_,?_⟩<;>simp[AV,h1,h2]
end
theorem TR.new(w:FU)(z:Int)(vn vs:FV)(r:Rq):TR ((w.alloc (FT #[I0 z,vn,vs] 61)).alloc (FT #[I0 r.o,I0 r.s,S0 r.p,S0 r.d,I0 r.v,I0 r.f] 29)) w.heap.size z vn vs r:=by
 refine⟨?_,?_⟩
 .rw[(G7 _ _).block _ (by simp)];exact heap_alloc_new w _
 .have h:=heap_alloc_new (w.alloc (FT #[I0 z,vn,vs] 61)) (FT #[I0 r.o,I0 r.s,S0 r.p,S0 r.d,I0 r.v,I0 r.f] 29);rw[show (w.alloc (FT #[I0 z,vn,vs] 61)).heap.size=w.heap.size+1 by simp]at h;exact h
def fJ(u:FU)(g:Nat)(E:Int)(x:GI)(e:Ending)(w':FU):Prop:=
 e=.returned (I0 E)/\B0 u w'/\(E=0->TAt w' g x)
theorem MK{u:FU}{E':Int}(hE:E=E')(h0:E'≠0)(he:e=.returned (I0 E'))(hb:B0 u w'):fJ u g E x e w':=
 ⟨by rw[hE];exact he,hb,fun h=>absurd (hE.symm.trans h) h0⟩
theorem YB{u:FU}(hE:E=0)(he:e=.returned (I0 0))(hb:B0 u w')(hx:TAt w' g x):fJ u g E x e w':=
 ⟨by rw[hE];exact he,hb,fun _=>hx⟩
theorem AR1{a:Addr}{v x:FV}{k j:Nat}(h:W.cell? ⟨k,j,FX⟩=FZ x)(hk:k≠a.block):(W.setCell a v).cell? ⟨k,j,FX⟩=FZ x:=by
 have e:=Below.heap_setCell W a v k hk;unfold AV at h⊢;simp only at h⊢;rw[e];exact h
theorem TAt.p(h:TAt W g x)(l:List UInt8):TAt (W.setCell ⟨g,3,FX⟩ (S0 l)) g {x with p:=l}:=by
 unfold TAt at*;rw[GL _ h];simp
theorem TAt.d(h:TAt W g x)(l:List UInt8):TAt (W.setCell ⟨g,4,FX⟩ (S0 l)) g {x with d:=l}:=by
 unfold TAt at*;rw[GL _ h];simp
theorem TAt.v(h:TAt W g x)(l:Int):TAt (W.setCell ⟨g,5,FX⟩ (I0 l)) g {x with v:=l}:=by
 unfold TAt at*;rw[GL _ h];simp
theorem TAt.w(h:TAt W g x)(l:Int):TAt (W.setCell ⟨g,6,FX⟩ (I0 l)) g {x with w:=l}:=by
 unfold TAt at*;rw[GL _ h];simp
theorem A66(t:Tr)(z:Int)(vn vs:FV)(r:Rq)(g:Nat)(u w:FU)(gt:QA t)(hn:IU u vn t.ns)(hs:IU u vs t.ss)(hb:B0 u w)(hg:u.heap.size<=g)(hx:TAt w g ⟨z,r.o,r.s,[],[],0,0⟩)(ho:r.o=4\/r.o=5)(hp:r.p.length<=140737488355328)(hd:r.d.length<=140737488355328):
  FW prog 166 #[P0 g,.agg #[I0 t.z,vn,vs],rqV r] w (fJ u g (AA7 t r) (C28 t z r)):=by
 have CG:=G6 (fun W (hW:B0 u W)=>iV t vn vs r.p W gt (hn.next hW));have CO:=G6 (fun W (hW:B0 u W)=>bI t.z vn vs t.ss r.s W (hs.next hW) gt.ses);have CP:=G6 (fun W=>LY ⟨r.p.toArray⟩ W);have CL:=G6 (fun W=>NT r.p W (by omega));have CD:=G6 (fun W=>NT r.d W (by omega));obtain⟨na,nc,rfl⟩:=GK hn;obtain⟨sa,sc,rfl⟩:=GK hs;unfold TY at CG;obtain⟨ro,rs,rp,rd,rv,rf⟩:=r;unfold rqV;simp only at*;have X0:=G6 hx;have B0:=G6 hb;have hgl:=hx.lt;have R0:=G6 (TR.new w t.z (FQ na t.ns.length nc) (FQ sa t.ss.length sc) ⟨ro,rs,rp,rd,rv,rf⟩);clear hn hs hb hx;go_enter func166,ntmps166;go_wp2_with fail;refine(G5 CG _ (G8 (G8 (G5 B0) (G7 _ _)) (G7 _ _))).mono ?_;rintro e w1 ⟨rfl,hb1⟩;have R1:=G6 ((G5 R0).next hb1);have B1:=G6 (G8 (G5 B0) (GU (GU hb1)));have X1:=G6 ((G5 X0).next (GU (GU hb1)));clear hb1 R0 B0 X0 CG;obtain⟨N,hN⟩:∃N,qB t rp=N:=⟨_,rfl⟩;obtain⟨E,hE⟩:∃E,AH1 t rp=E:=⟨_,rfl⟩;rw[hN,hE];have HN:=G6 hN;have HE:=G6 hE;clear hN hE;obtain⟨np,nd,nc,nm,nq,nv,nk,no,nn⟩:=N;simp only;have R2:=G6 ((G5 R1).next (G7 w1 (FT #[S0 np,S0 nd,I0 nc,I0 nm,I0 nq,I0 nv,I0 nk,I0 no,I0 nn] 49)));obtain⟨a0,a1,a2,a3,a4,a5,a6,a7,a8⟩:=(G5 R2).nine;simp only at a0 a1 a2 a3 a4 a5 a6 a7 a8;go_wp2_with fail;refine(G5 CP _).mono ?_;rintro e w2 ⟨rfl,hb2⟩;have R3:=G6 ((G5 R2).next hb2);have B3:=G6 (G8 (G5 B1) (GU hb2));have X3:=G6 ((G5 X1).next (GU hb2));have D3:w2.cell? ⟨w1.heap.size,5,FX⟩=FZ (I0 nv):=by rw[hb2.cell (p:=⟨w1.heap.size,5,FX⟩) (by simp)];simp
 obtain⟨b0,b1,b2,b3,b4,b5,b6,b7,b8⟩:=(G5 R3).nine;simp only at b0 b1 b2 b3 b4 b5 b6 b7 b8;have hg1:=(G5 X1).lt;clear a0 a1 a2 a3 a4 a5 a6 a7 a8 hb2 R1 R2 B1 X1 CP
 cases hgd:II rp with
 |false=>
  have HG:=G6 hgd;clear hgd;go_wp2_with fail;go_ret;exact MK (BH9 (G5 HG)) (by decide) rfl (G5 B3)
 |true=>
  have HG:=G6 hgd;clear hgd;go_wp2_with fail;refine(G5 CO _ (G5 B3)).mono ?_;rintro e w3 ⟨rfl,hb3⟩;have R4:=G6 ((G5 R3).next hb3);have B4:=G6 (G8 (G5 B3) hb3);have X4:=G6 ((G5 X3).next hb3);have D4:w3.cell? ⟨w1.heap.size,5,FX⟩=FZ (I0 nv):=by rw[hb3.cell (p:=⟨w1.heap.size,5,FX⟩) (World.block_lt_of_cell? _ _ D3)];exact D3
  obtain⟨d0,d1,d2,d3,d4,d5,d6,d7,d8⟩:=(G5 R4).nine;simp only at d0 d1 d2 d3 d4 d5 d6 d7 d8;clear b0 b1 b2 b3 b4 b5 b6 b7 b8 hb3 R3 B3 X3 CO D3;by_cases hm:rs∈t.ss
  .rw[show decide (rs∈t.ss)=true from decide_eq_true hm];have HM:=G6 hm;clear hm
   cases hl:KJ t.ns rp with
   |none=>
    have HL:=G6 hl;obtain⟨_,h7⟩:=iU hl;rw[G5 HE]at h7;subst h7;clear hl;go_wp2_with fail;go_ret;exact MK (BI1 (G5 HG) (G5 HM) (G5 HL)) (by decide) rfl (G5 B4)
   |some n=>
    have HL:=G6 hl;obtain⟨hnn,h0⟩:=iT hl;rw[G5 HE]at h0;subst h0;rw[G5 HN]at hnn;have hnv:n.v=nv:=by rw[<-hnn]
    have hko:=gt.nod.ok n (SC hl).1;have hv0:0<=nv:=by have:=hko.v0;omega
    have hv1:nv<=2147483647:=by have:=hko.v1;omega
    have HV:=G6 hnv;clear hl hnn hnv hko;by_cases hv:rv=-1\/rv=nv
    .have HF:Hid (AA7 t ⟨ro,rs,rp,rd,rv,rf⟩=0):=G6 ((AA8 (G5 HG) (G5 HM) (G5 HL)).trans (if_pos (by rw[G5 HV];exact hv)));have HY:Hid (CS0 t ⟨ro,rs,rp,rd,rv,rf⟩=nv):=G6 ((BI2 (G5 HL)).trans (G5 HV));have hgw:=(G5 X4).lt;have hc:(rv !=-1)=false\/((rv !=-1)=true/\(rv !=nv)=false):=by
      rcases hv with h|h
      .exact .inl (by simp[h])
      .by_cases h1:rv=-1
       .exact .inl (by simp[h1])
       .exact .inr ⟨by simp[h1],by simp[h]⟩
     clear HN HE HG HM HL HV hv;rcases hc with hc1|⟨hc1,hc2⟩
     all_goals
      rcases ho with rfl|rfl
      .have HX:Hid (C28 t z ⟨4,rs,rp,rd,rv,rf⟩=⟨z,4,rs,rp,[],0,0⟩):=G6 rfl;go_wp2_with fail;refine(G5 CL _).mono ?_;rintro e w4 ⟨rfl,hb4⟩;have R5:=G6 ((G5 R4).next hb4);have B5:=G6 (G8 (G5 B4) hb4);have X5:=G6 ((G5 X4).next hb4);have D5:w4.cell? ⟨w1.heap.size,5,FX⟩=FZ (I0 nv):=by rw[hb4.cell (p:=⟨w1.heap.size,5,FX⟩) (World.block_lt_of_cell? _ _ D4)];exact D4
       have k3:=(G5 X5).c3;have f3:=(G5 X5).f 3;have hgw5:=(G5 X5).lt;obtain⟨e0,e1,e2,e3,e4,e5,e6,e7,e8⟩:=(G5 R5).nine;simp only at e0 e1 e2 e3 e4 e5 e6 e7 e8;have hne:w.heap.size+1≠g:=by omega
       clear d0 d1 d2 d3 d4 d5 d6 d7 d8 hb4 R4 B4 X4 D4 CL;go_wp2_with fail;go_ret;exact YB (G5 HF) rfl ((G5 B5).setCell hg _) (by rw[G5 HX];exact(G5 X5).p rp)
      .have HX:Hid (C28 t z ⟨5,rs,rp,rd,rv,rf⟩=⟨z,5,rs,rp,rd,nv+1,0⟩):=G6 (by rw[C28,G5 HY];rfl);go_wp2_with fail;refine(G5 CL _).mono ?_;rintro e w4 ⟨rfl,hb4⟩;have R5:=G6 ((G5 R4).next hb4);have B5:=G6 (G8 (G5 B4) hb4);have X5:=G6 ((G5 X4).next hb4);have D5:w4.cell? ⟨w1.heap.size,5,FX⟩=FZ (I0 nv):=by rw[hb4.cell (p:=⟨w1.heap.size,5,FX⟩) (World.block_lt_of_cell? _ _ D4)];exact D4
       have k3:=(G5 X5).c3;have f3:=(G5 X5).f 3;have hgw5:=(G5 X5).lt;obtain⟨e0,e1,e2,e3,e4,e5,e6,e7,e8⟩:=(G5 R5).nine;simp only at e0 e1 e2 e3 e4 e5 e6 e7 e8;have hne:w.heap.size+1≠g:=by omega
       clear d0 d1 d2 d3 d4 d5 d6 d7 d8 hb4 R4 B4 X4 D4 CL;go_wp2_with fail;refine(G5 CD _).mono ?_;rintro e w6 ⟨rfl,hb6⟩;have hgw6:g<(w4.setCell ⟨g,3,FX⟩ (S0 rp)).heap.size:=by simp;omega
       have B6:Hid (B0 u w6):=G6 (G8 ((G5 B5).setCell (by exact hg) _) hb6);have X6:=G6 (((G5 X5).p rp).next hb6);have D6:w6.cell? ⟨w1.heap.size,5,FX⟩=FZ (I0 nv):=by
        have D7:=AR1 (a:=⟨g,3,FX⟩) (v:=S0 rp) D5 (by simp only;omega);rw[hb6.cell (p:=⟨w1.heap.size,5,FX⟩) (World.block_lt_of_cell? _ _ D7)];exact D7
       have k4:=(G5 X6).c4;have f4:=(G5 X6).f 4;have k5:=(G5 X6).c5;have f5:=(G5 X6).f 5;clear hb6 R5 B5 X5 D5 k3 f3 CD;go_wp2_with fail;go_ret;exact YB (G5 HF) rfl (((G5 B6).setCell hg _).setCell hg _) (by rw[G5 HX];exact((G5 X6).d rd).v (nv+1))
    .have HF:Hid (AA7 t ⟨ro,rs,rp,rd,rv,rf⟩=9):=G6 ((AA8 (G5 HG) (G5 HM) (G5 HL)).trans (if_neg (by rw[G5 HV];exact hv)));have hb1:(rv !=-1)=true:=by simp;omega
     have hb2:(rv !=nv)=true:=by simp;omega
     clear HN HE HG HM HL HV hv;go_wp2_with fail;go_ret;exact MK (G5 HF) (by decide) rfl (G5 B4)
  .rw[show decide (rs∈t.ss)=false from decide_eq_false hm];have HM:=G6 hm;clear hm;go_wp2_with fail;go_ret;exact MK (BI0 (G5 HG) (G5 HM)) (by decide) rfl (G5 B4)
theorem A67(t:Tr)(vn vs:FV)(r:Rq)(x:GI)(g:Nat)(u w:FU)(gt:QA t)(hn:IU u vn t.ns)(hb:B0 u w)(hg:u.heap.size<=g)(hx:TAt w g x)(hxp:x.p=r.p)(htab:Lib.TabIs prog u "internal/strconv.uint64pow10" .u64 Lib.pow10Tab):
  FW prog 197 #[P0 g,.agg #[I0 t.z,vn,vs]] w (fJ u g (AA9 t r) {x with p:=BE9 t r}):=by
 have CS:=G6 (fun W=>NI r.p W);have CG:=G6 (fun W (hW:B0 u W)=>iV t vn vs (IB r.p) W gt (hn.next hW));have hdl:=WZ r.p;have hsl:(LC r.p).length<=200:=by
  rw[LC]
  split
  .rename_i h
   obtain⟨a,b,e,hb⟩:=YI h.1;rw[e,OJ b hb a];have:=MP h.1;rw[e]at this;simp at this⊢;omega
  .simp
 have CN:=G6 (fun(n:Int) W (hW:B0 u W)=>AJ8 ⟨(LC r.p).toArray⟩ n W (by show (LC r.p).length<=_;omega) (AA5 htab hW));have CJ:=G6 (fun(m:List UInt8) (hm:m.length<=140737488355328) W=>BH6 (IB r.p) m W hm);obtain⟨na,nc,rfl⟩:=GK hn;unfold TY at CG;rw[<-hxp]at CS;have k3:=hx.c3;rw[hxp]at k3 CS;have X0:=G6 hx;have B0:=G6 hb;have hgl:=hx.lt;have K0:∀W,Below (w.alloc (FT #[I0 t.z,FQ na t.ns.length nc,vs] 61)).heap.size (w.alloc (FT #[I0 t.z,FQ na t.ns.length nc,vs] 61)) W->W.heap[w.heap.size]?=FZ (FT #[I0 t.z,FQ na t.ns.length nc,vs] 61 (0,0)):=fun W hW=>(hW.block _ (by simp)).trans (heap_alloc_new w _);have HK:=G6 K0;have HXP:=G6 hxp;clear hn hb hx K0 hxp;go_enter func197,ntmps197;go_wp2_with fail;refine(G5 CS _).mono ?_;rintro e w1 ⟨rfl,hb1⟩;have T1:=G5 HK w1 hb1;have B1:=G6 (G8 (G5 B0) (GU hb1));have X1:=G6 ((G5 X0).next (GU hb1));have c0:w1.cell? ⟨w.heap.size,0,FX⟩=FZ (I0 t.z):=by simp[AV,T1]
 have c1:w1.cell? ⟨w.heap.size,1,FX⟩=FZ (FQ na t.ns.length nc):=by simp[AV,T1]
 have c2:w1.cell? ⟨w.heap.size,2,FX⟩=FZ vs:=by simp[AV,T1]
 clear hb1 T1 B0 X0 CS HK k3;obtain⟨D,hD⟩:∃D,IB r.p=D:=⟨_,rfl⟩;obtain⟨S,hS⟩:∃S,LC r.p=S:=⟨_,rfl⟩;rw[hD]at CG hdl CJ⊢;rw[hS]at CN hsl⊢;have HD:=G6 hD;have HS:=G6 hS;clear hD hS;go_wp2_with fail;refine(G5 CG _ (G5 B1)).mono ?_;rintro e w2 ⟨rfl,hb2⟩;have B2:=G6 (G8 (G5 B1) hb2);have X2:=G6 ((G5 X1).next hb2);clear hb2 B1 X1 c0 c1 c2 CG
 cases hl:KJ t.ns D with
 |none=>
  obtain⟨h1,h2⟩:=iU hl;have HL:=G6 hl;rw[h1,h2];clear hl h1 h2;unfold WI;simp only;go_wp2_with fail;go_ret;exact MK (AB0 (by rw[G5 HD];exact G5 HL)) (by decide) rfl (G8 (G5 B2) (G7 _ _))
 |some n=>
  obtain⟨h1,h2⟩:=iT hl;have HL:=G6 hl;rw[h1,h2];clear hl h1 h2;obtain⟨np,nd,nc',nm,nq,nv,nk,no,nn⟩:=n;simp only;have B3:=G6 (G8 (G5 B2) (G7 w2 (FT #[S0 np,S0 nd,I0 nc',I0 nm,I0 nq,I0 nv,I0 nk,I0 no,I0 nn] 49)));go_wp2_with fail;refine(G5 CN nk _ (G5 B3)).mono ?_;rintro e w3 ⟨rfl,hb3⟩;rw[AX7];have B4:=G6 (G8 (G5 B3) hb3);have X4:=G6 ((G5 X2).next (GU hb3));have hml:=BH8 S nk;have CJ1:=G6 (G5 CJ (uJ S nk) (by omega));have NS:Hid (mZ S nk≠0->AA9 t r=mZ S nk):=G6 (fun h=>by
   have h':=AX8 (t:=t) (r:=r) (u:=⟨np,nd,nc',nm,nq,nv,nk,no,nn⟩) (by rw[G5 HD];exact G5 HL) (by rw[G5 HS];exact h);rw[G5 HS]at h';exact h')
  have NJ:Hid (mZ S nk=0->AA9 t r=dW D (uJ S nk)):=G6 (fun h=>by
   have h':=AB1 (t:=t) (r:=r) (u:=⟨np,nd,nc',nm,nq,nv,nk,no,nn⟩) (by rw[G5 HD];exact G5 HL) (by rw[G5 HS];exact h);rw[G5 HS,G5 HD]at h';exact h')
  have NP:Hid (BE9 t r=nC D (uJ S nk)):=G6 (by
   rw[BE9,G5 HD,G5 HS,AX9 (u:=⟨np,nd,nc',nm,nq,nv,nk,no,nn⟩) (by rw[G5 HD];exact G5 HL)])
  clear hb3 B3 X2 B2 CN CJ HL HD HS;generalize uJ S nk=M at*;generalize mZ S nk=F at*;by_cases hF:F=0
  .subst hF;have HN:=G6 (G5 NJ rfl);clear NS NJ;go_wp2_with fail;refine(G5 CJ1 _).mono ?_;rintro e w4 ⟨rfl,hb4⟩;have B5:=G6 (G8 (G5 B4) hb4);have X5:=G6 ((G5 X4).next hb4);have k3:=(G5 X5).c3;have f3:=(G5 X5).f 3;clear hb4 B4 X4 CJ1;generalize nC D M=J at*;generalize dW D M=G at*;go_wp2_with fail;go_ret;refine⟨?_,(G5 B5).setCell hg _,fun _=>?_⟩
   .rw[G5 HN];rfl
   .rw[G5 NP];exact(G5 X5).p J
  .have hFb:(F !=0)=true:=by simpa using hF
   have HN:=G6 (G5 NS hF);have HF:=G6 hF;clear NS NJ hF;go_wp2_with fail;go_ret;exact MK (G5 HN) (G5 HF) rfl (G5 B4)
theorem A68(t:Tr)(z:Int)(vn vs:FV)(r:Rq)(g:Nat)(u w:FU)(gt:QA t)(hn:IU u vn t.ns)(hs:IU u vs t.ss)(hb:B0 u w)(hg:u.heap.size<=g)(hx:TAt w g ⟨z,r.o,r.s,[],[],0,0⟩)(hp:r.p.length<=140737488355328)(hd:r.d.length<=140737488355328)(htab:Lib.TabIs prog u "internal/strconv.uint64pow10" .u64 Lib.pow10Tab):
  FW prog 165 #[P0 g,.agg #[I0 t.z,vn,vs],rqV r] w (fJ u g (A09 t r) (CF7 t z r)):=by
 have CO:=G6 (fun W (hW:B0 u W)=>bI t.z vn vs t.ss r.s W (hs.next hW) gt.ses);have CP:=G6 (fun W=>LY ⟨r.p.toArray⟩ W);have CL:=G6 (fun W=>NT r.p W (by omega));have CD:=G6 (fun W=>NT r.d W (by omega));have CN:=G6 (fun(x:GI) (hxp:x.p=r.p) W (hW:B0 u W) (hx:TAt W g x)=>A67 t vn vs r x g u W gt hn hW hg hx hxp htab);obtain⟨na,nc,rfl⟩:=GK hn;obtain⟨sa,sc,rfl⟩:=GK hs;obtain⟨ro,rs,rp,rd,rv,rf⟩:=r;unfold rqV;simp only at*;have X0:=G6 hx;have B0:=G6 hb;have hgl:=hx.lt;have R0:=G6 (TR.new w t.z (FQ na t.ns.length nc) (FQ sa t.ss.length sc) ⟨ro,rs,rp,rd,rv,rf⟩);clear hn hs hb hx;by_cases hf:0<=rf/\rf<=3
 .have hf1:=hf.1;have hf2:=hf.2;have HF:=G6 hf;have hfb1:(decide (rf<0))=false:=by simp;omega
  have hfb2:(decide (3<rf))=false:=by simp;omega
  clear hf;obtain⟨a0,a1,a2,a3,a4,a5,a6,a7,a8⟩:=(G5 R0).nine;simp only at a0 a1 a2 a3 a4 a5 a6 a7 a8;go_enter func165,ntmps165;go_wp2_with fail;refine(G5 CP _).mono ?_;rintro e w1 ⟨rfl,hb1⟩;have R1:=G6 ((G5 R0).next hb1);have B1:=G6 (G8 (G5 B0) (GU (GU hb1)));have X1:=G6 ((G5 X0).next (GU (GU hb1)));obtain⟨b0,b1,b2,b3,b4,b5,b6,b7,b8⟩:=(G5 R1).nine;simp only at b0 b1 b2 b3 b4 b5 b6 b7 b8;clear a0 a1 a2 a3 a4 a5 a6 a7 a8 hb1 R0 B0 X0 CP
  cases hgd:II rp with
  |false=>
   have HG:=G6 hgd;clear hgd;go_wp2_with fail;go_ret;exact MK (qV (G5 HF) (fun h=>by have h1:=h.1;rw[G5 HG]at h1;exact absurd h1 (by decide))) (by decide) rfl (G5 B1)
  |true=>
   have HG:=G6 hgd;clear hgd;by_cases hr:rp=[47]
   .have HR:=G6 hr;subst hr;go_wp2_with fail;go_ret;exact MK (qV (G5 HF) (fun h=>h.2 rfl)) (by decide) rfl (G5 B1)
   .have HR:=G6 hr;have hrb:(rp==[47])=false:=by simpa using hr
    clear hr;go_wp2_with fail;refine(G5 CO _ (G5 B1)).mono ?_;rintro e w2 ⟨rfl,hb2⟩;have R2:=G6 ((G5 R1).next hb2);have B2:=G6 (G8 (G5 B1) hb2);have X2:=G6 ((G5 X1).next hb2);obtain⟨d0,d1,d2,d3,d4,d5,d6,d7,d8⟩:=(G5 R2).nine;simp only at d0 d1 d2 d3 d4 d5 d6 d7 d8;clear b0 b1 b2 b3 b4 b5 b6 b7 b8 hb2 R1 B1 X1 CO hrb;by_cases hm:rs∈t.ss
    .rw[show decide (rs∈t.ss)=true from decide_eq_true hm];have HM:=G6 hm;clear hm;go_wp2_with fail;refine(G5 CL _).mono ?_;rintro e w3 ⟨rfl,hb3⟩;have R3:=G6 ((G5 R2).next hb3);have B3:=G6 (G8 (G5 B2) hb3);have X3:=G6 ((G5 X2).next hb3);obtain⟨e0,e1,e2,e3,e4,e5,e6,e7,e8⟩:=(G5 R3).nine;simp only at e0 e1 e2 e3 e4 e5 e6 e7 e8;have k3:=(G5 X3).c3;have f3:=(G5 X3).f 3;have hne:w.heap.size+1≠g:=by omega
     have hne0:w.heap.size≠g:=by omega
     clear d0 d1 d2 d3 d4 d5 d6 d7 d8 hb3 R2 B2 X2 CL;go_wp2_with fail;refine(G5 CD _).mono ?_;rintro e w4 ⟨rfl,hb4⟩;have R4:=G6 (((G5 R3).other (a:=⟨g,3,FX⟩) (S0 rp) (.inl hgl)).next hb4);have B4:Hid (B0 u w4):=G6 (G8 ((G5 B3).setCell (by exact hg) _) hb4);have X4:=G6 (((G5 X3).p rp).next hb4);obtain⟨i0,i1,i2,i3,i4,i5,i6,i7,i8⟩:=(G5 R4).nine;simp only at i0 i1 i2 i3 i4 i5 i6 i7 i8;have k4:=(G5 X4).c4;have f4:=(G5 X4).f 4;have k6:=(G5 X4).c6;have f6:=(G5 X4).f 6;clear e0 e1 e2 e3 e4 e5 e6 e7 e8 hb4 R3 B3 X3 CD k3 f3;have R5:=G6 ((G5 R4).other (a:=⟨g,4,FX⟩) (S0 rd) (.inl hgl));have B5:Hid (B0 u (w4.setCell ⟨g,4,FX⟩ (S0 rd))):=G6 ((G5 B4).setCell (by exact hg) _);have X5:=G6 ((G5 X4).d rd);have HP:Hid (II rp=true/\rp≠[47]):=G6 ⟨G5 HG,G5 HR⟩;have hfs:rf=0\/rf=1\/rf=2\/rf=3:=by omega
     clear HG HR;simp only at X5;rcases hfs with rfl|rfl|rfl|rfl
     .go_wp2_with fail;go_ret;exact YB (jO (G5 HF) (G5 HP) (G5 HM) (by simp)) rfl (G5 B5) (G5 X5)
     .go_wp2_with fail;go_ret;exact YB (jO (G5 HF) (G5 HP) (G5 HM) (by simp)) rfl ((G5 B5).setCell hg _) ((G5 X5).w rs)
     .go_wp2_with fail;refine(G5 CN _ rfl _ (G5 B5) (G5 X5)).mono ?_;rintro e w6 ⟨rfl,hb6,hx6⟩;have HB:=G6 hb6;have HX:=G6 hx6;clear hb6 hx6;go_wp2_with fail;go_ret;refine⟨?_,G5 HB,fun h=>?_⟩
      .rw[jP (G5 HF) (G5 HP) (G5 HM) (by simp)];rfl
      .rw[jP (G5 HF) (G5 HP) (G5 HM) (by simp)]at h;exact G5 HX h
     .go_wp2_with fail;refine(G5 CN _ rfl _ ((G5 B5).setCell hg _) ((G5 X5).w rs)).mono ?_;rintro e w6 ⟨rfl,hb6,hx6⟩;have HB:=G6 hb6;have HX:=G6 hx6;clear hb6 hx6;go_wp2_with fail;go_ret;refine⟨?_,G5 HB,fun h=>?_⟩
      .rw[jP (G5 HF) (G5 HP) (G5 HM) (by simp)];rfl
      .rw[jP (G5 HF) (G5 HP) (G5 HM) (by simp)]at h;exact G5 HX h
    .rw[show decide (rs∈t.ss)=false from decide_eq_false hm];have HM:=G6 hm;clear hm;go_wp2_with fail;go_ret;exact MK (AB2 (G5 HF) ⟨G5 HG,G5 HR⟩ (G5 HM)) (by decide) rfl (G5 B2)
 .have HF:=G6 hf;have hc:decide (rf<0)=true\/(decide (rf<0)=false/\decide (3<rf)=true):=by
   by_cases h:rf<0
   .exact .inl (by simp[h])
   .exact .inr ⟨by simp;omega,by simp;omega⟩
  clear hf;rcases hc with h|⟨h,h'⟩
  all_goals
   simp only[decide_eq_true_eq,decide_eq_false_iff_not]at h
   (try simp only[decide_eq_true_eq]at h')
   go_enter func165,ntmps165;go_wp2_with fail;go_ret;exact MK (vW (G5 HF)) (by decide) rfl (G8 (G8 (G5 B0) (G7 _ _)) (G7 _ _))
theorem B96(t:Tr)(z:Int)(vn vs:FV)(r:Rq)(g:Nat)(u w:FU)(gt:QA t)(hn:IU u vn t.ns)(hs:IU u vs t.ss)(hb:B0 u w)(hg:u.heap.size<=g)(hx:TAt w g ⟨z,r.o,r.s,[],[],0,0⟩)(hp:r.p.length<=140737488355328)(hd:r.d.length<=140737488355328)(htab:Lib.TabIs prog u "internal/strconv.uint64pow10" .u64 Lib.pow10Tab):
  FW prog 127 #[P0 g,.agg #[I0 t.z,vn,vs],rqV r] w (fJ u g (mO t r) (dY t z r)):=by
 have CA:=G6 (fun(ho:r.o=4\/r.o=5) W (hW:B0 u W) hx=>A66 t z vn vs r g u W gt hn hs hW hg hx ho hp hd);have CC:=G6 (fun W (hW:B0 u W) hx=>A68 t z vn vs r g u W gt hn hs hW hg hx hp hd htab);obtain⟨na,nc,rfl⟩:=GK hn;obtain⟨sa,sc,rfl⟩:=GK hs;obtain⟨ro,rs,rp,rd,rv,rf⟩:=r;unfold rqV at*;simp only at*;have X0:=G6 hx;have B0:=G6 hb;have X1:=G6 (hx.next (G8 (G7 w (FT #[I0 t.z,FQ na t.ns.length nc,FQ sa t.ss.length sc] 61)) (G7 _ (FT #[I0 ro,I0 rs,S0 rp,S0 rd,I0 rv,I0 rf] 29))));have B1:=G6 (G8 hb (G8 (G7 w (FT #[I0 t.z,FQ na t.ns.length nc,FQ sa t.ss.length sc] 61)) (G7 _ (FT #[I0 ro,I0 rs,S0 rp,S0 rd,I0 rv,I0 rf] 29))));clear hn hs hb hx htab;by_cases h1:ro=1\/ro=2
 .have HE:=G6 (qW (t:=t) (z:=z) (r:=⟨ro,rs,rp,rd,rv,rf⟩) h1);clear CA CC;rcases h1 with rfl|rfl
  all_goals
   go_enter func127,ntmps127;go_wp2_with fail;go_ret;exact YB (G5 HE).1 rfl (G5 B1) (by rw[(G5 HE).2];exact G5 X1)
 .by_cases h3:ro=3
  .have HE:=G6 (jQ (t:=t) (z:=z) (r:=⟨ro,rs,rp,rd,rv,rf⟩) h3);subst h3;clear CA h1;go_enter func127,ntmps127;go_wp2_with fail;refine(G5 CC _ (G5 B1) (G5 X1)).mono ?_;rintro e w6 ⟨rfl,hb6,hx6⟩;have HB:=G6 hb6;have HX:=G6 hx6;clear hb6 hx6;go_wp2_with fail;go_ret;refine⟨?_,G5 HB,fun h=>?_⟩
   .rw[(G5 HE).1];rfl
   .rw[(G5 HE).1]at h;rw[(G5 HE).2];exact G5 HX h
  .by_cases h4:ro=4\/ro=5
   .have HE:=G6 (C29 (t:=t) (z:=z) (r:=⟨ro,rs,rp,rd,rv,rf⟩) h4);have CB:=G6 (G5 CA h4);clear CA CC h1 h3;rcases h4 with rfl|rfl
    all_goals
     go_enter func127,ntmps127;go_wp2_with fail;refine(G5 CB _ (G5 B1) (G5 X1)).mono ?_;rintro e w6 ⟨rfl,hb6,hx6⟩;have HB:=G6 hb6;have HX:=G6 hx6;clear hb6 hx6;go_wp2_with fail;go_ret;refine⟨?_,G5 HB,fun h=>?_⟩
     .rw[(G5 HE).1];rfl
     .rw[(G5 HE).1]at h;rw[(G5 HE).2];exact G5 HX h
   .have HE:=G6 (BI4 (t:=t) (r:=⟨ro,rs,rp,rd,rv,rf⟩) (by simp only;omega));have e1:(ro==1)=false:=by simp;omega
    have e2:(ro==2)=false:=by simp;omega
    have e3:(ro==3)=false:=by simp;omega
    have e4:(ro==4)=false:=by simp;omega
    have e5:(ro==5)=false:=by simp;omega
    clear CA CC h1 h3 h4;go_enter func127,ntmps127;go_wp2_with fail;go_ret;exact MK (G5 HE) (by decide) rfl (G5 B1)
def AH2(w:FU)(t:Tr)(z:Int)(r:Rq)(e:Ending)(w':FU):Prop:=
 e=.returned (.tuple #[J8 (AK2 t z r),I0 (fM t z r)])/\B0 w w'
theorem UU{w:FU}{r:Rq}(hE:fM t z r=E)(h0:E≠0)(he:e=.returned (.tuple #[J8 t0,I0 E]))(hb:B0 w w'):AH2 w t z r e w':=by
 refine⟨?_,hb⟩;rw[C30 (by rw[hE];exact h0),hE];exact he
theorem B97{w:FU}{r:Rq}(hE:fM t z r=0)(hX:AK2 t z r=x)(he:e=.returned (.tuple #[J8 x,I0 0]))(hb:B0 w w'):AH2 w t z r e w':=by
 refine⟨?_,hb⟩;rw[hE,hX];exact he
structure PB(w W:FU)(z:Int)(vn vs:FV)(r:Rq):Prop where
 t:TR W w.heap.size z vn vs r
 a:TAt W (w.heap.size+2) t0
 b:B0 w W
section
variable {w W V:FU} {z:Int} {vn vs:FV} {r:Rq}
theorem PB.next(h:PB w W z vn vs r)(hb:B0 W V):PB w V z vn vs r:=⟨h.t.next hb,h.a.next hb,G8 h.b hb⟩
theorem PB.new(w:FU)(z:Int)(vn vs:FV)(r:Rq):PB w (((w.alloc (FT #[I0 z,vn,vs] 61)).alloc (FT #[I0 r.o,I0 r.s,S0 r.p,S0 r.d,I0 r.v,I0 r.f] 29)).alloc (FT #[I0 0,I0 0,I0 0,.string ⟨#[]⟩,.string ⟨#[]⟩,I0 0,I0 0] 93)) z vn vs r:=by
 refine⟨(TR.new w z vn vs r).next (G7 _ _),?_,G8 (G8 (G7 _ _) (G7 _ _)) (G7 _ _)⟩;have h:=TAt.new ((w.alloc (FT #[I0 z,vn,vs] 61)).alloc (FT #[I0 r.o,I0 r.s,S0 r.p,S0 r.d,I0 r.v,I0 r.f] 29)) t0;rw[show ((w.alloc (FT #[I0 z,vn,vs] 61)).alloc (FT #[I0 r.o,I0 r.s,S0 r.p,S0 r.d,I0 r.v,I0 r.f] 29)).heap.size=w.heap.size+2 by simp]at h;exact h
theorem PB.cells(h:PB w W z vn vs r):(W.cell? ⟨w.heap.size+2,0,FX⟩=FZ (I0 0)/\W.cell? ⟨w.heap.size+2,1,FX⟩=FZ (I0 0)/\W.cell? ⟨w.heap.size+2,2,FX⟩=FZ (I0 0)/\W.cell? ⟨w.heap.size+2,3,FX⟩=FZ (.string ⟨#[]⟩)/\W.cell? ⟨w.heap.size+2,4,FX⟩=FZ (.string ⟨#[]⟩)/\W.cell? ⟨w.heap.size+2,5,FX⟩=FZ (I0 0)/\W.cell? ⟨w.heap.size+2,6,FX⟩=FZ (I0 0)):=⟨h.a.c0,h.a.c1,h.a.c2,h.a.c3,h.a.c4,h.a.c5,h.a.c6⟩
end
def put7(W:FU)(g:Nat)(t:GI):FU:=
 ((((((W.setCell ⟨g,0,FX⟩ (I0 t.z)).setCell ⟨g,1,FX⟩ (I0 t.o)).setCell ⟨g,2,FX⟩ (I0 t.s)).setCell ⟨g,3,FX⟩ (S0 t.p)).setCell ⟨g,4,FX⟩ (S0 t.d)).setCell ⟨g,5,FX⟩ (I0 t.v)).setCell ⟨g,6,FX⟩ (I0 t.w)
theorem OW{w:FU}(t:GI)(hb:B0 w W)(hg:w.heap.size<=g):B0 w (put7 W g t):=
 ((((((hb.setCell hg _).setCell hg _).setCell hg _).setCell hg _).setCell hg _).setCell hg _).setCell hg _
theorem A69(t:Tr)(z:Int)(vn vs:FV)(r:Rq)(w:FU)(hn:IU w vn t.ns)(hs:IU w vs t.ss)(hw:WfT t)(hp:r.p.length<=140737488355328)(hd:r.d.length<=140737488355328)(htab:Lib.TabIs prog w "internal/strconv.uint64pow10" .u64 Lib.pow10Tab):
  FW prog 92 #[.agg #[I0 t.z,vn,vs],I0 z,rqV r] w (AH2 w t z r):=by
 have CG:=G6 (fun W (hW:B0 w W)=>bK t vn vs W (hn.next hW) (hs.next hW) hw);have CZ:=G6 (fun W=>JH z W);have CF:=G6 (fun(gt:QA t) g u (hu:B0 w u) W hW hg hx=>B96 t z vn vs r g u W gt (hn.next hu) (hs.next hu) hW hg hx hp hd (AA5 htab hu));have CA:=G6 (fun W (hW:B0 w W)=>xI t vn vs (dY t z r) W (hn.next hW) (hs.next hW) hw (by have:=CI1 t z r;omega));obtain⟨na,nc,rfl⟩:=GK hn;obtain⟨sa,sc,rfl⟩:=GK hs;obtain⟨ro,rs,rp,rd,rv,rf⟩:=r;unfold rqV at*;simp only at*;have P0:=G6 (PB.new w t.z (FQ na t.ns.length nc) (FQ sa t.ss.length sc) ⟨ro,rs,rp,rd,rv,rf⟩);simp only at P0;clear hn hs htab;go_enter func92,ntmps92;go_wp2_with fail;refine(G5 CG _ (G5 P0).b).mono ?_;rintro e w1 ⟨rfl,hb1⟩;have P1:=G6 ((G5 P0).next hb1);obtain⟨b0,b1,b2,b3,b4,b5,b6,b7,b8⟩:=(G5 P1).t.nine;obtain⟨c0,c1,c2,c3,c4,c5,c6⟩:=(G5 P1).cells;have f:=(G5 P1).a.f;have f0:=f 0;have f1:=f 1;have f2:=f 2;have f3:=f 3;have f4:=f 4;have f5:=f 5;have f6:=f 6;simp only at b0 b1 b2 b3 b4 b5 b6 b7 b8;clear hb1 P0 CG f
 cases hgd:UC t with
 |false=>
  have HE:Hid (fM t z ⟨ro,rs,rp,rd,rv,rf⟩=3):=G6 (aV (by simp[dZ,hgd]));clear hgd;go_wp2_with fail;exact bodyPost_ret (v:=.tuple #[J8 t0,I0 3]) (by simp[results,results92,go_sem,J8,t0,c0,c1,c2,c3,c4,c5,c6]) rfl (UU (G5 HE) (by decide) rfl (OW t0 (G5 P1).b (by omega)))
 |true=>
  have HG:=G6 (OL.1 hgd);have HGB:=G6 hgd;clear hgd;go_wp2_with fail;refine(G5 CZ _).mono ?_;rintro e w2 ⟨rfl,rfl⟩;clear CZ
  cases hzd:KD z with
  |false=>
   have HE:Hid (fM t z ⟨ro,rs,rp,rd,rv,rf⟩=3):=G6 (aV (by simp[dZ,hzd]));clear hzd;go_wp2_with fail;exact bodyPost_ret (v:=.tuple #[J8 t0,I0 3]) (by simp[results,results92,go_sem,J8,t0,c0,c1,c2,c3,c4,c5,c6]) rfl (UU (G5 HE) (by decide) rfl (OW t0 (G5 P1).b (by omega)))
  |true=>
   by_cases h1:rs<1
   .have HE:Hid (fM t z ⟨ro,rs,rp,rd,rv,rf⟩=3):=G6 (aV (by simp[dZ];intros;omega));have hd1:decide (rs<1)=true:=decide_eq_true h1;clear hzd h1;go_wp2_with fail;exact bodyPost_ret (v:=.tuple #[J8 t0,I0 3]) (by simp[results,results92,go_sem,J8,t0,c0,c1,c2,c3,c4,c5,c6]) rfl (UU (G5 HE) (by decide) rfl (OW t0 (G5 P1).b (by omega)))
   .by_cases h2:2147483647<rs
    .have HE:Hid (fM t z ⟨ro,rs,rp,rd,rv,rf⟩=3):=G6 (aV (by simp[dZ];intros;omega));have hd1:decide (rs<1)=false:=decide_eq_false h1;have hd2:decide (2147483647<rs)=true:=decide_eq_true h2;clear hzd h1 h2;go_wp2_with fail;exact bodyPost_ret (v:=.tuple #[J8 t0,I0 3]) (by simp[results,results92,go_sem,J8,t0,c0,c1,c2,c3,c4,c5,c6]) rfl (UU (G5 HE) (by decide) rfl (OW t0 (G5 P1).b (by omega)))
    .have HH:Hid (dZ t z ⟨ro,rs,rp,rd,rv,rf⟩=true):=G6 (YL.2 ⟨G5 HG,hzd,by simp only;omega,by simp only;omega⟩);have hd1:decide (rs<1)=false:=decide_eq_false h1;have hd2:decide (2147483647<rs)=false:=decide_eq_false h2;clear hzd h1 h2;have X2:=G6 (TAt.new w2 ⟨z,ro,rs,[],[],0,0⟩);have P2:=G6 ((G5 P1).next (G7 w2 (FT #[I0 z,I0 ro,I0 rs,.string ⟨#[]⟩,.string ⟨#[]⟩,I0 0,I0 0] 93)));obtain⟨d0,d1,d2,d3,d4,d5,d6,d7,d8⟩:=(G5 P2).t.nine;simp only at d0 d1 d2 d3 d4 d5 d6 d7 d8;clear c0 c1 c2 c3 c4 c5 c6 f0 f1 f2 f3 f4 f5 f6;go_wp2_with fail;refine(G5 CF (G5 HG) w2.heap.size w2 (G5 P1).b _ (G7 _ _) (Nat.le_refl _) (G5 X2)).mono ?_;rintro e w3 ⟨rfl,hb3,hx3⟩;have P3:=G6 ((G5 P1).next hb3);have HX3:=G6 hx3;have PF:Hid (mO t ⟨ro,rs,rp,rd,rv,rf⟩≠0->fM t z ⟨ro,rs,rp,rd,rv,rf⟩=mO t ⟨ro,rs,rp,rd,rv,rf⟩):=G6 (fun h=>AB3 (G5 HH) h);have PA:Hid (mO t ⟨ro,rs,rp,rd,rv,rf⟩=0->fM t z ⟨ro,rs,rp,rd,rv,rf⟩=WG t (dY t z ⟨ro,rs,rp,rd,rv,rf⟩)):=G6 (fun h=>jR (G5 HH) h);clear d0 d1 d2 d3 d4 d5 d6 d7 d8 b0 b1 b2 b3 b4 b5 b6 b7 b8 P2 X2 CF HG HGB HH hb3 hx3;generalize mO t ⟨ro,rs,rp,rd,rv,rf⟩=F at*;by_cases hF:F=0
     .have PE:=G6 (G5 PA hF);have X3:=G6 (G5 HX3 hF);subst hF;have KX:Hid (fM t z ⟨ro,rs,rp,rd,rv,rf⟩=0->AK2 t z ⟨ro,rs,rp,rd,rv,rf⟩=dY t z ⟨ro,rs,rp,rd,rv,rf⟩):=G6 (fun h=>jS h);unfold bM at CA;clear PF PA HX3;generalize WY t (dY t z ⟨ro,rs,rp,rd,rv,rf⟩)=T at*;generalize YJ t (dY t z ⟨ro,rs,rp,rd,rv,rf⟩)=V at*;generalize WG t (dY t z ⟨ro,rs,rp,rd,rv,rf⟩)=E at*;generalize dY t z ⟨ro,rs,rp,rd,rv,rf⟩=x at*;obtain⟨xz,xo,xs,xp,xd,xv,xw⟩:=x;unfold J8 at CA;simp only at CA;have x0:=(G5 X3).c0;have x1:=(G5 X3).c1;have x2:=(G5 X3).c2;have x3:=(G5 X3).c3;have x4:=(G5 X3).c4;have x5:=(G5 X3).c5;have x6:=(G5 X3).c6;simp only at x0 x1 x2 x3 x4 x5 x6;obtain⟨e0,e1,e2,e3,e4,e5,e6,e7,e8⟩:=(G5 P3).t.nine;obtain⟨c0,c1,c2,c3,c4,c5,c6⟩:=(G5 P3).cells;have f:=(G5 P3).a.f;have f0:=f 0;have f1:=f 1;have f2:=f 2;have f3:=f 3;have f4:=f 4;have f5:=f 5;have f6:=f 6;simp only at e0 e1 e2 e3 e4 e5 e6 e7 e8;clear f;go_wp2_with fail;refine(G5 CA _ (G5 P3).b).mono ?_;rintro e w4 ⟨vn4,vs4,ve4,rfl,n4,s4,e4,hb4⟩;obtain⟨an,cn,rfl,_⟩:=n4.slice;obtain⟨ai,ci,rfl,_⟩:=s4.slice;obtain⟨ae,ce,rfl,_⟩:=e4.slice;have P5:=G6 ((G5 P3).next (G8 hb4 (G7 w4 (FT #[I0 T.z,FQ an T.ns.length cn,FQ ai T.ss.length ci] 61))));have X5:=G6 ((G5 X3).next (G8 hb4 (G7 w4 (FT #[I0 T.z,FQ an T.ns.length cn,FQ ai T.ss.length ci] 61))));clear c0 c1 c2 c3 c4 c5 c6 f0 f1 f2 f3 f4 f5 f6 x0 x1 x2 x3 x4 x5 x6 e0 e1 e2 e3 e5 e6 e7 e8 hb4 n4 s4 e4 P3 X3 CA;obtain⟨c0,c1,c2,c3,c4,c5,c6⟩:=(G5 P5).cells;have f:=(G5 P5).a.f;have f0:=f 0;have f1:=f 1;have f2:=f 2;have f3:=f 3;have f4:=f 4;have f5:=f 5;have f6:=f 6;have x0:=(G5 X5).c0;have x1:=(G5 X5).c1;have x2:=(G5 X5).c2;have x3:=(G5 X5).c3;have x4:=(G5 X5).c4;have x5:=(G5 X5).c5;have x6:=(G5 X5).c6;simp only at x0 x1 x2 x3 x4 x5 x6;clear f;by_cases hE:E=0
      .subst hE;have HX:=G6 (G5 KX (G5 PE));go_wp2_with fail;exact bodyPost_ret (v:=.tuple #[J8 ⟨xz,xo,xs,xp,xd,xv,xw⟩,I0 0]) (by simp[results,results92,go_sem,J8,c0,c1,c2,c3,c4,c5,c6]) rfl (B97 (G5 PE) (G5 HX) rfl (OW ⟨xz,xo,xs,xp,xd,xv,xw⟩ (G5 P5).b (by omega)))
      .have hEb:(E !=0)=true:=by simpa using hE
       have HE:=G6 hE;clear hE;go_wp2_with fail;exact bodyPost_ret (v:=.tuple #[J8 t0,I0 E]) (by simp[results,results92,go_sem,J8,t0,c0,c1,c2,c3,c4,c5,c6]) rfl (UU (G5 PE) (G5 HE) rfl (OW t0 (G5 P5).b (by omega)))
     .have PE:=G6 (G5 PF hF);have hFb:(F !=0)=true:=by simpa using hF
      have HF:=G6 hF;clear PF PA HX3 hF CA;obtain⟨e0,e1,e2,e3,e4,e5,e6,e7,e8⟩:=(G5 P3).t.nine;obtain⟨c0,c1,c2,c3,c4,c5,c6⟩:=(G5 P3).cells;have f:=(G5 P3).a.f;have f0:=f 0;have f1:=f 1;have f2:=f 2;have f3:=f 3;have f4:=f 4;have f5:=f 5;have f6:=f 6;simp only at e0 e1 e2 e3 e4 e5 e6 e7 e8;clear f;go_wp2_with fail;exact bodyPost_ret (v:=.tuple #[J8 t0,I0 F]) (by simp[results,results92,go_sem,J8,t0,c0,c1,c2,c3,c4,c5,c6]) rfl (UU (G5 PE) (G5 HF) rfl (OW t0 (G5 P3).b (by omega)))
