/-
  Part.
-/
import Derived.Test.YthcncjimjclfpaaGreatDoorLSU
import Derived.Test.YthcncjimjclfpaaGreatDoorLSV
set_option maxRecDepth 20000
set_option maxHeartbeats 8000000
namespace Go.Proofs.YthcncjimjclfpaaGreatDoor
open Go.RowKit Go.Proofs.Tryz
open _root_.Nat renaming le_refl->A8,lt_of_lt_of_le->AX,zero_add->BI,le_trans->BM
open _root_.Array renaming getElem?_eq_some_iff->AB
open _root_.List renaming length_append->AO,getElem?_eq_some_iff->AU,mem_of_getElem?->AZ,getElem?_append_right->BA,getElem?_append_left->BK,take_of_length_le->BL,append_assoc->BQ,take_append_drop->DN,take_length->DU,length_map->EG,length_nil->ES
open Go.Value.slice renaming injEq->AP
open Go.World renaming cell?->AV,frozen?->F7
open _root_.Option.some renaming injEq->BD
open Go.Value renaming ownBlock->D8,slice->FQ
open _root_.List.cons renaming injEq->EC
open Go.Value.agg renaming injEq->EK
open _root_.Array.mk renaming injEq->F5
open Go.Obj renaming cells->FT
open Go renaming World->FU,Value->FV,Calls->FW
open _root_.Option renaming none->FX,some->FZ
variable{F:Nat->Prop}{g B q k o j i:Nat}{W V w w':FU}{v:FV}{s:Sv}{r:Nat->Int}{p:Pw}{e E:Int}{d:Dd}{α:Type}
def WB(W:FU)(k:Nat)(f:Nat->FV):Prop:=∃c:Array FV,W.heap[k]?=FZ (FT c 84 (0,0))/\c.size=83/\∀j,j<83->c[j]?=FZ (f j)
section
variable {W V:FU} {k j:Nat} {f:Nat->FV}
theorem WB.lt(h:WB W k f):k<W.heap.size:=by
 obtain⟨c,h1,_⟩:=h;exact(AB.1 h1).1
theorem WB.cell(h:WB W k f)(hj:j<83):W.cell? ⟨k,j,FX⟩=FZ (f j):=by
 obtain⟨c,h1,_,h3⟩:=h;simp[AV,h1,h3 j hj]
theorem WB.GN(h:WB W k f)(j:Nat):W.frozen? ⟨k,j,FX⟩=false:=by
 obtain⟨c,h1,_⟩:=h;simp[F7,h1]
theorem WB.touch(h:WB W k f)(ht:Touch F W V)(hk:¬F k):WB V k f:=by
 obtain⟨c,h1,h2,h3⟩:=h;exact⟨c,(ht.block k (AB.1 h1).1 hk).trans h1,h2,h3⟩
theorem WB.next(h:WB W k f)(hb:B0 W V):WB V k f:=h.touch (F:=fun _=>False) (Touch.of_below hb) id
theorem WB.set(h:WB W k f)(hj:j<83)(v:FV):WB (W.setCell ⟨k,j,FX⟩ v) k (LU f j v):=by
 obtain⟨c,h1,h2,h3⟩:=h;refine⟨c.setIfInBounds j v,GL v h1,by simp[h2],fun i hi=>?_⟩;rw[Array.getElem?_setIfInBounds];by_cases e:j=i
 .subst e;simp[h2,hj,IG]
 .rw[if_neg e,GH _ _ (fun h=>e h.symm)];exact h3 i hi
theorem WB.of_eq{g:Nat->FV}(h:WB W k f)(he:∀j,j<83->f j=g j):WB W k g:=by
 obtain⟨c,h1,h2,h3⟩:=h;exact⟨c,h1,h2,fun j hj=>by rw[h3 j hj,he j hj]⟩
theorem WB.gW(h:WB W k f)(hs:∀j,j<83->∀s,f j≠ .string s):dL W k:=by
 obtain⟨c,h1,h2,h3⟩:=h;refine⟨c,_,h1,fun j s hj=>?_⟩;have hlt:=(AB.1 hj).1;rw[h3 j (by omega)]at hj;exact hs j (by omega) s (Option.some.inj hj)
end
def Row{α:Type}[Lay α](W:FU)(k:Nat)(v:FV)(xs:List α):Prop:=IU W v xs/\(xs≠[]->UJ v k)
section
variable {α:Type} [Lay α] {W V:FU} {k:Nat} {v:FV} {xs:List α}
theorem Row.next(h:Row W k v xs)(hb:B0 W V):Row V k v xs:=⟨h.1.next hb,h.2⟩
theorem Row.touch(h:Row W k v xs)(ht:Touch (· =k) W V):Row V k v xs:=by
 refine⟨?_,h.2⟩;rcases h.1 with h1|⟨b,off,cap,rfl,h1,h2,h3,h0,h4⟩
 .exact .inl h1
 .refine .inr ⟨b,off,cap,rfl,h1,h2,AX h3 ht.size,h0,fun i v hi=>?_⟩;have hb:b≠k:=h.2 h0 b off _ cap rfl;rw[AV,ht.block b h3 hb];exact h4 i v hi
theorem Row.new(h:IU W v xs)(hk:W.heap.size<=k):Row W k v xs:=by
 refine⟨h,fun h0 b off n c e=>?_⟩;rcases h with⟨a,cap,_,e0,_⟩|⟨b',off',cap,rfl,_,_,h3,_,_⟩
 .exact absurd e0 h0
 .simp only[AP,BD,Addr.mk.injEq]at e;omega
theorem Row.own(h:GZ W B v xs)(hk:k<B):Row W k v xs:=⟨h.seq,fun _=>YS h hk⟩
theorem Row.slice(h:Row W k v xs):∃a c,v=FQ a xs.length c:=GK h.1
theorem Row.nil(W:FU)(k:Nat)(c:Nat)(hc:c<=maxLen)(a:Option Addr):Row W k (FQ a 0 c) ([]:List α):=⟨.inl ⟨a,c,rfl,rfl,hc⟩,fun h=>absurd rfl h⟩
theorem Y6(hq:q<Lay.k α)(ht:∀x:α,∃s,(Lay.cs x)[q]?=FZ (Value.string s))(h:IU W v xs)(hk:dL W k):Row W k v xs:=by
 refine⟨h,fun h0 b off n c e=>?_⟩;rcases h with⟨a,cap,_,e0,_⟩|⟨b',off',cap,rfl,_,_,h3,_,h4⟩
 .exact absurd e0 h0
 .simp only[AP,BD,Addr.mk.injEq]at e;rintro rfl;obtain⟨x,r,rfl⟩:=List.exists_cons_of_ne_nil h0;obtain⟨s,hs⟩:=ht x;have:=h4 (0*Lay.k α+q) _ ((GV (x::r) 0 x rfl q hq).trans hs);rw[e.1.1]at this;exact hk.no this
end
theorem AF3{xs:List DF}(h:IQ W v xs)(hk:dL W k):Row W k v xs:=Y6 (q:=0) (by decide) (fun x=>⟨_,rfl⟩) (VJ.2 h) hk
theorem lS{xs:List GI}(h:NV W v xs)(hk:dL W k):Row W k v xs:=Y6 (q:=3) (by decide) (fun x=>⟨_,rfl⟩) (PK.2 h) hk
theorem yI{xs:List Nd}(h:IU W v xs)(hk:dL W k):Row W k v xs:=Y6 (q:=0) (by decide) (fun x=>⟨_,rfl⟩) h hk
theorem VQ{xs:List Wa}(h:IU W v xs)(hk:dL W k):Row W k v xs:=Y6 (q:=2) (by decide) (fun x=>⟨_,rfl⟩) h hk
theorem cO{xs:List En}(h:IU W v xs)(hk:dL W k):Row W k v xs:=Y6 (q:=0) (by decide) (fun x=>⟨_,rfl⟩) h hk
structure SvA(W:FU)(k:Nat)(g:Nat->FV)(s:Sv):Prop where
 up:g 0=.bool s.up
 d:Row W k (g 1) s.fs
 id:g 2=I0 s.id
 ep:g 3=I0 s.ep
 l:Row W k (g 4) s.ts
 dn:g 5=I0 s.dn
 z:g 6=I0 s.tr.z
 n:Row W k (g 7) s.tr.ns
 i:Row W k (g 8) s.tr.ss
 w:Row W k (g 9) s.ws
section
variable {W V:FU} {k:Nat} {g:Nat->FV} {s:Sv}
theorem SvA.next(h:SvA W k g s)(hb:B0 W V):SvA V k g s:=⟨h.up,h.d.next hb,h.id,h.ep,h.l.next hb,h.dn,h.z,h.n.next hb,h.i.next hb,h.w.next hb⟩
theorem SvA.touch(h:SvA W k g s)(ht:Touch (· =k) W V):SvA V k g s:=⟨h.up,h.d.touch ht,h.id,h.ep,h.l.touch ht,h.dn,h.z,h.n.touch ht,h.i.touch ht,h.w.touch ht⟩
theorem SvA.val(h:SvA W k g s):SvV W (.agg #[g 0,g 1,g 2,g 3,g 4,g 5,g 6,g 7,g 8,g 9]) s:=by
 rw[h.up,h.id,h.ep,h.dn,h.z];exact⟨_,_,_,_,_,rfl,VJ.1 h.d.1,PK.1 h.l.1,h.n.1,h.i.1,h.w.1⟩
theorem SvA.moved(h:SvA W k g s)(hq:W.heap.size<=q):SvA W q g s:=⟨h.up,Row.new h.d.1 hq,h.id,h.ep,Row.new h.l.1 hq,h.dn,h.z,Row.new h.n.1 hq,Row.new h.i.1 hq,Row.new h.w.1 hq⟩
theorem SvA.cellP{P:FV->Prop}(hb:∀b,P (.bool b))(hn:∀n,P (I0 n))(hs:∀a n c,P (FQ a n c))(h:SvA W k g s)(j:Nat)(hj:j<10):P (g j):=by
 have r:∀ {α:Type} [Lay α] {v:FV} {xs:List α},Row W k v xs->P v:=fun h=>by obtain⟨a,c,e⟩:=h.slice;rw[e];exact hs _ _ _
 rcases(show j=0\/j=1\/j=2\/j=3\/j=4\/j=5\/j=6\/j=7\/j=8\/j=9 by omega)with rfl|rfl|rfl|rfl|rfl|rfl|rfl|rfl|rfl|rfl
 .rw[h.up];exact hb _
 .exact r h.d
 .rw[h.id];exact hn _
 .rw[h.ep];exact hn _
 .exact r h.l
 .rw[h.dn];exact hn _
 .rw[h.z];exact hn _
 .exact r h.n
 .exact r h.i
 .exact r h.w
theorem SvA.of{vd vl vn vs vw:FV}(hk:dL W k)(hv:SvV W (.agg #[.bool s.up,vd,I0 s.id,I0 s.ep,vl,I0 s.dn,I0 s.tr.z,vn,vs,vw]) s)(hs:s.tr.ss≠[]->UJ vs k)
  (h0:g 0=.bool s.up) (h1:g 1=vd) (h2:g 2=I0 s.id) (h3:g 3=I0 s.ep) (h4:g 4=vl) (h5:g 5=I0 s.dn) (h6:g 6=I0 s.tr.z) (h7:g 7=vn) (h8:g 8=vs) (h9:g 9=vw):SvA W k g s:=by
 obtain⟨vd',vl',vn',vs',vw',e,r1,r2,r3,r4,r5⟩:=hv;simp only[EK,F5,EC,true_and,and_true]at e;obtain⟨rfl,rfl,rfl,rfl,rfl⟩:=e;exact⟨h0,by rw[h1];exact AF3 r1 hk,h2,h3,by rw[h4];exact lS r2 hk,h5,h6,by rw[h7];exact yI r3 hk,by rw[h8];exact⟨r4,hs⟩,by rw[h9];exact VQ r5 hk⟩
end
structure ClA(W:FU)(k:Nat)(g:Nat->FV)(c:Cl):Prop where
 s:g 0=I0 c.s
 z:g 1=I0 c.z
 e:Row W k (g 2) c.es
structure WdR(W:FU)(k:Nat)(f:Nat->FV)(p:Pw):Prop where
 n:f 0=I0 p.n
 s:∀i,i<3->SvA W k (fun q=>f (1+10*i+q)) (svP i (p.s i))
 r:∀i,i<3->f (31+i)=I0 (p.r i)
 c:∀i,i<16->ClA W k (fun q=>f (34+3*i+q)) (p.c i)
 d:Row W k (f 82) p.D
 h:∀i,i<3->(svP i (p.s i)).tr.ss≠[]->∀b,b<=p.h->UJ (f (1+10*i+8)) b
 hk:p.h<=k
def WX(W:FU)(k:Nat)(p:Pw):Prop:=∃f,WB W k f/\WdR W k f p
section
variable {W V:FU} {k:Nat} {f:Nat->FV} {p:Pw}
theorem WdR.next(h:WdR W k f p)(hb:B0 W V):WdR V k f p:=
 ⟨h.n,fun i hi=>(h.s i hi).next hb,h.r,fun i hi=>⟨(h.c i hi).s,(h.c i hi).z,(h.c i hi).e.next hb⟩,h.d.next hb,h.h,h.hk⟩
theorem WdR.touch(h:WdR W k f p)(ht:Touch (· =k) W V):WdR V k f p:=
 ⟨h.n,fun i hi=>(h.s i hi).touch ht,h.r,fun i hi=>⟨(h.c i hi).s,(h.c i hi).z,(h.c i hi).e.touch ht⟩,h.d.touch ht,h.h,h.hk⟩
theorem WdR.moved(h:WdR W k f p)(hq:W.heap.size<=q)(hk:p.h<=q):WdR W q f p:=
 ⟨h.n,fun i hi=>(h.s i hi).moved hq,h.r,fun i hi=>⟨(h.c i hi).s,(h.c i hi).z,Row.new (h.c i hi).e.1 hq⟩,Row.new h.d.1 hq,h.h,hk⟩
theorem WX.next(h:WX W k p)(hb:B0 W V):WX V k p:=by
 obtain⟨f,h1,h2⟩:=h;exact⟨f,h1.next hb,h2.next hb⟩
theorem WX.lt(h:WX W k p):k<W.heap.size:=by
 obtain⟨f,h1,_⟩:=h;exact h1.lt
theorem WdR.cellP{P:FV->Prop}(hb:∀b,P (.bool b))(hn:∀n,P (I0 n))(hs:∀a n c,P (FQ a n c))(h:WdR W k f p)(j:Nat)(hj:j<83):P (f j):=by
 by_cases h0:j=0
 .subst h0;rw[h.n];exact hn _
 .by_cases h1:j<31
  .have:=(h.s ((j-1)/10) (by omega)).cellP hb hn hs ((j-1)%10) (by omega);simp only[show 1+10*((j-1)/10)+(j-1)%10=j by omega]at this;exact this
  .by_cases h2:j<34
   .have:=h.r (j-31) (by omega);rw[show 31+(j-31)=j by omega]at this;rw[this];exact hn _
   .by_cases h3:j<82
    .have hc:=h.c ((j-34)/3) (by omega);have e0:34+3*((j-34)/3)+(j-34)%3=j:=by omega
     rcases(show (j-34)%3=0\/(j-34)%3=1\/(j-34)%3=2 by omega)with e|e|e
     .have:=hc.s;simp only[<-e,e0]at this;rw[this];exact hn _
     .have:=hc.z;simp only[<-e,e0]at this;rw[this];exact hn _
     .obtain⟨a,c,e'⟩:=hc.e.slice;simp only[<-e,e0]at e';rw[e'];exact hs _ _ _
    .obtain rfl:j=82:=by omega
     obtain⟨a,c,e'⟩:=h.d.slice;rw[e'];exact hs _ _ _
theorem WdR.text(h:WdR W k f p)(j:Nat)(hj:j<83)(t:ByteArray):f j≠ .string t:=h.cellP (P:=(· ≠ .string t)) (fun _ e=>by cases e) (fun _ e=>by cases e) (fun _ _ _ e=>by cases e) j hj
theorem WdR.gW(h:WdR W k f p)(hb:WB W k f):dL W k:=hb.gW h.text
end
def CG2(x0 x1 x2 x3 x4 x5 x6 x7 x8 x9:FV):Nat->FV
 |0=>x0|1=>x1|2=>x2|3=>x3|4=>x4|5=>x5|6=>x6|7=>x7|8=>x8|_=>x9
def B73(x0 x1 x2:FV):Nat->FV
 |0=>x0|1=>x1|_=>x2
def BF1(f:Nat->FV)(o n:Nat)(g:Nat->FV):Nat->FV:=fun j=>if o<=j/\j<o+n then g (j-o)else f j
theorem O8{f g:Nat->FV}{n:Nat}(h:q<n):BF1 f o n g (o+q)=g q:=by
 rw[BF1,if_pos ⟨by omega,by omega⟩]
 congr 1
 omega
theorem JC{f g:Nat->FV}{n:Nat}(h:j<o\/o+n<=j):BF1 f o n g j=f j:=by rw[BF1,if_neg (by omega)]
def zN(W:FU)(k o:Nat)(x0 x1 x2 x3 x4 x5 x6 x7 x8 x9:FV):FU:=
 (((((((((W.setCell ⟨k,o,FX⟩ x0).setCell ⟨k,o+1,FX⟩ x1).setCell ⟨k,o+2,FX⟩ x2).setCell ⟨k,o+3,FX⟩ x3).setCell ⟨k,o+4,FX⟩ x4).setCell ⟨k,o+5,FX⟩ x5).setCell ⟨k,o+6,FX⟩ x6).setCell ⟨k,o+7,FX⟩ x7).setCell ⟨k,o+8,FX⟩ x8).setCell ⟨k,o+9,FX⟩ x9
def sJ(W:FU)(k o:Nat)(x0 x1 x2:FV):FU:=((W.setCell ⟨k,o,FX⟩ x0).setCell ⟨k,o+1,FX⟩ x1).setCell ⟨k,o+2,FX⟩ x2
section
variable {W:FU} {k:Nat} {f:Nat->FV} {p:Pw}
theorem JJ(W:FU)(k j:Nat)(v:FV):Touch (· =k) W (W.setCell ⟨k,j,FX⟩ v):=Touch.set (F:=(· =k)) (a:=⟨k,j,FX⟩) rfl v
theorem Y7(W:FU)(k o:Nat)(x0 x1 x2 x3 x4 x5 x6 x7 x8 x9:FV):Touch (· =k) W (zN W k o x0 x1 x2 x3 x4 x5 x6 x7 x8 x9):=
 (((((((((JJ _ _ _ _).trans (JJ _ _ _ _)).trans (JJ _ _ _ _)).trans (JJ _ _ _ _)).trans (JJ _ _ _ _)).trans (JJ _ _ _ _)).trans (JJ _ _ _ _)).trans (JJ _ _ _ _)).trans (JJ _ _ _ _)).trans (JJ _ _ _ _)
theorem TB(W:FU)(k o:Nat)(x0 x1 x2:FV):Touch (· =k) W (sJ W k o x0 x1 x2):=((JJ _ _ _ _).trans (JJ _ _ _ _)).trans (JJ _ _ _ _)
theorem WB.sJ(h:WB W k f)(ho:o+3<=83)(x0 x1 x2:FV):WB (sJ W k o x0 x1 x2) k (BF1 f o 3 (B73 x0 x1 x2)):=by
 refine(((h.set (j:=o) (by omega) x0).set (j:=o+1) (by omega) x1).set (j:=o+2) (by omega) x2).of_eq fun j hj=>?_;by_cases h2:j=o+2
 .subst h2;rw[IG,O8 (by omega)];rfl
 .by_cases h1:j=o+1
  .subst h1;rw[GH _ _ (by omega),IG,O8 (by omega)];rfl
  .by_cases h0:j=o
   .subst h0;rw[GH _ _ (by omega),GH _ _ (by omega),IG,show BF1 f j 3 (B73 x0 x1 x2) j=BF1 f j 3 (B73 x0 x1 x2) (j+0)from rfl,O8 (by omega)];rfl
   .rw[GH _ _ h2,GH _ _ h1,GH _ _ h0,JC (by omega)]
theorem WB.zN(h:WB W k f)(ho:o+10<=83)(x0 x1 x2 x3 x4 x5 x6 x7 x8 x9:FV):WB (zN W k o x0 x1 x2 x3 x4 x5 x6 x7 x8 x9) k (BF1 f o 10 (CG2 x0 x1 x2 x3 x4 x5 x6 x7 x8 x9)):=by
 refine((((((((((h.set (j:=o) (by omega) x0).set (j:=o+1) (by omega) x1).set (j:=o+2) (by omega) x2).set (j:=o+3) (by omega) x3).set (j:=o+4) (by omega) x4).set (j:=o+5) (by omega) x5).set (j:=o+6) (by omega) x6).set (j:=o+7) (by omega) x7).set (j:=o+8) (by omega) x8).set (j:=o+9) (by omega) x9).of_eq fun j hj=>?_;by_cases hr:o<=j/\j<o+10
 .obtain⟨q,rfl⟩:∃q,j=o+q:=⟨j-o,by omega⟩;rw[O8 (by omega)];have hq:q<10:=by omega
  rcases(show q=0\/q=1\/q=2\/q=3\/q=4\/q=5\/q=6\/q=7\/q=8\/q=9 by omega)with rfl|rfl|rfl|rfl|rfl|rfl|rfl|rfl|rfl|rfl<;>simp[LU,CG2]
 .rw[JC (by omega),GH _ _ (by omega),GH _ _ (by omega),GH _ _ (by omega),GH _ _ (by omega),GH _ _ (by omega),GH _ _ (by omega),GH _ _ (by omega),GH _ _ (by omega),GH _ _ (by omega),GH _ _ (by omega)]
theorem SvA.congr{g g':Nat->FV}(h:SvA W k g s)(he:∀q,q<10->g' q=g q):SvA W k g' s:=by
 refine⟨?_,?_,?_,?_,?_,?_,?_,?_,?_,?_⟩<;>rw[he _ (by omega)]
 .exact h.up
 .exact h.d
 .exact h.id
 .exact h.ep
 .exact h.l
 .exact h.dn
 .exact h.z
 .exact h.n
 .exact h.i
 .exact h.w
theorem ClA.congr{g g':Nat->FV}{c:Cl}(h:ClA W k g c)(he:∀q,q<3->g' q=g q):ClA W k g' c:=by
 refine⟨?_,?_,?_⟩<;>rw[he _ (by omega)]
 .exact h.s
 .exact h.z
 .exact h.e
theorem WX.pV(h:WX W k p)(hi:i<3){q:Ps}{vd vl vn vs vw:FV}(hq:svP i q=s)(hv:SvV W (.agg #[.bool s.up,vd,I0 s.id,I0 s.ep,vl,I0 s.dn,I0 s.tr.z,vn,vs,vw]) s)(hs:s.tr.ss≠[]->∀b,b<=k->UJ vs b):
  WX (zN W k (1+10*i) (.bool s.up) vd (I0 s.id) (I0 s.ep) vl (I0 s.dn) (I0 s.tr.z) vn vs vw) k ⟨p.n,LU p.s i q,p.r,p.c,p.D,p.H,p.h⟩:=by
 obtain⟨f,hb,hr⟩:=h;refine⟨_,hb.zN (o:=1+10*i) (by omega) _ _ _ _ _ _ _ _ _ _,WdR.touch (W:=W) ?_ (Y7 _ _ _ _ _ _ _ _ _ _ _ _ _)⟩;have hA:SvA W k (CG2 (.bool s.up) vd (I0 s.id) (I0 s.ep) vl (I0 s.dn) (I0 s.tr.z) vn vs vw) s:=SvA.of (hr.gW hb) hv (fun h=>hs h k (A8 k)) rfl rfl rfl rfl rfl rfl rfl rfl rfl rfl;refine⟨by rw[JC (by omega)];exact hr.n,fun j hj=>?_,fun j hj=>by rw[JC (by omega)];exact hr.r j hj,fun j hj=>(hr.c j hj).congr fun q hq=>by rw[JC (by omega)],by rw[JC (by omega)];exact hr.d,fun j hj h0=>?_,hr.hk⟩
 .by_cases e:j=i
  .subst e;simp only[IG,hq];exact hA.congr fun q hq=>by rw[O8 hq]
  .simp only[GH _ _ e];exact(hr.s j hj).congr fun q hq=>by rw[JC (by omega)]
 .by_cases e:j=i
  .subst e;simp only[IG,hq]at h0;rw[O8 (by omega)];exact fun b hb=>hs h0 b (BM hb hr.hk)
  .simp only[GH _ _ e]at h0;rw[JC (by omega)];exact hr.h j hj h0
theorem WX.VR(h:WX W k p)(hi:i<3)(v:Int):WX (W.setCell ⟨k,31+i,FX⟩ (I0 v)) k ⟨p.n,p.s,LU p.r i v,p.c,p.D,p.H,p.h⟩:=by
 obtain⟨f,hb,hr⟩:=h;refine⟨_,hb.set (j:=31+i) (by omega) _,WdR.touch (W:=W) ?_ (JJ _ _ _ _)⟩;refine⟨by rw[GH _ _ (by omega)];exact hr.n,fun j hj=>(hr.s j hj).congr fun q hq=>by rw[GH _ _ (by omega)],fun j hj=>?_,fun j hj=>(hr.c j hj).congr fun q hq=>by rw[GH _ _ (by omega)],by rw[GH _ _ (by omega)];exact hr.d,fun j hj h0=>by rw[GH _ _ (by omega)];exact hr.h j hj h0,hr.hk⟩;by_cases e:j=i
 .subst e;rw[IG];simp only[IG]
 .rw[GH _ _ (by omega)];simp only[GH _ _ e];exact hr.r j hj
theorem WX.AF4(h:WX W k p)(he:∀i,i<3->p.r i=r i):WX W k ⟨p.n,p.s,r,p.c,p.D,p.H,p.h⟩:=by
 obtain⟨f,hb,hr⟩:=h;exact⟨f,hb,hr.n,hr.s,fun i hi=>by rw[hr.r i hi,he i hi],hr.c,hr.d,hr.h,hr.hk⟩
theorem WX.clear(h:WX W k p):WX (sJ W k 31 (I0 0) (I0 0) (I0 0)) k ⟨p.n,p.s,fun _=>0,p.c,p.D,p.H,p.h⟩:=by
 have h1:=((h.VR (i:=0) (by omega) 0).VR (i:=1) (by omega) 0).VR (i:=2) (by omega) 0;have h2:WX (sJ W k 31 (I0 0) (I0 0) (I0 0)) k ⟨p.n,p.s,LU (LU (LU p.r 0 0) 1 0) 2 0,p.c,p.D,p.H,p.h⟩:=h1;refine h2.AF4 fun i hi=>?_;rcases(show i=0\/i=1\/i=2 by omega)with rfl|rfl|rfl<;>simp[LU]
theorem WX.AF5(h:WX W k p)(n:Int):WX (W.setCell ⟨k,0,FX⟩ (I0 n)) k ⟨n,p.s,p.r,p.c,p.D,p.H,p.h⟩:=by
 obtain⟨f,hb,hr⟩:=h;refine⟨_,hb.set (j:=0) (by omega) _,WdR.touch (W:=W) ?_ (JJ _ _ _ _)⟩;exact⟨by rw[IG],fun j hj=>(hr.s j hj).congr fun q hq=>by rw[GH _ _ (by omega)],fun j hj=>by rw[GH _ _ (by omega)];exact hr.r j hj,fun j hj=>(hr.c j hj).congr fun q hq=>by rw[GH _ _ (by omega)],by rw[GH _ _ (by omega)];exact hr.d,fun j hj h0=>by rw[GH _ _ (by omega)];exact hr.h j hj h0,hr.hk⟩
theorem WX.BQ6(h:WX W k p)(hi:i<16){c:Cl}(hv:IU W v c.es):WX (sJ W k (34+3*i) (I0 c.s) (I0 c.z) v) k ⟨p.n,p.s,p.r,LU p.c i c,p.D,p.H,p.h⟩:=by
 obtain⟨f,hb,hr⟩:=h;refine⟨_,hb.sJ (o:=34+3*i) (by omega) _ _ _,WdR.touch (W:=W) ?_ (TB _ _ _ _ _ _)⟩;refine⟨by rw[JC (by omega)];exact hr.n,fun j hj=>(hr.s j hj).congr fun q hq=>by rw[JC (by omega)],fun j hj=>by rw[JC (by omega)];exact hr.r j hj,fun j hj=>?_,by rw[JC (by omega)];exact hr.d,fun j hj h0=>by rw[JC (by omega)];exact hr.h j hj h0,hr.hk⟩;by_cases e:j=i
 .subst e;simp only[IG];exact ClA.congr (g:=B73 (I0 c.s) (I0 c.z) v) ⟨rfl,rfl,cO hv (hr.gW hb)⟩ fun q hq=>by rw[O8 hq]
 .simp only[GH _ _ e];exact(hr.c j hj).congr fun q hq=>by rw[JC (by omega)]
theorem WX.CM7(h:WX W k p){D:List GI}(hv:IU W v D)(H:List GI):WX (W.setCell ⟨k,82,FX⟩ v) k ⟨p.n,p.s,p.r,p.c,D,H,p.h⟩:=by
 obtain⟨f,hb,hr⟩:=h;refine⟨_,hb.set (j:=82) (by omega) _,WdR.touch (W:=W) ?_ (JJ _ _ _ _)⟩;exact⟨by rw[GH _ _ (by omega)];exact hr.n,fun j hj=>(hr.s j hj).congr fun q hq=>by rw[GH _ _ (by omega)],fun j hj=>by rw[GH _ _ (by omega)];exact hr.r j hj,fun j hj=>(hr.c j hj).congr fun q hq=>by rw[GH _ _ (by omega)],by rw[IG];exact lS (PK.1 hv) (hr.gW hb),fun j hj h0=>by rw[GH _ _ (by omega)];exact hr.h j hj h0,hr.hk⟩
theorem WX.BZ4(h:WX W k p)(hi:i<3)(hu:(p.s i).up=true){x:Ps}(hx:x=⟨(p.s i).up,(p.s i).e,(p.s i).m,(p.s i).a,(p.s i).q,(p.s i).dn,x.ws⟩)(hv:IU W v x.ws):WX (W.setCell ⟨k,1+10*i+9,FX⟩ v) k ⟨p.n,LU p.s i x,p.r,p.c,p.D,p.H,p.h⟩:=by
 obtain⟨f,hb,hr⟩:=h;refine⟨_,hb.set (j:=1+10*i+9) (by omega) _,WdR.touch (W:=W) ?_ (JJ _ _ _ _)⟩;refine⟨by rw[GH _ _ (by omega)];exact hr.n,fun j hj=>?_,fun j hj=>by rw[GH _ _ (by omega)];exact hr.r j hj,fun j hj=>(hr.c j hj).congr fun q hq=>by rw[GH _ _ (by omega)],by rw[GH _ _ (by omega)];exact hr.d,fun j hj h0=>by
  rw[GH _ _ (by omega)];refine hr.h j hj ?_;by_cases e:j=i
  .subst e;simp only[IG]at h0;rw[J5 (by rw[hx];exact hu)]at h0;rw[J5 hu];rw[hx]at h0;exact h0
  .simp only[GH _ _ e]at h0;exact h0,hr.hk⟩
 by_cases e:j=i
 .subst e;simp only[IG];have hs:=hr.s j hj;have e1:svP j x=⟨(svP j (p.s j)).up,(svP j (p.s j)).fs,(svP j (p.s j)).id,(svP j (p.s j)).ep,(svP j (p.s j)).ts,(svP j (p.s j)).dn,(svP j (p.s j)).tr,x.ws⟩:=by
   rw[J5 hu,J5 (by rw[hx];exact hu),hx]
  rw[e1];have g:∀q,q<9->LU f (1+10*j+9) v (1+10*j+q)=f (1+10*j+q):=fun q hq=>GH _ _ (by omega);exact⟨by rw[g 0 (by omega)];exact hs.up,by rw[g 1 (by omega)];exact hs.d,by rw[g 2 (by omega)];exact hs.id,by rw[g 3 (by omega)];exact hs.ep,by rw[g 4 (by omega)];exact hs.l,by rw[g 5 (by omega)];exact hs.dn,by rw[g 6 (by omega)];exact hs.z,by rw[g 7 (by omega)];exact hs.n,by rw[g 8 (by omega)];exact hs.i,by rw[IG];exact VQ hv (hr.gW hb)⟩
 .simp only[GH _ _ e];exact(hr.s j hj).congr fun q hq=>by rw[GH _ _ (by omega)]
end
structure Srv(W:FU)(k o:Nat)(up:Bool)(id ep dn z:Int)(vd vl vn vs vw:FV):Prop where
 c0:W.cell? ⟨k,o,FX⟩=FZ (.bool up)
 c1:W.cell? ⟨k,o+1,FX⟩=FZ vd
 c2:W.cell? ⟨k,o+2,FX⟩=FZ (I0 id)
 c3:W.cell? ⟨k,o+3,FX⟩=FZ (I0 ep)
 c4:W.cell? ⟨k,o+4,FX⟩=FZ vl
 c5:W.cell? ⟨k,o+5,FX⟩=FZ (I0 dn)
 c6:W.cell? ⟨k,o+6,FX⟩=FZ (I0 z)
 c7:W.cell? ⟨k,o+7,FX⟩=FZ vn
 c8:W.cell? ⟨k,o+8,FX⟩=FZ vs
 c9:W.cell? ⟨k,o+9,FX⟩=FZ vw
theorem Srv.next{up:Bool}{id ep dn z:Int}{vd vl vn vs vw:FV}(h:Srv W k o up id ep dn z vd vl vn vs vw)(hk:k<W.heap.size)(hV:B0 W V):Srv V k o up id ep dn z vd vl vn vs vw:=by
 have e:∀j,V.cell? ⟨k,j,FX⟩=W.cell? ⟨k,j,FX⟩:=fun j=>by rw[AV,AV,hV.block k hk]
 exact⟨(e _).trans h.c0,(e _).trans h.c1,(e _).trans h.c2,(e _).trans h.c3,(e _).trans h.c4,(e _).trans h.c5,(e _).trans h.c6,(e _).trans h.c7,(e _).trans h.c8,(e _).trans h.c9⟩
theorem WX.srv(h:WX W k p)(hi:i<3)(hs:svP i (p.s i)=s):∃ad nd cd al cl an cn ai ci aw cw,
  Srv W k (1+10*i) s.up s.id s.ep s.dn s.tr.z (FQ ad nd cd) (FQ al s.ts.length cl) (FQ an s.tr.ns.length cn) (FQ ai s.tr.ss.length ci) (FQ aw s.ws.length cw)/\
  SvV W (.agg #[.bool s.up,FQ ad nd cd,I0 s.id,I0 s.ep,FQ al s.ts.length cl,I0 s.dn,I0 s.tr.z,FQ an s.tr.ns.length cn,FQ ai s.tr.ss.length ci,FQ aw s.ws.length cw]) s/\(s.tr.ss≠[]->UJ (FQ ai s.tr.ss.length ci) k):=by
 obtain⟨f,hb,hr⟩:=h;have h:=hr.s i hi;rw[hs]at h;obtain⟨ad,cd,e1⟩:=h.d.slice;obtain⟨al,cl,e4⟩:=h.l.slice;obtain⟨an,cn,e7⟩:=h.n.slice;obtain⟨ai,ci,e8⟩:=h.i.slice;obtain⟨aw,cw,e9⟩:=h.w.slice;have hv:=h.val;have hw:=h.i.2;rw[e8]at hw;rw[h.up,e1,h.id,h.ep,e4,h.dn,h.z,e7,e8,e9]at hv;refine⟨ad,_,cd,al,cl,an,cn,ai,ci,aw,cw,⟨?_,?_,?_,?_,?_,?_,?_,?_,?_,?_⟩,hv,hw⟩
 .rw[hb.cell (j:=1+10*i) (by omega)];exact congrArg FZ h.up
 .rw[hb.cell (by omega)];exact congrArg FZ e1
 .rw[hb.cell (by omega)];exact congrArg FZ h.id
 .rw[hb.cell (by omega)];exact congrArg FZ h.ep
 .rw[hb.cell (by omega)];exact congrArg FZ e4
 .rw[hb.cell (by omega)];exact congrArg FZ h.dn
 .rw[hb.cell (by omega)];exact congrArg FZ h.z
 .rw[hb.cell (by omega)];exact congrArg FZ e7
 .rw[hb.cell (by omega)];exact congrArg FZ e8
 .rw[hb.cell (by omega)];exact congrArg FZ e9
theorem WX.role(h:WX W k p)(hi:i<3):W.cell? ⟨k,31+i,FX⟩=FZ (I0 (p.r i)):=by
 obtain⟨f,hb,hr⟩:=h;rw[hb.cell (by omega),hr.r i hi]
theorem WX.count(h:WX W k p):W.cell? ⟨k,0,FX⟩=FZ (I0 p.n):=by
 obtain⟨f,hb,hr⟩:=h;rw[hb.cell (by omega),hr.n]
theorem WX.GN(h:WX W k p)(j:Nat):W.frozen? ⟨k,j,FX⟩=false:=by
 obtain⟨f,hb,hr⟩:=h;exact hb.GN j
theorem WX.cl(h:WX W k p)(hi:i<16):∃a c,W.cell? ⟨k,34+3*i,FX⟩=FZ (I0 (p.c i).s)/\W.cell? ⟨k,34+3*i+1,FX⟩=FZ (I0 (p.c i).z)/\W.cell? ⟨k,34+3*i+2,FX⟩=FZ (FQ a (p.c i).es.length c)/\IU W (FQ a (p.c i).es.length c) (p.c i).es:=by
 obtain⟨f,hb,hr⟩:=h;have h:=hr.c i hi;obtain⟨a,c,e⟩:=h.e.slice;have hv:=h.e.1;rw[e]at hv;refine⟨a,c,?_,?_,?_,hv⟩
 .rw[hb.cell (j:=34+3*i) (by omega)];exact congrArg FZ h.s
 .rw[hb.cell (by omega)];exact congrArg FZ h.z
 .rw[hb.cell (by omega)];exact congrArg FZ e
theorem WX.ack(h:WX W k p):∃a c,W.cell? ⟨k,82,FX⟩=FZ (FQ a p.D.length c)/\IU W (FQ a p.D.length c) p.D:=by
 obtain⟨f,hb,hr⟩:=h;obtain⟨a,c,e⟩:=hr.d.slice;have hv:=hr.d.1;rw[e]at hv;exact⟨a,c,by rw[hb.cell (by omega),e],hv⟩
def RpB(W:FU)(g:Nat):Prop:=W.heap[g]?=FZ (FT #[I0 0,I0 0,.string ⟨#[]⟩,.string ⟨#[]⟩,I0 0,I0 0,I0 0,I0 0,I0 0,I0 0,I0 0,N0] 37 (0,0))
theorem RpB.new(w:FU):RpB (w.alloc (FT #[I0 0,I0 0,.string ⟨#[]⟩,.string ⟨#[]⟩,I0 0,I0 0,I0 0,I0 0,I0 0,I0 0,I0 0,N0] 37)) w.heap.size:=heap_alloc_new w _
theorem RpB.lt(h:RpB W g):g<W.heap.size:=(AB.1 h).1
theorem RpB.touch(h:RpB W g)(ht:Touch F W V)(hg:¬F g):RpB V g:=(ht.block g h.lt hg).trans h
theorem RpB.next(h:RpB W g)(hb:B0 W V):RpB V g:=(hb.block g h.lt).trans h
theorem RpB.cells(h:RpB W g):(W.cell? ⟨g,0,FX⟩=FZ (I0 0)/\W.cell? ⟨g,1,FX⟩=FZ (I0 0)/\W.cell? ⟨g,2,FX⟩=FZ (.string ⟨#[]⟩)/\W.cell? ⟨g,3,FX⟩=FZ (.string ⟨#[]⟩)/\W.cell? ⟨g,4,FX⟩=FZ (I0 0)/\W.cell? ⟨g,5,FX⟩=FZ (I0 0))/\(W.cell? ⟨g,6,FX⟩=FZ (I0 0)/\W.cell? ⟨g,7,FX⟩=FZ (I0 0)/\W.cell? ⟨g,8,FX⟩=FZ (I0 0)/\W.cell? ⟨g,9,FX⟩=FZ (I0 0)/\W.cell? ⟨g,10,FX⟩=FZ (I0 0)/\W.cell? ⟨g,11,FX⟩=FZ (N0)):=by
 unfold RpB at h;refine⟨⟨?_,?_,?_,?_,?_,?_⟩,?_,?_,?_,?_,?_,?_⟩<;>simp[AV,h]
theorem RpB.GN(h:RpB W g)(j:Nat):W.frozen? ⟨g,j,FX⟩=false:=by
 unfold RpB at h;simp[F7,h]
def gY(W:FU)(g:Nat)(x0 x1 x2 x3 x4 x5 x6 x7 x8 x9 x10 x11:FV):FU:=
 (((((((((((W.setCell ⟨g,0,FX⟩ x0).setCell ⟨g,1,FX⟩ x1).setCell ⟨g,2,FX⟩ x2).setCell ⟨g,3,FX⟩ x3).setCell ⟨g,4,FX⟩ x4).setCell ⟨g,5,FX⟩ x5).setCell ⟨g,6,FX⟩ x6).setCell ⟨g,7,FX⟩ x7).setCell ⟨g,8,FX⟩ x8).setCell ⟨g,9,FX⟩ x9).setCell ⟨g,10,FX⟩ x10).setCell ⟨g,11,FX⟩ x11
theorem Touch.new(h:Touch F w W)(hg:w.heap.size<=g)(v:FV):Touch F w (W.setCell ⟨g,j,FX⟩ v):=
 ⟨h.os,h.tape,h.output,by simpa [World.setCell]using h.size,fun k hk hf=>(Below.heap_setCell W ⟨g,j,FX⟩ v k (by show k≠g;omega)).trans (h.block k hk hf)⟩
theorem JZ(h:Touch F w W)(hg:w.heap.size<=g)(x0 x1 x2 x3 x4 x5 x6 x7 x8 x9 x10 x11:FV):Touch F w (gY W g x0 x1 x2 x3 x4 x5 x6 x7 x8 x9 x10 x11):=
 (((((((((((h.new hg x0).new hg x1).new hg x2).new hg x3).new hg x4).new hg x5).new hg x6).new hg x7).new hg x8).new hg x9).new hg x10).new hg x11
theorem lU(w:FU)(o p:Obj):((w.alloc o).alloc p).heap[w.heap.size+1]?=FZ p:=by
 have h:=heap_alloc_new (w.alloc o) p;simpa using h
def UQ(E:Int):FV:=.agg #[I0 E,I0 0,.string ⟨#[]⟩,.string ⟨#[]⟩,I0 0,I0 0,I0 0,I0 0,I0 0,I0 0,I0 0,N0]
theorem KP(E:Int)(w:FU):FW prog 33 #[I0 E] w (R0 w (UQ E)):=by
 unfold UQ;go_enter func33,ntmps33;go_wp2_with fail;refine bodyPost_ret (v:=.agg #[I0 E,I0 0,.string ⟨#[]⟩,.string ⟨#[]⟩,I0 0,I0 0,I0 0,I0 0,I0 0,I0 0,I0 0,N0]) (by simp[results,results33,go_sem]) rfl ⟨rfl,?_⟩
 first|exact Below.refl _ _|exact G7 _ _|exact G8 (G7 _ _) (by assumption)|exact(by assumption)
def wP(k:Nat):FV:=P0 k
theorem yJ(i m:Int)(w:FU):FW prog 19 #[I0 i,I0 m] w fun e w'=>e=.returned (.bool (pU i m))/\w'=w:=by
 by_cases h:0<=i
 .by_cases h2:i<m
  .rw[show pU i m=true by simp[pU];omega];go_enter func19,ntmps19;go_wp2_with fail;go_ret;exact⟨rfl,rfl⟩
  .rw[show pU i m=false by simp[pU];omega];go_enter func19,ntmps19;go_wp2_with fail;go_ret;exact⟨rfl,rfl⟩
 .rw[show pU i m=false by simp[pU];omega];go_enter func19,ntmps19;go_wp2_with fail;go_ret;exact⟨rfl,rfl⟩
def U0(k E:Int):Bool:=decide (E=0)||decide (E=16)||(decide (E=7)&&decide (k=2))
theorem A60(k E:Int)(w:FU):FW prog 36 #[I0 k,I0 E] w fun e w'=>e=.returned (.bool (U0 k E))/\w'=w:=by
 unfold U0;by_cases h0:E=0
 .subst h0;go_enter func36,ntmps36;go_wp2_with fail;go_ret;exact⟨by simp,rfl⟩
 .by_cases h1:E=16
  .subst h1;go_enter func36,ntmps36;go_wp2_with fail;go_ret;exact⟨by simp,rfl⟩
  .by_cases h2:E=7
   .subst h2;by_cases h3:k=2
    .subst h3;go_enter func36,ntmps36;go_wp2_with fail;go_ret;exact⟨by simp,rfl⟩
    .go_enter func36,ntmps36;go_wp2_with fail;go_ret;exact⟨by simp[h3],rfl⟩
   .go_enter func36,ntmps36;go_wp2_with fail;go_ret;exact⟨by simp[h0,h1,h2],rfl⟩
theorem sQ(e:Int):(YZ e).s.length+(YZ e).t.length<=1048576:=by
 have:=aX (L6 e 0);simp only[YZ,ES];omega
theorem ZY{s t:List UInt8}(h:s.length+t.length<=1048576):LW (epD e++[⟨NW,s,t⟩]):=by
 unfold epD
 split
 .exact bU h
 .exact TP (sQ e) h
theorem iR(e:Int)(s t:List UInt8):There (epD e++[⟨NW,s,t⟩]) (epD e) ⟨NW,s,t⟩ [] NW:=by
 unfold epD
 split
 .exact⟨rfl,rfl,by simp,by simp⟩
 .exact lJ _ _ _ _
theorem BQ9(e:Int)(s t:List UInt8)(k:Nat):(epD e++[(⟨NW,s,t⟩:DF)]).map (XF k)=epD e++[⟨NW,s++t.take k,[]⟩]:=by
 unfold epD
 split
 .simp[XF]
 .simp[XF,YZ]
theorem BR0{s t:List UInt8}(he:zIn e=true)(h:s.length+t.length<=1048576):ZB (epD e++[⟨NW,s,t⟩])=e:=by
 by_cases h0:e=0
 .subst h0;rw[AF2,List.nil_append];unfold ZB;rw[kK (bU h) (fC s t)];show J3 (gV [])=0;rw[vZ,VH]
 .rw[A58 h0];have h1:=PY.1 he;have hm:L6 e 0=e*2147483648:=by rw[(U4 he (by decide)).1];omega
  have hz:KD (L6 e 0)=true:=by rw[hm];exact LZ.2 ⟨by omega,by omega⟩
  unfold ZB;show J3 (gV (WH [⟨JG,QT (L6 e 0),[]⟩,⟨NW,s,t⟩] JG).1)=e;rw[VI (TP (by have:=aX (L6 e 0);simp;omega) h) (bY _ _ _ _)];simp only[List.append_nil];rw[(AY9 hz).1,MB hz,hm];omega
section
variable {i:Nat} {q:Ps}
theorem ML.small(ok:ML 300 q):(IC q.m).length<=146100/\q.m.length<=300:=by
 have:=ok.len;exact⟨sN ok.log (by omega),by omega⟩
theorem UR(m:List GI)(a:Nat):(IC (m.take a)).length+(IC (m.drop a)).length=(IC m).length:=by
 conv=>rhs;rw[<-DN a m,LK,AO]
theorem Y9{x:GI}(h:gdE x=0):x.p.length<=200/\x.d.length<=256:=⟨BW8 (iC h).2.2.2,(iC h).2.2.1⟩
theorem ML.zin(ok:ML 300 q):zIn q.e=true:=PY.2 ⟨ok.e0,by have:=ok.e1;omega⟩
theorem ML.fits(ok:ML 300 q)(hu:q.up=true):BY2 (svP i q):=by
 obtain⟨h1,h2⟩:=ok.small;have h3:=UR q.m q.a;have g:=ok.play.good ok.dn;have gd:LW (epD q.e++[⟨NW,IC (q.m.take q.a),IC (q.m.drop q.a)⟩]):=ZY (by omega);have hw:=ok.wl;rw[J5 hu];refine⟨?_,JQ gd,by show q.m.length*72<=_;omega,fun x hx=>?_,by show (OE q.m q.dn).ns.length*88<=_;have:=g.nod.few;omega,g.wf.CK3,VF g.ses,by show q.ws.length*32<=_;omega,fun x hx=>?_⟩
 .simp only[epD]
  split<;>simp
 .have:=Y9 (ok.log.good x hx);omega
 .have:=MP (ok.wk x hx).2.2.2;omega
theorem yL(hu:q.up=true)(k:Nat):svP i (OB q k)=⟨false,((svP i q).fs).map (XF k),(svP i q).id,0,[],0,RP,[]⟩:=by
 rw[J5 hu,VP (p:=OB q k) rfl];simp only[BQ9];rw[yG,<-BQ,<-LK];have e:q.m.take (q.a+whole (q.m.drop q.a) k)=q.m.take q.a++(q.m.drop q.a).take (whole (q.m.drop q.a) k):=by rw[List.take_add]
 simp only[OB,e]
theorem BR1(ok:ML 300 q)(hu:q.up=true){ke:Int}(hk:0<=ke)(v:FV)(w:FU)(hv:SvV w v (svP i q)):FW prog 69 #[v,I0 ke] w (bH w (svP i (OB q ke.toNat)) 0):=by
 obtain⟨h1,h2⟩:=ok.small;have h3:=UR q.m q.a;have gd:LW (svP i q).fs:=by rw[J5 hu];exact ZY (by omega)
 have G:NH 103 (fun x=>#[x,I0 ke]) (svP i q).fs ((svP i q).fs.map (XF ke.toNat)) 0:=by
  have:=MV (f:=103) (args:=fun x=>#[x,I0 ((ke.toNat:Nat):Int)]) fun v W hv=>B02 v (svP i q).fs ke.toNat W hv (JQ gd) gd;rwa[Int.toNat_of_nonneg hk]at this
 rw[yL hu];exact B53 (svP i q) v _ ke w hv G
theorem A61(ok:ML 300 q)(hu:q.up=true){ke:Int}(hk:ke<0)(v:FV)(w:FU)(hv:SvV w v (svP i q)):FW prog 69 #[v,I0 ke] w (bH w sv0 3):=by
 obtain⟨h1,h2⟩:=ok.small;have h3:=UR q.m q.a;have gd:LW (svP i q).fs:=by rw[J5 hu];exact ZY (by omega)
 exact AP4 (svP i q) v [] ke 3 w hv (by decide) (wK fun v W hv=>BJ2 v (svP i q).fs ke W hv (JQ gd) (.inr hk))
theorem C94(ok:ML 300 q)(hu:q.up=false)(hi:i<3)(v:FV)(w:FU)(hv:IQ w v (svP i q).fs):FW prog 31 #[I0 i,.agg #[v]] w (bH w (svP i (upP q)) 0):=by
 obtain⟨h1,h2⟩:=ok.small;obtain⟨_,_,_,hs,hq⟩:=ok.down hu;have hl:(IC q.m++q.q).length+([]:List UInt8).length<=1048576:=by simp;omega
 rw[VP hu]at hv;have gd:LW (epD q.e++[⟨NW,IC q.m++q.q,[]⟩]):=ZY hl;have R:ZC (epD q.e++[⟨NW,IC q.m++q.q,[]⟩]) q.m (epD q.e) []:=⟨gd,ok.log,.inr ⟨_,q.q,iR _ _ _,by simpa using hs⟩⟩;have:=AE4 v _ _ q.m i w hv (JQ gd) (by omega) (by omega) (lH R);rw[BR0 ok.zin hl]at this;rw[J5 (p:=upP q) rfl];simpa [upP,P6,XW,show IC []=[]from rfl]using this
theorem C95{x:GI}(sure:Bool)(ok:ML 299 q)(hu:q.up=true)(hg:gdE x=0)(hz:J4 q.m<x.z)(v:FV)(w:FU)(hv:SvV w v (svP i q)):FW prog 94 #[v,J8 x,.bool sure] w fun e w'=>fA w (svP i (TA x sure q)) 0 e w'/\FrT w e:=by
 have ok':=ok.more (show (299:Int)<=300 by omega);obtain⟨h1,h2⟩:=ok'.small;have h3:=UR q.m q.a;have hr:=jG hg;have hx:=Y9 hg;have ha:=ok.a;have g0:LW (epD q.e++[⟨NW,IC (q.m.take q.a),IC (q.m.drop q.a)⟩]):=ZY (by omega);have g1:LW (epD q.e++[⟨NW,IC (q.m.take q.a),IC (q.m.drop q.a)++QZ x⟩]):=ZY (by simp;omega);have W1:∀v W,IQ W v (epD q.e++[⟨NW,IC (q.m.take q.a),IC (q.m.drop q.a)⟩])->FW prog 55 #[.agg #[v],S0 NW,S0 (QZ x)] W fun e w'=>∃v',e=.returned (.tuple #[.agg #[v'],I0 0])/\YO w' W.heap.size v' (epD q.e++[⟨NW,IC (q.m.take q.a),IC (q.m.drop q.a)++QZ x⟩])/\B0 W w':=fun v W hv=>
  kH v _ (epD q.e) [] _ NW (QZ x) W hv (JQ g0) g0 (iR _ _ _) (by simp only;omega)
 have S1:∀v W,IQ W v (epD q.e++[⟨NW,IC (q.m.take q.a),IC (q.m.drop q.a)++QZ x⟩])->FW prog 146 #[.agg #[v],S0 NW] W fun e w'=>∃v',e=.returned (.tuple #[.agg #[v'],I0 0])/\YO w' W.heap.size v' (epD q.e++[⟨NW,IC (q.m.take q.a)++(IC (q.m.drop q.a)++QZ x),[]⟩])/\B0 W w':=fun v W hv=>
  YQ v _ (epD q.e) [] _ NW W hv (JQ g1) g1 (iR _ _ _)
 have T:CV5 (svP i q) x sure 0 (svP i (TA x sure q)):=by
  rw[J5 hu];refine .inr (.inr ⟨by show ¬x.z<=J4 q.m;omega,rfl,?_⟩)
  cases sure with
  |true=>
   refine⟨_,?_,pF _ _ _ x 0 hg (MV W1) (eY S1)⟩;rw[J5 (p:=TA x true q) hu];simp only[TA,if_true,VN q.m x ok.dn];rw[BL (by simp),List.drop_of_length_le (by simp),<-BQ,<-LK,DN,<-PZ];rfl
  |false=>
   refine⟨_,?_,AP5 _ _ x hg (eY W1)⟩;rw[J5 (p:=TA x false q) hu];simp only[TA,Bool.false_eq_true,if_false,VN q.m x ok.dn];rw[List.take_append_of_le_length ha,List.drop_append_of_le_length ha,PZ]
 exact A46 (svP i q) _ v x sure 0 w hv (ok'.fits hu) T (by omega) (by omega) (by rw[J5 hu];show q.m.length<=_;omega)
theorem BZ7(ok:ML 300 q)(hu:q.up=true):Chn (svP i q) (q.m.drop q.dn) (q.m.length-q.dn):=by
 have e:∀j,(csP (svP i q) (q.m.drop q.dn) j).1.tr=OE q.m (q.dn+j):=fun j=>by
  unfold csP OE;rw[B62,J5 hu,List.take_add,List.foldl_append];rfl
 refine⟨by simp,fun j x hj hx=>?_,fun x hx=>?_⟩
 .rw[e];rw[List.getElem?_drop]at hx;exact ok.play _ x hx
 .have:=(AU.1 hx).1;simp at this
theorem B77(ok:ML 300 q)(hu:q.up=true):BN6 (svP i q) (q.m.drop q.dn):=by
 have hw:=ok.wl;rw[J5 hu];refine⟨(ok.play.good ok.dn).wf,fun x hx=>?_,by show q.ws.length*32<=_;omega,fun x hx=>?_,fun x hx=>?_⟩
 .have:=MP (ok.wk x hx).2.2.2;omega
 .have:=Y9 (ok.log.good x (List.mem_of_mem_drop hx));omega
 .have:=Y9 (ok.log.good x (List.mem_of_mem_drop hx));omega
theorem C96(ok:ML 300 q)(hu:q.up=true):(dM i q).1.up=true/\(dM i q).1.fs=(svP i q).fs/\(dM i q).1.id=i/\(dM i q).1.ep=q.e/\(dM i q).1.ts=q.m/\(dM i q).1.tr=OE q.m q.m.length:=by
 obtain⟨_,b1,b2,b3,b4,b5,_⟩:=BY4 (B77 (i:=i) ok hu) (BZ7 ok hu) _ (A8 _);have hd:=ok.dn;refine⟨?_,b2,?_,?_,?_,?_⟩
 .show (csP _ _ _).1.up=true;rw[b1,J5 hu]
 .show (csP _ _ _).1.id=_;rw[b3,J5 hu]
 .show (csP _ _ _).1.ep=_;rw[b4,J5 hu]
 .show (csP _ _ _).1.ts=_;rw[b5,J5 hu]
 .show (csP _ _ _).1.tr=_;unfold csP;rw[B62,J5 hu];show (List.take _ _).foldl WY (OE q.m q.dn)=_;unfold OE;rw[<-List.foldl_append,<-List.take_add,show q.dn+(q.m.length-q.dn)=q.m.length by omega]
theorem B78(ok:ML 300 q)(hu:q.up=true)(v:FV)(w:FU)(hv:SvV w v (svP i q)):FW prog 95 #[v,I0 q.m.length] w fun e w'=>lG w (svP i (gX i q)) (dM i q).2 0 e w'/\FrS w e:=by
 have hd:=ok.dn;obtain⟨c1,c2,c3,c4,c5,c6⟩:=C96 (i:=i) ok hu;refine(xX (svP i q) v q.dn q.m.length (q.m.length-q.dn) (q.m.drop q.dn) w hv (ok.fits hu) (by rw[J5 hu]) hd (by rw[J5 hu];exact A8 _) (by rw[J5 hu];show _=List.take _ (List.drop q.dn q.m);rw[BL (by simp)]) (BZ7 ok hu) (B77 ok hu)).mono fun e w' H=>?_;have:=H.1 (by simp);have e:svP i (gX i q)=⟨(csP (svP i q) (q.m.drop q.dn) (q.m.length-q.dn)).1.up,(csP (svP i q) (q.m.drop q.dn) (q.m.length-q.dn)).1.fs,(csP (svP i q) (q.m.drop q.dn) (q.m.length-q.dn)).1.id,(csP (svP i q) (q.m.drop q.dn) (q.m.length-q.dn)).1.ep,(csP (svP i q) (q.m.drop q.dn) (q.m.length-q.dn)).1.ts,(q.m.length:Int),(csP (svP i q) (q.m.drop q.dn) (q.m.length-q.dn)).1.tr,(csP (svP i q) (q.m.drop q.dn) (q.m.length-q.dn)).1.ws⟩:=by
  show _=(⟨(dM i q).1.up,(dM i q).1.fs,(dM i q).1.id,(dM i q).1.ep,(dM i q).1.ts,(q.m.length:Int),(dM i q).1.tr,(dM i q).1.ws⟩:Sv);rw[c1,c2,c3,c4,c5,c6,J5 (p:=gX i q) hu,J5 hu];rfl
 rw[e];exact this
end
def rpV(r:Rp)(v:FV):FV:=.agg #[I0 r.E,I0 r.z,S0 r.p,S0 r.d,I0 r.t.c,I0 r.t.m,I0 r.t.q,I0 r.t.v,I0 r.t.k,I0 r.t.o,I0 r.t.n,v]
def Did(W:FU)(k:Nat)(kd:Int)(x:Rp×Pw)(e:Ending)(w':FU):Prop:=
 ∃v,e=.returned (rpV x.1 v)/\GZ w' W.heap.size v x.1.ns/\Touch (· =k) W w'/\(U0 kd x.1.E=true->WX w' k x.2)
theorem VT{kd:Int}{e:Ending}(he:e=.returned (UQ E))(ht:Touch (· =k) W w')(hl:U0 kd E=false):Did W k kd (TQ E,p) e w':=
 ⟨N0,he,.inl ⟨rfl,rfl⟩,ht,fun h=>by rw[show (TQ E,p).1.E=E from rfl,hl]at h;cases h⟩
theorem aA(p:Pw)(k:Nat)(W:FU)(hx:WX W k p):FW prog 63 #[wP k] W fun e w'=>e=.returned (.tuple #[])/\WX w' k ⟨p.n,p.s,fun _=>0,p.c,p.D,p.H,p.h⟩/\Touch (· =k) W w':=by
 have X:=G6 hx.clear;have T:=G6 (TB W k 31 (I0 0) (I0 0) (I0 0));have r0:=hx.role (i:=0) (by omega);have r1:=hx.role (i:=1) (by omega);have r2:=hx.role (i:=2) (by omega);have f0:=hx.GN 31;have f1:=hx.GN 32;have f2:=hx.GN 33;simp only[Nat.reduceAdd]at r0 r1 r2;unfold wP;clear hx;go_enter func63,ntmps63;go_wp2_with fail;exact bodyPost_end (v:=.tuple #[]) (by simp[results,results63,go_sem]) rfl ⟨rfl,G5 X,G5 T⟩
theorem TD(W:FU)(n:Nat):B0 W (W.drewN n):=⟨rfl,rfl,rfl,A8 _,fun _ _=>rfl⟩
structure DB(w W:FU)(d:Dd):Prop where
 b:B0 w W
 r:RpB W (w.heap.size+1)
 d:JF W w.heap.size d
theorem DB.start(w:FU)(d:Dd):DB w ((w.alloc (FT #[I0 d.k,I0 d.c,I0 d.s,I0 d.q.o,I0 d.q.s,S0 d.q.p,S0 d.q.d,I0 d.q.v,I0 d.q.f,I0 d.lo,I0 d.sl,I0 d.ke,.bool d.wt] 31)).alloc (FT #[I0 0,I0 0,.string ⟨#[]⟩,.string ⟨#[]⟩,I0 0,I0 0,I0 0,I0 0,I0 0,I0 0,I0 0,N0] 37)) d:=by
 refine⟨G8 (G7 _ _) (G7 _ _),lU _ _ _,?_⟩;exact JF.Y0 (heap_alloc_new w _:JF (w.alloc _) w.heap.size d) (G7 _ _) (by simp)
theorem DB.next(h:DB w W d)(hb:B0 W V):DB w V d:=⟨G8 h.b hb,h.r.next hb,h.d.Y0 hb h.d.ltz⟩
theorem DB.cells(h:DB w W d):(W.cell? ⟨w.heap.size,0,FX⟩=FZ (I0 d.k)/\W.cell? ⟨w.heap.size,1,FX⟩=FZ (I0 d.c)/\W.cell? ⟨w.heap.size,2,FX⟩=FZ (I0 d.s)/\W.cell? ⟨w.heap.size,3,FX⟩=FZ (I0 d.q.o)/\W.cell? ⟨w.heap.size,4,FX⟩=FZ (I0 d.q.s)/\W.cell? ⟨w.heap.size,5,FX⟩=FZ (S0 d.q.p)/\W.cell? ⟨w.heap.size,6,FX⟩=FZ (S0 d.q.d))/\W.cell? ⟨w.heap.size,7,FX⟩=FZ (I0 d.q.v)/\W.cell? ⟨w.heap.size,8,FX⟩=FZ (I0 d.q.f)/\W.cell? ⟨w.heap.size,9,FX⟩=FZ (I0 d.lo)/\W.cell? ⟨w.heap.size,10,FX⟩=FZ (I0 d.sl)/\W.cell? ⟨w.heap.size,11,FX⟩=FZ (I0 d.ke)/\W.cell? ⟨w.heap.size,12,FX⟩=FZ (.bool d.wt):=by
 have r:=h.d.row;simp only[BI]at r;exact⟨⟨r 0 _ rfl,r 1 _ rfl,r 2 _ rfl,r 3 _ rfl,r 4 _ rfl,r 5 _ rfl,r 6 _ rfl⟩,r 7 _ rfl,r 8 _ rfl,r 9 _ rfl,r 10 _ rfl,r 11 _ rfl,r 12 _ rfl⟩
theorem AQ3(p:Pw)(d:Dd)(k:Nat)(W:FU)(hx:WX W k p)(hi:0<=d.s/\d.s<3)(hu:(p.s d.s.toNat).up=false):FW prog 49 #[wP k,ddV d] W (Did W k 3 (TQ 14,p)):=by
 have C:=G6 (fun W=>KP 14 W);have D0:=G6 (DB.start W d);obtain⟨i,hi3,hdi⟩:∃i:Nat,i<3/\d.s=i:=⟨d.s.toNat,by omega,by omega⟩;rw[hdi,Int.toNat_natCast]at hu;obtain⟨ad,nd,cd,al,cl,an,cn,ai,ci,aw,cw,S,_,_⟩:=hx.srv hi3 rfl;have S0:∀V,B0 W V->V.cell? ⟨k,1+10*i,FX⟩=FZ (.bool false):=fun V hV=>by
  have:=S.c0;rw[VP hu]at this;rw[AV,hV.block k hx.lt];exact this
 obtain⟨dk,dc,ds,⟨o,s,pp,dd,v,f⟩,lo,sl,ke,wt⟩:=d;simp only at hdi;subst hdi;unfold wP ddV;unfold UQ at C;clear S hx hu hi;have hX:∀w1,DB W w1 ⟨dk,dc,(i:Int),⟨o,s,pp,dd,v,f⟩,lo,sl,ke,wt⟩->Did W k 3 (TQ 14,p) (.returned (UQ 14)) (gY w1 (W.heap.size+1) (I0 14) (I0 0) (.string ⟨#[]⟩) (.string ⟨#[]⟩) (I0 0) (I0 0) (I0 0) (I0 0) (I0 0) (I0 0) (I0 0) (N0)):=fun w1 h=>VT rfl (JZ (Touch.of_below h.b) (by omega) _ _ _ _ _ _ _ _ _ _ _ _) (by decide);rcases(show i=0\/i=1\/i=2 by omega)with rfl|rfl|rfl
 all_goals
  simp only[Nat.reduceAdd,Nat.reduceMul]at S0;go_enter func49,ntmps49;go_upto_region 1 with fail;generalize ((W.alloc _).alloc _)=W0 at*;obtain⟨⟨e0,e1,e2,e3,e4,e5,e6⟩,e7,e8,e9,e10,e11,e12⟩:=(G5 D0).cells;have T0:=S0 W0 (G5 D0).b;simp only at e2
  go_quiet (fail)
  go_wp2_with fail;refine(G5 C _).mono ?_;rintro e w1 ⟨rfl,hb⟩;have D1:=(G5 D0).next (G8 (TD _ _) hb);obtain⟨⟨c0,c1,c2,c3,c4,c5⟩,c6,c7,c8,c9,c10,c11⟩:=D1.r.cells;have f0:=D1.r.GN;have X1:=G6 (hX w1 D1);clear hb D1 D0 C S0 hX;unfold UQ at X1;go_wp2_with fail;exact bodyPost_ret (v:=.agg #[I0 14,I0 0,.string ⟨#[]⟩,.string ⟨#[]⟩,I0 0,I0 0,I0 0,I0 0,I0 0,I0 0,I0 0,N0]) (by simp[results,results49,go_sem,c0,c1,c2,c3,c4,c5,c6,c7,c8,c9,c10,c11]) rfl (G5 X1)
theorem CN1(hj:j<3)(h:r j=2)(hb:∀m,m<j->r m≠2):ldP r=j:=by
 unfold ldP;rcases(show j=0\/j=1\/j=2 by omega)with rfl|rfl|rfl
 .rw[if_pos h];rfl
 .rw[if_neg (hb 0 (by omega)),if_pos h];rfl
 .rw[if_neg (hb 0 (by omega)),if_neg (hb 1 (by omega)),if_pos h];rfl
theorem C97(hb:∀m,m<3->r m≠2):ldP r=-1:=by
 unfold ldP;rw[if_neg (hb 0 (by omega)),if_neg (hb 1 (by omega)),if_neg (hb 2 (by omega))]
theorem C98(r:Nat->Int)(k:Nat)(w:FU)(hc:∀i,i<3->w.cell? ⟨k,31+i,FX⟩=FZ (I0 (r i))):
  FW prog 43 #[FQ (FZ ⟨k,31,FX⟩) 3 3,I0 2] w (R0 w (I0 (ldP r))):=by
 have HC:=G6 hc;clear hc;go_enter func43,ntmps43;go_wp2_with fail
 go_loopg [8] 3 (fun kx s8 wr=>∃j:Nat,s8=I0 j/\j<=3/\3-j<=kx/\Hid (∀m,m<j->r m≠2)/\Hid (B0 w wr/\∀i,i<3->wr.cell? ⟨k,31+i,FX⟩=FZ (I0 (r i))))
 case atStart=>exact⟨0,rfl,by omega,A8 _,G6 (fun m hm=>by omega),G6 ⟨Below.refl _ _,G5 HC⟩⟩
 case round=>
  obtain⟨j,rfl,hj,hg,hh,hB⟩:=hrel;by_cases hlt:j<3
  .have d0:=(G5 hB).2 j hlt;have hjj:(j:Int)<3:=by omega
   by_cases h2:r j=2
   .rw[h2]at d0;have HE:=G6 (CN1 hlt h2 (G5 hh));clear h2;go_wp2_with fail
    try go_quiet (fail)
    go_wp2_with fail;go_ret;exact⟨by rw[G5 HE];rfl,(G5 hB).1⟩
   .have HN:=G6 (fun m (hm:m<j+1)=>(show r m≠2 by
     by_cases e:m=j
     .rw[e];exact h2
     .exact G5 hh m (by omega)))
    have h3:¬2=r j:=fun e=>h2 e.symm;go_wp2_with fail
    try go_quiet (fail)
    go_wp2_with fail
    go_roundg (3-(j+1))
    case measure=>omega
    case rel=>exact⟨j+1,rfl,by omega,A8 _,HN,hB⟩
  .obtain rfl:j=3:=by omega
   have HE:=G6 (C97 (G5 hh));go_wp2_with fail;go_ret;exact⟨by rw[G5 HE];rfl,(G5 hB).1⟩
theorem SI(p:Pw)(k:Nat)(W:FU)(hx:WX W k p):FW prog 29 #[wP k] W (R0 W (I0 (ldP p.r))):=by
 have C:=G6 (C98 p.r k W (fun i hi=>hx.role hi));unfold wP;clear hx;go_enter func29,ntmps29;go_wp2_with fail;refine(G5 C).mono ?_;rintro e w1 ⟨rfl,hb⟩;go_wp2_with fail;go_ret;exact⟨rfl,hb⟩
def B79(w:FU)(s:Sv)(E:Int)(e:Ending)(w':FU):Prop:=
 ∃ad nd cd al cl an cn ai ci aw cw,e=.returned (.tuple #[.agg #[.bool s.up,FQ ad nd cd,I0 s.id,I0 s.ep,FQ al s.ts.length cl,I0 s.dn,I0 s.tr.z,FQ an s.tr.ns.length cn,FQ ai s.tr.ss.length ci,FQ aw s.ws.length cw],I0 E])/\
  Hid (SvV w' (.agg #[.bool s.up,FQ ad nd cd,I0 s.id,I0 s.ep,FQ al s.ts.length cl,I0 s.dn,I0 s.tr.z,FQ an s.tr.ns.length cn,FQ ai s.tr.ss.length ci,FQ aw s.ws.length cw]) s/\(s.tr.ss≠[]->∀k,k<w.heap.size->UJ (FQ ai s.tr.ss.length ci) k))/\B0 w w'
theorem sS{e:Ending}(h:bH w s E e w')(hs:s.tr.ss=[]):B79 w s E e w':=by
 obtain⟨v,he,hv,hb⟩:=h;obtain⟨ad,nd,cd,al,cl,an,cn,ai,ci,aw,cw,rfl,_⟩:=hv.five;exact⟨ad,nd,cd,al,cl,an,cn,ai,ci,aw,cw,he,G6 ⟨hv,fun h=>absurd hs h⟩,hb⟩
theorem LJ(h:OA B v)(hk:k<B):UJ v k:=fun b off n c e=>by have:=h b off n c e;omega
theorem BR2{e:Ending}(h:fA w s E e w'):B79 w s E e w':=by
 obtain⟨ad,nd,cd,al,nl,cl,an,nn,cn,ai,ni,ci,aw,nw,cw,he,hs,hb⟩:=h;obtain⟨hv,hf⟩:=G5 hs;obtain⟨ad',nd',cd',al',cl',an',cn',ai',ci',aw',cw',e5,_⟩:=hv.five;simp only[EK,F5,EC,AP,true_and,and_true]at e5;obtain⟨⟨rfl,rfl,rfl⟩,⟨rfl,rfl,rfl⟩,⟨rfl,rfl,rfl⟩,⟨rfl,rfl,rfl⟩,rfl,rfl,rfl⟩:=e5;exact⟨_,_,_,_,_,_,_,_,_,_,_,he,G6 ⟨hv,fun _ k hk=>LJ hf hk⟩,hb⟩
structure SBX(w V:FU)(q:Nat)(s:Sv)(vd vl vn vs vw:FV):Prop where
 b:B0 w V
 le:w.heap.size<=q
 box:IK V q s.up vd s.id s.ep vl s.dn s.tr.z vn vs vw
 v:SvV V (.agg #[.bool s.up,vd,I0 s.id,I0 s.ep,vl,I0 s.dn,I0 s.tr.z,vn,vs,vw]) s
 a:s.tr.ss≠[]->∀k,k<w.heap.size->UJ vs k
section
variable {w w1 u:FU} {s:Sv} {ad al an ai aw:Option Addr} {nd cd nl cl nn cn ni ci nw cw:Nat}
theorem fD(hb:B0 w w1)(hv:SvV w1 (.agg #[.bool s.up,FQ ad nd cd,I0 s.id,I0 s.ep,FQ al nl cl,I0 s.dn,I0 s.tr.z,FQ an nn cn,FQ ai ni ci,FQ aw nw cw]) s)(ha:s.tr.ss≠[]->∀k,k<u.heap.size->UJ (FQ ai ni ci) k)(hu:w.heap.size<=u.heap.size):
  SBX w (w1.alloc (FT #[.bool s.up,FQ ad nd cd,I0 s.id,I0 s.ep,FQ al nl cl,I0 s.dn,I0 s.tr.z,FQ an nn cn,FQ ai ni ci,FQ aw nw cw] 64)) w1.heap.size s (FQ ad nd cd) (FQ al nl cl) (FQ an nn cn) (FQ ai ni ci) (FQ aw nw cw):=
 ⟨G8 hb (G7 _ _),hb.size,IK.new _ _ _ _ _ _ _ _ _ _ _,hv.alloc _,fun h k hk=>ha h k (by omega)⟩
theorem lV(hb:B0 w w1)(hq:w.heap.size<=q)(hz:IK w1 q false (N0) 0 0 (N0) 0 0 (N0) (N0) (N0))(hv:SvV w1 (.agg #[.bool s.up,FQ ad nd cd,I0 s.id,I0 s.ep,FQ al nl cl,I0 s.dn,I0 s.tr.z,FQ an nn cn,FQ ai ni ci,FQ aw nw cw]) s)(ha:s.tr.ss≠[]->∀k,k<u.heap.size->UJ (FQ ai ni ci) k)(hu:q<u.heap.size):
  SBX w (PL w1 q (.bool s.up) (FQ ad nd cd) (I0 s.id) (I0 s.ep) (FQ al nl cl) (I0 s.dn) (I0 s.tr.z) (FQ an nn cn) (FQ ai ni ci) (FQ aw nw cw)) q s (FQ ad nd cd) (FQ al nl cl) (FQ an nn cn) (FQ ai ni ci) (FQ aw nw cw):=by
 refine⟨JU hb hq _ _ _ _ _ _ _ _ _ _,hq,lI hz _ _ _ _ _ _ _ _ _ _,?_,fun h k hk=>ha h k (by omega)⟩;by_cases h:s.tr.ss=[]
 .have hv2:=hv;obtain⟨vd,vl,vn,vs,vw,e,r1,r2,r3,r4,r5⟩:=hv2;simp only[EK,F5,EC,true_and,and_true]at e;obtain⟨rfl,rfl,rfl,rfl,rfl⟩:=e;have hd:=hz.gW;have hx:SvV (PL w1 q (.bool s.up) (FQ ad nd cd) (I0 s.id) (I0 s.ep) (FQ al nl cl) (I0 s.dn) (I0 s.tr.z) (FQ an nn cn) (FQ ai ni ci) (FQ aw nw cw)) (.agg #[.bool s.up,FQ ad nd cd,I0 s.id,I0 s.ep,FQ al nl cl,I0 s.dn,I0 s.tr.z,FQ an nn cn,N0,FQ aw nw cw]) s:=
   rP hd (fun vd vl vn vs vw e=>by simp only[EK,F5,EC]at e;rw[<-e.2.2.2.2.2.2.2.2.1];exact wY _ _ _) ⟨_,_,_,_,_,rfl,r1,r2,r3,by rw[h];exact IU.nil _,r5⟩
  obtain⟨vd,vl,vn,vs,vw,e,q1,q2,q3,q4,q5⟩:=hx;simp only[EK,F5,EC,true_and,and_true]at e;obtain⟨rfl,rfl,rfl,rfl,rfl⟩:=e;refine⟨_,_,_,_,_,rfl,q1,q2,q3,?_,q5⟩;rw[h]at r4⊢;rcases r4 with h4|⟨_,_,_,_,_,_,_,h0,_⟩
  .exact .inl h4
  .exact absurd rfl h0
 .exact rP hz.gW (fun vd vl vn vs vw e=>by simp only[EK,F5,EC]at e;rw[<-e.2.2.2.2.2.2.2.2.1];exact ha h q hu) hv
end
def AG6:List FV:=[I0 0,I0 0,.string ⟨#[]⟩,.string ⟨#[]⟩,I0 0,I0 0,I0 0,I0 0,I0 0,I0 0,I0 0,N0]
theorem RpB.at(h:RpB W g)(hv:W.cell? ⟨g,j,FX⟩=FZ v):AG6[j]?=FZ v:=by
 unfold RpB at h;simpa [AV,h,AG6]using hv
theorem YA{s:ByteArray}(h:AG6[j]?=FZ (.string s)):j=2\/j=3:=by
 by_cases hj:j<12
 .rcases(show j=0\/j=1\/j=2\/j=3\/j=4\/j=5\/j=6\/j=7\/j=8\/j=9\/j=10\/j=11 by omega)with rfl|rfl|rfl|rfl|rfl|rfl|rfl|rfl|rfl|rfl|rfl|rfl<;>simp[AG6]at h⊢
 .rw[List.getElem?_eq_none (by simp[AG6];omega)]at h;cases h
theorem AQ8{s:ByteArray}(h:AG6[j]?=FZ (.string s)):s=⟨#[]⟩:=by
 rcases YA h with rfl|rfl<;>simpa [AG6]using h.symm
theorem AG7{n:Int}(h:AG6[j]?=FZ (I0 n)):n=0:=by
 by_cases hj:j<12
 .rcases(show j=0\/j=1\/j=2\/j=3\/j=4\/j=5\/j=6\/j=7\/j=8\/j=9\/j=10\/j=11 by omega)with rfl|rfl|rfl|rfl|rfl|rfl|rfl|rfl|rfl|rfl|rfl|rfl<;>simp[AG6]at h<;>omega
 .rw[List.getElem?_eq_none (by simp[AG6];omega)]at h;cases h
theorem B85{b:Bool}:AG6[j]? ≠FZ (.bool b):=by
 intro h;by_cases hj:j<12
 .rcases(show j=0\/j=1\/j=2\/j=3\/j=4\/j=5\/j=6\/j=7\/j=8\/j=9\/j=10\/j=11 by omega)with rfl|rfl|rfl|rfl|rfl|rfl|rfl|rfl|rfl|rfl|rfl|rfl<;>simp[AG6]at h
 .rw[List.getElem?_eq_none (by simp[AG6];omega)]at h;cases h
theorem YW[Lay α]{xs:List α}(hg:RpB W g)(hv:IU W v xs)(hno:∀x∈xs,∀off,¬ ∀ (j:Nat) u,j<Lay.k α->(Lay.cs x)[j]?=FZ u->AG6[off+j]?=FZ u)(h0:xs≠[]):UJ v g:=by
 intro b off n c e;rcases hv with⟨a,cap,_,e0,_⟩|⟨b',off',cap,rfl,_,_,h3,_,h4⟩
 .exact absurd e0 h0
 .simp only[AP,BD,Addr.mk.injEq]at e;rintro rfl;obtain⟨x,r,rfl⟩:=List.exists_cons_of_ne_nil h0;refine hno x (by simp) off' fun j u hj hu=>hg.at ?_;have:=h4 (0*Lay.k α+j) _ ((GV (x::r) 0 x rfl j hj).trans hu);rw[Nat.zero_mul,BI]at this;rw[<-e.1.1];exact this
section
variable {W:FU} {k g:Nat} {v:FV}
theorem BR6{xs:List DF}(hg:RpB W g)(h:IU W v xs)(h0:xs≠[]):UJ v g:=YW hg h (fun x _ off H=>by
 have a:=YA (H 0 _ (by decide) rfl);have c:=YA (H 2 _ (by decide) rfl);omega) h0
theorem B86{xs:List GI}(hg:RpB W g)(h:IU W v xs)(h0:xs≠[]):UJ v g:=YW hg h (fun x _ off H=>by
 have a:=YA (H 3 _ (by decide) rfl);have c:=YA (H 4 _ (by decide) rfl);omega) h0
theorem B87{xs:List En}(hg:RpB W g)(h:IU W v xs)(h0:xs≠[]):UJ v g:=YW hg h (fun x _ off H=>B85 (H 2 _ (by decide) rfl)) h0
theorem A63{xs:List Wa}(hg:RpB W g)(h:IU W v xs)(hs:∀x∈xs,1<=x.s)(h0:xs≠[]):UJ v g:=YW hg h (fun x hx off H=>by
 have a:=AG7 (H 0 _ (by decide) rfl);have:=hs x hx;omega) h0
theorem BR7{xs:List Int}(hg:RpB W g)(h:IU W v xs)(hs:∀x∈xs,1<=x)(h0:xs≠[]):UJ v g:=YW hg h (fun x hx off H=>by
 have a:=AG7 (H 0 _ (by decide) rfl);have:=hs x hx;omega) h0
theorem B88{xs:List Nd}(hg:RpB W g)(h:IU W v xs)(hs:∀x∈xs,x.p≠[])(h0:xs≠[]):UJ v g:=YW hg h (fun x hx off H=>by
 have a:=AQ8 (H 0 _ (by decide) rfl);have:x.p=[]:=by simpa using a
 exact hs x hx this) h0
theorem Row.far[Lay α]{xs:List α}(h:Row W k v xs)(ht:Touch (· =g) W V)(ha:xs≠[]->UJ v g):Row V k v xs:=by
 refine⟨?_,h.2⟩;exact(Row.touch (k:=g) ⟨h.1,ha⟩ ht).1
end
theorem CA3{t:Tr}(h:QA t):∀x∈t.ns,x.p≠[]:=fun x hx e=>by
 have:=(h.nod.ok x hx).path;rw[e]at this;exact absurd this (by decide)
theorem BR8{N:Int}{q:Ps}(ok:ML N q):QA (svP i q).tr/\∀x∈(svP i q).ws,1<=x.s:=by
 cases hu:q.up with
 |true=>rw[J5 hu];exact⟨ok.play.good ok.dn,fun x hx=>(ok.wk x hx).1⟩
 |false=>rw[VP hu];exact⟨bP,by simp⟩
theorem WX.reply(h:WX W k p)(hp:∀i,i<3->ML 300 (p.s i))(hg:RpB W g)(hk:k≠g)(ht:Touch (· =g) W V):WX V k p:=by
 obtain⟨f,hb,hr⟩:=h;refine⟨f,hb.touch ht hk,hr.n,fun i hi=>?_,hr.r,fun i hi=>⟨(hr.c i hi).s,(hr.c i hi).z,(hr.c i hi).e.far ht (B87 hg (hr.c i hi).e.1)⟩,hr.d.far ht (B86 hg hr.d.1),hr.h,hr.hk⟩;obtain⟨gt,gw⟩:=BR8 (i:=i) (hp i hi);have s:=hr.s i hi;exact⟨s.up,s.d.far ht (BR6 hg s.d.1),s.id,s.ep,s.l.far ht (B86 hg s.l.1),s.dn,s.z,s.n.far ht (B88 hg s.n.1 (CA3 gt)),s.i.far ht (BR7 hg s.i.1 fun x hx=>(gt.ses.2 x hx).1),s.w.far ht (A63 hg s.w.1 gw)⟩
theorem dD(W:FU)(g:Nat)(x0 x1 x2 x3 x4 x5 x6 x7 x8 x9 x10 x11:FV):Touch (· =g) W (gY W g x0 x1 x2 x3 x4 x5 x6 x7 x8 x9 x10 x11):=
 (((((((((((JJ _ _ _ _).trans (JJ _ _ _ _)).trans (JJ _ _ _ _)).trans (JJ _ _ _ _)).trans (JJ _ _ _ _)).trans (JJ _ _ _ _)).trans (JJ _ _ _ _)).trans (JJ _ _ _ _)).trans (JJ _ _ _ _)).trans (JJ _ _ _ _)).trans (JJ _ _ _ _)).trans (JJ _ _ _ _)
structure DT(k:Nat)(w W:FU)(d:Dd):Prop where
 t:Touch (· =k) w W
 r:RpB W (w.heap.size+1)
 d:JF W w.heap.size d
section
variable {k:Nat} {w W V:FU} {d:Dd}
theorem DB.dt(h:DB w W d)(k:Nat):DT k w W d:=⟨Touch.of_below h.b,h.r,h.d⟩
theorem DT.touch(h:DT k w W d)(hk:k<w.heap.size)(ht:Touch (· =k) W V):DT k w V d:=
 ⟨h.t.trans ht,h.r.touch ht (by omega),(ht.block _ h.d.ltz (by omega)).trans h.d⟩
theorem DT.next(h:DT k w W d)(hk:k<w.heap.size)(hb:B0 W V):DT k w V d:=h.touch hk (Touch.of_below hb)
theorem DT.cells(h:DT k w W d):(W.cell? ⟨w.heap.size,0,FX⟩=FZ (I0 d.k)/\W.cell? ⟨w.heap.size,1,FX⟩=FZ (I0 d.c)/\W.cell? ⟨w.heap.size,2,FX⟩=FZ (I0 d.s)/\W.cell? ⟨w.heap.size,3,FX⟩=FZ (I0 d.q.o)/\W.cell? ⟨w.heap.size,4,FX⟩=FZ (I0 d.q.s)/\W.cell? ⟨w.heap.size,5,FX⟩=FZ (S0 d.q.p)/\W.cell? ⟨w.heap.size,6,FX⟩=FZ (S0 d.q.d))/\W.cell? ⟨w.heap.size,7,FX⟩=FZ (I0 d.q.v)/\W.cell? ⟨w.heap.size,8,FX⟩=FZ (I0 d.q.f)/\W.cell? ⟨w.heap.size,9,FX⟩=FZ (I0 d.lo)/\W.cell? ⟨w.heap.size,10,FX⟩=FZ (I0 d.sl)/\W.cell? ⟨w.heap.size,11,FX⟩=FZ (I0 d.ke)/\W.cell? ⟨w.heap.size,12,FX⟩=FZ (.bool d.wt):=by
 have r:=h.d.row;simp only[BI]at r;exact⟨⟨r 0 _ rfl,r 1 _ rfl,r 2 _ rfl,r 3 _ rfl,r 4 _ rfl,r 5 _ rfl,r 6 _ rfl⟩,r 7 _ rfl,r 8 _ rfl,r 9 _ rfl,r 10 _ rfl,r 11 _ rfl,r 12 _ rfl⟩
end
theorem sW{kd:Int}(hk:k<W.heap.size)(h:DT k W V d)(hx:WX V k p)(hp:∀i,i<3->ML 300 (p.s i)):
  Did W k kd (TQ 0,p) (.returned (UQ 0)) (gY V (W.heap.size+1) (I0 0) (I0 0) (.string ⟨#[]⟩) (.string ⟨#[]⟩) (I0 0) (I0 0) (I0 0) (I0 0) (I0 0) (I0 0) (I0 0) (N0)):=
 ⟨N0,rfl,.inl ⟨rfl,rfl⟩,JZ h.t (by omega) _ _ _ _ _ _ _ _ _ _ _ _,fun _=>hx.reply hp h.r (by omega) (dD _ _ _ _ _ _ _ _ _ _ _ _ _ _)⟩
structure Sl where
 ad:Option Addr
 nd:Nat
 cd:Nat
 al:Option Addr
 cl:Nat
 an:Option Addr
 cn:Nat
 ai:Option Addr
 ci:Nat
 aw:Option Addr
 cw:Nat
def yP(s:Sv)(t:Sl):List FV:=[.bool s.up,FQ t.ad t.nd t.cd,I0 s.id,I0 s.ep,FQ t.al s.ts.length t.cl,I0 s.dn,I0 s.tr.z,FQ t.an s.tr.ns.length t.cn,FQ t.ai s.tr.ss.length t.ci,FQ t.aw s.ws.length t.cw]
def yQ(s:Nat->Sv)(t:Nat->Sl):Array FV:=(yP (s 0) (t 0)++(yP (s 1) (t 1)++yP (s 2) (t 2))).toArray
theorem WX.sl(h:WX W k p):∃t:Nat->Sl,∀i,i<3->∀q v,(yP (svP i (p.s i)) (t i))[q]?=FZ v->W.cell? ⟨k,1+10*i+q,FX⟩=FZ v:=by
 have e:∀i,∃t:Sl,i<3->∀q v,(yP (svP i (p.s i)) t)[q]?=FZ v->W.cell? ⟨k,1+10*i+q,FX⟩=FZ v:=fun i=>by
  by_cases hi:i<3
  .obtain⟨ad,nd,cd,al,cl,an,cn,ai,ci,aw,cw,S,_,_⟩:=h.srv hi rfl;refine⟨⟨ad,nd,cd,al,cl,an,cn,ai,ci,aw,cw⟩,fun _ q v hq=>?_⟩;have hq10:q<10:=(AU.1 hq).1;rcases(show q=0\/q=1\/q=2\/q=3\/q=4\/q=5\/q=6\/q=7\/q=8\/q=9 by omega)with rfl|rfl|rfl|rfl|rfl|rfl|rfl|rfl|rfl|rfl
   .exact S.c0.trans hq
   .exact S.c1.trans hq
   .exact S.c2.trans hq
   .exact S.c3.trans hq
   .exact S.c4.trans hq
   .exact S.c5.trans hq
   .exact S.c6.trans hq
   .exact S.c7.trans hq
   .exact S.c8.trans hq
   .exact S.c9.trans hq
  .exact⟨⟨FX,0,0,FX,0,FX,0,FX,0,FX,0⟩,fun h=>absurd h hi⟩
 exact⟨fun i=>(e i).choose,fun i hi=>(e i).choose_spec hi⟩
theorem CW6(s:Nat->Sv)(t:Nat->Sl):∀u:FU,(Instr.index 79 (.agg (yQ s t)) (I0 0)).run prog u=.ok (.agg (yP (s 0) (t 0)).toArray) u:=fun _=>by kernel_rfl
theorem CW7(s:Nat->Sv)(t:Nat->Sl):∀u:FU,(Instr.index 79 (.agg (yQ s t)) (I0 1)).run prog u=.ok (.agg (yP (s 1) (t 1)).toArray) u:=fun _=>by kernel_rfl
theorem CW8(s:Nat->Sv)(t:Nat->Sl):∀u:FU,(Instr.index 79 (.agg (yQ s t)) (I0 2)).run prog u=.ok (.agg (yP (s 2) (t 2)).toArray) u:=fun _=>by kernel_rfl
theorem CA4(s:Nat->Sv)(t:Nat->Sl)(m:Nat)(hm:m<3)(u:FU):(Instr.index 79 (.agg (yQ s t)) (I0 m)).run prog u=.ok (.agg (yP (s m) (t m)).toArray) u:=by
 rcases(show m=0\/m=1\/m=2 by omega)with rfl|rfl|rfl
 .exact CW6 s t u
 .exact CW7 s t u
 .exact CW8 s t u
theorem AQ9(w:FU)(k:Nat)(s:Nat->Sv)(t:Nat->Sl)(hc:∀i,i<3->∀q v,(yP (s i) (t i))[q]?=FZ v->w.cell? ⟨k,1+10*i+q,FX⟩=FZ v):
  (Instr.loadAt 79 (.pointer (FZ ⟨k,1,FX⟩))).run prog w=.ok (.agg (yQ s t)) w:=by
 have hl:=run_loadCells_list (P:=prog) (w:=w) ⟨k,1,FX⟩ (yQ s t).toList (fun j v hj=>by
  rw[Addr.add_lit];show w.cell? ⟨k,1+j,FX⟩=FZ v;have hj':(yP (s 0) (t 0)++(yP (s 1) (t 1)++yP (s 2) (t 2)))[j]?=FZ v:=hj;have l0:(yP (s 0) (t 0)).length=10:=rfl;have l1:(yP (s 1) (t 1)).length=10:=rfl;by_cases h0:j<10
  .rw[BK (by omega)]at hj';exact hc 0 (by omega) j v hj'
  .rw[BA (by omega),l0]at hj';by_cases h1:j<20
   .rw[BK (by omega)]at hj';have:=hc 1 (by omega) (j-10) v hj';rwa[show 1+10*1+(j-10)=1+j by omega]at this
   .rw[BA (by omega),l1]at hj';have:=hc 2 (by omega) (j-10-10) v hj';rwa[show 1+10*2+(j-10-10)=1+j by omega]at this)
 have h30:(yQ s t).toList.length=30:=rfl;rw[h30]at hl;simp only[Instr.loadAt,Instr.sureAddr,Sem.run_bind,Sem.run_pure,Result.andThen];unfold loadVar;simp only[Sem.run_bind,isAgg79,sizeOf79,Result.andThen,if_true];rw[hl];rfl
theorem sZ{w:FU}{ops:Array Oper}{rest:List Oper}{o:Oper}{a:Act}{Q:Exit->Act->FU->Prop}(hgd:o.guard=FX)(x:Operand)(ho:o.op=.load 79 x)(k:Nat)(s:Nat->Sv)(t:Nat->Sl)
  (hx:a.eval x=.pointer (FZ ⟨k,1,FX⟩)) (hc:∀i,i<3->∀q v,(yP (s i) (t i))[q]?=FZ v->w.cell? ⟨k,1+10*i+q,FX⟩=FZ v)
  (h:wpList prog ops Q rest (a.put o.dst (.agg (yQ s t))) w):wpList prog ops Q (o::rest) a w:=by
 refine wpList_plain hgd fun K hK=>?_;have hr:=AQ9 w k s t hc;unfold Oper.wp execOp;simp only[ho,Sem.run_bind,Sem.run_pure,Result.andThen_ok,hx,hr];exact hK _ _ h
def vot(s:Nat->Ps)(j:Nat):List Int:=(([0,1,2].take j).filter fun i=>(s i).up).map fun i:Nat=>(i:Int)
theorem CA9{s:Nat->Ps}(hj:j<3)(h:(s j).up=true):vot s (j+1)=vot s j++[(j:Int)]:=by
 rcases(show j=0\/j=1\/j=2 by omega)with rfl|rfl|rfl<;>simp[vot,List.filter_cons,h]<;>(repeat' split)<;>simp
theorem CO1{s:Nat->Ps}(hj:j<3)(h:(s j).up=false):vot s (j+1)=vot s j:=by
 rcases(show j=0\/j=1\/j=2 by omega)with rfl|rfl|rfl<;>simp[vot,List.filter_cons,h]
theorem CB0(s:Nat->Ps)(j:Nat):(vot s j).length<=3:=by
 rw[vot,EG];exact BM (List.length_filter_le _ _) (by simp;omega)
theorem CB1(s:Nat->Ps):vot s 3=(JX s).map fun i:Nat=>(i:Int):=rfl
theorem BS2(i:Nat)(q:Ps):(svP i q).up=q.up:=by
 cases h:q.up
 .rw[VP h]
 .rw[J5 h]
theorem lY{U:FU}(h:B0 W V)(hg:V.grownBy U v.ownBlock)(hn:∀g,v.ownBlock=FZ g->W.heap.size<=g):B0 W U:=
 ⟨hg.os.trans h.os,hg.tape.trans h.tape,hg.output.trans h.output,BM h.size hg.size,fun b hb=>(hg.block b (AX hb h.size) (fun e=>by have:=hn b e.symm;omega)).trans (h.block b hb)⟩
theorem B90[Lay α]{xs:List α}(h:GZ W B v xs):∀g,v.ownBlock=FZ g->B<=g:=fun g hg=>by
 rcases h with⟨rfl,_⟩|⟨g',cap,rfl,hB,_⟩
 .simp[D8]at hg
 .simp only[D8,BD]at hg;omega
theorem pY(p:Pw)(k:Nat)(W:FU)(hx:WX W k p):FW prog 70 #[wP k] W fun e w'=>∃v,e=.returned v/\GZ w' W.heap.size v ((JX p.s).map fun i:Nat=>(i:Int))/\B0 W w':=by
 obtain⟨t,ht⟩:=hx.sl;have HT:=G6 ht;have IX:=G6 (fun(m:Nat) (hm:m<3) (u:FU)=>CA4 (fun i=>svP i (p.s i)) t m hm u);obtain⟨i0,hi0,hz0,hz1,hz2⟩:=A25;clear hx ht;unfold wP;go_enter func70,ntmps70;go_wp2_with (refine sZ rfl _ rfl k (fun i=>svP i (p.s i)) t rfl (G5 HT) ?_);clear HT
 go_loopg [3,10] 3 (fun kx s3 s10 wr=>∃j:Nat,∃a c,s10=I0 j/\s3=FQ a (vot p.s j).length c/\j<=3/\3-j<=kx/\Hid (GZ wr W.heap.size (FQ a (vot p.s j).length c) (vot p.s j)/\B0 W wr))
 case atStart=>exact⟨0,FX,0,rfl,rfl,by omega,A8 _,G6 ⟨.inl ⟨rfl,rfl⟩,Below.refl _ _⟩⟩
 case round=>
  obtain⟨j,a,c,rfl,rfl,hj,hg,HI⟩:=hrel;by_cases hlt:j<3
  .have IXm:=G5 IX j hlt;have hl:=CB0 p.s j;have hjj:(j:Int)<3:=by omega
   have eu:=BS2 j (p.s j);unfold yP at IXm;generalize svP j (p.s j)=s0 at*;generalize t j=tj at*;obtain⟨up,fs,id,ep,ts,dn,tr,ws⟩:=s0;simp only at eu IXm;subst eu;by_cases hu:(p.s j).up=true
   .have HS:=G6 (CA9 hlt hu);rw[hu]at IXm;clear hu;go_upto_region 5 with fail;have B2:=G6 (G8 (G5 HI).2 (G7 wr (FT #[.bool true,FQ tj.ad tj.nd tj.cd,I0 id,I0 ep,FQ tj.al ts.length tj.cl,I0 dn,I0 tr.z,FQ tj.an tr.ns.length tj.cn,FQ tj.ai tr.ss.length tj.ci,FQ tj.aw ws.length tj.cw] 64)));have O2:=G6 ((G5 HI).1.next (G7 wr (FT #[.bool true,FQ tj.ad tj.nd tj.cd,I0 id,I0 ep,FQ tj.al ts.length tj.cl,I0 dn,I0 tr.z,FQ tj.an tr.ns.length tj.cn,FQ tj.ai tr.ss.length tj.ci,FQ tj.aw ws.length tj.cw] 64)));have E2:=(heap_alloc_new wr (FT #[.bool true,FQ tj.ad tj.nd tj.cd,I0 id,I0 ep,FQ tj.al ts.length tj.cl,I0 dn,I0 tr.z,FQ tj.an tr.ns.length tj.cn,FQ tj.ai tr.ss.length tj.ci,FQ tj.aw ws.length tj.cw] 64));generalize wr.alloc _=W2 at*;have e0:W2.cell? ⟨wr.heap.size,0,FX⟩=FZ (.bool true):=by simp[AV,E2]
    clear HI IXm IX E2;have O3:=G6 (fun O=>(G5 O2).next (G7 W2 O));have S3:=G6 (fun O=>BM (G5 B2).size (G7 W2 O).size);go_wp2_with (at_builtin;refine lX rfl _ _ 59 rfl i0 _ 8 underlying59 hi0 hz0 hz1 hz2 rfl (by decide) _ (vot p.s j) rfl W.heap.size (G5 O3 _) W2.heap.size rfl (j:Int) (rV W2 j) (by omega) (by simp only[maxLen];omega) (G5 S3 _) ?_);intro a8 c8 w8 ho8 hg8;have HO:=G6 ho8;have HB:=G6 (lY (G8 (G5 B2) (G7 W2 _)) hg8 (B90 (G5 O2)));clear ho8 hg8 O3 S3 B2 O2;go_wp2_with fail
    go_roundg (3-(j+1))
    case measure=>omega
    case rel=>exact⟨j+1,a8,c8,by simp,by rw[G5 HS,AO];rfl,by omega,A8 _,G6 ⟨by rw[G5 HS,AO];exact G5 HO,G5 HB⟩⟩
   .have HS:=G6 (CO1 hlt (by simpa using hu));rw[show (p.s j).up=false by simpa using hu]at IXm;clear hu;go_upto_region 5 with fail;have B2:=G6 (G8 (G5 HI).2 (G7 wr (FT #[.bool false,FQ tj.ad tj.nd tj.cd,I0 id,I0 ep,FQ tj.al ts.length tj.cl,I0 dn,I0 tr.z,FQ tj.an tr.ns.length tj.cn,FQ tj.ai tr.ss.length tj.ci,FQ tj.aw ws.length tj.cw] 64)));have O2:=G6 ((G5 HI).1.next (G7 wr (FT #[.bool false,FQ tj.ad tj.nd tj.cd,I0 id,I0 ep,FQ tj.al ts.length tj.cl,I0 dn,I0 tr.z,FQ tj.an tr.ns.length tj.cn,FQ tj.ai tr.ss.length tj.ci,FQ tj.aw ws.length tj.cw] 64)));have E2:=(heap_alloc_new wr (FT #[.bool false,FQ tj.ad tj.nd tj.cd,I0 id,I0 ep,FQ tj.al ts.length tj.cl,I0 dn,I0 tr.z,FQ tj.an tr.ns.length tj.cn,FQ tj.ai tr.ss.length tj.ci,FQ tj.aw ws.length tj.cw] 64));generalize wr.alloc _=W2 at*;have e0:W2.cell? ⟨wr.heap.size,0,FX⟩=FZ (.bool false):=by simp[AV,E2]
    clear HI IXm IX E2;go_wp2_with fail
    go_roundg (3-(j+1))
    case measure=>omega
    case rel=>exact⟨j+1,a,c,by simp,by rw[G5 HS],by omega,A8 _,G6 ⟨by rw[G5 HS];exact G5 O2,G5 B2⟩⟩
  .obtain rfl:j=3:=by omega
   go_wp2_with fail;go_ret;exact⟨_,rfl,by rw[<-CB1];exact(G5 HI).1,(G5 HI).2⟩
theorem WX.sl2(h:WX W k p):∃t:Nat->Sl,∀i,i<3->Srv W k (1+10*i) (svP i (p.s i)).up (svP i (p.s i)).id (svP i (p.s i)).ep (svP i (p.s i)).dn (svP i (p.s i)).tr.z (FQ (t i).ad (t i).nd (t i).cd) (FQ (t i).al (svP i (p.s i)).ts.length (t i).cl) (FQ (t i).an (svP i (p.s i)).tr.ns.length (t i).cn) (FQ (t i).ai (svP i (p.s i)).tr.ss.length (t i).ci) (FQ (t i).aw (svP i (p.s i)).ws.length (t i).cw)/\NV W (FQ (t i).al (svP i (p.s i)).ts.length (t i).cl) (svP i (p.s i)).ts:=by
 have e:∀i,∃t:Sl,i<3->Srv W k (1+10*i) (svP i (p.s i)).up (svP i (p.s i)).id (svP i (p.s i)).ep (svP i (p.s i)).dn (svP i (p.s i)).tr.z (FQ t.ad t.nd t.cd) (FQ t.al (svP i (p.s i)).ts.length t.cl) (FQ t.an (svP i (p.s i)).tr.ns.length t.cn) (FQ t.ai (svP i (p.s i)).tr.ss.length t.ci) (FQ t.aw (svP i (p.s i)).ws.length t.cw)/\NV W (FQ t.al (svP i (p.s i)).ts.length t.cl) (svP i (p.s i)).ts:=fun i=>by
  by_cases hi:i<3
  .obtain⟨ad,nd,cd,al,cl,an,cn,ai,ci,aw,cw,S,hv,_⟩:=h.srv hi rfl;obtain⟨vd,vl,vn,vs,vw,e,_,r2,_⟩:=hv;simp only[EK,F5,EC]at e;exact⟨⟨ad,nd,cd,al,cl,an,cn,ai,ci,aw,cw⟩,fun _=>⟨S,by rw[<-e.2.2.2.2.1]at r2;exact r2⟩⟩
  .exact⟨⟨FX,0,0,FX,0,FX,0,FX,0,FX,0⟩,fun h=>absurd h hi⟩
 exact⟨fun i=>(e i).choose,fun i hi=>(e i).choose_spec hi⟩
noncomputable def peP(p:Pw)(t:Nat->Sl)(i:Nat):Pe:=⟨(svP i (p.s i)).id,(svP i (p.s i)).ep,(t i).al,(t i).cl,(svP i (p.s i)).ts,(svP i (p.s i)).dn⟩
theorem B91(w:FU)(i e:Int)(a:Option Addr)(c:Nat)(ts:List GI)(d:Int):JF (w.alloc (FT #[I0 i,I0 e,FQ a ts.length c,I0 d] 57)) w.heap.size (⟨i,e,a,c,ts,d⟩:Pe):=heap_alloc_new w _
theorem CO2{t:Nat->Sl}(h:(p.s i).up=true):kk (peP p t i)=((i:Int),(p.s i).e,J4 (p.s i).m):=by
 simp only[kk,peP,J5 h]
theorem qA(p:Pw)(k:Nat)(W:FU)(v:FV)(l:List Nat)(hx:WX W k p)(hv:IU W v (l.map fun i:Nat=>(i:Int)))(hl:∀i∈l,i<3)(hln:l.length<=3):
  FW prog 72 #[wP k,v] W fun e w'=>∃u t,e=.returned u/\GZ w' W.heap.size u (l.map (peP p t))/\sF w' (l.map (peP p t))/\B0 W w':=by
 obtain⟨t,ht⟩:=hx.sl2;have HT:=G6 ht;have HV:=G6 hv;have HL:=G6 hl;have hkl:=hx.lt;obtain⟨i0,hi0,hz0,hz1,hz2⟩:=CW2;obtain⟨a,c,rfl⟩:=GK hv;rw[EG]at HV⊢;clear hx ht hv hl;unfold wP;go_enter func72,ntmps72;go_wp2_with fail
 go_loopg [5,10] l.length (fun kx s5 s10 wr=>∃j:Nat,∃a c,s10=I0 j/\s5=FQ a j c/\j<=l.length/\l.length-j<=kx/\Hid (GZ wr W.heap.size (FQ a j c) ((l.take j).map (peP p t))/\B0 W wr))
 case atStart=>exact⟨0,FX,0,rfl,rfl,by omega,A8 _,G6 ⟨.inl ⟨rfl,rfl⟩,Below.refl _ _⟩⟩
 case round=>
  obtain⟨j,a2,c2,rfl,rfl,hj,hg,HI⟩:=hrel;by_cases hlt:j<l.length
  .obtain⟨i,hi⟩:∃i,l[j]?=FZ i:=⟨_,List.getElem?_eq_getElem hlt⟩;have hi3:=G5 HL i (AZ hi);have HS:=G6 (show (l.take (j+1)).map (peP p t)=(l.take j).map (peP p t)++[peP p t i] by rw[QF hi,List.map_append];rfl);have hlj:((l.take j).map (peP p t)).length=j:=by simp;omega
   obtain⟨b,off,cap,he,hb,hrow,_,_⟩:=NZ ((G5 HV).next (G5 HI).2) (by intro h0;rw[List.map_eq_nil_iff]at h0;rw[h0]at hlt;simp at hlt);simp only[EG,AP]at he;obtain⟨rfl,_,rfl⟩:=he;have d0:=hrow.i0 (i:=j) (x:=(i:Int)) (by rw[List.getElem?_map,hi];rfl);obtain⟨_,_,e2,e3,e4,e5,_⟩:=(G5 HT i hi3).1.next hkl (G5 HI).2;rw[Nat.mul_comm 10 i]at e2 e3 e4 e5;have hjj:(j:Int)<(l.length:Int):=by omega
   have hi4:(i:Int)<3:=by omega
   have B2:=G6 (G5 HI).2;have O2:=G6 (G5 HI).1;clear HI hrow hi HV;generalize hs0:svP i (p.s i)=s0 at*;have HP:Hid (peP p t i=⟨s0.id,s0.ep,(t i).al,(t i).cl,s0.ts,s0.dn⟩):=G6 (by rw[peP,hs0]);clear hs0;have O3:=G6 (fun O=>(G5 O2).next (G7 wr O));have S3:=G6 (fun O=>BM (G5 B2).size (G7 wr O).size);go_wp2_with (at_builtin;refine lX rfl _ _ 150 rfl i0 _ 48 underlying150 hi0 hz0 hz1 hz2 rfl (by decide) _ ((l.take j).map (peP p t)) rfl W.heap.size (G5 O3 _) wr.heap.size rfl (⟨s0.id,s0.ep,(t i).al,(t i).cl,s0.ts,s0.dn⟩:Pe) (B91 wr _ _ _ _ _ _) (by rw[hlj];omega) (by rw[hlj];simp only[maxLen];omega) (G5 S3 _) ?_);intro a8 c8 w8 ho8 hg8;have HO:=G6 ho8;have HB:=G6 (lY (G8 (G5 B2) (G7 wr _)) hg8 (B90 (G5 O2)));clear ho8 hg8 O3 S3 B2 O2;go_wp2_with fail
   go_roundg (l.length-(j+1))
   case measure=>omega
   case rel=>exact⟨j+1,a8,c8,by simp,rfl,by omega,A8 _,G6 ⟨by rw[G5 HS,G5 HP,List.map_take];exact G5 HO,G5 HB⟩⟩
  .obtain rfl:j=l.length:=by omega
   rw[DU]at HI;go_wp2_with fail;go_ret;exact⟨_,t,rfl,(G5 HI).1,fun q hq=>by
    obtain⟨i,hi,rfl⟩:=List.mem_map.1 hq;exact((G5 HT i (G5 HL i hi)).2).next (G5 HI).2,(G5 HI).2⟩
theorem BS3{m:List GI}{t:GI}(e:Int)(h:Logs (m++[t]))(hl:m.length<=300):ZE 155 (fun x=>#[x,J8 t,.bool true]) [YZ e,P6 m] [YZ e,P6 (m++[t])] 0:=by
 have hg:=(Logs.at (a:=m) (b:=[]) h).1;have hx:=sQ e;have h1:=sN h.left hl;have h2:=jG hg;have g0:LW [YZ e,P6 m]:=TP hx (by simp;omega);have g1:LW [YZ e,⟨NW,IC m,QZ t⟩]:=TP hx (by omega);refine pF [YZ e,P6 m] [YZ e,⟨NW,IC m,QZ t⟩] [YZ e,P6 (m++[t])] t 0 hg (MV fun v W hv=>?_) (eY fun v W hv=>?_)
 .have:=kH v [YZ e,P6 m] [YZ e] [] (P6 m) NW (QZ t) W hv (JQ g0) g0 (lJ _ _ _ _) (by simp only[P6,ES];omega);simpa [P6]using this
 .have:=YQ v [YZ e,⟨NW,IC m,QZ t⟩] [YZ e] [] ⟨NW,IC m,QZ t⟩ NW W hv (JQ g1) g1 (lJ _ _ _ _);simpa [P6,PZ]using this
theorem CO3{m:List GI}{e0:Int}(he:zIn e=true)(hm:(IC m).length<=1048576):lC 109 (fun x=>#[x,I0 e]) (epD e0++[P6 m]) [YZ e,P6 m] 0:=by
 by_cases h0:e0=0
 .subst h0;rw[AF2];exact C83 he hm
 .rw[A58 h0];have hx:=aX (L6 e 0);have g0:LW [YZ e0,P6 m]:=TP (sQ e0) (by simpa using hm);have gl:LW [P6 m]:=bU (by simpa using hm);have g1:LW [⟨JG,[],QT (L6 e 0)⟩,P6 m]:=TP (by simp;omega) (by simpa using hm);refine A49 [YZ e0,P6 m] [P6 m] [⟨JG,[],QT (L6 e 0)⟩,P6 m] [YZ e,P6 m] e 0 (U4 he (by decide)).2 (MV fun v W hv=>?_) (MV fun v W hv=>?_) (MV fun v W hv=>?_)
  .exact wG v [YZ e0,P6 m] [] [P6 m] (YZ e0) JG W hv (JQ g0) g0 (bY _ _ _ _)
  .exact bG v [P6 m] [] [P6 m] JG (QT (L6 e 0)) W hv (JQ gl) gl ZN (by simp) (fC (IC m) []) (by omega)
  .have:=YQ v _ [] [P6 m] ⟨JG,[],QT (L6 e 0)⟩ JG W hv (JQ g1) g1 (bY [] (QT (L6 e 0)) (IC m) []);simpa [YZ]using this
theorem B92{a b:List GI}(ha:Logs a)(hp:∀x∈a,0<x.z){z:Int}(hz:CV7 b (KY a b) z):TJ z a=a.take (KY a b):=by
 rcases hz with⟨h0,rfl⟩|⟨x,h0,hx,rfl⟩
 .rw[h0,List.take_zero]
  cases a with
  |nil=>rfl
  |cons t r=>
   have:=hp t (by simp);unfold TJ;rw[List.takeWhile_cons_of_neg (by simp;omega)]
 .obtain⟨x',y',h1,h2,h3⟩:=kU a b (KY a b-1) (by omega);rw[hx]at h2
  cases h2
  rw[<-h3,C84 ha h1,show KY a b-1+1=KY a b by omega]
theorem CO4(a b:List GI):∃z,CV7 b (KY a b) z:=by
 by_cases h0:KY a b=0
 .exact⟨-1,.inl ⟨h0,rfl⟩⟩
 .obtain⟨x,y,_,h2,_⟩:=kU a b (KY a b-1) (by omega);exact⟨y.z,.inr ⟨y,by omega,h2,rfl⟩⟩
theorem BS4{a b:List GI}(h:∀x∈a,∀y∈b,x.z=y.z->x=y):a.take (KY a b)=b.take (KY a b):=by
 obtain⟨k1,k2⟩:=XP a b
 apply List.ext_getElem?
 intro i;by_cases hi:i<KY a b
 .obtain⟨x,y,h1,h2,h3⟩:=kU a b i hi;rw[List.getElem?_take_of_lt hi,List.getElem?_take_of_lt hi,h1,h2,h x (AZ h1) y (AZ h2) h3]
 .rw[List.getElem?_eq_none (by simp;omega),List.getElem?_eq_none (by simp;omega)]
theorem B93{q b:Ps}(ok:ML 300 q)(hu:q.up=true)(okb:ML 300 b)(he:1<=e/\e<=300)(hd:q.dn<=KY q.m b.m)(h1:∀x∈q.m,∀y∈b.m,x.z=y.z->x=y)(v vl:FV)(w:FU)(hv:SvV w v (svP i q))(hvl:NV w vl b.m)(ht:ZV w):
  FW prog 73 #[v,vl,I0 e] w (fA w (svP i (yH e b.m q)) 0):=by
 obtain⟨r1,r2⟩:=ok.small;obtain⟨b1,b2⟩:=okb.small;have r3:=UR q.m q.a;obtain⟨z,hz⟩:=CO4 q.m b.m;have hzi:zIn e=true:=PY.2 ⟨by omega,by omega⟩;have hs:=BS4 h1;obtain⟨k1,k2⟩:=XP q.m b.m;have hts:(svP i q).ts=q.m:=by rw[J5 hu]
 have G:NH 108 (fun g=>#[g,I0 z]) (svP i q).fs (epD q.e++[P6 (q.m.take (KY q.m b.m))]) 0:=by
  have R:ZC (epD q.e++[⟨NW,IC (q.m.take q.a),IC (q.m.drop q.a)⟩]) q.m (epD q.e) []:=⟨ZY (by omega),ok.log,.inr ⟨_,[],iR _ _ _,by
   have:=uV ok.log;rw[<-LK,DN];exact this⟩⟩
  have:=BP3 R z;rw[B92 ok.log ok.pos hz]at this;rw[J5 hu];exact this
 have hlk:Logs (q.m.take (KY q.m b.m)):=ok.log.take _;have hrk:(IC (q.m.take (KY q.m b.m))).length<=146100:=sN hlk (by simp;omega);have R:=CO3 (e0:=q.e) hzi (show (IC (q.m.take (KY q.m b.m))).length<=1048576 by omega);have gd:LW [YZ e,P6 (q.m.take (KY q.m b.m))]:=TP (sQ e) (by simp;omega);have hbb:b.m=b.m.take (KY q.m b.m)++b.m.drop (KY q.m b.m):=(DN _ _).symm;have step:∀j x,(b.m.drop (KY q.m b.m))[j]?=FZ x->CM2 ⟨true,[YZ e,P6 (q.m.take (KY q.m b.m)++(b.m.drop (KY q.m b.m)).take j)],i,e,q.m.take (KY q.m b.m)++(b.m.drop (KY q.m b.m)).take j,q.dn,OE q.m q.dn,q.ws⟩ x ⟨true,[YZ e,P6 (q.m.take (KY q.m b.m)++(b.m.drop (KY q.m b.m)).take (j+1))],i,e,q.m.take (KY q.m b.m)++(b.m.drop (KY q.m b.m)).take (j+1),q.dn,OE q.m q.dn,q.ws⟩:=by
  intro j x hx;have e1:b.m=(q.m.take (KY q.m b.m)++(b.m.drop (KY q.m b.m)).take j)++x::(b.m.drop (KY q.m b.m)).drop (j+1):=by
   rw[hs,BQ,<-BP4 hx];exact hbb
  have e2:q.m.take (KY q.m b.m)++(b.m.drop (KY q.m b.m)).take (j+1)=(q.m.take (KY q.m b.m)++(b.m.drop (KY q.m b.m)).take j)++[x]:=by rw[Q8 hx,BQ]
  have hL:=okb.log;rw[e1]at hL;have hg:=hL.good x (by simp);have hL1:Logs ((q.m.take (KY q.m b.m)++(b.m.drop (KY q.m b.m)).take j)++[x]):=by
   have:Logs (((q.m.take (KY q.m b.m)++(b.m.drop (KY q.m b.m)).take j)++[x])++(b.m.drop (KY q.m b.m)).drop (j+1)):=by simpa using hL
   exact this.left
  have hx2:=Y9 hg;have hlen:(q.m.take (KY q.m b.m)++(b.m.drop (KY q.m b.m)).take j).length<=300:=by
   have:=congrArg List.length e1;rw[AO]at this;omega
  have hlast:¬x.z<=J4 (q.m.take (KY q.m b.m)++(b.m.drop (KY q.m b.m)).take j):=by
   intro hle;by_cases hn:q.m.take (KY q.m b.m)++(b.m.drop (KY q.m b.m)).take j=[]
   .rw[hn,WR]at hle;have:=okb.pos x (List.mem_of_mem_drop (AZ hx));omega
   .obtain⟨y,hy,hyz⟩:=aK hn;have:=(List.pairwise_append.1 hL1.rise).2.2 y hy x (by simp);omega
  refine⟨hlast,by omega,by omega,BM hlen (by decide),[YZ e,P6 ((q.m.take (KY q.m b.m)++(b.m.drop (KY q.m b.m)).take j)++[x])],by rw[e2],BS3 e hL1 hlen⟩
 have main:=B64 (svP i q) v vl b.m e w hv hvl (ok.fits hu) (by omega) ht (by rw[hts,J5 hu];show ¬ ((KY q.m b.m:Nat):Int)<(q.dn:Int);omega) z _ _ (by rw[hts];exact hz) G R gd (fun j=>⟨true,[YZ e,P6 (q.m.take (KY q.m b.m)++(b.m.drop (KY q.m b.m)).take j)],i,e,q.m.take (KY q.m b.m)++(b.m.drop (KY q.m b.m)).take j,q.dn,OE q.m q.dn,q.ws⟩) (by rw[hts,J5 hu];simp) (by rw[hts];exact step);rw[hts]at main;have e3:svP i (yH e b.m q)=⟨true,[YZ e,P6 (q.m.take (KY q.m b.m)++(b.m.drop (KY q.m b.m)).take (b.m.drop (KY q.m b.m)).length)],i,e,q.m.take (KY q.m b.m)++(b.m.drop (KY q.m b.m)).take (b.m.drop (KY q.m b.m)).length,q.dn,OE q.m q.dn,q.ws⟩:=by
  have et:OE q.m q.dn=OE b.m q.dn:=by
   rw[<-dA q.m hd,<-dA b.m hd,hs]
  rw[DU,hs,DN,et,J5 (p:=yH e b.m q) rfl];simp[yH,A58 (show e≠0 by omega),P6,IC]
 rw[e3];exact main
theorem yT{q b:Ps}(ok:ML 300 q)(hu:q.up=true)(okb:ML 300 b)(hd:KY q.m b.m<q.dn)(v vl:FV)(w:FU)(hv:SvV w v (svP i q))(hvl:NV w vl b.m):
  FW prog 73 #[v,vl,I0 e] w (pG w 13):=by
 obtain⟨b1,b2⟩:=okb.small;exact AP7 (svP i q) v vl b.m e w hv hvl (ok.fits hu) (by omega) (by rw[J5 hu];show ((KY q.m b.m:Nat):Int)<(q.dn:Int);omega)
