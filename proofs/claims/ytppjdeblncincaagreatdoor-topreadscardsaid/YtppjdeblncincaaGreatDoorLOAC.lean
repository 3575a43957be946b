/-
  Part.
-/
import Derived.Test.YtppjdeblncincaaGreatDoorLOAA
import Derived.Test.YtppjdeblncincaaGreatDoorLOAB
import Derived.Deep.WholeRow
set_option maxRecDepth 20000
set_option maxHeartbeats 8000000
namespace Go.Proofs.YtppjdeblncincaaGreatDoor
open Go.RowKit Go.Proofs.Tryz
open _root_.Nat renaming le_refl->A8,zero_add->BJ
open _root_.Array renaming getElem?_eq_some_iff->AL
open Go.World renaming cell?->AX,frozen?->FB
open _root_.List renaming take_of_length_le->BN,append_assoc->BU,take_append_drop->DV
open Go.Sem renaming run_bind->EC,run_pure->EO
open Go.Result renaming andThen_ok->EG
open Go.Value renaming slice->FU
open Go.Obj renaming cells->FV
open Go renaming World->FW,Value->FX,Calls->FZ
open _root_.Option renaming none->G5,some->G6
variable{F:Nat->Prop}{g q k o n j i:Nat}{W V:FW}{v:FX}{s:Sv}{c:Array FX}{p:Pw}
def WB(W:FW)(k:Nat)(f:Nat->FX):Prop:=∃c:Array FX,W.heap[k]?=G6 (FV c 95 (0,0))/\c.size=83/\∀j,j<83->c[j]?=G6 (f j)
section
variable {W V:FW} {k j:Nat} {f:Nat->FX}
theorem WB.lt(h:WB W k f):k<W.heap.size:=by
 obtain⟨c,h1,_⟩:=h;exact(AL.1 h1).1
theorem WB.cell(h:WB W k f)(hj:j<83):W.cell? ⟨k,j,G5⟩=G6 (f j):=by
 obtain⟨c,h1,_,h3⟩:=h;simp[AX,h1,h3 j hj]
theorem WB.GU(h:WB W k f)(j:Nat):W.frozen? ⟨k,j,G5⟩=false:=by
 obtain⟨c,h1,_⟩:=h;simp[FB,h1]
theorem WB.touch(h:WB W k f)(ht:Touch F W V)(hk:¬F k):WB V k f:=by
 obtain⟨c,h1,h2,h3⟩:=h;exact⟨c,(ht.block k (AL.1 h1).1 hk).trans h1,h2,h3⟩
theorem WB.next(h:WB W k f)(hb:B0 W V):WB V k f:=h.touch (F:=fun _=>False) (Touch.of_below hb) id
theorem WB.set(h:WB W k f)(hj:j<83)(v:FX):WB (W.setCell ⟨k,j,G5⟩ v) k (LP f j v):=by
 obtain⟨c,h1,h2,h3⟩:=h;refine⟨c.setIfInBounds j v,GV v h1,by simp[h2],fun i hi=>?_⟩;rw[Array.getElem?_setIfInBounds];by_cases e:j=i
 .subst e;simp[h2,hj,II]
 .rw[if_neg e,GL _ _ (fun h=>e h.symm)];exact h3 i hi
theorem WB.of_eq{g:Nat->FX}(h:WB W k f)(he:∀j,j<83->f j=g j):WB W k g:=by
 obtain⟨c,h1,h2,h3⟩:=h;exact⟨c,h1,h2,fun j hj=>by rw[h3 j hj,he j hj]⟩
theorem WB.gU(h:WB W k f)(hs:∀j,j<83->∀s,f j≠ .string s):dH W k:=by
 obtain⟨c,h1,h2,h3⟩:=h;refine⟨c,_,h1,fun j s hj=>?_⟩;have hlt:=(AL.1 hj).1;rw[h3 j (by omega)]at hj;exact hs j (by omega) s (Option.some.inj hj)
end
def Row{α:Type}[Lay α](W:FW)(k:Nat)(v:FX)(xs:List α):Prop:=IL W v xs/\(xs≠[]->V7 v k)
section
variable {α:Type} [Lay α] {W V:FW} {k:Nat} {v:FX} {xs:List α}
theorem Row.next(h:Row W k v xs)(hb:B0 W V):Row V k v xs:=⟨h.1.next hb,h.2⟩
theorem Row.touch(h:Row W k v xs)(ht:Touch (· =k) W V):Row V k v xs:=by
 refine⟨?_,h.2⟩;rcases h.1 with h1|⟨b,off,cap,rfl,h1,h2,h3,h0,h4⟩
 .exact .inl h1
 .refine .inr ⟨b,off,cap,rfl,h1,h2,Nat.lt_of_lt_of_le h3 ht.size,h0,fun i v hi=>?_⟩;have hb:b≠k:=h.2 h0 b off _ cap rfl;rw[AX,ht.block b h3 hb];exact h4 i v hi
theorem Row.new(h:IL W v xs)(hk:W.heap.size<=k):Row W k v xs:=by
 refine⟨h,fun h0 b off n c e=>?_⟩;rcases h with⟨a,cap,_,e0,_⟩|⟨b',off',cap,rfl,_,_,h3,_,_⟩
 .exact absurd e0 h0
 .simp only[Value.slice.injEq,Option.some.injEq,Addr.mk.injEq]at e;omega
theorem Row.own{B:Nat}(h:GZ W B v xs)(hk:k<B):Row W k v xs:=⟨h.seq,fun _=>YK h hk⟩
theorem Row.slice(h:Row W k v xs):∃a c,v=FU a xs.length c:=GK h.1
theorem Row.nil(W:FW)(k:Nat)(c:Nat)(hc:c<=maxLen)(a:Option Addr):Row W k (FU a 0 c) ([]:List α):=⟨.inl ⟨a,c,rfl,rfl,hc⟩,fun h=>absurd rfl h⟩
theorem XU(hq:q<Lay.k α)(ht:∀x:α,∃s,(Lay.cs x)[q]?=G6 (Value.string s))(h:IL W v xs)(hk:dH W k):Row W k v xs:=by
 refine⟨h,fun h0 b off n c e=>?_⟩;rcases h with⟨a,cap,_,e0,_⟩|⟨b',off',cap,rfl,_,_,h3,_,h4⟩
 .exact absurd e0 h0
 .simp only[Value.slice.injEq,Option.some.injEq,Addr.mk.injEq]at e;rintro rfl;obtain⟨x,r,rfl⟩:=List.exists_cons_of_ne_nil h0;obtain⟨s,hs⟩:=ht x;have:=h4 (0*Lay.k α+q) _ ((GY (x::r) 0 x rfl q hq).trans hs);rw[e.1.1]at this;exact hk.no this
end
theorem AD1{xs:List DF}(h:IV W v xs)(hk:dH W k):Row W k v xs:=XU (q:=0) (by decide) (fun x=>⟨_,rfl⟩) (P9.2 h) hk
theorem l9{xs:List GN}(h:NC W v xs)(hk:dH W k):Row W k v xs:=XU (q:=3) (by decide) (fun x=>⟨_,rfl⟩) (NY.2 h) hk
theorem xR{xs:List Nd}(h:IL W v xs)(hk:dH W k):Row W k v xs:=XU (q:=0) (by decide) (fun x=>⟨_,rfl⟩) h hk
theorem VP{xs:List Wa}(h:IL W v xs)(hk:dH W k):Row W k v xs:=XU (q:=2) (by decide) (fun x=>⟨_,rfl⟩) h hk
theorem bY{xs:List En}(h:IL W v xs)(hk:dH W k):Row W k v xs:=XU (q:=0) (by decide) (fun x=>⟨_,rfl⟩) h hk
structure SvA(W:FW)(k:Nat)(g:Nat->FX)(s:Sv):Prop where
 up:g 0=.bool s.up
 d:Row W k (g 1) s.fs
 id:g 2=I0 s.id
 ep:g 3=I0 s.ep
 l:Row W k (g 4) s.ts
 dn:g 5=I0 s.dn
 z:g 6=I0 s.tr.z
 n:Row W k (g 7) s.tr.ns
 i:Row W k (g 8) s.tr.ss
 w:Row W k (g 9) s.ws
section
variable {W V:FW} {k:Nat} {g:Nat->FX} {s:Sv}
theorem SvA.next(h:SvA W k g s)(hb:B0 W V):SvA V k g s:=⟨h.up,h.d.next hb,h.id,h.ep,h.l.next hb,h.dn,h.z,h.n.next hb,h.i.next hb,h.w.next hb⟩
theorem SvA.touch(h:SvA W k g s)(ht:Touch (· =k) W V):SvA V k g s:=⟨h.up,h.d.touch ht,h.id,h.ep,h.l.touch ht,h.dn,h.z,h.n.touch ht,h.i.touch ht,h.w.touch ht⟩
theorem SvA.val(h:SvA W k g s):SvV W (.agg #[g 0,g 1,g 2,g 3,g 4,g 5,g 6,g 7,g 8,g 9]) s:=by
 rw[h.up,h.id,h.ep,h.dn,h.z];exact⟨_,_,_,_,_,rfl,P9.1 h.d.1,NY.1 h.l.1,h.n.1,h.i.1,h.w.1⟩
theorem SvA.moved(h:SvA W k g s)(hq:W.heap.size<=q):SvA W q g s:=⟨h.up,Row.new h.d.1 hq,h.id,h.ep,Row.new h.l.1 hq,h.dn,h.z,Row.new h.n.1 hq,Row.new h.i.1 hq,Row.new h.w.1 hq⟩
theorem SvA.cellP{P:FX->Prop}(hb:∀b,P (.bool b))(hn:∀n,P (I0 n))(hs:∀a n c,P (FU a n c))(h:SvA W k g s)(j:Nat)(hj:j<10):P (g j):=by
 have r:∀ {α:Type} [Lay α] {v:FX} {xs:List α},Row W k v xs->P v:=fun h=>by obtain⟨a,c,e⟩:=h.slice;rw[e];exact hs _ _ _
 rcases(show j=0\/j=1\/j=2\/j=3\/j=4\/j=5\/j=6\/j=7\/j=8\/j=9 by omega)with rfl|rfl|rfl|rfl|rfl|rfl|rfl|rfl|rfl|rfl
 .rw[h.up];exact hb _
 .exact r h.d
 .rw[h.id];exact hn _
 .rw[h.ep];exact hn _
 .exact r h.l
 .rw[h.dn];exact hn _
 .rw[h.z];exact hn _
 .exact r h.n
 .exact r h.i
 .exact r h.w
theorem SvA.of{vd vl vn vs vw:FX}(hk:dH W k)(hv:SvV W (.agg #[.bool s.up,vd,I0 s.id,I0 s.ep,vl,I0 s.dn,I0 s.tr.z,vn,vs,vw]) s)(hs:s.tr.ss≠[]->V7 vs k)
  (h0:g 0=.bool s.up) (h1:g 1=vd) (h2:g 2=I0 s.id) (h3:g 3=I0 s.ep) (h4:g 4=vl) (h5:g 5=I0 s.dn) (h6:g 6=I0 s.tr.z) (h7:g 7=vn) (h8:g 8=vs) (h9:g 9=vw):SvA W k g s:=by
 obtain⟨vd',vl',vn',vs',vw',e,r1,r2,r3,r4,r5⟩:=hv;simp only[Value.agg.injEq,Array.mk.injEq,List.cons.injEq,true_and,and_true]at e;obtain⟨rfl,rfl,rfl,rfl,rfl⟩:=e;exact⟨h0,by rw[h1];exact AD1 r1 hk,h2,h3,by rw[h4];exact l9 r2 hk,h5,h6,by rw[h7];exact xR r3 hk,by rw[h8];exact⟨r4,hs⟩,by rw[h9];exact VP r5 hk⟩
end
structure ClA(W:FW)(k:Nat)(g:Nat->FX)(c:Cl):Prop where
 s:g 0=I0 c.s
 z:g 1=I0 c.z
 e:Row W k (g 2) c.es
structure WdR(W:FW)(k:Nat)(f:Nat->FX)(p:Pw):Prop where
 n:f 0=I0 p.n
 s:∀i,i<3->SvA W k (fun q=>f (1+10*i+q)) (svP i (p.s i))
 r:∀i,i<3->f (31+i)=I0 (p.r i)
 c:∀i,i<16->ClA W k (fun q=>f (34+3*i+q)) (p.c i)
 d:Row W k (f 82) p.D
 h:∀i,i<3->(svP i (p.s i)).tr.ss≠[]->∀b,b<=p.h->V7 (f (1+10*i+8)) b
 hk:p.h<=k
def WX(W:FW)(k:Nat)(p:Pw):Prop:=∃f,WB W k f/\WdR W k f p
section
variable {W V:FW} {k:Nat} {f:Nat->FX} {p:Pw}
theorem WdR.next(h:WdR W k f p)(hb:B0 W V):WdR V k f p:=
 ⟨h.n,fun i hi=>(h.s i hi).next hb,h.r,fun i hi=>⟨(h.c i hi).s,(h.c i hi).z,(h.c i hi).e.next hb⟩,h.d.next hb,h.h,h.hk⟩
theorem WdR.touch(h:WdR W k f p)(ht:Touch (· =k) W V):WdR V k f p:=
 ⟨h.n,fun i hi=>(h.s i hi).touch ht,h.r,fun i hi=>⟨(h.c i hi).s,(h.c i hi).z,(h.c i hi).e.touch ht⟩,h.d.touch ht,h.h,h.hk⟩
theorem WdR.moved(h:WdR W k f p)(hq:W.heap.size<=q)(hk:p.h<=q):WdR W q f p:=
 ⟨h.n,fun i hi=>(h.s i hi).moved hq,h.r,fun i hi=>⟨(h.c i hi).s,(h.c i hi).z,Row.new (h.c i hi).e.1 hq⟩,Row.new h.d.1 hq,h.h,hk⟩
theorem WX.next(h:WX W k p)(hb:B0 W V):WX V k p:=by
 obtain⟨f,h1,h2⟩:=h;exact⟨f,h1.next hb,h2.next hb⟩
theorem WX.lt(h:WX W k p):k<W.heap.size:=by
 obtain⟨f,h1,_⟩:=h;exact h1.lt
theorem WdR.cellP{P:FX->Prop}(hb:∀b,P (.bool b))(hn:∀n,P (I0 n))(hs:∀a n c,P (FU a n c))(h:WdR W k f p)(j:Nat)(hj:j<83):P (f j):=by
 by_cases h0:j=0
 .subst h0;rw[h.n];exact hn _
 .by_cases h1:j<31
  .have:=(h.s ((j-1)/10) (by omega)).cellP hb hn hs ((j-1)%10) (by omega);simp only[show 1+10*((j-1)/10)+(j-1)%10=j by omega]at this;exact this
  .by_cases h2:j<34
   .have:=h.r (j-31) (by omega);rw[show 31+(j-31)=j by omega]at this;rw[this];exact hn _
   .by_cases h3:j<82
    .have hc:=h.c ((j-34)/3) (by omega);have e0:34+3*((j-34)/3)+(j-34)%3=j:=by omega
     rcases(show (j-34)%3=0\/(j-34)%3=1\/(j-34)%3=2 by omega)with e|e|e
     .have:=hc.s;simp only[<-e,e0]at this;rw[this];exact hn _
     .have:=hc.z;simp only[<-e,e0]at this;rw[this];exact hn _
     .obtain⟨a,c,e'⟩:=hc.e.slice;simp only[<-e,e0]at e';rw[e'];exact hs _ _ _
    .obtain rfl:j=82:=by omega
     obtain⟨a,c,e'⟩:=h.d.slice;rw[e'];exact hs _ _ _
theorem WdR.text(h:WdR W k f p)(j:Nat)(hj:j<83)(t:ByteArray):f j≠ .string t:=h.cellP (P:=(· ≠ .string t)) (fun _ e=>by cases e) (fun _ e=>by cases e) (fun _ _ _ e=>by cases e) j hj
theorem WdR.gU(h:WdR W k f p)(hb:WB W k f):dH W k:=hb.gU h.text
end
def CF5(x0 x1 x2 x3 x4 x5 x6 x7 x8 x9:FX):Nat->FX
 |0=>x0|1=>x1|2=>x2|3=>x3|4=>x4|5=>x5|6=>x6|7=>x7|8=>x8|_=>x9
def B70(x0 x1 x2:FX):Nat->FX
 |0=>x0|1=>x1|_=>x2
def BE7(f:Nat->FX)(o n:Nat)(g:Nat->FX):Nat->FX:=fun j=>if o<=j/\j<o+n then g (j-o)else f j
theorem O7{f g:Nat->FX}(h:q<n):BE7 f o n g (o+q)=g q:=by
 rw[BE7,if_pos ⟨by omega,by omega⟩]
 congr 1
 omega
theorem JF{f g:Nat->FX}(h:j<o\/o+n<=j):BE7 f o n g j=f j:=by rw[BE7,if_neg (by omega)]
def oZ(W:FW)(k o:Nat)(x0 x1 x2 x3 x4 x5 x6 x7 x8 x9:FX):FW:=
 (((((((((W.setCell ⟨k,o,G5⟩ x0).setCell ⟨k,o+1,G5⟩ x1).setCell ⟨k,o+2,G5⟩ x2).setCell ⟨k,o+3,G5⟩ x3).setCell ⟨k,o+4,G5⟩ x4).setCell ⟨k,o+5,G5⟩ x5).setCell ⟨k,o+6,G5⟩ x6).setCell ⟨k,o+7,G5⟩ x7).setCell ⟨k,o+8,G5⟩ x8).setCell ⟨k,o+9,G5⟩ x9
def iM(W:FW)(k o:Nat)(x0 x1 x2:FX):FW:=((W.setCell ⟨k,o,G5⟩ x0).setCell ⟨k,o+1,G5⟩ x1).setCell ⟨k,o+2,G5⟩ x2
section
variable {W:FW} {k:Nat} {f:Nat->FX} {p:Pw}
theorem JK(W:FW)(k j:Nat)(v:FX):Touch (· =k) W (W.setCell ⟨k,j,G5⟩ v):=Touch.set (F:=(· =k)) (a:=⟨k,j,G5⟩) rfl v
theorem VZ(W:FW)(k o:Nat)(x0 x1 x2 x3 x4 x5 x6 x7 x8 x9:FX):Touch (· =k) W (oZ W k o x0 x1 x2 x3 x4 x5 x6 x7 x8 x9):=
 (((((((((JK _ _ _ _).trans (JK _ _ _ _)).trans (JK _ _ _ _)).trans (JK _ _ _ _)).trans (JK _ _ _ _)).trans (JK _ _ _ _)).trans (JK _ _ _ _)).trans (JK _ _ _ _)).trans (JK _ _ _ _)).trans (JK _ _ _ _)
theorem RH(W:FW)(k o:Nat)(x0 x1 x2:FX):Touch (· =k) W (iM W k o x0 x1 x2):=((JK _ _ _ _).trans (JK _ _ _ _)).trans (JK _ _ _ _)
theorem WB.iM(h:WB W k f)(ho:o+3<=83)(x0 x1 x2:FX):WB (iM W k o x0 x1 x2) k (BE7 f o 3 (B70 x0 x1 x2)):=by
 refine(((h.set (j:=o) (by omega) x0).set (j:=o+1) (by omega) x1).set (j:=o+2) (by omega) x2).of_eq fun j hj=>?_;by_cases h2:j=o+2
 .subst h2;rw[II,O7 (by omega)];rfl
 .by_cases h1:j=o+1
  .subst h1;rw[GL _ _ (by omega),II,O7 (by omega)];rfl
  .by_cases h0:j=o
   .subst h0;rw[GL _ _ (by omega),GL _ _ (by omega),II,show BE7 f j 3 (B70 x0 x1 x2) j=BE7 f j 3 (B70 x0 x1 x2) (j+0)from rfl,O7 (by omega)];rfl
   .rw[GL _ _ h2,GL _ _ h1,GL _ _ h0,JF (by omega)]
theorem WB.oZ(h:WB W k f)(ho:o+10<=83)(x0 x1 x2 x3 x4 x5 x6 x7 x8 x9:FX):WB (oZ W k o x0 x1 x2 x3 x4 x5 x6 x7 x8 x9) k (BE7 f o 10 (CF5 x0 x1 x2 x3 x4 x5 x6 x7 x8 x9)):=by
 refine((((((((((h.set (j:=o) (by omega) x0).set (j:=o+1) (by omega) x1).set (j:=o+2) (by omega) x2).set (j:=o+3) (by omega) x3).set (j:=o+4) (by omega) x4).set (j:=o+5) (by omega) x5).set (j:=o+6) (by omega) x6).set (j:=o+7) (by omega) x7).set (j:=o+8) (by omega) x8).set (j:=o+9) (by omega) x9).of_eq fun j hj=>?_;by_cases hr:o<=j/\j<o+10
 .obtain⟨q,rfl⟩:∃q,j=o+q:=⟨j-o,by omega⟩;rw[O7 (by omega)];have hq:q<10:=by omega
  rcases(show q=0\/q=1\/q=2\/q=3\/q=4\/q=5\/q=6\/q=7\/q=8\/q=9 by omega)with rfl|rfl|rfl|rfl|rfl|rfl|rfl|rfl|rfl|rfl<;>simp[LP,CF5]
 .rw[JF (by omega),GL _ _ (by omega),GL _ _ (by omega),GL _ _ (by omega),GL _ _ (by omega),GL _ _ (by omega),GL _ _ (by omega),GL _ _ (by omega),GL _ _ (by omega),GL _ _ (by omega),GL _ _ (by omega)]
theorem SvA.congr{g g':Nat->FX}(h:SvA W k g s)(he:∀q,q<10->g' q=g q):SvA W k g' s:=by
 refine⟨?_,?_,?_,?_,?_,?_,?_,?_,?_,?_⟩<;>rw[he _ (by omega)]
 .exact h.up
 .exact h.d
 .exact h.id
 .exact h.ep
 .exact h.l
 .exact h.dn
 .exact h.z
 .exact h.n
 .exact h.i
 .exact h.w
theorem ClA.congr{g g':Nat->FX}{c:Cl}(h:ClA W k g c)(he:∀q,q<3->g' q=g q):ClA W k g' c:=by
 refine⟨?_,?_,?_⟩<;>rw[he _ (by omega)]
 .exact h.s
 .exact h.z
 .exact h.e
theorem WX.pF(h:WX W k p)(hi:i<3){q:Ps}{vd vl vn vs vw:FX}(hq:svP i q=s)(hv:SvV W (.agg #[.bool s.up,vd,I0 s.id,I0 s.ep,vl,I0 s.dn,I0 s.tr.z,vn,vs,vw]) s)(hs:s.tr.ss≠[]->∀b,b<=k->V7 vs b):
  WX (oZ W k (1+10*i) (.bool s.up) vd (I0 s.id) (I0 s.ep) vl (I0 s.dn) (I0 s.tr.z) vn vs vw) k ⟨p.n,LP p.s i q,p.r,p.c,p.D,p.H,p.h⟩:=by
 obtain⟨f,hb,hr⟩:=h;refine⟨_,hb.oZ (o:=1+10*i) (by omega) _ _ _ _ _ _ _ _ _ _,WdR.touch (W:=W) ?_ (VZ _ _ _ _ _ _ _ _ _ _ _ _ _)⟩;have hA:SvA W k (CF5 (.bool s.up) vd (I0 s.id) (I0 s.ep) vl (I0 s.dn) (I0 s.tr.z) vn vs vw) s:=SvA.of (hr.gU hb) hv (fun h=>hs h k (A8 k)) rfl rfl rfl rfl rfl rfl rfl rfl rfl rfl;refine⟨by rw[JF (by omega)];exact hr.n,fun j hj=>?_,fun j hj=>by rw[JF (by omega)];exact hr.r j hj,fun j hj=>(hr.c j hj).congr fun q hq=>by rw[JF (by omega)],by rw[JF (by omega)];exact hr.d,fun j hj h0=>?_,hr.hk⟩
 .by_cases e:j=i
  .subst e;simp only[II,hq];exact hA.congr fun q hq=>by rw[O7 hq]
  .simp only[GL _ _ e];exact(hr.s j hj).congr fun q hq=>by rw[JF (by omega)]
 .by_cases e:j=i
  .subst e;simp only[II,hq]at h0;rw[O7 (by omega)];exact fun b hb=>hs h0 b (Nat.le_trans hb hr.hk)
  .simp only[GL _ _ e]at h0;rw[JF (by omega)];exact hr.h j hj h0
theorem WX.VQ(h:WX W k p)(hi:i<3)(v:Int):WX (W.setCell ⟨k,31+i,G5⟩ (I0 v)) k ⟨p.n,p.s,LP p.r i v,p.c,p.D,p.H,p.h⟩:=by
 obtain⟨f,hb,hr⟩:=h;refine⟨_,hb.set (j:=31+i) (by omega) _,WdR.touch (W:=W) ?_ (JK _ _ _ _)⟩;refine⟨by rw[GL _ _ (by omega)];exact hr.n,fun j hj=>(hr.s j hj).congr fun q hq=>by rw[GL _ _ (by omega)],fun j hj=>?_,fun j hj=>(hr.c j hj).congr fun q hq=>by rw[GL _ _ (by omega)],by rw[GL _ _ (by omega)];exact hr.d,fun j hj h0=>by rw[GL _ _ (by omega)];exact hr.h j hj h0,hr.hk⟩;by_cases e:j=i
 .subst e;rw[II];simp only[II]
 .rw[GL _ _ (by omega)];simp only[GL _ _ e];exact hr.r j hj
theorem WX.AD2(h:WX W k p){r:Nat->Int}(he:∀i,i<3->p.r i=r i):WX W k ⟨p.n,p.s,r,p.c,p.D,p.H,p.h⟩:=by
 obtain⟨f,hb,hr⟩:=h;exact⟨f,hb,hr.n,hr.s,fun i hi=>by rw[hr.r i hi,he i hi],hr.c,hr.d,hr.h,hr.hk⟩
theorem WX.clear(h:WX W k p):WX (iM W k 31 (I0 0) (I0 0) (I0 0)) k ⟨p.n,p.s,fun _=>0,p.c,p.D,p.H,p.h⟩:=by
 have h1:=((h.VQ (i:=0) (by omega) 0).VQ (i:=1) (by omega) 0).VQ (i:=2) (by omega) 0;have h2:WX (iM W k 31 (I0 0) (I0 0) (I0 0)) k ⟨p.n,p.s,LP (LP (LP p.r 0 0) 1 0) 2 0,p.c,p.D,p.H,p.h⟩:=h1;refine h2.AD2 fun i hi=>?_;rcases(show i=0\/i=1\/i=2 by omega)with rfl|rfl|rfl<;>simp[LP]
theorem WX.AD3(h:WX W k p)(n:Int):WX (W.setCell ⟨k,0,G5⟩ (I0 n)) k ⟨n,p.s,p.r,p.c,p.D,p.H,p.h⟩:=by
 obtain⟨f,hb,hr⟩:=h;refine⟨_,hb.set (j:=0) (by omega) _,WdR.touch (W:=W) ?_ (JK _ _ _ _)⟩;exact⟨by rw[II],fun j hj=>(hr.s j hj).congr fun q hq=>by rw[GL _ _ (by omega)],fun j hj=>by rw[GL _ _ (by omega)];exact hr.r j hj,fun j hj=>(hr.c j hj).congr fun q hq=>by rw[GL _ _ (by omega)],by rw[GL _ _ (by omega)];exact hr.d,fun j hj h0=>by rw[GL _ _ (by omega)];exact hr.h j hj h0,hr.hk⟩
theorem WX.BQ2(h:WX W k p)(hi:i<16){c:Cl}(hv:IL W v c.es):WX (iM W k (34+3*i) (I0 c.s) (I0 c.z) v) k ⟨p.n,p.s,p.r,LP p.c i c,p.D,p.H,p.h⟩:=by
 obtain⟨f,hb,hr⟩:=h;refine⟨_,hb.iM (o:=34+3*i) (by omega) _ _ _,WdR.touch (W:=W) ?_ (RH _ _ _ _ _ _)⟩;refine⟨by rw[JF (by omega)];exact hr.n,fun j hj=>(hr.s j hj).congr fun q hq=>by rw[JF (by omega)],fun j hj=>by rw[JF (by omega)];exact hr.r j hj,fun j hj=>?_,by rw[JF (by omega)];exact hr.d,fun j hj h0=>by rw[JF (by omega)];exact hr.h j hj h0,hr.hk⟩;by_cases e:j=i
 .subst e;simp only[II];exact ClA.congr (g:=B70 (I0 c.s) (I0 c.z) v) ⟨rfl,rfl,bY hv (hr.gU hb)⟩ fun q hq=>by rw[O7 hq]
 .simp only[GL _ _ e];exact(hr.c j hj).congr fun q hq=>by rw[JF (by omega)]
theorem WX.CM2(h:WX W k p){D:List GN}(hv:IL W v D)(H:List GN):WX (W.setCell ⟨k,82,G5⟩ v) k ⟨p.n,p.s,p.r,p.c,D,H,p.h⟩:=by
 obtain⟨f,hb,hr⟩:=h;refine⟨_,hb.set (j:=82) (by omega) _,WdR.touch (W:=W) ?_ (JK _ _ _ _)⟩;exact⟨by rw[GL _ _ (by omega)];exact hr.n,fun j hj=>(hr.s j hj).congr fun q hq=>by rw[GL _ _ (by omega)],fun j hj=>by rw[GL _ _ (by omega)];exact hr.r j hj,fun j hj=>(hr.c j hj).congr fun q hq=>by rw[GL _ _ (by omega)],by rw[II];exact l9 (NY.1 hv) (hr.gU hb),fun j hj h0=>by rw[GL _ _ (by omega)];exact hr.h j hj h0,hr.hk⟩
theorem WX.BY7(h:WX W k p)(hi:i<3)(hu:(p.s i).up=true){x:Ps}(hx:x=⟨(p.s i).up,(p.s i).e,(p.s i).m,(p.s i).a,(p.s i).q,(p.s i).dn,x.ws⟩)(hv:IL W v x.ws):WX (W.setCell ⟨k,1+10*i+9,G5⟩ v) k ⟨p.n,LP p.s i x,p.r,p.c,p.D,p.H,p.h⟩:=by
 obtain⟨f,hb,hr⟩:=h;refine⟨_,hb.set (j:=1+10*i+9) (by omega) _,WdR.touch (W:=W) ?_ (JK _ _ _ _)⟩;refine⟨by rw[GL _ _ (by omega)];exact hr.n,fun j hj=>?_,fun j hj=>by rw[GL _ _ (by omega)];exact hr.r j hj,fun j hj=>(hr.c j hj).congr fun q hq=>by rw[GL _ _ (by omega)],by rw[GL _ _ (by omega)];exact hr.d,fun j hj h0=>by
  rw[GL _ _ (by omega)];refine hr.h j hj ?_;by_cases e:j=i
  .subst e;simp only[II]at h0;rw[J3 (by rw[hx];exact hu)]at h0;rw[J3 hu];rw[hx]at h0;exact h0
  .simp only[GL _ _ e]at h0;exact h0,hr.hk⟩
 by_cases e:j=i
 .subst e;simp only[II];have hs:=hr.s j hj;have e1:svP j x=⟨(svP j (p.s j)).up,(svP j (p.s j)).fs,(svP j (p.s j)).id,(svP j (p.s j)).ep,(svP j (p.s j)).ts,(svP j (p.s j)).dn,(svP j (p.s j)).tr,x.ws⟩:=by
   rw[J3 hu,J3 (by rw[hx];exact hu),hx]
  rw[e1];have g:∀q,q<9->LP f (1+10*j+9) v (1+10*j+q)=f (1+10*j+q):=fun q hq=>GL _ _ (by omega);exact⟨by rw[g 0 (by omega)];exact hs.up,by rw[g 1 (by omega)];exact hs.d,by rw[g 2 (by omega)];exact hs.id,by rw[g 3 (by omega)];exact hs.ep,by rw[g 4 (by omega)];exact hs.l,by rw[g 5 (by omega)];exact hs.dn,by rw[g 6 (by omega)];exact hs.z,by rw[g 7 (by omega)];exact hs.n,by rw[g 8 (by omega)];exact hs.i,by rw[II];exact VP hv (hr.gU hb)⟩
 .simp only[GL _ _ e];exact(hr.s j hj).congr fun q hq=>by rw[GL _ _ (by omega)]
end
structure Srv(W:FW)(k o:Nat)(up:Bool)(id ep dn z:Int)(vd vl vn vs vw:FX):Prop where
 c0:W.cell? ⟨k,o,G5⟩=G6 (.bool up)
 c1:W.cell? ⟨k,o+1,G5⟩=G6 vd
 c2:W.cell? ⟨k,o+2,G5⟩=G6 (I0 id)
 c3:W.cell? ⟨k,o+3,G5⟩=G6 (I0 ep)
 c4:W.cell? ⟨k,o+4,G5⟩=G6 vl
 c5:W.cell? ⟨k,o+5,G5⟩=G6 (I0 dn)
 c6:W.cell? ⟨k,o+6,G5⟩=G6 (I0 z)
 c7:W.cell? ⟨k,o+7,G5⟩=G6 vn
 c8:W.cell? ⟨k,o+8,G5⟩=G6 vs
 c9:W.cell? ⟨k,o+9,G5⟩=G6 vw
theorem Srv.next{up:Bool}{id ep dn z:Int}{vd vl vn vs vw:FX}(h:Srv W k o up id ep dn z vd vl vn vs vw)(hk:k<W.heap.size)(hV:B0 W V):Srv V k o up id ep dn z vd vl vn vs vw:=by
 have e:∀j,V.cell? ⟨k,j,G5⟩=W.cell? ⟨k,j,G5⟩:=fun j=>by rw[AX,AX,hV.block k hk]
 exact⟨(e _).trans h.c0,(e _).trans h.c1,(e _).trans h.c2,(e _).trans h.c3,(e _).trans h.c4,(e _).trans h.c5,(e _).trans h.c6,(e _).trans h.c7,(e _).trans h.c8,(e _).trans h.c9⟩
theorem WX.srv(h:WX W k p)(hi:i<3)(hs:svP i (p.s i)=s):∃ad nd cd al cl an cn ai ci aw cw,
  Srv W k (1+10*i) s.up s.id s.ep s.dn s.tr.z (FU ad nd cd) (FU al s.ts.length cl) (FU an s.tr.ns.length cn) (FU ai s.tr.ss.length ci) (FU aw s.ws.length cw)/\
  SvV W (.agg #[.bool s.up,FU ad nd cd,I0 s.id,I0 s.ep,FU al s.ts.length cl,I0 s.dn,I0 s.tr.z,FU an s.tr.ns.length cn,FU ai s.tr.ss.length ci,FU aw s.ws.length cw]) s/\(s.tr.ss≠[]->V7 (FU ai s.tr.ss.length ci) k):=by
 obtain⟨f,hb,hr⟩:=h;have h:=hr.s i hi;rw[hs]at h;obtain⟨ad,cd,e1⟩:=h.d.slice;obtain⟨al,cl,e4⟩:=h.l.slice;obtain⟨an,cn,e7⟩:=h.n.slice;obtain⟨ai,ci,e8⟩:=h.i.slice;obtain⟨aw,cw,e9⟩:=h.w.slice;have hv:=h.val;have hw:=h.i.2;rw[e8]at hw;rw[h.up,e1,h.id,h.ep,e4,h.dn,h.z,e7,e8,e9]at hv;refine⟨ad,_,cd,al,cl,an,cn,ai,ci,aw,cw,⟨?_,?_,?_,?_,?_,?_,?_,?_,?_,?_⟩,hv,hw⟩
 .rw[hb.cell (j:=1+10*i) (by omega)];exact congrArg G6 h.up
 .rw[hb.cell (by omega)];exact congrArg G6 e1
 .rw[hb.cell (by omega)];exact congrArg G6 h.id
 .rw[hb.cell (by omega)];exact congrArg G6 h.ep
 .rw[hb.cell (by omega)];exact congrArg G6 e4
 .rw[hb.cell (by omega)];exact congrArg G6 h.dn
 .rw[hb.cell (by omega)];exact congrArg G6 h.z
 .rw[hb.cell (by omega)];exact congrArg G6 e7
 .rw[hb.cell (by omega)];exact congrArg G6 e8
 .rw[hb.cell (by omega)];exact congrArg G6 e9
theorem WX.role(h:WX W k p)(hi:i<3):W.cell? ⟨k,31+i,G5⟩=G6 (I0 (p.r i)):=by
 obtain⟨f,hb,hr⟩:=h;rw[hb.cell (by omega),hr.r i hi]
theorem WX.count(h:WX W k p):W.cell? ⟨k,0,G5⟩=G6 (I0 p.n):=by
 obtain⟨f,hb,hr⟩:=h;rw[hb.cell (by omega),hr.n]
theorem WX.GU(h:WX W k p)(j:Nat):W.frozen? ⟨k,j,G5⟩=false:=by
 obtain⟨f,hb,hr⟩:=h;exact hb.GU j
theorem WX.cl(h:WX W k p)(hi:i<16):∃a c,W.cell? ⟨k,34+3*i,G5⟩=G6 (I0 (p.c i).s)/\W.cell? ⟨k,34+3*i+1,G5⟩=G6 (I0 (p.c i).z)/\W.cell? ⟨k,34+3*i+2,G5⟩=G6 (FU a (p.c i).es.length c)/\IL W (FU a (p.c i).es.length c) (p.c i).es:=by
 obtain⟨f,hb,hr⟩:=h;have h:=hr.c i hi;obtain⟨a,c,e⟩:=h.e.slice;have hv:=h.e.1;rw[e]at hv;refine⟨a,c,?_,?_,?_,hv⟩
 .rw[hb.cell (j:=34+3*i) (by omega)];exact congrArg G6 h.s
 .rw[hb.cell (by omega)];exact congrArg G6 h.z
 .rw[hb.cell (by omega)];exact congrArg G6 e
theorem WX.ack(h:WX W k p):∃a c,W.cell? ⟨k,82,G5⟩=G6 (FU a p.D.length c)/\IL W (FU a p.D.length c) p.D:=by
 obtain⟨f,hb,hr⟩:=h;obtain⟨a,c,e⟩:=hr.d.slice;have hv:=hr.d.1;rw[e]at hv;exact⟨a,c,by rw[hb.cell (by omega),e],hv⟩
noncomputable def zW:Array FX:=(((prog.info? 95).bind (·.zero)).getD undef).cells
theorem B71:(prog.info? 95).map (fun i=>(i.zero,i.size))=G6 (G6 (.agg zW),83):=by kernel_rfl
theorem C82:zW.size=83:=by kernel_rfl
theorem CW4(h:n=83):(prog.info? 95).map (·.size)=G6 n:=by rw[h];exact(zero_of_info B71).2
noncomputable def zB:Array FX:=(prog.built 95 []).getD #[]
theorem C83:zB.size=83:=by kernel_rfl
section
variable {w:FW} {ops:Array Oper} {rest:List Oper} {o:Oper} {a:Act} {Q:Exit->Act->FW->Prop}
theorem fV(hgd:o.guard=G5)(x:Operand)(ho:o.op=.load 95 x)(k:Nat)(c:Array FX)(hx:a.eval x=P0 k)(hc:w.heap[k]?=G6 (FV c 95 (0,0)))(h83:c.size=83)
  (h:wpList prog ops Q rest (a.put o.dst (.agg c)) w):wpList prog ops Q (o::rest) a w:=by
 refine wpList_plain hgd fun K hK=>?_;have hr:(Instr.loadAt 95 (P0 k)).run prog w=.ok (.agg c) w:=by
  have hl:=run_loadCells_list (P:=prog) (w:=w) ⟨k,0,G5⟩ c.toList (fun j v hj=>by
   rw[Addr.add_lit];show w.cell? ⟨k,0+j,G5⟩=G6 v;rw[BJ,cell_of_row _ _ j c _ (0,0) hc];simpa using hj)
  rw[show c.toList.length=83 by simpa using h83]at hl;simp only[Instr.loadAt,Instr.sureAddr,EC,EO,Result.andThen];unfold loadVar;simp only[EC,isAgg95,sizeOf95,Result.andThen,if_true];rw[hl];simp
 unfold Oper.wp execOp;simp only[ho,EC,EO,EG,hx,hr];exact hK _ _ h
theorem rU(hgd:o.guard=G5)(ho:o.op=.alloc 95)(h:wpList prog ops Q rest (a.put o.dst (.pointer (G6 ⟨w.heap.size,0,G5⟩))) (w.alloc (FV zW 95))):wpList prog ops Q (o::rest) a w:=by
 refine wpList_plain hgd fun K hK=>?_;have hz:=(zero_of_info B71).1 w;have hr:(Instr.alloc 95 true (.tuple #[])).run prog w=.ok (.pointer (G6 ⟨w.heap.size,0,G5⟩)) (w.alloc (FV zW 95)):=by
  simp[Instr.alloc,newVar,newRow,hz,Value.cells,go_sem]
 unfold Oper.wp execOp;simp only[ho,EC,EO,EG,hr];exact hK _ _ h
theorem A43(hgd:o.guard=G5)(x:Operand)(ho:o.op=.box 95 x)(c:Array FX)(hx:a.eval x=.agg c)(h:wpList prog ops Q rest (a.put o.dst (.pointer (G6 ⟨w.heap.size,0,G5⟩))) (w.alloc (FV c 95))):wpList prog ops Q (o::rest) a w:=by
 refine wpList_plain hgd fun K hK=>?_;have hr:(Instr.box 95 (.agg c)).run prog w=.ok (.pointer (G6 ⟨w.heap.size,0,G5⟩)) (w.alloc (FV c 95)):=by
  simp[Instr.box,newVar,newRow,Value.cells,go_sem]
 unfold Oper.wp execOp;simp only[ho,EC,EO,EG,hx,hr];exact hK _ _ h
theorem rV(hgd:o.guard=G5)(ho:o.op=.build 95 #[])(h:wpList prog ops Q rest (a.put o.dst (.agg zB)) w):wpList prog ops Q (o::rest) a w:=by
 refine wpList_build hgd 95 #[] ho ?_ ?_
 .simp only[Array.map_empty]
  kernel_rfl
 .simp only[Array.map_empty];exact h
theorem bZ(hgd:o.guard=G5)(x y:Operand)(ho:o.op=.store 95 x y)(k:Nat)(c old:Array FX)(hx:a.eval x=P0 k)(hy:a.eval y=.agg c)(hc:w.heap[k]?=G6 (FV old 95 (0,0)))(h83:c.size=83)(ho83:old.size=83)(h1:c.all (·.oneCell')=true)
  (h:wpList prog ops Q rest (a.put o.dst undef) (w.setRow k c)):wpList prog ops Q (o::rest) a w:=
 wpList_store_row hgd _ x y ho k c hx hy _ old hc (CW4 h83) (by omega) h1 h
theorem mZ(hgd:o.guard=G5)(x y:Operand)(ho:o.op=.store 95 x y)(c:Array FX)(hx:a.eval x=.pointer (G6 ⟨w.heap.size,0,G5⟩))(hy:a.eval y=.agg c)(h83:c.size=83)(h1:c.all (·.oneCell')=true)
  (h:wpList prog ops Q rest (a.put o.dst undef) (w.alloc (FV c 95))):wpList prog ops Q (o::rest) a (w.alloc (FV zW 95)):=by
 refine bZ hgd x y ho w.heap.size c zW hx hy (heap_alloc_last w _) h83 C82 h1 ?_;rw[World.setRow_alloc_new];exact h
end
structure AB(T:TypeId)(n:Nat)(W:FW)(k:Nat)(c:Array FX):Prop where
 b:W.heap[k]?=G6 (FV c T (0,0))
 n:c.size=n
section
variable {T:TypeId} {n:Nat} {W V:FW} {k j:Nat} {c:Array FX}
theorem AB.lt(h:AB T n W k c):k<W.heap.size:=(AL.1 h.b).1
theorem AB.next(h:AB T n W k c)(hb:B0 W V):AB T n V k c:=⟨(hb.block k h.lt).trans h.b,h.n⟩
theorem AB.touch(h:AB T n W k c)(ht:Touch F W V)(hk:¬F k):AB T n V k c:=⟨(ht.block k h.lt hk).trans h.b,h.n⟩
theorem AB.cell(h:AB T n W k c)(j:Nat):W.cell? ⟨k,j,G5⟩=c[j]? :=by
 have:=h.b;simp[AX,this]
theorem AB.GU(h:AB T n W k c)(j:Nat):W.frozen? ⟨k,j,G5⟩=false:=by
 have:=h.b;simp[FB,this]
theorem AB.set(h:AB T n W k c)(j:Nat)(v:FX):AB T n (W.setCell ⟨k,j,G5⟩ v) k (c.setIfInBounds j v):=⟨GV v h.b,by rw[Array.size_setIfInBounds];exact h.n⟩
theorem AB.new(w:FW)(c:Array FX)(T:TypeId)(hn:c.size=n):AB T n (w.alloc (FV c T)) w.heap.size c:=⟨heap_alloc_new w _,hn⟩
end
def QO(c:Array FX)(o:Nat)(x0 x1 x2 x3 x4 x5 x6 x7 x8 x9:FX):Array FX:=((((((((((c.setIfInBounds (o) x0).setIfInBounds (o+1) x1).setIfInBounds (o+2) x2).setIfInBounds (o+3) x3).setIfInBounds (o+4) x4).setIfInBounds (o+5) x5).setIfInBounds (o+6) x6).setIfInBounds (o+7) x7).setIfInBounds (o+8) x8).setIfInBounds (o+9) x9)
def nC(c:Array FX)(o:Nat)(x0 x1 x2:FX):Array FX:=((c.setIfInBounds o x0).setIfInBounds (o+1) x1).setIfInBounds (o+2) x2
theorem B72{x0 x1 x2 x3 x4 x5 x6 x7 x8 x9:FX}(h:j<o\/o+10<=j):(QO c o x0 x1 x2 x3 x4 x5 x6 x7 x8 x9)[j]?=c[j]? :=by
 simp only[QO,Array.getElem?_setIfInBounds];rw[if_neg (by omega:¬o+9=j)];rw[if_neg (by omega:¬o+8=j)];rw[if_neg (by omega:¬o+7=j)];rw[if_neg (by omega:¬o+6=j)];rw[if_neg (by omega:¬o+5=j)];rw[if_neg (by omega:¬o+4=j)];rw[if_neg (by omega:¬o+3=j)];rw[if_neg (by omega:¬o+2=j)];rw[if_neg (by omega:¬o+1=j)];rw[if_neg (by omega:¬o=j)]
theorem BQ3{x0 x1 x2:FX}(h:j<o\/o+3<=j):(nC c o x0 x1 x2)[j]?=c[j]? :=by
 simp only[nC,Array.getElem?_setIfInBounds];rw[if_neg (by omega:¬o+2=j),if_neg (by omega:¬o+1=j),if_neg (by omega:¬o=j)]
theorem B73(x0 x1 x2 x3 x4 x5 x6 x7 x8 x9:FX)(h:o+10<=c.size):(QO c o x0 x1 x2 x3 x4 x5 x6 x7 x8 x9)[o]?=G6 x0/\(QO c o x0 x1 x2 x3 x4 x5 x6 x7 x8 x9)[o+1]?=G6 x1/\(QO c o x0 x1 x2 x3 x4 x5 x6 x7 x8 x9)[o+2]?=G6 x2/\(QO c o x0 x1 x2 x3 x4 x5 x6 x7 x8 x9)[o+3]?=G6 x3/\(QO c o x0 x1 x2 x3 x4 x5 x6 x7 x8 x9)[o+4]?=G6 x4/\(QO c o x0 x1 x2 x3 x4 x5 x6 x7 x8 x9)[o+5]?=G6 x5/\(QO c o x0 x1 x2 x3 x4 x5 x6 x7 x8 x9)[o+6]?=G6 x6/\(QO c o x0 x1 x2 x3 x4 x5 x6 x7 x8 x9)[o+7]?=G6 x7/\(QO c o x0 x1 x2 x3 x4 x5 x6 x7 x8 x9)[o+8]?=G6 x8/\(QO c o x0 x1 x2 x3 x4 x5 x6 x7 x8 x9)[o+9]?=G6 x9:=by
 refine⟨?_,?_,?_,?_,?_,?_,?_,?_,?_,?_⟩<;>(simp[QO,Array.getElem?_setIfInBounds];omega)
theorem BQ4(x0 x1 x2:FX)(h:o+3<=c.size):(nC c o x0 x1 x2)[o]?=G6 x0/\(nC c o x0 x1 x2)[o+1]?=G6 x1/\(nC c o x0 x1 x2)[o+2]?=G6 x2:=by
 refine⟨?_,?_,?_⟩<;>(simp[nC,Array.getElem?_setIfInBounds];omega)
theorem AB.OG{T:TypeId}(h:AB T n W k c)(o:Nat)(x0 x1 x2 x3 x4 x5 x6 x7 x8 x9:FX):AB T n (oZ W k o x0 x1 x2 x3 x4 x5 x6 x7 x8 x9) k (QO c o x0 x1 x2 x3 x4 x5 x6 x7 x8 x9):=
 h.set _ _|>.set _ _|>.set _ _|>.set _ _|>.set _ _|>.set _ _|>.set _ _|>.set _ _|>.set _ _|>.set _ _
theorem AB.put3{T:TypeId}(h:AB T n W k c)(o:Nat)(x0 x1 x2:FX):AB T n (iM W k o x0 x1 x2) k (nC c o x0 x1 x2):=
 h.set _ _|>.set _ _|>.set _ _
theorem QA(h:c.all (·.oneCell')=true)(hv:v.oneCell'=true)(j:Nat):(c.setIfInBounds j v).all (·.oneCell')=true:=by
 rw[Array.all_eq_true_iff_forall_mem]at h⊢;intro x hx;rcases Array.mem_or_eq_of_mem_setIfInBounds hx with hx|rfl
 .exact h x hx
 .exact hv
noncomputable def TV:Array FX:=(((prog.info? 41).bind (·.zero)).getD undef).cells
theorem xU:(prog.info? 41).map (fun i=>(i.zero,i.size))=G6 (G6 (.agg TV),30):=by kernel_rfl
theorem XV:TV.size=30:=by kernel_rfl
theorem BQ5:TV.all (·.oneCell')=true:=by kernel_rfl
theorem B74(h:c.size=30):(prog.info? 41).map (·.size)=G6 c.size:=by rw[h];exact(zero_of_info xU).2
theorem AD4(w:FW)(k:Nat)(c:Array FX)(hc:w.heap[k]?=G6 (FV c 41 (0,0)))(hn:c.size=30):(loadVar 41 ⟨k,0,G5⟩).run prog w=.ok (.agg c) w:=by
 have hl:=run_loadCells_list (P:=prog) (w:=w) ⟨k,0,G5⟩ c.toList (fun j v hj=>by
  rw[Addr.add_lit];show w.cell? ⟨k,0+j,G5⟩=G6 v;rw[BJ,cell_of_row _ _ j c _ (0,0) hc];simpa using hj)
 rw[show c.toList.length=30 by simpa using hn]at hl;unfold loadVar;simp only[EC,isAgg41,sizeOf41,Result.andThen,if_true];rw[hl];simp
theorem C84(w:FW)(k:Nat)(c:Array FX)(hc:w.heap[k]?=G6 (FV c 41 (0,0)))(hn:c.size=30):(Instr.loadAt 41 (P0 k)).run prog w=.ok (.agg c) w:=by
 simp only[Instr.loadAt,Instr.sureAddr,EC,EO,Result.andThen];exact AD4 w k c hc hn
section
variable {w:FW} {ops:Array Oper} {rest:List Oper} {o:Oper} {a:Act} {Q:Exit->Act->FW->Prop}
theorem C85(x:Operand)(ho:o.op=.load 41 x)(k:Nat)(c:Array FX)(hx:a.eval x=P0 k)(hc:w.heap[k]?=G6 (FV c 41 (0,0)))(hn:c.size=30):(execOp a.eval o).run prog w=.ok (.value (.agg c)) w:=by
 unfold execOp;simp only[ho,EC,EO,EG,hx,C84 w k c hc hn]
theorem TA(hgd:o.guard=G5)(ho:o.op=.alloc 41)(h:wpList prog ops Q rest (a.put o.dst (.pointer (G6 ⟨w.heap.size,0,G5⟩))) (w.alloc (FV TV 41))):wpList prog ops Q (o::rest) a w:=by
 refine wpList_plain hgd fun K hK=>?_;have hz:=(zero_of_info xU).1 w;have hr:(Instr.alloc 41 true (.tuple #[])).run prog w=.ok (.pointer (G6 ⟨w.heap.size,0,G5⟩)) (w.alloc (FV TV 41)):=by
  simp[Instr.alloc,newVar,newRow,hz,Value.cells,go_sem]
 unfold Oper.wp execOp;simp only[ho,EC,EO,EG,hr];exact hK _ _ h
theorem XW(hgd:o.guard=G5)(x y:Operand)(ho:o.op=.store 41 x y)(k:Nat)(c old:Array FX)(hx:a.eval x=P0 k)(hy:a.eval y=.agg c)(hc:w.heap[k]?=G6 (FV old 41 (0,0)))(hn:c.size=30)(hon:old.size=30)(h1:c.all (·.oneCell')=true)
  (h:wpList prog ops Q rest (a.put o.dst undef) (w.setRow k c)):wpList prog ops Q (o::rest) a w:=
 wpList_store_row hgd _ x y ho k c hx hy _ old hc (B74 hn) (by omega) h1 h
end
noncomputable def WA:Array FX:=(((prog.info? 45).bind (·.zero)).getD undef).cells
theorem xW:(prog.info? 45).map (fun i=>(i.zero,i.size))=G6 (G6 (.agg WA),48):=by kernel_rfl
theorem XY:WA.size=48:=by kernel_rfl
theorem BQ6:WA.all (·.oneCell')=true:=by kernel_rfl
theorem B75(h:c.size=48):(prog.info? 45).map (·.size)=G6 c.size:=by rw[h];exact(zero_of_info xW).2
theorem AD5(w:FW)(k:Nat)(c:Array FX)(hc:w.heap[k]?=G6 (FV c 45 (0,0)))(hn:c.size=48):(loadVar 45 ⟨k,0,G5⟩).run prog w=.ok (.agg c) w:=by
 have hl:=run_loadCells_list (P:=prog) (w:=w) ⟨k,0,G5⟩ c.toList (fun j v hj=>by
  rw[Addr.add_lit];show w.cell? ⟨k,0+j,G5⟩=G6 v;rw[BJ,cell_of_row _ _ j c _ (0,0) hc];simpa using hj)
 rw[show c.toList.length=48 by simpa using hn]at hl;unfold loadVar;simp only[EC,isAgg45,sizeOf45,Result.andThen,if_true];rw[hl];simp
theorem C86(w:FW)(k:Nat)(c:Array FX)(hc:w.heap[k]?=G6 (FV c 45 (0,0)))(hn:c.size=48):(Instr.loadAt 45 (P0 k)).run prog w=.ok (.agg c) w:=by
 simp only[Instr.loadAt,Instr.sureAddr,EC,EO,Result.andThen];exact AD5 w k c hc hn
section
variable {w:FW} {ops:Array Oper} {rest:List Oper} {o:Oper} {a:Act} {Q:Exit->Act->FW->Prop}
theorem C87(x:Operand)(ho:o.op=.load 45 x)(k:Nat)(c:Array FX)(hx:a.eval x=P0 k)(hc:w.heap[k]?=G6 (FV c 45 (0,0)))(hn:c.size=48):(execOp a.eval o).run prog w=.ok (.value (.agg c)) w:=by
 unfold execOp;simp only[ho,EC,EO,EG,hx,C86 w k c hc hn]
theorem TB(hgd:o.guard=G5)(ho:o.op=.alloc 45)(h:wpList prog ops Q rest (a.put o.dst (.pointer (G6 ⟨w.heap.size,0,G5⟩))) (w.alloc (FV WA 45))):wpList prog ops Q (o::rest) a w:=by
 refine wpList_plain hgd fun K hK=>?_;have hz:=(zero_of_info xW).1 w;have hr:(Instr.alloc 45 true (.tuple #[])).run prog w=.ok (.pointer (G6 ⟨w.heap.size,0,G5⟩)) (w.alloc (FV WA 45)):=by
  simp[Instr.alloc,newVar,newRow,hz,Value.cells,go_sem]
 unfold Oper.wp execOp;simp only[ho,EC,EO,EG,hr];exact hK _ _ h
theorem XZ(hgd:o.guard=G5)(x y:Operand)(ho:o.op=.store 45 x y)(k:Nat)(c old:Array FX)(hx:a.eval x=P0 k)(hy:a.eval y=.agg c)(hc:w.heap[k]?=G6 (FV old 45 (0,0)))(hn:c.size=48)(hon:old.size=48)(h1:c.all (·.oneCell')=true)
  (h:wpList prog ops Q rest (a.put o.dst undef) (w.setRow k c)):wpList prog ops Q (o::rest) a w:=
 wpList_store_row hgd _ x y ho k c hx hy _ old hc (B75 hn) (by omega) h1 h
end
def RpB(W:FW)(g:Nat):Prop:=W.heap[g]?=G6 (FV #[I0 0,I0 0,.string ⟨#[]⟩,.string ⟨#[]⟩,I0 0,I0 0,I0 0,I0 0,I0 0,I0 0,I0 0,N0] 53 (0,0))
theorem RpB.new(w:FW):RpB (w.alloc (FV #[I0 0,I0 0,.string ⟨#[]⟩,.string ⟨#[]⟩,I0 0,I0 0,I0 0,I0 0,I0 0,I0 0,I0 0,N0] 53)) w.heap.size:=heap_alloc_new w _
theorem RpB.lt(h:RpB W g):g<W.heap.size:=(AL.1 h).1
theorem RpB.touch(h:RpB W g)(ht:Touch F W V)(hg:¬F g):RpB V g:=(ht.block g h.lt hg).trans h
theorem RpB.next(h:RpB W g)(hb:B0 W V):RpB V g:=(hb.block g h.lt).trans h
theorem RpB.cells(h:RpB W g):(W.cell? ⟨g,0,G5⟩=G6 (I0 0)/\W.cell? ⟨g,1,G5⟩=G6 (I0 0)/\W.cell? ⟨g,2,G5⟩=G6 (.string ⟨#[]⟩)/\W.cell? ⟨g,3,G5⟩=G6 (.string ⟨#[]⟩)/\W.cell? ⟨g,4,G5⟩=G6 (I0 0)/\W.cell? ⟨g,5,G5⟩=G6 (I0 0))/\(W.cell? ⟨g,6,G5⟩=G6 (I0 0)/\W.cell? ⟨g,7,G5⟩=G6 (I0 0)/\W.cell? ⟨g,8,G5⟩=G6 (I0 0)/\W.cell? ⟨g,9,G5⟩=G6 (I0 0)/\W.cell? ⟨g,10,G5⟩=G6 (I0 0)/\W.cell? ⟨g,11,G5⟩=G6 (N0)):=by
 unfold RpB at h;refine⟨⟨?_,?_,?_,?_,?_,?_⟩,?_,?_,?_,?_,?_,?_⟩<;>simp[AX,h]
theorem RpB.GU(h:RpB W g)(j:Nat):W.frozen? ⟨g,j,G5⟩=false:=by
 unfold RpB at h;simp[FB,h]
def gV(W:FW)(g:Nat)(x0 x1 x2 x3 x4 x5 x6 x7 x8 x9 x10 x11:FX):FW:=
 (((((((((((W.setCell ⟨g,0,G5⟩ x0).setCell ⟨g,1,G5⟩ x1).setCell ⟨g,2,G5⟩ x2).setCell ⟨g,3,G5⟩ x3).setCell ⟨g,4,G5⟩ x4).setCell ⟨g,5,G5⟩ x5).setCell ⟨g,6,G5⟩ x6).setCell ⟨g,7,G5⟩ x7).setCell ⟨g,8,G5⟩ x8).setCell ⟨g,9,G5⟩ x9).setCell ⟨g,10,G5⟩ x10).setCell ⟨g,11,G5⟩ x11
theorem Touch.new{w:FW}(h:Touch F w W)(hg:w.heap.size<=g)(v:FX):Touch F w (W.setCell ⟨g,j,G5⟩ v):=
 ⟨h.os,h.tape,h.output,by simpa [World.setCell]using h.size,fun k hk hf=>(Below.heap_setCell W ⟨g,j,G5⟩ v k (by show k≠g;omega)).trans (h.block k hk hf)⟩
theorem KG{w:FW}(h:Touch F w W)(hg:w.heap.size<=g)(x0 x1 x2 x3 x4 x5 x6 x7 x8 x9 x10 x11:FX):Touch F w (gV W g x0 x1 x2 x3 x4 x5 x6 x7 x8 x9 x10 x11):=
 (((((((((((h.new hg x0).new hg x1).new hg x2).new hg x3).new hg x4).new hg x5).new hg x6).new hg x7).new hg x8).new hg x9).new hg x10).new hg x11
theorem lG(w:FW)(o p:Obj):((w.alloc o).alloc p).heap[w.heap.size+1]?=G6 p:=by
 have h:=heap_alloc_new (w.alloc o) p;simpa using h
def UU(E:Int):FX:=.agg #[I0 E,I0 0,.string ⟨#[]⟩,.string ⟨#[]⟩,I0 0,I0 0,I0 0,I0 0,I0 0,I0 0,I0 0,N0]
theorem KP(E:Int)(w:FW):FZ prog 23 #[I0 E] w (R0 w (UU E)):=by
 unfold UU;go_enter func23,ntmps23;go_wp2_with fail;refine bodyPost_ret (v:=.agg #[I0 E,I0 0,.string ⟨#[]⟩,.string ⟨#[]⟩,I0 0,I0 0,I0 0,I0 0,I0 0,I0 0,I0 0,N0]) (by simp[results,results23,go_sem]) rfl ⟨rfl,?_⟩
 first|exact Below.refl _ _|exact G9 _ _|exact GH (G9 _ _) (by assumption)|exact(by assumption)
def wP(k:Nat):FX:=P0 k
theorem Y0(i m:Int)(w:FW):FZ prog 33 #[I0 i,I0 m] w fun e w'=>e=.returned (.bool (eY i m))/\w'=w:=by
 by_cases h:0<=i
 .by_cases h2:i<m
  .rw[show eY i m=true by simp[eY];omega];go_enter func33,ntmps33;go_wp2_with fail;go_ret;exact⟨rfl,rfl⟩
  .rw[show eY i m=false by simp[eY];omega];go_enter func33,ntmps33;go_wp2_with fail;go_ret;exact⟨rfl,rfl⟩
 .rw[show eY i m=false by simp[eY];omega];go_enter func33,ntmps33;go_wp2_with fail;go_ret;exact⟨rfl,rfl⟩
def U7(k E:Int):Bool:=decide (E=0)||decide (E=16)||(decide (E=7)&&decide (k=2))
theorem A45(k E:Int)(w:FW):FZ prog 26 #[I0 k,I0 E] w fun e w'=>e=.returned (.bool (U7 k E))/\w'=w:=by
 unfold U7;by_cases h0:E=0
 .subst h0;go_enter func26,ntmps26;go_wp2_with fail;go_ret;exact⟨by simp,rfl⟩
 .by_cases h1:E=16
  .subst h1;go_enter func26,ntmps26;go_wp2_with fail;go_ret;exact⟨by simp,rfl⟩
  .by_cases h2:E=7
   .subst h2;by_cases h3:k=2
    .subst h3;go_enter func26,ntmps26;go_wp2_with fail;go_ret;exact⟨by simp,rfl⟩
    .go_enter func26,ntmps26;go_wp2_with fail;go_ret;exact⟨by simp[h3],rfl⟩
   .go_enter func26,ntmps26;go_wp2_with fail;go_ret;exact⟨by simp[h0,h1,h2],rfl⟩
theorem rZ(e:Int):(YT e).s.length+(YT e).t.length<=1048576:=by
 have:=aW (KY e 0);simp only[YT,List.length_nil];omega
theorem ZU{e:Int}{s t:List UInt8}(h:s.length+t.length<=1048576):LQ (epD e++[⟨NV,s,t⟩]):=by
 unfold epD
 split
 .exact bQ h
 .exact TS (rZ e) h
theorem iP(e:Int)(s t:List UInt8):There (epD e++[⟨NV,s,t⟩]) (epD e) ⟨NV,s,t⟩ [] NV:=by
 unfold epD
 split
 .exact⟨rfl,rfl,by simp,by simp⟩
 .exact kX _ _ _ _
theorem BQ9(e:Int)(s t:List UInt8)(k:Nat):(epD e++[(⟨NV,s,t⟩:DF)]).map (XD k)=epD e++[⟨NV,s++t.take k,[]⟩]:=by
 unfold epD
 split
 .simp[XD]
 .simp[XD,YT]
theorem BR0{e:Int}{s t:List UInt8}(he:zIn e=true)(h:s.length+t.length<=1048576):Z7 (epD e++[⟨NV,s,t⟩])=e:=by
 by_cases h0:e=0
 .subst h0;rw[AC9,List.nil_append];unfold Z7;rw[jY (bQ h) (eX s t)];show J4 (gQ [])=0;rw[vG,VJ]
 .rw[A42 h0];have h1:=PS.1 he;have hm:KY e 0=e*2147483648:=by rw[(U9 he (by decide)).1];omega
  have hz:KN (KY e 0)=true:=by rw[hm];exact LY.2 ⟨by omega,by omega⟩
  unfold Z7;show J4 (gQ (WE [⟨JI,QM (KY e 0),[]⟩,⟨NV,s,t⟩] JI).1)=e;rw[VK (TS (by have:=aW (KY e 0);simp;omega) h) (bU _ _ _ _)];simp only[List.append_nil];rw[(AY0 hz).1,LZ hz,hm];omega
section
variable {i:Nat} {q:Ps}
theorem MJ.small(ok:MJ 300 q):(IE q.m).length<=146100/\q.m.length<=300:=by
 have:=ok.len;exact⟨rX ok.log (by omega),by omega⟩
theorem UW(m:List GN)(a:Nat):(IE (m.take a)).length+(IE (m.drop a)).length=(IE m).length:=by
 conv=>rhs;rw[<-DV a m,LH,List.length_append]
theorem Y6{x:GN}(h:gdE x=0):x.p.length<=200/\x.d.length<=256:=⟨BW3 (gX h).2.2.2,(gX h).2.2.1⟩
theorem MJ.zin(ok:MJ 300 q):zIn q.e=true:=PS.2 ⟨ok.e0,by have:=ok.e1;omega⟩
theorem MJ.fits(ok:MJ 300 q)(hu:q.up=true):BX5 (svP i q):=by
 obtain⟨h1,h2⟩:=ok.small;have h3:=UW q.m q.a;have g:=ok.play.good ok.dn;have gd:LQ (epD q.e++[⟨NV,IE (q.m.take q.a),IE (q.m.drop q.a)⟩]):=ZU (by omega);have hw:=ok.wl;rw[J3 hu];refine⟨?_,JV gd,by show q.m.length*72<=_;omega,fun x hx=>?_,by show (QT q.m q.dn).ns.length*88<=_;have:=g.nod.few;omega,g.wf.CJ7,TN g.ses,by show q.ws.length*32<=_;omega,fun x hx=>?_⟩
 .simp only[epD]
  split<;>simp
 .have:=Y6 (ok.log.good x hx);omega
 .have:=MO (ok.wk x hx).2.2.2;omega
theorem xX(hu:q.up=true)(k:Nat):svP i (OC q k)=⟨false,((svP i q).fs).map (XD k),(svP i q).id,0,[],0,QL,[]⟩:=by
 rw[J3 hu,PK (p:=OC q k) rfl];simp only[BQ9];rw[xP,<-BU,<-LH];have e:q.m.take (q.a+whole (q.m.drop q.a) k)=q.m.take q.a++(q.m.drop q.a).take (whole (q.m.drop q.a) k):=by rw[List.take_add]
 simp only[OC,e]
theorem BR1(ok:MJ 300 q)(hu:q.up=true){ke:Int}(hk:0<=ke)(v:FX)(w:FW)(hv:SvV w v (svP i q)):FZ prog 62 #[v,I0 ke] w (bG w (svP i (OC q ke.toNat)) 0):=by
 obtain⟨h1,h2⟩:=ok.small;have h3:=UW q.m q.a;have gd:LQ (svP i q).fs:=by rw[J3 hu];exact ZU (by omega)
 have G:NG 90 (fun x=>#[x,I0 ke]) (svP i q).fs ((svP i q).fs.map (XD ke.toNat)) 0:=by
  have:=MQ (f:=90) (args:=fun x=>#[x,I0 ((ke.toNat:Nat):Int)]) fun v W hv=>AZ3 v (svP i q).fs ke.toNat W hv (JV gd) gd;rwa[Int.toNat_of_nonneg hk]at this
 rw[xX hu];exact B48 (svP i q) v _ ke w hv G
theorem A46(ok:MJ 300 q)(hu:q.up=true){ke:Int}(hk:ke<0)(v:FX)(w:FW)(hv:SvV w v (svP i q)):FZ prog 62 #[v,I0 ke] w (bG w sv0 3):=by
 obtain⟨h1,h2⟩:=ok.small;have h3:=UW q.m q.a;have gd:LQ (svP i q).fs:=by rw[J3 hu];exact ZU (by omega)
 exact AN6 (svP i q) v [] ke 3 w hv (by decide) (vS fun v W hv=>BJ0 v (svP i q).fs ke W hv (JV gd) (.inr hk))
theorem C92(ok:MJ 300 q)(hu:q.up=false)(hi:i<3)(v:FX)(w:FW)(hv:IV w v (svP i q).fs):FZ prog 31 #[I0 i,.agg #[v]] w (bG w (svP i (upP q)) 0):=by
 obtain⟨h1,h2⟩:=ok.small;obtain⟨_,_,_,hs,hq⟩:=ok.down hu;have hl:(IE q.m++q.q).length+([]:List UInt8).length<=1048576:=by simp;omega
 rw[PK hu]at hv;have gd:LQ (epD q.e++[⟨NV,IE q.m++q.q,[]⟩]):=ZU hl;have R:Z9 (epD q.e++[⟨NV,IE q.m++q.q,[]⟩]) q.m (epD q.e) []:=⟨gd,ok.log,.inr ⟨_,q.q,iP _ _ _,by simpa using hs⟩⟩;have:=AC1 v _ _ q.m i w hv (JV gd) (by omega) (by omega) (kV R);rw[BR0 ok.zin hl]at this;rw[J3 (p:=upP q) rfl];simpa [upP,OX,XQ,show IE []=[]from rfl]using this
theorem C93{x:GN}(sure:Bool)(ok:MJ 299 q)(hu:q.up=true)(hg:gdE x=0)(hz:J5 q.m<x.z)(v:FX)(w:FW)(hv:SvV w v (svP i q)):FZ prog 79 #[v,J9 x,.bool sure] w fun e w'=>eP w (svP i (TK x sure q)) 0 e w'/\FrT w e:=by
 have ok':=ok.more (show (299:Int)<=300 by omega);obtain⟨h1,h2⟩:=ok'.small;have h3:=UW q.m q.a;have hr:=jE hg;have hx:=Y6 hg;have ha:=ok.a;have g0:LQ (epD q.e++[⟨NV,IE (q.m.take q.a),IE (q.m.drop q.a)⟩]):=ZU (by omega);have g1:LQ (epD q.e++[⟨NV,IE (q.m.take q.a),IE (q.m.drop q.a)++QV x⟩]):=ZU (by simp;omega);have W1:∀v W,IV W v (epD q.e++[⟨NV,IE (q.m.take q.a),IE (q.m.drop q.a)⟩])->FZ prog 71 #[.agg #[v],S0 NV,S0 (QV x)] W fun e w'=>∃v',e=.returned (.tuple #[.agg #[v'],I0 0])/\YG w' W.heap.size v' (epD q.e++[⟨NV,IE (q.m.take q.a),IE (q.m.drop q.a)++QV x⟩])/\B0 W w':=fun v W hv=>
  jW v _ (epD q.e) [] _ NV (QV x) W hv (JV g0) g0 (iP _ _ _) (by simp only;omega)
 have S1:∀v W,IV W v (epD q.e++[⟨NV,IE (q.m.take q.a),IE (q.m.drop q.a)++QV x⟩])->FZ prog 138 #[.agg #[v],S0 NV] W fun e w'=>∃v',e=.returned (.tuple #[.agg #[v'],I0 0])/\YG w' W.heap.size v' (epD q.e++[⟨NV,IE (q.m.take q.a)++(IE (q.m.drop q.a)++QV x),[]⟩])/\B0 W w':=fun v W hv=>
  YI v _ (epD q.e) [] _ NV W hv (JV g1) g1 (iP _ _ _)
 have T:CV6 (svP i q) x sure 0 (svP i (TK x sure q)):=by
  rw[J3 hu];refine .inr (.inr ⟨by show ¬x.z<=J5 q.m;omega,rfl,?_⟩)
  cases sure with
  |true=>
   refine⟨_,?_,oN _ _ _ x 0 hg (MQ W1) (eH S1)⟩;rw[J3 (p:=TK x true q) hu];simp only[TK,if_true,iK q.m x ok.dn];rw[BN (by simp),List.drop_of_length_le (by simp),<-BU,<-LH,DV,<-PU];rfl
  |false=>
   refine⟨_,?_,AN7 _ _ x hg (eH W1)⟩;rw[J3 (p:=TK x false q) hu];simp only[TK,Bool.false_eq_true,if_false,iK q.m x ok.dn];rw[List.take_append_of_le_length ha,List.drop_append_of_le_length ha,PU]
 exact A31 (svP i q) _ v x sure 0 w hv (ok'.fits hu) T (by omega) (by omega) (by rw[J3 hu];show q.m.length<=_;omega)
theorem BZ0(ok:MJ 300 q)(hu:q.up=true):Chn (svP i q) (q.m.drop q.dn) (q.m.length-q.dn):=by
 have e:∀j,(csP (svP i q) (q.m.drop q.dn) j).1.tr=QT q.m (q.dn+j):=fun j=>by
  unfold csP QT;rw[B58,J3 hu,List.take_add,List.foldl_append];rfl
 refine⟨by simp,fun j x hj hx=>?_,fun x hx=>?_⟩
 .rw[e];rw[List.getElem?_drop]at hx;exact ok.play _ x hx
 .have:=(List.getElem?_eq_some_iff.1 hx).1;simp at this
theorem B80(ok:MJ 300 q)(hu:q.up=true):BN3 (svP i q) (q.m.drop q.dn):=by
 have hw:=ok.wl;rw[J3 hu];refine⟨(ok.play.good ok.dn).wf,fun x hx=>?_,by show q.ws.length*32<=_;omega,fun x hx=>?_,fun x hx=>?_⟩
 .have:=MO (ok.wk x hx).2.2.2;omega
 .have:=Y6 (ok.log.good x (List.mem_of_mem_drop hx));omega
 .have:=Y6 (ok.log.good x (List.mem_of_mem_drop hx));omega
theorem C94(ok:MJ 300 q)(hu:q.up=true):(dI i q).1.up=true/\(dI i q).1.fs=(svP i q).fs/\(dI i q).1.id=i/\(dI i q).1.ep=q.e/\(dI i q).1.ts=q.m/\(dI i q).1.tr=QT q.m q.m.length:=by
 obtain⟨_,b1,b2,b3,b4,b5,_⟩:=BX7 (B80 (i:=i) ok hu) (BZ0 ok hu) _ (A8 _);have hd:=ok.dn;refine⟨?_,b2,?_,?_,?_,?_⟩
 .show (csP _ _ _).1.up=true;rw[b1,J3 hu]
 .show (csP _ _ _).1.id=_;rw[b3,J3 hu]
 .show (csP _ _ _).1.ep=_;rw[b4,J3 hu]
 .show (csP _ _ _).1.ts=_;rw[b5,J3 hu]
 .show (csP _ _ _).1.tr=_;unfold csP;rw[B58,J3 hu];show (List.take _ _).foldl jI (QT q.m q.dn)=_;unfold QT;rw[<-List.foldl_append,<-List.take_add,show q.dn+(q.m.length-q.dn)=q.m.length by omega]
theorem B81(ok:MJ 300 q)(hu:q.up=true)(v:FX)(w:FW)(hv:SvV w v (svP i q)):FZ prog 80 #[v,I0 q.m.length] w fun e w'=>kU w (svP i (iL i q)) (dI i q).2 0 e w'/\FrS w e:=by
 have hd:=ok.dn;obtain⟨c1,c2,c3,c4,c5,c6⟩:=C94 (i:=i) ok hu;refine(xB (svP i q) v q.dn q.m.length (q.m.length-q.dn) (q.m.drop q.dn) w hv (ok.fits hu) (by rw[J3 hu]) hd (by rw[J3 hu];exact A8 _) (by rw[J3 hu];show _=List.take _ (List.drop q.dn q.m);rw[BN (by simp)]) (BZ0 ok hu) (B80 ok hu)).mono fun e w' H=>?_;have:=H.1 (by simp);have e:svP i (iL i q)=⟨(csP (svP i q) (q.m.drop q.dn) (q.m.length-q.dn)).1.up,(csP (svP i q) (q.m.drop q.dn) (q.m.length-q.dn)).1.fs,(csP (svP i q) (q.m.drop q.dn) (q.m.length-q.dn)).1.id,(csP (svP i q) (q.m.drop q.dn) (q.m.length-q.dn)).1.ep,(csP (svP i q) (q.m.drop q.dn) (q.m.length-q.dn)).1.ts,(q.m.length:Int),(csP (svP i q) (q.m.drop q.dn) (q.m.length-q.dn)).1.tr,(csP (svP i q) (q.m.drop q.dn) (q.m.length-q.dn)).1.ws⟩:=by
  show _=(⟨(dI i q).1.up,(dI i q).1.fs,(dI i q).1.id,(dI i q).1.ep,(dI i q).1.ts,(q.m.length:Int),(dI i q).1.tr,(dI i q).1.ws⟩:Sv);rw[c1,c2,c3,c4,c5,c6,J3 (p:=iL i q) hu,J3 hu];rfl
 rw[e];exact this
end
