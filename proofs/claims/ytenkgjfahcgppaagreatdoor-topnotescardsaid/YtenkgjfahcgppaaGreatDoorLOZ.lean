/-
  Part.
-/
import Derived.Test.YtenkgjfahcgppaaGreatDoorLOX
import Derived.Test.YtenkgjfahcgppaaGreatDoorLOY
set_option maxRecDepth 20000
set_option maxHeartbeats 8000000
namespace Go.Proofs.YtenkgjfahcgppaaGreatDoor
open Go.RowKit Go.Proofs.Tryz
variable{F:Nat->Prop}{g B q k o j i:Nat}{W V w w':World}{v:Value}{s:Sv}{r:Nat->Int}{p:Pw}{e:Ending}{E:Int}{d:Dd}{α:Type}
def WB(W:World)(k:Nat)(f:Nat->Value):Prop:=∃c:Array Value,W.heap[k]?=some (.cells c 88 (0,0))/\c.size=83/\∀j,j<83->c[j]?=some (f j)
section
variable {W V:World} {k j:Nat} {f:Nat->Value}
theorem WB.lt(h:WB W k f):k<W.heap.size:=by
 obtain⟨c,h1,_⟩:=h;exact(Array.getElem?_eq_some_iff.1 h1).1
theorem WB.cell(h:WB W k f)(hj:j<83):W.cell? ⟨k,j,none⟩=some (f j):=by
 obtain⟨c,h1,_,h3⟩:=h;simp[World.cell?,h1,h3 j hj]
theorem WB.AX(h:WB W k f)(j:Nat):W.frozen? ⟨k,j,none⟩=false:=by
 obtain⟨c,h1,_⟩:=h;simp[World.frozen?,h1]
theorem WB.touch(h:WB W k f)(ht:Touch F W V)(hk:¬F k):WB V k f:=by
 obtain⟨c,h1,h2,h3⟩:=h;exact⟨c,(ht.block k (Array.getElem?_eq_some_iff.1 h1).1 hk).trans h1,h2,h3⟩
theorem WB.next(h:WB W k f)(hb:B0 W V):WB V k f:=h.touch (F:=fun _=>False) (Touch.of_below hb) id
theorem WB.set(h:WB W k f)(hj:j<83)(v:Value):WB (W.setCell ⟨k,j,none⟩ v) k (GX f j v):=by
 obtain⟨c,h1,h2,h3⟩:=h;refine⟨c.setIfInBounds j v,AV v h1,by simp[h2],fun i hi=>?_⟩;rw[Array.getElem?_setIfInBounds];by_cases e:j=i
 .subst e;simp[h2,hj,BP]
 .rw[if_neg e,AP _ _ (fun h=>e h.symm)];exact h3 i hi
theorem WB.of_eq{g:Nat->Value}(h:WB W k f)(he:∀j,j<83->f j=g j):WB W k g:=by
 obtain⟨c,h1,h2,h3⟩:=h;exact⟨c,h1,h2,fun j hj=>by rw[h3 j hj,he j hj]⟩
theorem WB.aP(h:WB W k f)(hs:∀j,j<83->∀s,f j≠ .string s):YO W k:=by
 obtain⟨c,h1,h2,h3⟩:=h;refine⟨c,_,h1,fun j s hj=>?_⟩;have hlt:=(Array.getElem?_eq_some_iff.1 hj).1;rw[h3 j (by omega)]at hj;exact hs j (by omega) s (Option.some.inj hj)
end
def Row{α:Type}[Lay α](W:World)(k:Nat)(v:Value)(xs:List α):Prop:=BQ W v xs/\(xs≠[]->QT v k)
section
variable {α:Type} [Lay α] {W V:World} {k:Nat} {v:Value} {xs:List α}
theorem Row.next(h:Row W k v xs)(hb:B0 W V):Row V k v xs:=⟨h.1.next hb,h.2⟩
theorem Row.touch(h:Row W k v xs)(ht:Touch (· =k) W V):Row V k v xs:=by
 refine⟨?_,h.2⟩;rcases h.1 with h1|⟨b,off,cap,rfl,h1,h2,h3,h0,h4⟩
 .exact .inl h1
 .refine .inr ⟨b,off,cap,rfl,h1,h2,Nat.lt_of_lt_of_le h3 ht.size,h0,fun i v hi=>?_⟩;have hb:b≠k:=h.2 h0 b off _ cap rfl;rw[World.cell?,ht.block b h3 hb];exact h4 i v hi
theorem Row.new(h:BQ W v xs)(hk:W.heap.size<=k):Row W k v xs:=by
 refine⟨h,fun h0 b off n c e=>?_⟩;rcases h with⟨a,cap,_,e0,_⟩|⟨b',off',cap,rfl,_,_,h3,_,_⟩
 .exact absurd e0 h0
 .simp only[Value.slice.injEq,Option.some.injEq,Addr.mk.injEq]at e;omega
theorem Row.own(h:BD W B v xs)(hk:k<B):Row W k v xs:=⟨h.seq,fun _=>UW h hk⟩
theorem Row.slice(h:Row W k v xs):∃a c,v=.slice a xs.length c:=AU h.1
theorem Row.nil(W:World)(k:Nat)(c:Nat)(hc:c<=maxLen)(a:Option Addr):Row W k (.slice a 0 c) ([]:List α):=⟨.inl ⟨a,c,rfl,rfl,hc⟩,fun h=>absurd rfl h⟩
theorem U7(hq:q<Lay.k α)(ht:∀x:α,∃s,(Lay.cs x)[q]?=some (Value.string s))(h:BQ W v xs)(hk:YO W k):Row W k v xs:=by
 refine⟨h,fun h0 b off n c e=>?_⟩;rcases h with⟨a,cap,_,e0,_⟩|⟨b',off',cap,rfl,_,_,h3,_,h4⟩
 .exact absurd e0 h0
 .simp only[Value.slice.injEq,Option.some.injEq,Addr.mk.injEq]at e;rintro rfl;obtain⟨x,r,rfl⟩:=List.exists_cons_of_ne_nil h0;obtain⟨s,hs⟩:=ht x;have:=h4 (0*Lay.k α+q) _ ((AZ (x::r) 0 x rfl q hq).trans hs);rw[e.1.1]at this;exact hk.no this
end
theorem A60{xs:List DF}(h:C9 W v xs)(hk:YO W k):Row W k v xs:=U7 (q:=0) (by decide) (fun x=>⟨_,rfl⟩) (PD.2 h) hk
theorem gJ{xs:List AQ}(h:J8 W v xs)(hk:YO W k):Row W k v xs:=U7 (q:=3) (by decide) (fun x=>⟨_,rfl⟩) (FV.2 h) hk
theorem sV{xs:List Nd}(h:BQ W v xs)(hk:YO W k):Row W k v xs:=U7 (q:=0) (by decide) (fun x=>⟨_,rfl⟩) h hk
theorem RQ{xs:List Wa}(h:BQ W v xs)(hk:YO W k):Row W k v xs:=U7 (q:=2) (by decide) (fun x=>⟨_,rfl⟩) h hk
theorem YD{xs:List En}(h:BQ W v xs)(hk:YO W k):Row W k v xs:=U7 (q:=0) (by decide) (fun x=>⟨_,rfl⟩) h hk
structure SvA(W:World)(k:Nat)(g:Nat->Value)(s:Sv):Prop where
 up:g 0=.bool s.up
 d:Row W k (g 1) s.fs
 id:g 2=I0 s.id
 ep:g 3=I0 s.ep
 l:Row W k (g 4) s.ts
 dn:g 5=I0 s.dn
 z:g 6=I0 s.tr.z
 n:Row W k (g 7) s.tr.ns
 i:Row W k (g 8) s.tr.ss
 w:Row W k (g 9) s.ws
section
variable {W V:World} {k:Nat} {g:Nat->Value} {s:Sv}
theorem SvA.next(h:SvA W k g s)(hb:B0 W V):SvA V k g s:=⟨h.up,h.d.next hb,h.id,h.ep,h.l.next hb,h.dn,h.z,h.n.next hb,h.i.next hb,h.w.next hb⟩
theorem SvA.touch(h:SvA W k g s)(ht:Touch (· =k) W V):SvA V k g s:=⟨h.up,h.d.touch ht,h.id,h.ep,h.l.touch ht,h.dn,h.z,h.n.touch ht,h.i.touch ht,h.w.touch ht⟩
theorem SvA.val(h:SvA W k g s):SvV W (.agg #[g 0,g 1,g 2,g 3,g 4,g 5,g 6,g 7,g 8,g 9]) s:=by
 rw[h.up,h.id,h.ep,h.dn,h.z];exact⟨_,_,_,_,_,rfl,PD.1 h.d.1,FV.1 h.l.1,h.n.1,h.i.1,h.w.1⟩
theorem SvA.moved(h:SvA W k g s)(hq:W.heap.size<=q):SvA W q g s:=⟨h.up,Row.new h.d.1 hq,h.id,h.ep,Row.new h.l.1 hq,h.dn,h.z,Row.new h.n.1 hq,Row.new h.i.1 hq,Row.new h.w.1 hq⟩
theorem SvA.cellP{P:Value->Prop}(hb:∀b,P (.bool b))(hn:∀n,P (I0 n))(hs:∀a n c,P (.slice a n c))(h:SvA W k g s)(j:Nat)(hj:j<10):P (g j):=by
 have r:∀ {α:Type} [Lay α] {v:Value} {xs:List α},Row W k v xs->P v:=fun h=>by obtain⟨a,c,e⟩:=h.slice;rw[e];exact hs _ _ _
 rcases(show j=0\/j=1\/j=2\/j=3\/j=4\/j=5\/j=6\/j=7\/j=8\/j=9 by omega)with rfl|rfl|rfl|rfl|rfl|rfl|rfl|rfl|rfl|rfl
 .rw[h.up];exact hb _
 .exact r h.d
 .rw[h.id];exact hn _
 .rw[h.ep];exact hn _
 .exact r h.l
 .rw[h.dn];exact hn _
 .rw[h.z];exact hn _
 .exact r h.n
 .exact r h.i
 .exact r h.w
theorem SvA.of{vd vl vn vs vw:Value}(hk:YO W k)(hv:SvV W (.agg #[.bool s.up,vd,I0 s.id,I0 s.ep,vl,I0 s.dn,I0 s.tr.z,vn,vs,vw]) s)(hs:s.tr.ss≠[]->QT vs k)
  (h0:g 0=.bool s.up) (h1:g 1=vd) (h2:g 2=I0 s.id) (h3:g 3=I0 s.ep) (h4:g 4=vl) (h5:g 5=I0 s.dn) (h6:g 6=I0 s.tr.z) (h7:g 7=vn) (h8:g 8=vs) (h9:g 9=vw):SvA W k g s:=by
 obtain⟨vd',vl',vn',vs',vw',e,r1,r2,r3,r4,r5⟩:=hv;simp only[Value.agg.injEq,Array.mk.injEq,List.cons.injEq,true_and,and_true]at e;obtain⟨rfl,rfl,rfl,rfl,rfl⟩:=e;exact⟨h0,by rw[h1];exact A60 r1 hk,h2,h3,by rw[h4];exact gJ r2 hk,h5,h6,by rw[h7];exact sV r3 hk,by rw[h8];exact⟨r4,hs⟩,by rw[h9];exact RQ r5 hk⟩
end
structure ClA(W:World)(k:Nat)(g:Nat->Value)(c:Cl):Prop where
 s:g 0=I0 c.s
 z:g 1=I0 c.z
 e:Row W k (g 2) c.es
structure WdR(W:World)(k:Nat)(f:Nat->Value)(p:Pw):Prop where
 n:f 0=I0 p.n
 s:∀i,i<3->SvA W k (fun q=>f (1+10*i+q)) (svP i (p.s i))
 r:∀i,i<3->f (31+i)=I0 (p.r i)
 c:∀i,i<16->ClA W k (fun q=>f (34+3*i+q)) (p.c i)
 d:Row W k (f 82) p.D
 h:∀i,i<3->(svP i (p.s i)).tr.ss≠[]->∀b,b<=p.h->QT (f (1+10*i+8)) b
 hk:p.h<=k
def WX(W:World)(k:Nat)(p:Pw):Prop:=∃f,WB W k f/\WdR W k f p
section
variable {W V:World} {k:Nat} {f:Nat->Value} {p:Pw}
theorem WdR.next(h:WdR W k f p)(hb:B0 W V):WdR V k f p:=
 ⟨h.n,fun i hi=>(h.s i hi).next hb,h.r,fun i hi=>⟨(h.c i hi).s,(h.c i hi).z,(h.c i hi).e.next hb⟩,h.d.next hb,h.h,h.hk⟩
theorem WdR.touch(h:WdR W k f p)(ht:Touch (· =k) W V):WdR V k f p:=
 ⟨h.n,fun i hi=>(h.s i hi).touch ht,h.r,fun i hi=>⟨(h.c i hi).s,(h.c i hi).z,(h.c i hi).e.touch ht⟩,h.d.touch ht,h.h,h.hk⟩
theorem WdR.moved(h:WdR W k f p)(hq:W.heap.size<=q)(hk:p.h<=q):WdR W q f p:=
 ⟨h.n,fun i hi=>(h.s i hi).moved hq,h.r,fun i hi=>⟨(h.c i hi).s,(h.c i hi).z,Row.new (h.c i hi).e.1 hq⟩,Row.new h.d.1 hq,h.h,hk⟩
theorem WX.next(h:WX W k p)(hb:B0 W V):WX V k p:=by
 obtain⟨f,h1,h2⟩:=h;exact⟨f,h1.next hb,h2.next hb⟩
theorem WX.lt(h:WX W k p):k<W.heap.size:=by
 obtain⟨f,h1,_⟩:=h;exact h1.lt
theorem WdR.cellP{P:Value->Prop}(hb:∀b,P (.bool b))(hn:∀n,P (I0 n))(hs:∀a n c,P (.slice a n c))(h:WdR W k f p)(j:Nat)(hj:j<83):P (f j):=by
 by_cases h0:j=0
 .subst h0;rw[h.n];exact hn _
 .by_cases h1:j<31
  .have:=(h.s ((j-1)/10) (by omega)).cellP hb hn hs ((j-1)%10) (by omega);simp only[show 1+10*((j-1)/10)+(j-1)%10=j by omega]at this;exact this
  .by_cases h2:j<34
   .have:=h.r (j-31) (by omega);rw[show 31+(j-31)=j by omega]at this;rw[this];exact hn _
   .by_cases h3:j<82
    .have hc:=h.c ((j-34)/3) (by omega);have e0:34+3*((j-34)/3)+(j-34)%3=j:=by omega
     rcases(show (j-34)%3=0\/(j-34)%3=1\/(j-34)%3=2 by omega)with e|e|e
     .have:=hc.s;simp only[<-e,e0]at this;rw[this];exact hn _
     .have:=hc.z;simp only[<-e,e0]at this;rw[this];exact hn _
     .obtain⟨a,c,e'⟩:=hc.e.slice;simp only[<-e,e0]at e';rw[e'];exact hs _ _ _
    .obtain rfl:j=82:=by omega
     obtain⟨a,c,e'⟩:=h.d.slice;rw[e'];exact hs _ _ _
theorem WdR.text(h:WdR W k f p)(j:Nat)(hj:j<83)(t:ByteArray):f j≠ .string t:=h.cellP (P:=(· ≠ .string t)) (fun _ e=>by cases e) (fun _ e=>by cases e) (fun _ _ _ e=>by cases e) j hj
theorem WdR.aP(h:WdR W k f p)(hb:WB W k f):YO W k:=hb.aP h.text
end
def C78(x0 x1 x2 x3 x4 x5 x6 x7 x8 x9:Value):Nat->Value
 |0=>x0|1=>x1|2=>x2|3=>x3|4=>x4|5=>x5|6=>x6|7=>x7|8=>x8|_=>x9
def AZ3(x0 x1 x2:Value):Nat->Value
 |0=>x0|1=>x1|_=>x2
def B69(f:Nat->Value)(o n:Nat)(g:Nat->Value):Nat->Value:=fun j=>if o<=j/\j<o+n then g (j-o)else f j
theorem JQ{f g:Nat->Value}{n:Nat}(h:q<n):B69 f o n g (o+q)=g q:=by
 rw[B69,if_pos ⟨by omega,by omega⟩]
 congr 1
 omega
theorem EI{f g:Nat->Value}{n:Nat}(h:j<o\/o+n<=j):B69 f o n g j=f j:=by rw[B69,if_neg (by omega)]
def uZ(W:World)(k o:Nat)(x0 x1 x2 x3 x4 x5 x6 x7 x8 x9:Value):World:=
 (((((((((W.setCell ⟨k,o,none⟩ x0).setCell ⟨k,o+1,none⟩ x1).setCell ⟨k,o+2,none⟩ x2).setCell ⟨k,o+3,none⟩ x3).setCell ⟨k,o+4,none⟩ x4).setCell ⟨k,o+5,none⟩ x5).setCell ⟨k,o+6,none⟩ x6).setCell ⟨k,o+7,none⟩ x7).setCell ⟨k,o+8,none⟩ x8).setCell ⟨k,o+9,none⟩ x9
def nK(W:World)(k o:Nat)(x0 x1 x2:Value):World:=((W.setCell ⟨k,o,none⟩ x0).setCell ⟨k,o+1,none⟩ x1).setCell ⟨k,o+2,none⟩ x2
section
variable {W:World} {k:Nat} {f:Nat->Value} {p:Pw}
theorem ER(W:World)(k j:Nat)(v:Value):Touch (· =k) W (W.setCell ⟨k,j,none⟩ v):=Touch.set (F:=(· =k)) (a:=⟨k,j,none⟩) rfl v
theorem U8(W:World)(k o:Nat)(x0 x1 x2 x3 x4 x5 x6 x7 x8 x9:Value):Touch (· =k) W (uZ W k o x0 x1 x2 x3 x4 x5 x6 x7 x8 x9):=
 (((((((((ER _ _ _ _).trans (ER _ _ _ _)).trans (ER _ _ _ _)).trans (ER _ _ _ _)).trans (ER _ _ _ _)).trans (ER _ _ _ _)).trans (ER _ _ _ _)).trans (ER _ _ _ _)).trans (ER _ _ _ _)).trans (ER _ _ _ _)
theorem OV(W:World)(k o:Nat)(x0 x1 x2:Value):Touch (· =k) W (nK W k o x0 x1 x2):=((ER _ _ _ _).trans (ER _ _ _ _)).trans (ER _ _ _ _)
theorem WB.nK(h:WB W k f)(ho:o+3<=83)(x0 x1 x2:Value):WB (nK W k o x0 x1 x2) k (B69 f o 3 (AZ3 x0 x1 x2)):=by
 refine(((h.set (j:=o) (by omega) x0).set (j:=o+1) (by omega) x1).set (j:=o+2) (by omega) x2).of_eq fun j hj=>?_;by_cases h2:j=o+2
 .subst h2;rw[BP,JQ (by omega)];rfl
 .by_cases h1:j=o+1
  .subst h1;rw[AP _ _ (by omega),BP,JQ (by omega)];rfl
  .by_cases h0:j=o
   .subst h0;rw[AP _ _ (by omega),AP _ _ (by omega),BP,show B69 f j 3 (AZ3 x0 x1 x2) j=B69 f j 3 (AZ3 x0 x1 x2) (j+0)from rfl,JQ (by omega)];rfl
   .rw[AP _ _ h2,AP _ _ h1,AP _ _ h0,EI (by omega)]
theorem WB.uZ(h:WB W k f)(ho:o+10<=83)(x0 x1 x2 x3 x4 x5 x6 x7 x8 x9:Value):WB (uZ W k o x0 x1 x2 x3 x4 x5 x6 x7 x8 x9) k (B69 f o 10 (C78 x0 x1 x2 x3 x4 x5 x6 x7 x8 x9)):=by
 refine((((((((((h.set (j:=o) (by omega) x0).set (j:=o+1) (by omega) x1).set (j:=o+2) (by omega) x2).set (j:=o+3) (by omega) x3).set (j:=o+4) (by omega) x4).set (j:=o+5) (by omega) x5).set (j:=o+6) (by omega) x6).set (j:=o+7) (by omega) x7).set (j:=o+8) (by omega) x8).set (j:=o+9) (by omega) x9).of_eq fun j hj=>?_;by_cases hr:o<=j/\j<o+10
 .obtain⟨q,rfl⟩:∃q,j=o+q:=⟨j-o,by omega⟩;rw[JQ (by omega)];have hq:q<10:=by omega
  rcases(show q=0\/q=1\/q=2\/q=3\/q=4\/q=5\/q=6\/q=7\/q=8\/q=9 by omega)with rfl|rfl|rfl|rfl|rfl|rfl|rfl|rfl|rfl|rfl<;>simp[GX,C78]
 .rw[EI (by omega),AP _ _ (by omega),AP _ _ (by omega),AP _ _ (by omega),AP _ _ (by omega),AP _ _ (by omega),AP _ _ (by omega),AP _ _ (by omega),AP _ _ (by omega),AP _ _ (by omega),AP _ _ (by omega)]
theorem SvA.congr{g g':Nat->Value}(h:SvA W k g s)(he:∀q,q<10->g' q=g q):SvA W k g' s:=by
 refine⟨?_,?_,?_,?_,?_,?_,?_,?_,?_,?_⟩<;>rw[he _ (by omega)]
 .exact h.up
 .exact h.d
 .exact h.id
 .exact h.ep
 .exact h.l
 .exact h.dn
 .exact h.z
 .exact h.n
 .exact h.i
 .exact h.w
theorem ClA.congr{g g':Nat->Value}{c:Cl}(h:ClA W k g c)(he:∀q,q<3->g' q=g q):ClA W k g' c:=by
 refine⟨?_,?_,?_⟩<;>rw[he _ (by omega)]
 .exact h.s
 .exact h.z
 .exact h.e
theorem WX.kM(h:WX W k p)(hi:i<3){q:Ps}{vd vl vn vs vw:Value}(hq:svP i q=s)(hv:SvV W (.agg #[.bool s.up,vd,I0 s.id,I0 s.ep,vl,I0 s.dn,I0 s.tr.z,vn,vs,vw]) s)(hs:s.tr.ss≠[]->∀b,b<=k->QT vs b):
  WX (uZ W k (1+10*i) (.bool s.up) vd (I0 s.id) (I0 s.ep) vl (I0 s.dn) (I0 s.tr.z) vn vs vw) k ⟨p.n,GX p.s i q,p.r,p.c,p.D,p.H,p.h⟩:=by
 obtain⟨f,hb,hr⟩:=h;refine⟨_,hb.uZ (o:=1+10*i) (by omega) _ _ _ _ _ _ _ _ _ _,WdR.touch (W:=W) ?_ (U8 _ _ _ _ _ _ _ _ _ _ _ _ _)⟩;have hA:SvA W k (C78 (.bool s.up) vd (I0 s.id) (I0 s.ep) vl (I0 s.dn) (I0 s.tr.z) vn vs vw) s:=SvA.of (hr.aP hb) hv (fun h=>hs h k (Nat.le_refl k)) rfl rfl rfl rfl rfl rfl rfl rfl rfl rfl;refine⟨by rw[EI (by omega)];exact hr.n,fun j hj=>?_,fun j hj=>by rw[EI (by omega)];exact hr.r j hj,fun j hj=>(hr.c j hj).congr fun q hq=>by rw[EI (by omega)],by rw[EI (by omega)];exact hr.d,fun j hj h0=>?_,hr.hk⟩
 .by_cases e:j=i
  .subst e;simp only[BP,hq];exact hA.congr fun q hq=>by rw[JQ hq]
  .simp only[AP _ _ e];exact(hr.s j hj).congr fun q hq=>by rw[EI (by omega)]
 .by_cases e:j=i
  .subst e;simp only[BP,hq]at h0;rw[JQ (by omega)];exact fun b hb=>hs h0 b (Nat.le_trans hb hr.hk)
  .simp only[AP _ _ e]at h0;rw[EI (by omega)];exact hr.h j hj h0
theorem WX.RS(h:WX W k p)(hi:i<3)(v:Int):WX (W.setCell ⟨k,31+i,none⟩ (I0 v)) k ⟨p.n,p.s,GX p.r i v,p.c,p.D,p.H,p.h⟩:=by
 obtain⟨f,hb,hr⟩:=h;refine⟨_,hb.set (j:=31+i) (by omega) _,WdR.touch (W:=W) ?_ (ER _ _ _ _)⟩;refine⟨by rw[AP _ _ (by omega)];exact hr.n,fun j hj=>(hr.s j hj).congr fun q hq=>by rw[AP _ _ (by omega)],fun j hj=>?_,fun j hj=>(hr.c j hj).congr fun q hq=>by rw[AP _ _ (by omega)],by rw[AP _ _ (by omega)];exact hr.d,fun j hj h0=>by rw[AP _ _ (by omega)];exact hr.h j hj h0,hr.hk⟩;by_cases e:j=i
 .subst e;rw[BP];simp only[BP]
 .rw[AP _ _ (by omega)];simp only[AP _ _ e];exact hr.r j hj
theorem WX.A61(h:WX W k p)(he:∀i,i<3->p.r i=r i):WX W k ⟨p.n,p.s,r,p.c,p.D,p.H,p.h⟩:=by
 obtain⟨f,hb,hr⟩:=h;exact⟨f,hb,hr.n,hr.s,fun i hi=>by rw[hr.r i hi,he i hi],hr.c,hr.d,hr.h,hr.hk⟩
theorem WX.clear(h:WX W k p):WX (nK W k 31 (I0 0) (I0 0) (I0 0)) k ⟨p.n,p.s,fun _=>0,p.c,p.D,p.H,p.h⟩:=by
 have h1:=((h.RS (i:=0) (by omega) 0).RS (i:=1) (by omega) 0).RS (i:=2) (by omega) 0;have h2:WX (nK W k 31 (I0 0) (I0 0) (I0 0)) k ⟨p.n,p.s,GX (GX (GX p.r 0 0) 1 0) 2 0,p.c,p.D,p.H,p.h⟩:=h1;refine h2.A61 fun i hi=>?_;rcases(show i=0\/i=1\/i=2 by omega)with rfl|rfl|rfl<;>simp[GX]
theorem WX.A62(h:WX W k p)(n:Int):WX (W.setCell ⟨k,0,none⟩ (I0 n)) k ⟨n,p.s,p.r,p.c,p.D,p.H,p.h⟩:=by
 obtain⟨f,hb,hr⟩:=h;refine⟨_,hb.set (j:=0) (by omega) _,WdR.touch (W:=W) ?_ (ER _ _ _ _)⟩;exact⟨by rw[BP],fun j hj=>(hr.s j hj).congr fun q hq=>by rw[AP _ _ (by omega)],fun j hj=>by rw[AP _ _ (by omega)];exact hr.r j hj,fun j hj=>(hr.c j hj).congr fun q hq=>by rw[AP _ _ (by omega)],by rw[AP _ _ (by omega)];exact hr.d,fun j hj h0=>by rw[AP _ _ (by omega)];exact hr.h j hj h0,hr.hk⟩
theorem WX.BI6(h:WX W k p)(hi:i<16){c:Cl}(hv:BQ W v c.es):WX (nK W k (34+3*i) (I0 c.s) (I0 c.z) v) k ⟨p.n,p.s,p.r,GX p.c i c,p.D,p.H,p.h⟩:=by
 obtain⟨f,hb,hr⟩:=h;refine⟨_,hb.nK (o:=34+3*i) (by omega) _ _ _,WdR.touch (W:=W) ?_ (OV _ _ _ _ _ _)⟩;refine⟨by rw[EI (by omega)];exact hr.n,fun j hj=>(hr.s j hj).congr fun q hq=>by rw[EI (by omega)],fun j hj=>by rw[EI (by omega)];exact hr.r j hj,fun j hj=>?_,by rw[EI (by omega)];exact hr.d,fun j hj h0=>by rw[EI (by omega)];exact hr.h j hj h0,hr.hk⟩;by_cases e:j=i
 .subst e;simp only[BP];exact ClA.congr (g:=AZ3 (I0 c.s) (I0 c.z) v) ⟨rfl,rfl,YD hv (hr.aP hb)⟩ fun q hq=>by rw[JQ hq]
 .simp only[AP _ _ e];exact(hr.c j hj).congr fun q hq=>by rw[EI (by omega)]
theorem WX.CE7(h:WX W k p){D:List AQ}(hv:BQ W v D)(H:List AQ):WX (W.setCell ⟨k,82,none⟩ v) k ⟨p.n,p.s,p.r,p.c,D,H,p.h⟩:=by
 obtain⟨f,hb,hr⟩:=h;refine⟨_,hb.set (j:=82) (by omega) _,WdR.touch (W:=W) ?_ (ER _ _ _ _)⟩;exact⟨by rw[AP _ _ (by omega)];exact hr.n,fun j hj=>(hr.s j hj).congr fun q hq=>by rw[AP _ _ (by omega)],fun j hj=>by rw[AP _ _ (by omega)];exact hr.r j hj,fun j hj=>(hr.c j hj).congr fun q hq=>by rw[AP _ _ (by omega)],by rw[BP];exact gJ (FV.1 hv) (hr.aP hb),fun j hj h0=>by rw[AP _ _ (by omega)];exact hr.h j hj h0,hr.hk⟩
theorem WX.BR2(h:WX W k p)(hi:i<3)(hu:(p.s i).up=true){x:Ps}(hx:x=⟨(p.s i).up,(p.s i).e,(p.s i).m,(p.s i).a,(p.s i).q,(p.s i).dn,x.ws⟩)(hv:BQ W v x.ws):WX (W.setCell ⟨k,1+10*i+9,none⟩ v) k ⟨p.n,GX p.s i x,p.r,p.c,p.D,p.H,p.h⟩:=by
 obtain⟨f,hb,hr⟩:=h;refine⟨_,hb.set (j:=1+10*i+9) (by omega) _,WdR.touch (W:=W) ?_ (ER _ _ _ _)⟩;refine⟨by rw[AP _ _ (by omega)];exact hr.n,fun j hj=>?_,fun j hj=>by rw[AP _ _ (by omega)];exact hr.r j hj,fun j hj=>(hr.c j hj).congr fun q hq=>by rw[AP _ _ (by omega)],by rw[AP _ _ (by omega)];exact hr.d,fun j hj h0=>by
  rw[AP _ _ (by omega)];refine hr.h j hj ?_;by_cases e:j=i
  .subst e;simp only[BP]at h0;rw[D8 (by rw[hx];exact hu)]at h0;rw[D8 hu];rw[hx]at h0;exact h0
  .simp only[AP _ _ e]at h0;exact h0,hr.hk⟩
 by_cases e:j=i
 .subst e;simp only[BP];have hs:=hr.s j hj;have e1:svP j x=⟨(svP j (p.s j)).up,(svP j (p.s j)).fs,(svP j (p.s j)).id,(svP j (p.s j)).ep,(svP j (p.s j)).ts,(svP j (p.s j)).dn,(svP j (p.s j)).tr,x.ws⟩:=by
   rw[D8 hu,D8 (by rw[hx];exact hu),hx]
  rw[e1];have g:∀q,q<9->GX f (1+10*j+9) v (1+10*j+q)=f (1+10*j+q):=fun q hq=>AP _ _ (by omega);exact⟨by rw[g 0 (by omega)];exact hs.up,by rw[g 1 (by omega)];exact hs.d,by rw[g 2 (by omega)];exact hs.id,by rw[g 3 (by omega)];exact hs.ep,by rw[g 4 (by omega)];exact hs.l,by rw[g 5 (by omega)];exact hs.dn,by rw[g 6 (by omega)];exact hs.z,by rw[g 7 (by omega)];exact hs.n,by rw[g 8 (by omega)];exact hs.i,by rw[BP];exact RQ hv (hr.aP hb)⟩
 .simp only[AP _ _ e];exact(hr.s j hj).congr fun q hq=>by rw[AP _ _ (by omega)]
end
structure Srv(W:World)(k o:Nat)(up:Bool)(id ep dn z:Int)(vd vl vn vs vw:Value):Prop where
 c0:W.cell? ⟨k,o,none⟩=some (.bool up)
 c1:W.cell? ⟨k,o+1,none⟩=some vd
 c2:W.cell? ⟨k,o+2,none⟩=some (I0 id)
 c3:W.cell? ⟨k,o+3,none⟩=some (I0 ep)
 c4:W.cell? ⟨k,o+4,none⟩=some vl
 c5:W.cell? ⟨k,o+5,none⟩=some (I0 dn)
 c6:W.cell? ⟨k,o+6,none⟩=some (I0 z)
 c7:W.cell? ⟨k,o+7,none⟩=some vn
 c8:W.cell? ⟨k,o+8,none⟩=some vs
 c9:W.cell? ⟨k,o+9,none⟩=some vw
theorem Srv.next{up:Bool}{id ep dn z:Int}{vd vl vn vs vw:Value}(h:Srv W k o up id ep dn z vd vl vn vs vw)(hk:k<W.heap.size)(hV:B0 W V):Srv V k o up id ep dn z vd vl vn vs vw:=by
 have e:∀j,V.cell? ⟨k,j,none⟩=W.cell? ⟨k,j,none⟩:=fun j=>by rw[World.cell?,World.cell?,hV.block k hk]
 exact⟨(e _).trans h.c0,(e _).trans h.c1,(e _).trans h.c2,(e _).trans h.c3,(e _).trans h.c4,(e _).trans h.c5,(e _).trans h.c6,(e _).trans h.c7,(e _).trans h.c8,(e _).trans h.c9⟩
theorem WX.srv(h:WX W k p)(hi:i<3)(hs:svP i (p.s i)=s):∃ad nd cd al cl an cn ai ci aw cw,
  Srv W k (1+10*i) s.up s.id s.ep s.dn s.tr.z (.slice ad nd cd) (.slice al s.ts.length cl) (.slice an s.tr.ns.length cn) (.slice ai s.tr.ss.length ci) (.slice aw s.ws.length cw)/\
  SvV W (.agg #[.bool s.up,.slice ad nd cd,I0 s.id,I0 s.ep,.slice al s.ts.length cl,I0 s.dn,I0 s.tr.z,.slice an s.tr.ns.length cn,.slice ai s.tr.ss.length ci,.slice aw s.ws.length cw]) s/\(s.tr.ss≠[]->QT (.slice ai s.tr.ss.length ci) k):=by
 obtain⟨f,hb,hr⟩:=h;have h:=hr.s i hi;rw[hs]at h;obtain⟨ad,cd,e1⟩:=h.d.slice;obtain⟨al,cl,e4⟩:=h.l.slice;obtain⟨an,cn,e7⟩:=h.n.slice;obtain⟨ai,ci,e8⟩:=h.i.slice;obtain⟨aw,cw,e9⟩:=h.w.slice;have hv:=h.val;have hw:=h.i.2;rw[e8]at hw;rw[h.up,e1,h.id,h.ep,e4,h.dn,h.z,e7,e8,e9]at hv;refine⟨ad,_,cd,al,cl,an,cn,ai,ci,aw,cw,⟨?_,?_,?_,?_,?_,?_,?_,?_,?_,?_⟩,hv,hw⟩
 .rw[hb.cell (j:=1+10*i) (by omega)];exact congrArg some h.up
 .rw[hb.cell (by omega)];exact congrArg some e1
 .rw[hb.cell (by omega)];exact congrArg some h.id
 .rw[hb.cell (by omega)];exact congrArg some h.ep
 .rw[hb.cell (by omega)];exact congrArg some e4
 .rw[hb.cell (by omega)];exact congrArg some h.dn
 .rw[hb.cell (by omega)];exact congrArg some h.z
 .rw[hb.cell (by omega)];exact congrArg some e7
 .rw[hb.cell (by omega)];exact congrArg some e8
 .rw[hb.cell (by omega)];exact congrArg some e9
theorem WX.role(h:WX W k p)(hi:i<3):W.cell? ⟨k,31+i,none⟩=some (I0 (p.r i)):=by
 obtain⟨f,hb,hr⟩:=h;rw[hb.cell (by omega),hr.r i hi]
theorem WX.count(h:WX W k p):W.cell? ⟨k,0,none⟩=some (I0 p.n):=by
 obtain⟨f,hb,hr⟩:=h;rw[hb.cell (by omega),hr.n]
theorem WX.AX(h:WX W k p)(j:Nat):W.frozen? ⟨k,j,none⟩=false:=by
 obtain⟨f,hb,hr⟩:=h;exact hb.AX j
theorem WX.cl(h:WX W k p)(hi:i<16):∃a c,W.cell? ⟨k,34+3*i,none⟩=some (I0 (p.c i).s)/\W.cell? ⟨k,34+3*i+1,none⟩=some (I0 (p.c i).z)/\W.cell? ⟨k,34+3*i+2,none⟩=some (.slice a (p.c i).es.length c)/\BQ W (.slice a (p.c i).es.length c) (p.c i).es:=by
 obtain⟨f,hb,hr⟩:=h;have h:=hr.c i hi;obtain⟨a,c,e⟩:=h.e.slice;have hv:=h.e.1;rw[e]at hv;refine⟨a,c,?_,?_,?_,hv⟩
 .rw[hb.cell (j:=34+3*i) (by omega)];exact congrArg some h.s
 .rw[hb.cell (by omega)];exact congrArg some h.z
 .rw[hb.cell (by omega)];exact congrArg some e
theorem WX.ack(h:WX W k p):∃a c,W.cell? ⟨k,82,none⟩=some (.slice a p.D.length c)/\BQ W (.slice a p.D.length c) p.D:=by
 obtain⟨f,hb,hr⟩:=h;obtain⟨a,c,e⟩:=hr.d.slice;have hv:=hr.d.1;rw[e]at hv;exact⟨a,c,by rw[hb.cell (by omega),e],hv⟩
def RpB(W:World)(g:Nat):Prop:=W.heap[g]?=some (.cells #[I0 0,I0 0,.string ⟨#[]⟩,.string ⟨#[]⟩,I0 0,I0 0,I0 0,I0 0,I0 0,I0 0,I0 0,N0] 65 (0,0))
theorem RpB.new(w:World):RpB (w.alloc (.cells #[I0 0,I0 0,.string ⟨#[]⟩,.string ⟨#[]⟩,I0 0,I0 0,I0 0,I0 0,I0 0,I0 0,I0 0,N0] 65)) w.heap.size:=heap_alloc_new w _
theorem RpB.lt(h:RpB W g):g<W.heap.size:=(Array.getElem?_eq_some_iff.1 h).1
theorem RpB.touch(h:RpB W g)(ht:Touch F W V)(hg:¬F g):RpB V g:=(ht.block g h.lt hg).trans h
theorem RpB.next(h:RpB W g)(hb:B0 W V):RpB V g:=(hb.block g h.lt).trans h
theorem RpB.cells(h:RpB W g):(W.cell? ⟨g,0,none⟩=some (I0 0)/\W.cell? ⟨g,1,none⟩=some (I0 0)/\W.cell? ⟨g,2,none⟩=some (.string ⟨#[]⟩)/\W.cell? ⟨g,3,none⟩=some (.string ⟨#[]⟩)/\W.cell? ⟨g,4,none⟩=some (I0 0)/\W.cell? ⟨g,5,none⟩=some (I0 0))/\(W.cell? ⟨g,6,none⟩=some (I0 0)/\W.cell? ⟨g,7,none⟩=some (I0 0)/\W.cell? ⟨g,8,none⟩=some (I0 0)/\W.cell? ⟨g,9,none⟩=some (I0 0)/\W.cell? ⟨g,10,none⟩=some (I0 0)/\W.cell? ⟨g,11,none⟩=some (N0)):=by
 unfold RpB at h;refine⟨⟨?_,?_,?_,?_,?_,?_⟩,?_,?_,?_,?_,?_,?_⟩<;>simp[World.cell?,h]
theorem RpB.AX(h:RpB W g)(j:Nat):W.frozen? ⟨g,j,none⟩=false:=by
 unfold RpB at h;simp[World.frozen?,h]
def aS(W:World)(g:Nat)(x0 x1 x2 x3 x4 x5 x6 x7 x8 x9 x10 x11:Value):World:=
 (((((((((((W.setCell ⟨g,0,none⟩ x0).setCell ⟨g,1,none⟩ x1).setCell ⟨g,2,none⟩ x2).setCell ⟨g,3,none⟩ x3).setCell ⟨g,4,none⟩ x4).setCell ⟨g,5,none⟩ x5).setCell ⟨g,6,none⟩ x6).setCell ⟨g,7,none⟩ x7).setCell ⟨g,8,none⟩ x8).setCell ⟨g,9,none⟩ x9).setCell ⟨g,10,none⟩ x10).setCell ⟨g,11,none⟩ x11
theorem Touch.new(h:Touch F w W)(hg:w.heap.size<=g)(v:Value):Touch F w (W.setCell ⟨g,j,none⟩ v):=
 ⟨h.os,h.tape,h.output,by simpa [World.setCell]using h.size,fun k hk hf=>(Below.heap_setCell W ⟨g,j,none⟩ v k (by show k≠g;omega)).trans (h.block k hk hf)⟩
theorem FM(h:Touch F w W)(hg:w.heap.size<=g)(x0 x1 x2 x3 x4 x5 x6 x7 x8 x9 x10 x11:Value):Touch F w (aS W g x0 x1 x2 x3 x4 x5 x6 x7 x8 x9 x10 x11):=
 (((((((((((h.new hg x0).new hg x1).new hg x2).new hg x3).new hg x4).new hg x5).new hg x6).new hg x7).new hg x8).new hg x9).new hg x10).new hg x11
theorem YE(w:World)(o p:Obj):((w.alloc o).alloc p).heap[w.heap.size+1]?=some p:=by
 have h:=heap_alloc_new (w.alloc o) p;simpa using h
def QL(E:Int):Value:=.agg #[I0 E,I0 0,.string ⟨#[]⟩,.string ⟨#[]⟩,I0 0,I0 0,I0 0,I0 0,I0 0,I0 0,I0 0,N0]
theorem FW(E:Int)(w:World):Calls prog 50 #[I0 E] w (R0 w (QL E)):=by
 unfold QL;go_enter func50,ntmps50;go_wp2_with fail;refine bodyPost_ret (v:=.agg #[I0 E,I0 0,.string ⟨#[]⟩,.string ⟨#[]⟩,I0 0,I0 0,I0 0,I0 0,I0 0,I0 0,I0 0,N0]) (by simp[results,results50,go_sem]) rfl ⟨rfl,?_⟩
 first|exact Below.refl _ _|exact AB _ _|exact AL (AB _ _) (by assumption)|exact(by assumption)
def wP(k:Nat):Value:=P0 k
theorem U9(i m:Int)(w:World):Calls prog 27 #[I0 i,I0 m] w fun e w'=>e=.returned (.bool (ZI i m))/\w'=w:=by
 by_cases h:0<=i
 .by_cases h2:i<m
  .rw[show ZI i m=true by simp[ZI];omega];go_enter func27,ntmps27;go_wp2_with fail;go_ret;exact⟨rfl,rfl⟩
  .rw[show ZI i m=false by simp[ZI];omega];go_enter func27,ntmps27;go_wp2_with fail;go_ret;exact⟨rfl,rfl⟩
 .rw[show ZI i m=false by simp[ZI];omega];go_enter func27,ntmps27;go_wp2_with fail;go_ret;exact⟨rfl,rfl⟩
def PV(k E:Int):Bool:=decide (E=0)||decide (E=16)||(decide (E=7)&&decide (k=2))
theorem yT(k E:Int)(w:World):Calls prog 53 #[I0 k,I0 E] w fun e w'=>e=.returned (.bool (PV k E))/\w'=w:=by
 unfold PV;by_cases h0:E=0
 .subst h0;go_enter func53,ntmps53;go_wp2_with fail;go_ret;exact⟨by simp,rfl⟩
 .by_cases h1:E=16
  .subst h1;go_enter func53,ntmps53;go_wp2_with fail;go_ret;exact⟨by simp,rfl⟩
  .by_cases h2:E=7
   .subst h2;by_cases h3:k=2
    .subst h3;go_enter func53,ntmps53;go_wp2_with fail;go_ret;exact⟨by simp,rfl⟩
    .go_enter func53,ntmps53;go_wp2_with fail;go_ret;exact⟨by simp[h3],rfl⟩
   .go_enter func53,ntmps53;go_wp2_with fail;go_ret;exact⟨by simp[h0,h1,h2],rfl⟩
theorem nS(e:Int):(VD e).s.length+(VD e).t.length<=1048576:=by
 have:=XO (G6 e 0);simp only[VD,List.length_nil];omega
theorem WM{e:Int}{s t:List UInt8}(h:s.length+t.length<=1048576):H6 (epD e++[⟨JI,s,t⟩]):=by
 unfold epD
 split
 .exact Y7 h
 .exact PI (nS e) h
theorem bK(e:Int)(s t:List UInt8):There (epD e++[⟨JI,s,t⟩]) (epD e) ⟨JI,s,t⟩ [] JI:=by
 unfold epD
 split
 .exact⟨rfl,rfl,by simp,by simp⟩
 .exact gB _ _ _ _
theorem BI9(e:Int)(s t:List UInt8)(k:Nat):(epD e++[(⟨JI,s,t⟩:DF)]).map (TL k)=epD e++[⟨JI,s++t.take k,[]⟩]:=by
 unfold epD
 split
 .simp[TL]
 .simp[TL,VD]
theorem BJ0{e:Int}{s t:List UInt8}(he:zIn e=true)(h:s.length+t.length<=1048576):VN (epD e++[⟨JI,s,t⟩])=e:=by
 by_cases h0:e=0
 .subst h0;rw[A58,List.nil_append];unfold VN;rw[eG (Y7 h) (ZG s t)];show DL (aO [])=0;rw[qL,RG]
 .rw[yR h0];have h1:=LQ.1 he;have hm:G6 e 0=e*2147483648:=by rw[(PW he (by decide)).1];omega
  have hz:FU (G6 e 0)=true:=by rw[hm];exact I8.2 ⟨by omega,by omega⟩
  unfold VN;show DL (aO (SB [⟨EM,MV (G6 e 0),[]⟩,⟨JI,s,t⟩] EM).1)=e;rw[RI (PI (by have:=XO (G6 e 0);simp;omega) h) (Y9 _ _ _ _)];simp only[List.append_nil];rw[(AQ3 hz).1,I9 hz,hm];omega
section
variable {i:Nat} {q:Ps}
theorem IK.small(ok:IK 300 q):(BM q.m).length<=146100/\q.m.length<=300:=by
 have:=ok.len;exact⟨nP ok.log (by omega),by omega⟩
theorem QM(m:List AQ)(a:Nat):(BM (m.take a)).length+(BM (m.drop a)).length=(BM m).length:=by
 conv=>rhs;rw[<-List.take_append_drop a m,GL,List.length_append]
theorem QN{x:AQ}(h:gdE x=0):x.p.length<=200/\x.d.length<=256:=⟨BO8 (aU h).2.2.2,(aU h).2.2.1⟩
theorem IK.zin(ok:IK 300 q):zIn q.e=true:=LQ.2 ⟨ok.e0,by have:=ok.e1;omega⟩
theorem IK.fits(ok:IK 300 q)(hu:q.up=true):BQ0 (svP i q):=by
 obtain⟨h1,h2⟩:=ok.small;have h3:=QM q.m q.a;have g:=ok.play.good ok.dn;have gd:H6 (epD q.e++[⟨JI,BM (q.m.take q.a),BM (q.m.drop q.a)⟩]):=WM (by omega);have hw:=ok.wl;rw[D8 hu];refine⟨?_,F8 gd,by show q.m.length*72<=_;omega,fun x hx=>?_,by show (JX q.m q.dn).ns.length*88<=_;have:=g.nod.few;omega,g.wf.CC4,NZ g.ses,by show q.ws.length*32<=_;omega,fun x hx=>?_⟩
 .simp only[epD]
  split<;>simp
 .have:=QN (ok.log.good x hx);omega
 .have:=IU (ok.wk x hx).2.2.2;omega
theorem sZ(hu:q.up=true)(k:Nat):svP i (JJ q k)=⟨false,((svP i q).fs).map (TL k),(svP i q).id,0,[],0,JK,[]⟩:=by
 rw[D8 hu,MO (p:=JJ q k) rfl];simp only[BI9];rw[sU,<-List.append_assoc,<-GL];have e:q.m.take (q.a+whole (q.m.drop q.a) k)=q.m.take q.a++(q.m.drop q.a).take (whole (q.m.drop q.a) k):=by rw[List.take_add]
 simp only[JJ,e]
theorem BJ1(ok:IK 300 q)(hu:q.up=true){ke:Int}(hk:0<=ke)(v:Value)(w:World)(hv:SvV w v (svP i q)):Calls prog 114 #[v,I0 ke] w (XW w (svP i (JJ q ke.toNat)) 0):=by
 obtain⟨h1,h2⟩:=ok.small;have h3:=QM q.m q.a;have gd:H6 (svP i q).fs:=by rw[D8 hu];exact WM (by omega)
 have G:J9 156 (fun x=>#[x,I0 ke]) (svP i q).fs ((svP i q).fs.map (TL ke.toNat)) 0:=by
  have:=IW (f:=156) (args:=fun x=>#[x,I0 ((ke.toNat:Nat):Int)]) fun v W hv=>AR6 v (svP i q).fs ke.toNat W hv (F8 gd) gd;rwa[Int.toNat_of_nonneg hk]at this
 rw[sZ hu];exact AX2 (svP i q) v _ ke w hv G
theorem yV(ok:IK 300 q)(hu:q.up=true){ke:Int}(hk:ke<0)(v:Value)(w:World)(hv:SvV w v (svP i q)):Calls prog 114 #[v,I0 ke] w (XW w sv0 3):=by
 obtain⟨h1,h2⟩:=ok.small;have h3:=QM q.m q.a;have gd:H6 (svP i q).fs:=by rw[D8 hu];exact WM (by omega)
 exact AG4 (svP i q) v [] ke 3 w hv (by decide) (qV fun v W hv=>BB2 v (svP i q).fs ke W hv (F8 gd) (.inr hk))
theorem C14(ok:IK 300 q)(hu:q.up=false)(hi:i<3)(v:Value)(w:World)(hv:C9 w v (svP i q).fs):Calls prog 48 #[I0 i,.agg #[v]] w (XW w (svP i (upP q)) 0):=by
 obtain⟨h1,h2⟩:=ok.small;obtain⟨_,_,_,hs,hq⟩:=ok.down hu;have hl:(BM q.m++q.q).length+([]:List UInt8).length<=1048576:=by simp;omega
 rw[MO hu]at hv;have gd:H6 (epD q.e++[⟨JI,BM q.m++q.q,[]⟩]):=WM hl;have R:VO (epD q.e++[⟨JI,BM q.m++q.q,[]⟩]) q.m (epD q.e) []:=⟨gd,ok.log,.inr ⟨_,q.q,bK _ _ _,by simpa using hs⟩⟩;have:=A52 v _ _ q.m i w hv (F8 gd) (by omega) (by omega) (fU R);rw[BJ0 ok.zin hl]at this;rw[D8 (p:=upP q) rfl];simpa [upP,KU,MX,show BM []=[]from rfl]using this
theorem C15{x:AQ}(sure:Bool)(ok:IK 299 q)(hu:q.up=true)(hg:gdE x=0)(hz:DU q.m<x.z)(v:Value)(w:World)(hv:SvV w v (svP i q)):Calls prog 147 #[v,DW x,.bool sure] w fun e w'=>ZE w (svP i (OZ x sure q)) 0 e w'/\FrT w e:=by
 have ok':=ok.more (show (299:Int)<=300 by omega);obtain⟨h1,h2⟩:=ok'.small;have h3:=QM q.m q.a;have hr:=dG hg;have hx:=QN hg;have ha:=ok.a;have g0:H6 (epD q.e++[⟨JI,BM (q.m.take q.a),BM (q.m.drop q.a)⟩]):=WM (by omega);have g1:H6 (epD q.e++[⟨JI,BM (q.m.take q.a),BM (q.m.drop q.a)++NH x⟩]):=WM (by simp;omega);have W1:∀v W,C9 W v (epD q.e++[⟨JI,BM (q.m.take q.a),BM (q.m.drop q.a)⟩])->Calls prog 99 #[.agg #[v],S0 JI,S0 (NH x)] W fun e w'=>∃v',e=.returned (.tuple #[.agg #[v'],I0 0])/\UO w' W.heap.size v' (epD q.e++[⟨JI,BM (q.m.take q.a),BM (q.m.drop q.a)++NH x⟩])/\B0 W w':=fun v W hv=>
  dY v _ (epD q.e) [] _ JI (NH x) W hv (F8 g0) g0 (bK _ _ _) (by simp only;omega)
 have S1:∀v W,C9 W v (epD q.e++[⟨JI,BM (q.m.take q.a),BM (q.m.drop q.a)++NH x⟩])->Calls prog 200 #[.agg #[v],S0 JI] W fun e w'=>∃v',e=.returned (.tuple #[.agg #[v'],I0 0])/\UO w' W.heap.size v' (epD q.e++[⟨JI,BM (q.m.take q.a)++(BM (q.m.drop q.a)++NH x),[]⟩])/\B0 W w':=fun v W hv=>
  UR v _ (epD q.e) [] _ JI W hv (F8 g1) g1 (bK _ _ _)
 have T:CO7 (svP i q) x sure 0 (svP i (OZ x sure q)):=by
  rw[D8 hu];refine .inr (.inr ⟨by show ¬x.z<=DU q.m;omega,rfl,?_⟩)
  cases sure with
  |true=>
   refine⟨_,?_,kD _ _ _ x 0 hg (IW W1) (ZC S1)⟩;rw[D8 (p:=OZ x true q) hu];simp only[OZ,if_true,bJ q.m x ok.dn];rw[List.take_of_length_le (by simp),List.drop_of_length_le (by simp),<-List.append_assoc,<-GL,List.take_append_drop,<-LU];rfl
  |false=>
   refine⟨_,?_,AG5 _ _ x hg (ZC W1)⟩;rw[D8 (p:=OZ x false q) hu];simp only[OZ,Bool.false_eq_true,if_false,bJ q.m x ok.dn];rw[List.take_append_of_le_length ha,List.drop_append_of_le_length ha,LU]
 exact yF (svP i q) _ v x sure 0 w hv (ok'.fits hu) T (by omega) (by omega) (by rw[D8 hu];show q.m.length<=_;omega)
theorem BR5(ok:IK 300 q)(hu:q.up=true):Chn (svP i q) (q.m.drop q.dn) (q.m.length-q.dn):=by
 have e:∀j,(csP (svP i q) (q.m.drop q.dn) j).1.tr=JX q.m (q.dn+j):=fun j=>by
  unfold csP JX;rw[AY1,D8 hu,List.take_add,List.foldl_append];rfl
 refine⟨by simp,fun j x hj hx=>?_,fun x hx=>?_⟩
 .rw[e];rw[List.getElem?_drop]at hx;exact ok.play _ x hx
 .have:=(List.getElem?_eq_some_iff.1 hx).1;simp at this
theorem AZ7(ok:IK 300 q)(hu:q.up=true):BF6 (svP i q) (q.m.drop q.dn):=by
 have hw:=ok.wl;rw[D8 hu];refine⟨(ok.play.good ok.dn).wf,fun x hx=>?_,by show q.ws.length*32<=_;omega,fun x hx=>?_,fun x hx=>?_⟩
 .have:=IU (ok.wk x hx).2.2.2;omega
 .have:=QN (ok.log.good x (List.mem_of_mem_drop hx));omega
 .have:=QN (ok.log.good x (List.mem_of_mem_drop hx));omega
theorem C16(ok:IK 300 q)(hu:q.up=true):(WU i q).1.up=true/\(WU i q).1.fs=(svP i q).fs/\(WU i q).1.id=i/\(WU i q).1.ep=q.e/\(WU i q).1.ts=q.m/\(WU i q).1.tr=JX q.m q.m.length:=by
 obtain⟨_,b1,b2,b3,b4,b5,_⟩:=BQ2 (AZ7 (i:=i) ok hu) (BR5 ok hu) _ (Nat.le_refl _);have hd:=ok.dn;refine⟨?_,b2,?_,?_,?_,?_⟩
 .show (csP _ _ _).1.up=true;rw[b1,D8 hu]
 .show (csP _ _ _).1.id=_;rw[b3,D8 hu]
 .show (csP _ _ _).1.ep=_;rw[b4,D8 hu]
 .show (csP _ _ _).1.ts=_;rw[b5,D8 hu]
 .show (csP _ _ _).1.tr=_;unfold csP;rw[AY1,D8 hu];show (List.take _ _).foldl aX (JX q.m q.dn)=_;unfold JX;rw[<-List.foldl_append,<-List.take_add,show q.dn+(q.m.length-q.dn)=q.m.length by omega]
theorem AZ8(ok:IK 300 q)(hu:q.up=true)(v:Value)(w:World)(hv:SvV w v (svP i q)):Calls prog 148 #[v,I0 q.m.length] w fun e w'=>fQ w (svP i (ZH i q)) (WU i q).2 0 e w'/\FrS w e:=by
 have hd:=ok.dn;obtain⟨c1,c2,c3,c4,c5,c6⟩:=C16 (i:=i) ok hu;refine(sF (svP i q) v q.dn q.m.length (q.m.length-q.dn) (q.m.drop q.dn) w hv (ok.fits hu) (by rw[D8 hu]) hd (by rw[D8 hu];exact Nat.le_refl _) (by rw[D8 hu];show _=List.take _ (List.drop q.dn q.m);rw[List.take_of_length_le (by simp)]) (BR5 ok hu) (AZ7 ok hu)).mono fun e w' H=>?_;have:=H.1 (by simp);have e:svP i (ZH i q)=⟨(csP (svP i q) (q.m.drop q.dn) (q.m.length-q.dn)).1.up,(csP (svP i q) (q.m.drop q.dn) (q.m.length-q.dn)).1.fs,(csP (svP i q) (q.m.drop q.dn) (q.m.length-q.dn)).1.id,(csP (svP i q) (q.m.drop q.dn) (q.m.length-q.dn)).1.ep,(csP (svP i q) (q.m.drop q.dn) (q.m.length-q.dn)).1.ts,(q.m.length:Int),(csP (svP i q) (q.m.drop q.dn) (q.m.length-q.dn)).1.tr,(csP (svP i q) (q.m.drop q.dn) (q.m.length-q.dn)).1.ws⟩:=by
  show _=(⟨(WU i q).1.up,(WU i q).1.fs,(WU i q).1.id,(WU i q).1.ep,(WU i q).1.ts,(q.m.length:Int),(WU i q).1.tr,(WU i q).1.ws⟩:Sv);rw[c1,c2,c3,c4,c5,c6,D8 (p:=ZH i q) hu,D8 hu];rfl
 rw[e];exact this
end
def rpV(r:Rp)(v:Value):Value:=.agg #[I0 r.E,I0 r.z,S0 r.p,S0 r.d,I0 r.t.c,I0 r.t.m,I0 r.t.q,I0 r.t.v,I0 r.t.k,I0 r.t.o,I0 r.t.n,v]
def Did(W:World)(k:Nat)(kd:Int)(x:Rp×Pw)(e:Ending)(w':World):Prop:=
 ∃v,e=.returned (rpV x.1 v)/\BD w' W.heap.size v x.1.ns/\Touch (· =k) W w'/\(PV kd x.1.E=true->WX w' k x.2)
theorem RU{kd:Int}(he:e=.returned (QL E))(ht:Touch (· =k) W w')(hl:PV kd E=false):Did W k kd (LM E,p) e w':=
 ⟨N0,he,.inl ⟨rfl,rfl⟩,ht,fun h=>by rw[show (LM E,p).1.E=E from rfl,hl]at h;cases h⟩
theorem WO(p:Pw)(k:Nat)(W:World)(hx:WX W k p):Calls prog 107 #[wP k] W fun e w'=>e=.returned (.tuple #[])/\WX w' k ⟨p.n,p.s,fun _=>0,p.c,p.D,p.H,p.h⟩/\Touch (· =k) W w':=by
 have X:=AA hx.clear;have T:=AA (OV W k 31 (I0 0) (I0 0) (I0 0));have r0:=hx.role (i:=0) (by omega);have r1:=hx.role (i:=1) (by omega);have r2:=hx.role (i:=2) (by omega);have f0:=hx.AX 31;have f1:=hx.AX 32;have f2:=hx.AX 33;simp only[Nat.reduceAdd]at r0 r1 r2;unfold wP;clear hx;go_enter func107,ntmps107;go_wp2_with fail;exact bodyPost_end (v:=.tuple #[]) (by simp[results,results107,go_sem]) rfl ⟨rfl,A8 X,A8 T⟩
theorem OW(W:World)(n:Nat):B0 W (W.drewN n):=⟨rfl,rfl,rfl,Nat.le_refl _,fun _ _=>rfl⟩
structure DB(w W:World)(d:Dd):Prop where
 b:B0 w W
 r:RpB W (w.heap.size+1)
 d:EW W w.heap.size d
theorem DB.start(w:World)(d:Dd):DB w ((w.alloc (.cells #[I0 d.k,I0 d.c,I0 d.s,I0 d.q.o,I0 d.q.s,S0 d.q.p,S0 d.q.d,I0 d.q.v,I0 d.q.f,I0 d.lo,I0 d.sl,I0 d.ke,.bool d.wt] 60)).alloc (.cells #[I0 0,I0 0,.string ⟨#[]⟩,.string ⟨#[]⟩,I0 0,I0 0,I0 0,I0 0,I0 0,I0 0,I0 0,N0] 65)) d:=by
 refine⟨AL (AB _ _) (AB _ _),YE _ _ _,?_⟩;exact EW.QK (heap_alloc_new w _:EW (w.alloc _) w.heap.size d) (AB _ _) (by simp)
theorem DB.next(h:DB w W d)(hb:B0 W V):DB w V d:=⟨AL h.b hb,h.r.next hb,h.d.QK hb h.d.ltz⟩
theorem DB.cells(h:DB w W d):(W.cell? ⟨w.heap.size,0,none⟩=some (I0 d.k)/\W.cell? ⟨w.heap.size,1,none⟩=some (I0 d.c)/\W.cell? ⟨w.heap.size,2,none⟩=some (I0 d.s)/\W.cell? ⟨w.heap.size,3,none⟩=some (I0 d.q.o)/\W.cell? ⟨w.heap.size,4,none⟩=some (I0 d.q.s)/\W.cell? ⟨w.heap.size,5,none⟩=some (S0 d.q.p)/\W.cell? ⟨w.heap.size,6,none⟩=some (S0 d.q.d))/\W.cell? ⟨w.heap.size,7,none⟩=some (I0 d.q.v)/\W.cell? ⟨w.heap.size,8,none⟩=some (I0 d.q.f)/\W.cell? ⟨w.heap.size,9,none⟩=some (I0 d.lo)/\W.cell? ⟨w.heap.size,10,none⟩=some (I0 d.sl)/\W.cell? ⟨w.heap.size,11,none⟩=some (I0 d.ke)/\W.cell? ⟨w.heap.size,12,none⟩=some (.bool d.wt):=by
 have r:=h.d.row;simp only[Nat.zero_add]at r;exact⟨⟨r 0 _ rfl,r 1 _ rfl,r 2 _ rfl,r 3 _ rfl,r 4 _ rfl,r 5 _ rfl,r 6 _ rfl⟩,r 7 _ rfl,r 8 _ rfl,r 9 _ rfl,r 10 _ rfl,r 11 _ rfl,r 12 _ rfl⟩
theorem AH2(p:Pw)(d:Dd)(k:Nat)(W:World)(hx:WX W k p)(hi:0<=d.s/\d.s<3)(hu:(p.s d.s.toNat).up=false):Calls prog 78 #[wP k,ddV d] W (Did W k 3 (LM 14,p)):=by
 have C:=AA (fun W=>FW 14 W);have D0:=AA (DB.start W d);obtain⟨i,hi3,hdi⟩:∃i:Nat,i<3/\d.s=i:=⟨d.s.toNat,by omega,by omega⟩;rw[hdi,Int.toNat_natCast]at hu;obtain⟨ad,nd,cd,al,cl,an,cn,ai,ci,aw,cw,S,_,_⟩:=hx.srv hi3 rfl;have S0:∀V,B0 W V->V.cell? ⟨k,1+10*i,none⟩=some (.bool false):=fun V hV=>by
  have:=S.c0;rw[MO hu]at this;rw[World.cell?,hV.block k hx.lt];exact this
 obtain⟨dk,dc,ds,⟨o,s,pp,dd,v,f⟩,lo,sl,ke,wt⟩:=d;simp only at hdi;subst hdi;unfold wP ddV;unfold QL at C;clear S hx hu hi;have hX:∀w1,DB W w1 ⟨dk,dc,(i:Int),⟨o,s,pp,dd,v,f⟩,lo,sl,ke,wt⟩->Did W k 3 (LM 14,p) (.returned (QL 14)) (aS w1 (W.heap.size+1) (I0 14) (I0 0) (.string ⟨#[]⟩) (.string ⟨#[]⟩) (I0 0) (I0 0) (I0 0) (I0 0) (I0 0) (I0 0) (I0 0) (N0)):=fun w1 h=>RU rfl (FM (Touch.of_below h.b) (by omega) _ _ _ _ _ _ _ _ _ _ _ _) (by decide);rcases(show i=0\/i=1\/i=2 by omega)with rfl|rfl|rfl
 all_goals
  simp only[Nat.reduceAdd,Nat.reduceMul]at S0;go_enter func78,ntmps78;go_upto_region 1 with fail;generalize ((W.alloc _).alloc _)=W0 at*;obtain⟨⟨e0,e1,e2,e3,e4,e5,e6⟩,e7,e8,e9,e10,e11,e12⟩:=(A8 D0).cells;have T0:=S0 W0 (A8 D0).b;simp only at e2
  go_quiet (fail)
  go_wp2_with fail;refine(A8 C _).mono ?_;rintro e w1 ⟨rfl,hb⟩;have D1:=(A8 D0).next (AL (OW _ _) hb);obtain⟨⟨c0,c1,c2,c3,c4,c5⟩,c6,c7,c8,c9,c10,c11⟩:=D1.r.cells;have f0:=D1.r.AX;have X1:=AA (hX w1 D1);clear hb D1 D0 C S0 hX;unfold QL at X1;go_wp2_with fail;exact bodyPost_ret (v:=.agg #[I0 14,I0 0,.string ⟨#[]⟩,.string ⟨#[]⟩,I0 0,I0 0,I0 0,I0 0,I0 0,I0 0,I0 0,N0]) (by simp[results,results78,go_sem,c0,c1,c2,c3,c4,c5,c6,c7,c8,c9,c10,c11]) rfl (A8 X1)
theorem CF1(hj:j<3)(h:r j=2)(hb:∀m,m<j->r m≠2):ldP r=j:=by
 unfold ldP;rcases(show j=0\/j=1\/j=2 by omega)with rfl|rfl|rfl
 .rw[if_pos h];rfl
 .rw[if_neg (hb 0 (by omega)),if_pos h];rfl
 .rw[if_neg (hb 0 (by omega)),if_neg (hb 1 (by omega)),if_pos h];rfl
theorem C17(hb:∀m,m<3->r m≠2):ldP r=-1:=by
 unfold ldP;rw[if_neg (hb 0 (by omega)),if_neg (hb 1 (by omega)),if_neg (hb 2 (by omega))]
theorem C18(r:Nat->Int)(k:Nat)(w:World)(hc:∀i,i<3->w.cell? ⟨k,31+i,none⟩=some (I0 (r i))):
  Calls prog 73 #[.slice (some ⟨k,31,none⟩) 3 3,I0 2] w (R0 w (I0 (ldP r))):=by
 have HC:=AA hc;clear hc;go_enter func73,ntmps73;go_wp2_with fail
 go_loopg [8] 3 (fun kx s8 wr=>∃j:Nat,s8=I0 j/\j<=3/\3-j<=kx/\Hid (∀m,m<j->r m≠2)/\Hid (B0 w wr/\∀i,i<3->wr.cell? ⟨k,31+i,none⟩=some (I0 (r i))))
 case atStart=>exact⟨0,rfl,by omega,Nat.le_refl _,AA (fun m hm=>by omega),AA ⟨Below.refl _ _,A8 HC⟩⟩
 case round=>
  obtain⟨j,rfl,hj,hg,hh,hB⟩:=hrel;by_cases hlt:j<3
  .have d0:=(A8 hB).2 j hlt;have hjj:(j:Int)<3:=by omega
   by_cases h2:r j=2
   .rw[h2]at d0;have HE:=AA (CF1 hlt h2 (A8 hh));clear h2;go_wp2_with fail
    try go_quiet (fail)
    go_wp2_with fail;go_ret;exact⟨by rw[A8 HE];rfl,(A8 hB).1⟩
   .have HN:=AA (fun m (hm:m<j+1)=>(show r m≠2 by
     by_cases e:m=j
     .rw[e];exact h2
     .exact A8 hh m (by omega)))
    have h3:¬2=r j:=fun e=>h2 e.symm;go_wp2_with fail
    try go_quiet (fail)
    go_wp2_with fail
    go_roundg (3-(j+1))
    case measure=>omega
    case rel=>exact⟨j+1,rfl,by omega,Nat.le_refl _,HN,hB⟩
  .obtain rfl:j=3:=by omega
   have HE:=AA (C17 (A8 hh));go_wp2_with fail;go_ret;exact⟨by rw[A8 HE];rfl,(A8 hB).1⟩
theorem MF(p:Pw)(k:Nat)(W:World)(hx:WX W k p):Calls prog 47 #[wP k] W (R0 W (I0 (ldP p.r))):=by
 have C:=AA (C18 p.r k W (fun i hi=>hx.role hi));unfold wP;clear hx;go_enter func47,ntmps47;go_wp2_with fail;refine(A8 C).mono ?_;rintro e w1 ⟨rfl,hb⟩;go_wp2_with fail;go_ret;exact⟨rfl,hb⟩
def AZ9(w:World)(s:Sv)(E:Int)(e:Ending)(w':World):Prop:=
 ∃ad nd cd al cl an cn ai ci aw cw,e=.returned (.tuple #[.agg #[.bool s.up,.slice ad nd cd,I0 s.id,I0 s.ep,.slice al s.ts.length cl,I0 s.dn,I0 s.tr.z,.slice an s.tr.ns.length cn,.slice ai s.tr.ss.length ci,.slice aw s.ws.length cw],I0 E])/\
  Hid (SvV w' (.agg #[.bool s.up,.slice ad nd cd,I0 s.id,I0 s.ep,.slice al s.ts.length cl,I0 s.dn,I0 s.tr.z,.slice an s.tr.ns.length cn,.slice ai s.tr.ss.length ci,.slice aw s.ws.length cw]) s/\(s.tr.ss≠[]->∀k,k<w.heap.size->QT (.slice ai s.tr.ss.length ci) k))/\B0 w w'
theorem nT(h:XW w s E e w')(hs:s.tr.ss=[]):AZ9 w s E e w':=by
 obtain⟨v,he,hv,hb⟩:=h;obtain⟨ad,nd,cd,al,cl,an,cn,ai,ci,aw,cw,rfl,_⟩:=hv.five;exact⟨ad,nd,cd,al,cl,an,cn,ai,ci,aw,cw,he,AA ⟨hv,fun h=>absurd hs h⟩,hb⟩
theorem GK(h:JV B v)(hk:k<B):QT v k:=fun b off n c e=>by have:=h b off n c e;omega
theorem BJ2(h:ZE w s E e w'):AZ9 w s E e w':=by
 obtain⟨ad,nd,cd,al,nl,cl,an,nn,cn,ai,ni,ci,aw,nw,cw,he,hs,hb⟩:=h;obtain⟨hv,hf⟩:=A8 hs;obtain⟨ad',nd',cd',al',cl',an',cn',ai',ci',aw',cw',e5,_⟩:=hv.five;simp only[Value.agg.injEq,Array.mk.injEq,List.cons.injEq,Value.slice.injEq,true_and,and_true]at e5;obtain⟨⟨rfl,rfl,rfl⟩,⟨rfl,rfl,rfl⟩,⟨rfl,rfl,rfl⟩,⟨rfl,rfl,rfl⟩,rfl,rfl,rfl⟩:=e5;exact⟨_,_,_,_,_,_,_,_,_,_,_,he,AA ⟨hv,fun _ k hk=>GK hf hk⟩,hb⟩
structure SBX(w V:World)(q:Nat)(s:Sv)(vd vl vn vs vw:Value):Prop where
 b:B0 w V
 le:w.heap.size<=q
 box:BO V q s.up vd s.id s.ep vl s.dn s.tr.z vn vs vw
 v:SvV V (.agg #[.bool s.up,vd,I0 s.id,I0 s.ep,vl,I0 s.dn,I0 s.tr.z,vn,vs,vw]) s
 a:s.tr.ss≠[]->∀k,k<w.heap.size->QT vs k
section
variable {w w1 u:World} {s:Sv} {ad al an ai aw:Option Addr} {nd cd nl cl nn cn ni ci nw cw:Nat}
theorem ZK(hb:B0 w w1)(hv:SvV w1 (.agg #[.bool s.up,.slice ad nd cd,I0 s.id,I0 s.ep,.slice al nl cl,I0 s.dn,I0 s.tr.z,.slice an nn cn,.slice ai ni ci,.slice aw nw cw]) s)(ha:s.tr.ss≠[]->∀k,k<u.heap.size->QT (.slice ai ni ci) k)(hu:w.heap.size<=u.heap.size):
  SBX w (w1.alloc (.cells #[.bool s.up,.slice ad nd cd,I0 s.id,I0 s.ep,.slice al nl cl,I0 s.dn,I0 s.tr.z,.slice an nn cn,.slice ai ni ci,.slice aw nw cw] 43)) w1.heap.size s (.slice ad nd cd) (.slice al nl cl) (.slice an nn cn) (.slice ai ni ci) (.slice aw nw cw):=
 ⟨AL hb (AB _ _),hb.size,BO.new _ _ _ _ _ _ _ _ _ _ _,hv.alloc _,fun h k hk=>ha h k (by omega)⟩
theorem gV(hb:B0 w w1)(hq:w.heap.size<=q)(hz:BO w1 q false (N0) 0 0 (N0) 0 0 (N0) (N0) (N0))(hv:SvV w1 (.agg #[.bool s.up,.slice ad nd cd,I0 s.id,I0 s.ep,.slice al nl cl,I0 s.dn,I0 s.tr.z,.slice an nn cn,.slice ai ni ci,.slice aw nw cw]) s)(ha:s.tr.ss≠[]->∀k,k<u.heap.size->QT (.slice ai ni ci) k)(hu:q<u.heap.size):
  SBX w (LC w1 q (.bool s.up) (.slice ad nd cd) (I0 s.id) (I0 s.ep) (.slice al nl cl) (I0 s.dn) (I0 s.tr.z) (.slice an nn cn) (.slice ai ni ci) (.slice aw nw cw)) q s (.slice ad nd cd) (.slice al nl cl) (.slice an nn cn) (.slice ai ni ci) (.slice aw nw cw):=by
 refine⟨ES hb hq _ _ _ _ _ _ _ _ _ _,hq,fZ hz _ _ _ _ _ _ _ _ _ _,?_,fun h k hk=>ha h k (by omega)⟩;by_cases h:s.tr.ss=[]
 .have hv2:=hv;obtain⟨vd,vl,vn,vs,vw,e,r1,r2,r3,r4,r5⟩:=hv2;simp only[Value.agg.injEq,Array.mk.injEq,List.cons.injEq,true_and,and_true]at e;obtain⟨rfl,rfl,rfl,rfl,rfl⟩:=e;have hd:=hz.aP;have hx:SvV (LC w1 q (.bool s.up) (.slice ad nd cd) (I0 s.id) (I0 s.ep) (.slice al nl cl) (I0 s.dn) (I0 s.tr.z) (.slice an nn cn) (.slice ai ni ci) (.slice aw nw cw)) (.agg #[.bool s.up,.slice ad nd cd,I0 s.id,I0 s.ep,.slice al nl cl,I0 s.dn,I0 s.tr.z,.slice an nn cn,N0,.slice aw nw cw]) s:=
   mP hd (fun vd vl vn vs vw e=>by simp only[Value.agg.injEq,Array.mk.injEq,List.cons.injEq]at e;rw[<-e.2.2.2.2.2.2.2.2.1];exact rE _ _ _) ⟨_,_,_,_,_,rfl,r1,r2,r3,by rw[h];exact BQ.nil _,r5⟩
  obtain⟨vd,vl,vn,vs,vw,e,q1,q2,q3,q4,q5⟩:=hx;simp only[Value.agg.injEq,Array.mk.injEq,List.cons.injEq,true_and,and_true]at e;obtain⟨rfl,rfl,rfl,rfl,rfl⟩:=e;refine⟨_,_,_,_,_,rfl,q1,q2,q3,?_,q5⟩;rw[h]at r4⊢;rcases r4 with h4|⟨_,_,_,_,_,_,_,h0,_⟩
  .exact .inl h4
  .exact absurd rfl h0
 .exact mP hz.aP (fun vd vl vn vs vw e=>by simp only[Value.agg.injEq,Array.mk.injEq,List.cons.injEq]at e;rw[<-e.2.2.2.2.2.2.2.2.1];exact ha h q hu) hv
end
def A72:List Value:=[I0 0,I0 0,.string ⟨#[]⟩,.string ⟨#[]⟩,I0 0,I0 0,I0 0,I0 0,I0 0,I0 0,I0 0,N0]
theorem RpB.at(h:RpB W g)(hv:W.cell? ⟨g,j,none⟩=some v):A72[j]?=some v:=by
 unfold RpB at h;simpa [World.cell?,h,A72]using hv
theorem UD{s:ByteArray}(h:A72[j]?=some (.string s)):j=2\/j=3:=by
 by_cases hj:j<12
 .rcases(show j=0\/j=1\/j=2\/j=3\/j=4\/j=5\/j=6\/j=7\/j=8\/j=9\/j=10\/j=11 by omega)with rfl|rfl|rfl|rfl|rfl|rfl|rfl|rfl|rfl|rfl|rfl|rfl<;>simp[A72]at h⊢
 .rw[List.getElem?_eq_none (by simp[A72];omega)]at h;cases h
theorem AH7{s:ByteArray}(h:A72[j]?=some (.string s)):s=⟨#[]⟩:=by
 rcases UD h with rfl|rfl<;>simpa [A72]using h.symm
theorem A73{n:Int}(h:A72[j]?=some (I0 n)):n=0:=by
 by_cases hj:j<12
 .rcases(show j=0\/j=1\/j=2\/j=3\/j=4\/j=5\/j=6\/j=7\/j=8\/j=9\/j=10\/j=11 by omega)with rfl|rfl|rfl|rfl|rfl|rfl|rfl|rfl|rfl|rfl|rfl|rfl<;>simp[A72]at h<;>omega
 .rw[List.getElem?_eq_none (by simp[A72];omega)]at h;cases h
theorem B07{b:Bool}:A72[j]? ≠some (.bool b):=by
 intro h;by_cases hj:j<12
 .rcases(show j=0\/j=1\/j=2\/j=3\/j=4\/j=5\/j=6\/j=7\/j=8\/j=9\/j=10\/j=11 by omega)with rfl|rfl|rfl|rfl|rfl|rfl|rfl|rfl|rfl|rfl|rfl|rfl<;>simp[A72]at h
 .rw[List.getElem?_eq_none (by simp[A72];omega)]at h;cases h
theorem V9[Lay α]{xs:List α}(hg:RpB W g)(hv:BQ W v xs)(hno:∀x∈xs,∀off,¬ ∀ (j:Nat) u,j<Lay.k α->(Lay.cs x)[j]?=some u->A72[off+j]?=some u)(h0:xs≠[]):QT v g:=by
 intro b off n c e;rcases hv with⟨a,cap,_,e0,_⟩|⟨b',off',cap,rfl,_,_,h3,_,h4⟩
 .exact absurd e0 h0
 .simp only[Value.slice.injEq,Option.some.injEq,Addr.mk.injEq]at e;rintro rfl;obtain⟨x,r,rfl⟩:=List.exists_cons_of_ne_nil h0;refine hno x (by simp) off' fun j u hj hu=>hg.at ?_;have:=h4 (0*Lay.k α+j) _ ((AZ (x::r) 0 x rfl j hj).trans hu);rw[Nat.zero_mul,Nat.zero_add]at this;rw[<-e.1.1];exact this
section
variable {W:World} {k g:Nat} {v:Value}
theorem BJ6{xs:List DF}(hg:RpB W g)(h:BQ W v xs)(h0:xs≠[]):QT v g:=V9 hg h (fun x _ off H=>by
 have a:=UD (H 0 _ (by decide) rfl);have c:=UD (H 2 _ (by decide) rfl);omega) h0
theorem B08{xs:List AQ}(hg:RpB W g)(h:BQ W v xs)(h0:xs≠[]):QT v g:=V9 hg h (fun x _ off H=>by
 have a:=UD (H 3 _ (by decide) rfl);have c:=UD (H 4 _ (by decide) rfl);omega) h0
theorem B09{xs:List En}(hg:RpB W g)(h:BQ W v xs)(h0:xs≠[]):QT v g:=V9 hg h (fun x _ off H=>B07 (H 2 _ (by decide) rfl)) h0
theorem yY{xs:List Wa}(hg:RpB W g)(h:BQ W v xs)(hs:∀x∈xs,1<=x.s)(h0:xs≠[]):QT v g:=V9 hg h (fun x hx off H=>by
 have a:=A73 (H 0 _ (by decide) rfl);have:=hs x hx;omega) h0
theorem BJ7{xs:List Int}(hg:RpB W g)(h:BQ W v xs)(hs:∀x∈xs,1<=x)(h0:xs≠[]):QT v g:=V9 hg h (fun x hx off H=>by
 have a:=A73 (H 0 _ (by decide) rfl);have:=hs x hx;omega) h0
theorem B12{xs:List Nd}(hg:RpB W g)(h:BQ W v xs)(hs:∀x∈xs,x.p≠[])(h0:xs≠[]):QT v g:=V9 hg h (fun x hx off H=>by
 have a:=AH7 (H 0 _ (by decide) rfl);have:x.p=[]:=by simpa using a
 exact hs x hx this) h0
theorem Row.far[Lay α]{xs:List α}(h:Row W k v xs)(ht:Touch (· =g) W V)(ha:xs≠[]->QT v g):Row V k v xs:=by
 refine⟨?_,h.2⟩;exact(Row.touch (k:=g) ⟨h.1,ha⟩ ht).1
end
theorem C23{t:Tr}(h:NI t):∀x∈t.ns,x.p≠[]:=fun x hx e=>by
 have:=(h.nod.ok x hx).path;rw[e]at this;exact absurd this (by decide)
theorem BJ8{N:Int}{q:Ps}(ok:IK N q):NI (svP i q).tr/\∀x∈(svP i q).ws,1<=x.s:=by
 cases hu:q.up with
 |true=>rw[D8 hu];exact⟨ok.play.good ok.dn,fun x hx=>(ok.wk x hx).1⟩
 |false=>rw[MO hu];exact⟨UZ,by simp⟩
theorem WX.reply(h:WX W k p)(hp:∀i,i<3->IK 300 (p.s i))(hg:RpB W g)(hk:k≠g)(ht:Touch (· =g) W V):WX V k p:=by
 obtain⟨f,hb,hr⟩:=h;refine⟨f,hb.touch ht hk,hr.n,fun i hi=>?_,hr.r,fun i hi=>⟨(hr.c i hi).s,(hr.c i hi).z,(hr.c i hi).e.far ht (B09 hg (hr.c i hi).e.1)⟩,hr.d.far ht (B08 hg hr.d.1),hr.h,hr.hk⟩;obtain⟨gt,gw⟩:=BJ8 (i:=i) (hp i hi);have s:=hr.s i hi;exact⟨s.up,s.d.far ht (BJ6 hg s.d.1),s.id,s.ep,s.l.far ht (B08 hg s.l.1),s.dn,s.z,s.n.far ht (B12 hg s.n.1 (C23 gt)),s.i.far ht (BJ7 hg s.i.1 fun x hx=>(gt.ses.2 x hx).1),s.w.far ht (yY hg s.w.1 gw)⟩
theorem YI(W:World)(g:Nat)(x0 x1 x2 x3 x4 x5 x6 x7 x8 x9 x10 x11:Value):Touch (· =g) W (aS W g x0 x1 x2 x3 x4 x5 x6 x7 x8 x9 x10 x11):=
 (((((((((((ER _ _ _ _).trans (ER _ _ _ _)).trans (ER _ _ _ _)).trans (ER _ _ _ _)).trans (ER _ _ _ _)).trans (ER _ _ _ _)).trans (ER _ _ _ _)).trans (ER _ _ _ _)).trans (ER _ _ _ _)).trans (ER _ _ _ _)).trans (ER _ _ _ _)).trans (ER _ _ _ _)
structure DT(k:Nat)(w W:World)(d:Dd):Prop where
 t:Touch (· =k) w W
 r:RpB W (w.heap.size+1)
 d:EW W w.heap.size d
section
variable {k:Nat} {w W V:World} {d:Dd}
theorem DB.dt(h:DB w W d)(k:Nat):DT k w W d:=⟨Touch.of_below h.b,h.r,h.d⟩
theorem DT.touch(h:DT k w W d)(hk:k<w.heap.size)(ht:Touch (· =k) W V):DT k w V d:=
 ⟨h.t.trans ht,h.r.touch ht (by omega),(ht.block _ h.d.ltz (by omega)).trans h.d⟩
theorem DT.next(h:DT k w W d)(hk:k<w.heap.size)(hb:B0 W V):DT k w V d:=h.touch hk (Touch.of_below hb)
theorem DT.cells(h:DT k w W d):(W.cell? ⟨w.heap.size,0,none⟩=some (I0 d.k)/\W.cell? ⟨w.heap.size,1,none⟩=some (I0 d.c)/\W.cell? ⟨w.heap.size,2,none⟩=some (I0 d.s)/\W.cell? ⟨w.heap.size,3,none⟩=some (I0 d.q.o)/\W.cell? ⟨w.heap.size,4,none⟩=some (I0 d.q.s)/\W.cell? ⟨w.heap.size,5,none⟩=some (S0 d.q.p)/\W.cell? ⟨w.heap.size,6,none⟩=some (S0 d.q.d))/\W.cell? ⟨w.heap.size,7,none⟩=some (I0 d.q.v)/\W.cell? ⟨w.heap.size,8,none⟩=some (I0 d.q.f)/\W.cell? ⟨w.heap.size,9,none⟩=some (I0 d.lo)/\W.cell? ⟨w.heap.size,10,none⟩=some (I0 d.sl)/\W.cell? ⟨w.heap.size,11,none⟩=some (I0 d.ke)/\W.cell? ⟨w.heap.size,12,none⟩=some (.bool d.wt):=by
 have r:=h.d.row;simp only[Nat.zero_add]at r;exact⟨⟨r 0 _ rfl,r 1 _ rfl,r 2 _ rfl,r 3 _ rfl,r 4 _ rfl,r 5 _ rfl,r 6 _ rfl⟩,r 7 _ rfl,r 8 _ rfl,r 9 _ rfl,r 10 _ rfl,r 11 _ rfl,r 12 _ rfl⟩
end
theorem nX{kd:Int}(hk:k<W.heap.size)(h:DT k W V d)(hx:WX V k p)(hp:∀i,i<3->IK 300 (p.s i)):
  Did W k kd (LM 0,p) (.returned (QL 0)) (aS V (W.heap.size+1) (I0 0) (I0 0) (.string ⟨#[]⟩) (.string ⟨#[]⟩) (I0 0) (I0 0) (I0 0) (I0 0) (I0 0) (I0 0) (I0 0) (N0)):=
 ⟨N0,rfl,.inl ⟨rfl,rfl⟩,FM h.t (by omega) _ _ _ _ _ _ _ _ _ _ _ _,fun _=>hx.reply hp h.r (by omega) (YI _ _ _ _ _ _ _ _ _ _ _ _ _ _)⟩
structure Sl where
 ad:Option Addr
 nd:Nat
 cd:Nat
 al:Option Addr
 cl:Nat
 an:Option Addr
 cn:Nat
 ai:Option Addr
 ci:Nat
 aw:Option Addr
 cw:Nat
def tJ(s:Sv)(t:Sl):List Value:=[.bool s.up,.slice t.ad t.nd t.cd,I0 s.id,I0 s.ep,.slice t.al s.ts.length t.cl,I0 s.dn,I0 s.tr.z,.slice t.an s.tr.ns.length t.cn,.slice t.ai s.tr.ss.length t.ci,.slice t.aw s.ws.length t.cw]
def tK(s:Nat->Sv)(t:Nat->Sl):Array Value:=(tJ (s 0) (t 0)++(tJ (s 1) (t 1)++tJ (s 2) (t 2))).toArray
theorem WX.sl(h:WX W k p):∃t:Nat->Sl,∀i,i<3->∀q v,(tJ (svP i (p.s i)) (t i))[q]?=some v->W.cell? ⟨k,1+10*i+q,none⟩=some v:=by
 have e:∀i,∃t:Sl,i<3->∀q v,(tJ (svP i (p.s i)) t)[q]?=some v->W.cell? ⟨k,1+10*i+q,none⟩=some v:=fun i=>by
  by_cases hi:i<3
  .obtain⟨ad,nd,cd,al,cl,an,cn,ai,ci,aw,cw,S,_,_⟩:=h.srv hi rfl;refine⟨⟨ad,nd,cd,al,cl,an,cn,ai,ci,aw,cw⟩,fun _ q v hq=>?_⟩;have hq10:q<10:=(List.getElem?_eq_some_iff.1 hq).1;rcases(show q=0\/q=1\/q=2\/q=3\/q=4\/q=5\/q=6\/q=7\/q=8\/q=9 by omega)with rfl|rfl|rfl|rfl|rfl|rfl|rfl|rfl|rfl|rfl
   .exact S.c0.trans hq
   .exact S.c1.trans hq
   .exact S.c2.trans hq
   .exact S.c3.trans hq
   .exact S.c4.trans hq
   .exact S.c5.trans hq
   .exact S.c6.trans hq
   .exact S.c7.trans hq
   .exact S.c8.trans hq
   .exact S.c9.trans hq
  .exact⟨⟨none,0,0,none,0,none,0,none,0,none,0⟩,fun h=>absurd h hi⟩
 exact⟨fun i=>(e i).choose,fun i hi=>(e i).choose_spec hi⟩
theorem CP7(s:Nat->Sv)(t:Nat->Sl):∀u:World,(Instr.index 83 (.agg (tK s t)) (I0 0)).run prog u=.ok (.agg (tJ (s 0) (t 0)).toArray) u:=fun _=>by kernel_rfl
theorem CP8(s:Nat->Sv)(t:Nat->Sl):∀u:World,(Instr.index 83 (.agg (tK s t)) (I0 1)).run prog u=.ok (.agg (tJ (s 1) (t 1)).toArray) u:=fun _=>by kernel_rfl
theorem CP9(s:Nat->Sv)(t:Nat->Sl):∀u:World,(Instr.index 83 (.agg (tK s t)) (I0 2)).run prog u=.ok (.agg (tJ (s 2) (t 2)).toArray) u:=fun _=>by kernel_rfl
theorem C24(s:Nat->Sv)(t:Nat->Sl)(m:Nat)(hm:m<3)(u:World):(Instr.index 83 (.agg (tK s t)) (I0 m)).run prog u=.ok (.agg (tJ (s m) (t m)).toArray) u:=by
 rcases(show m=0\/m=1\/m=2 by omega)with rfl|rfl|rfl
 .exact CP7 s t u
 .exact CP8 s t u
 .exact CP9 s t u
theorem AH8(w:World)(k:Nat)(s:Nat->Sv)(t:Nat->Sl)(hc:∀i,i<3->∀q v,(tJ (s i) (t i))[q]?=some v->w.cell? ⟨k,1+10*i+q,none⟩=some v):
  (Instr.loadAt 83 (.pointer (some ⟨k,1,none⟩))).run prog w=.ok (.agg (tK s t)) w:=by
 have hl:=run_loadCells_list (P:=prog) (w:=w) ⟨k,1,none⟩ (tK s t).toList (fun j v hj=>by
  rw[Addr.add_lit];show w.cell? ⟨k,1+j,none⟩=some v;have hj':(tJ (s 0) (t 0)++(tJ (s 1) (t 1)++tJ (s 2) (t 2)))[j]?=some v:=hj;have l0:(tJ (s 0) (t 0)).length=10:=rfl;have l1:(tJ (s 1) (t 1)).length=10:=rfl;by_cases h0:j<10
  .rw[List.getElem?_append_left (by omega)]at hj';exact hc 0 (by omega) j v hj'
  .rw[List.getElem?_append_right (by omega),l0]at hj';by_cases h1:j<20
   .rw[List.getElem?_append_left (by omega)]at hj';have:=hc 1 (by omega) (j-10) v hj';rwa[show 1+10*1+(j-10)=1+j by omega]at this
   .rw[List.getElem?_append_right (by omega),l1]at hj';have:=hc 2 (by omega) (j-10-10) v hj';rwa[show 1+10*2+(j-10-10)=1+j by omega]at this)
 have h30:(tK s t).toList.length=30:=rfl;rw[h30]at hl;simp only[Instr.loadAt,Instr.sureAddr,Sem.run_bind,Sem.run_pure,Result.andThen];unfold loadVar;simp only[Sem.run_bind,isAgg83,sizeOf83,Result.andThen,if_true];rw[hl];rfl
theorem nY{w:World}{ops:Array Oper}{rest:List Oper}{o:Oper}{a:Act}{Q:Exit->Act->World->Prop}(hgd:o.guard=none)(x:Operand)(ho:o.op=.load 83 x)(k:Nat)(s:Nat->Sv)(t:Nat->Sl)
  (hx:a.eval x=.pointer (some ⟨k,1,none⟩)) (hc:∀i,i<3->∀q v,(tJ (s i) (t i))[q]?=some v->w.cell? ⟨k,1+10*i+q,none⟩=some v)
  (h:wpList prog ops Q rest (a.put o.dst (.agg (tK s t))) w):wpList prog ops Q (o::rest) a w:=by
 refine wpList_plain hgd fun K hK=>?_;have hr:=AH8 w k s t hc;unfold Oper.wp execOp;simp only[ho,Sem.run_bind,Sem.run_pure,Result.andThen_ok,hx,hr];exact hK _ _ h
def vot(s:Nat->Ps)(j:Nat):List Int:=(([0,1,2].take j).filter fun i=>(s i).up).map fun i:Nat=>(i:Int)
theorem C29{s:Nat->Ps}(hj:j<3)(h:(s j).up=true):vot s (j+1)=vot s j++[(j:Int)]:=by
 rcases(show j=0\/j=1\/j=2 by omega)with rfl|rfl|rfl<;>simp[vot,List.filter_cons,h]<;>(repeat' split)<;>simp
theorem CG3{s:Nat->Ps}(hj:j<3)(h:(s j).up=false):vot s (j+1)=vot s j:=by
 rcases(show j=0\/j=1\/j=2 by omega)with rfl|rfl|rfl<;>simp[vot,List.filter_cons,h]
theorem C30(s:Nat->Ps)(j:Nat):(vot s j).length<=3:=by
 rw[vot,List.length_map];exact Nat.le_trans (List.length_filter_le _ _) (by simp;omega)
theorem C31(s:Nat->Ps):vot s 3=(F5 s).map fun i:Nat=>(i:Int):=rfl
theorem BK2(i:Nat)(q:Ps):(svP i q).up=q.up:=by
 cases h:q.up
 .rw[MO h]
 .rw[D8 h]
theorem gY{U:World}(h:B0 W V)(hg:V.grownBy U v.ownBlock)(hn:∀g,v.ownBlock=some g->W.heap.size<=g):B0 W U:=
 ⟨hg.os.trans h.os,hg.tape.trans h.tape,hg.output.trans h.output,Nat.le_trans h.size hg.size,fun b hb=>(hg.block b (Nat.lt_of_lt_of_le hb h.size) (fun e=>by have:=hn b e.symm;omega)).trans (h.block b hb)⟩
theorem B14[Lay α]{xs:List α}(h:BD W B v xs):∀g,v.ownBlock=some g->B<=g:=fun g hg=>by
 rcases h with⟨rfl,_⟩|⟨g',cap,rfl,hB,_⟩
 .simp[Value.ownBlock]at hg
 .simp only[Value.ownBlock,Option.some.injEq]at hg;omega
theorem kR(p:Pw)(k:Nat)(W:World)(hx:WX W k p):Calls prog 115 #[wP k] W fun e w'=>∃v,e=.returned v/\BD w' W.heap.size v ((F5 p.s).map fun i:Nat=>(i:Int))/\B0 W w':=by
 obtain⟨t,ht⟩:=hx.sl;have HT:=AA ht;have IX:=AA (fun(m:Nat) (hm:m<3) (u:World)=>C24 (fun i=>svP i (p.s i)) t m hm u);obtain⟨i0,hi0,hz0,hz1,hz2⟩:=xE;clear hx ht;unfold wP;go_enter func115,ntmps115;go_wp2_with (refine nY rfl _ rfl k (fun i=>svP i (p.s i)) t rfl (A8 HT) ?_);clear HT
 go_loopg [3,10] 3 (fun kx s3 s10 wr=>∃j:Nat,∃a c,s10=I0 j/\s3=.slice a (vot p.s j).length c/\j<=3/\3-j<=kx/\Hid (BD wr W.heap.size (.slice a (vot p.s j).length c) (vot p.s j)/\B0 W wr))
 case atStart=>exact⟨0,none,0,rfl,rfl,by omega,Nat.le_refl _,AA ⟨.inl ⟨rfl,rfl⟩,Below.refl _ _⟩⟩
 case round=>
  obtain⟨j,a,c,rfl,rfl,hj,hg,HI⟩:=hrel;by_cases hlt:j<3
  .have IXm:=A8 IX j hlt;have hl:=C30 p.s j;have hjj:(j:Int)<3:=by omega
   have eu:=BK2 j (p.s j);unfold tJ at IXm;generalize svP j (p.s j)=s0 at*;generalize t j=tj at*;obtain⟨up,fs,id,ep,ts,dn,tr,ws⟩:=s0;simp only at eu IXm;subst eu;by_cases hu:(p.s j).up=true
   .have HS:=AA (C29 hlt hu);rw[hu]at IXm;clear hu;go_upto_region 5 with fail;have B2:=AA (AL (A8 HI).2 (AB wr (.cells #[.bool true,.slice tj.ad tj.nd tj.cd,I0 id,I0 ep,.slice tj.al ts.length tj.cl,I0 dn,I0 tr.z,.slice tj.an tr.ns.length tj.cn,.slice tj.ai tr.ss.length tj.ci,.slice tj.aw ws.length tj.cw] 43)));have O2:=AA ((A8 HI).1.next (AB wr (.cells #[.bool true,.slice tj.ad tj.nd tj.cd,I0 id,I0 ep,.slice tj.al ts.length tj.cl,I0 dn,I0 tr.z,.slice tj.an tr.ns.length tj.cn,.slice tj.ai tr.ss.length tj.ci,.slice tj.aw ws.length tj.cw] 43)));have E2:=(heap_alloc_new wr (.cells #[.bool true,.slice tj.ad tj.nd tj.cd,I0 id,I0 ep,.slice tj.al ts.length tj.cl,I0 dn,I0 tr.z,.slice tj.an tr.ns.length tj.cn,.slice tj.ai tr.ss.length tj.ci,.slice tj.aw ws.length tj.cw] 43));generalize wr.alloc _=W2 at*;have e0:W2.cell? ⟨wr.heap.size,0,none⟩=some (.bool true):=by simp[World.cell?,E2]
    clear HI IXm IX E2;have O3:=AA (fun O=>(A8 O2).next (AB W2 O));have S3:=AA (fun O=>Nat.le_trans (A8 B2).size (AB W2 O).size);go_wp2_with (at_builtin;refine gX rfl _ _ 38 rfl i0 _ 8 underlying38 hi0 hz0 hz1 hz2 rfl (by decide) _ (vot p.s j) rfl W.heap.size (A8 O3 _) W2.heap.size rfl (j:Int) (mW W2 j) (by omega) (by simp only[maxLen];omega) (A8 S3 _) ?_);intro a8 c8 w8 ho8 hg8;have HO:=AA ho8;have HB:=AA (gY (AL (A8 B2) (AB W2 _)) hg8 (B14 (A8 O2)));clear ho8 hg8 O3 S3 B2 O2;go_wp2_with fail
    go_roundg (3-(j+1))
    case measure=>omega
    case rel=>exact⟨j+1,a8,c8,by simp,by rw[A8 HS,List.length_append];rfl,by omega,Nat.le_refl _,AA ⟨by rw[A8 HS,List.length_append];exact A8 HO,A8 HB⟩⟩
   .have HS:=AA (CG3 hlt (by simpa using hu));rw[show (p.s j).up=false by simpa using hu]at IXm;clear hu;go_upto_region 5 with fail;have B2:=AA (AL (A8 HI).2 (AB wr (.cells #[.bool false,.slice tj.ad tj.nd tj.cd,I0 id,I0 ep,.slice tj.al ts.length tj.cl,I0 dn,I0 tr.z,.slice tj.an tr.ns.length tj.cn,.slice tj.ai tr.ss.length tj.ci,.slice tj.aw ws.length tj.cw] 43)));have O2:=AA ((A8 HI).1.next (AB wr (.cells #[.bool false,.slice tj.ad tj.nd tj.cd,I0 id,I0 ep,.slice tj.al ts.length tj.cl,I0 dn,I0 tr.z,.slice tj.an tr.ns.length tj.cn,.slice tj.ai tr.ss.length tj.ci,.slice tj.aw ws.length tj.cw] 43)));have E2:=(heap_alloc_new wr (.cells #[.bool false,.slice tj.ad tj.nd tj.cd,I0 id,I0 ep,.slice tj.al ts.length tj.cl,I0 dn,I0 tr.z,.slice tj.an tr.ns.length tj.cn,.slice tj.ai tr.ss.length tj.ci,.slice tj.aw ws.length tj.cw] 43));generalize wr.alloc _=W2 at*;have e0:W2.cell? ⟨wr.heap.size,0,none⟩=some (.bool false):=by simp[World.cell?,E2]
    clear HI IXm IX E2;go_wp2_with fail
    go_roundg (3-(j+1))
    case measure=>omega
    case rel=>exact⟨j+1,a,c,by simp,by rw[A8 HS],by omega,Nat.le_refl _,AA ⟨by rw[A8 HS];exact A8 O2,A8 B2⟩⟩
  .obtain rfl:j=3:=by omega
   go_wp2_with fail;go_ret;exact⟨_,rfl,by rw[<-C31];exact(A8 HI).1,(A8 HI).2⟩
theorem WX.sl2(h:WX W k p):∃t:Nat->Sl,∀i,i<3->Srv W k (1+10*i) (svP i (p.s i)).up (svP i (p.s i)).id (svP i (p.s i)).ep (svP i (p.s i)).dn (svP i (p.s i)).tr.z (.slice (t i).ad (t i).nd (t i).cd) (.slice (t i).al (svP i (p.s i)).ts.length (t i).cl) (.slice (t i).an (svP i (p.s i)).tr.ns.length (t i).cn) (.slice (t i).ai (svP i (p.s i)).tr.ss.length (t i).ci) (.slice (t i).aw (svP i (p.s i)).ws.length (t i).cw)/\J8 W (.slice (t i).al (svP i (p.s i)).ts.length (t i).cl) (svP i (p.s i)).ts:=by
 have e:∀i,∃t:Sl,i<3->Srv W k (1+10*i) (svP i (p.s i)).up (svP i (p.s i)).id (svP i (p.s i)).ep (svP i (p.s i)).dn (svP i (p.s i)).tr.z (.slice t.ad t.nd t.cd) (.slice t.al (svP i (p.s i)).ts.length t.cl) (.slice t.an (svP i (p.s i)).tr.ns.length t.cn) (.slice t.ai (svP i (p.s i)).tr.ss.length t.ci) (.slice t.aw (svP i (p.s i)).ws.length t.cw)/\J8 W (.slice t.al (svP i (p.s i)).ts.length t.cl) (svP i (p.s i)).ts:=fun i=>by
  by_cases hi:i<3
  .obtain⟨ad,nd,cd,al,cl,an,cn,ai,ci,aw,cw,S,hv,_⟩:=h.srv hi rfl;obtain⟨vd,vl,vn,vs,vw,e,_,r2,_⟩:=hv;simp only[Value.agg.injEq,Array.mk.injEq,List.cons.injEq]at e;exact⟨⟨ad,nd,cd,al,cl,an,cn,ai,ci,aw,cw⟩,fun _=>⟨S,by rw[<-e.2.2.2.2.1]at r2;exact r2⟩⟩
  .exact⟨⟨none,0,0,none,0,none,0,none,0,none,0⟩,fun h=>absurd h hi⟩
 exact⟨fun i=>(e i).choose,fun i hi=>(e i).choose_spec hi⟩
noncomputable def peP(p:Pw)(t:Nat->Sl)(i:Nat):Pe:=⟨(svP i (p.s i)).id,(svP i (p.s i)).ep,(t i).al,(t i).cl,(svP i (p.s i)).ts,(svP i (p.s i)).dn⟩
theorem B15(w:World)(i e:Int)(a:Option Addr)(c:Nat)(ts:List AQ)(d:Int):EW (w.alloc (.cells #[I0 i,I0 e,.slice a ts.length c,I0 d] 36)) w.heap.size (⟨i,e,a,c,ts,d⟩:Pe):=heap_alloc_new w _
theorem CG4{t:Nat->Sl}(h:(p.s i).up=true):kk (peP p t i)=((i:Int),(p.s i).e,DU (p.s i).m):=by
 simp only[kk,peP,D8 h]
theorem kS(p:Pw)(k:Nat)(W:World)(v:Value)(l:List Nat)(hx:WX W k p)(hv:BQ W v (l.map fun i:Nat=>(i:Int)))(hl:∀i∈l,i<3)(hln:l.length<=3):
  Calls prog 117 #[wP k,v] W fun e w'=>∃u t,e=.returned u/\BD w' W.heap.size u (l.map (peP p t))/\nH w' (l.map (peP p t))/\B0 W w':=by
 obtain⟨t,ht⟩:=hx.sl2;have HT:=AA ht;have HV:=AA hv;have HL:=AA hl;have hkl:=hx.lt;obtain⟨i0,hi0,hz0,hz1,hz2⟩:=CP4;obtain⟨a,c,rfl⟩:=AU hv;rw[List.length_map]at HV⊢;clear hx ht hv hl;unfold wP;go_enter func117,ntmps117;go_wp2_with fail
 go_loopg [5,10] l.length (fun kx s5 s10 wr=>∃j:Nat,∃a c,s10=I0 j/\s5=.slice a j c/\j<=l.length/\l.length-j<=kx/\Hid (BD wr W.heap.size (.slice a j c) ((l.take j).map (peP p t))/\B0 W wr))
 case atStart=>exact⟨0,none,0,rfl,rfl,by omega,Nat.le_refl _,AA ⟨.inl ⟨rfl,rfl⟩,Below.refl _ _⟩⟩
 case round=>
  obtain⟨j,a2,c2,rfl,rfl,hj,hg,HI⟩:=hrel;by_cases hlt:j<l.length
  .obtain⟨i,hi⟩:∃i,l[j]?=some i:=⟨_,List.getElem?_eq_getElem hlt⟩;have hi3:=A8 HL i (List.mem_of_getElem? hi);have HS:=AA (show (l.take (j+1)).map (peP p t)=(l.take j).map (peP p t)++[peP p t i] by rw[MC hi,List.map_append];rfl);have hlj:((l.take j).map (peP p t)).length=j:=by simp;omega
   obtain⟨b,off,cap,he,hb,hrow,_,_⟩:=J7 ((A8 HV).next (A8 HI).2) (by intro h0;rw[List.map_eq_nil_iff]at h0;rw[h0]at hlt;simp at hlt);simp only[List.length_map,Value.slice.injEq]at he;obtain⟨rfl,_,rfl⟩:=he;have d0:=hrow.i0 (i:=j) (x:=(i:Int)) (by rw[List.getElem?_map,hi];rfl);obtain⟨_,_,e2,e3,e4,e5,_⟩:=(A8 HT i hi3).1.next hkl (A8 HI).2;rw[Nat.mul_comm 10 i]at e2 e3 e4 e5;have hjj:(j:Int)<(l.length:Int):=by omega
   have hi4:(i:Int)<3:=by omega
   have B2:=AA (A8 HI).2;have O2:=AA (A8 HI).1;clear HI hrow hi HV;generalize hs0:svP i (p.s i)=s0 at*;have HP:Hid (peP p t i=⟨s0.id,s0.ep,(t i).al,(t i).cl,s0.ts,s0.dn⟩):=AA (by rw[peP,hs0]);clear hs0;have O3:=AA (fun O=>(A8 O2).next (AB wr O));have S3:=AA (fun O=>Nat.le_trans (A8 B2).size (AB wr O).size);go_wp2_with (at_builtin;refine gX rfl _ _ 194 rfl i0 _ 48 underlying194 hi0 hz0 hz1 hz2 rfl (by decide) _ ((l.take j).map (peP p t)) rfl W.heap.size (A8 O3 _) wr.heap.size rfl (⟨s0.id,s0.ep,(t i).al,(t i).cl,s0.ts,s0.dn⟩:Pe) (B15 wr _ _ _ _ _ _) (by rw[hlj];omega) (by rw[hlj];simp only[maxLen];omega) (A8 S3 _) ?_);intro a8 c8 w8 ho8 hg8;have HO:=AA ho8;have HB:=AA (gY (AL (A8 B2) (AB wr _)) hg8 (B14 (A8 O2)));clear ho8 hg8 O3 S3 B2 O2;go_wp2_with fail
   go_roundg (l.length-(j+1))
   case measure=>omega
   case rel=>exact⟨j+1,a8,c8,by simp,rfl,by omega,Nat.le_refl _,AA ⟨by rw[A8 HS,A8 HP,List.map_take];exact A8 HO,A8 HB⟩⟩
  .obtain rfl:j=l.length:=by omega
   rw[List.take_length]at HI;go_wp2_with fail;go_ret;exact⟨_,t,rfl,(A8 HI).1,fun q hq=>by
    obtain⟨i,hi,rfl⟩:=List.mem_map.1 hq;exact((A8 HT i (A8 HL i hi)).2).next (A8 HI).2,(A8 HI).2⟩
