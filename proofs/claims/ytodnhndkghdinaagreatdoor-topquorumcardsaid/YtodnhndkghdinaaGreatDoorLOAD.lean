/-
  Part.
-/
import Derived.Test.YtodnhndkghdinaaGreatDoorLOAB
import Derived.Test.YtodnhndkghdinaaGreatDoorLOAC
set_option maxRecDepth 20000
set_option maxHeartbeats 8000000
namespace Go.Proofs.YtodnhndkghdinaaGreatDoor
open Go.RowKit Go.Proofs.Tryz
variable{F:Nat→Prop}{g q k o j i:Nat}{W V w w':World}{v:Value}{s:Sv}{r:Nat→Int}{p:Pw}{e:Ending}{E:Int}{d:Dd}
def WB(W:World)(k:Nat)(f:Nat→Value):Prop:=∃c:Array Value,W.heap[k]?=some (.cells c 78 (0,0))∧c.size=83∧∀j,j<83→c[j]?=some (f j)
section
variable {W V:World} {k j:Nat} {f:Nat→Value}
theorem WB.lt(h:WB W k f):k<W.heap.size:=by
 obtain⟨c,h1,_⟩:=h;exact(Array.getElem?_eq_some_iff.1 h1).1
theorem WB.cell(h:WB W k f)(hj:j<83):W.cell? ⟨k,j,none⟩=some (f j):=by
 obtain⟨c,h1,_,h3⟩:=h;simp[World.cell?,h1,h3 j hj]
theorem WB.AX(h:WB W k f)(j:Nat):W.frozen? ⟨k,j,none⟩=false:=by
 obtain⟨c,h1,_⟩:=h;simp[World.frozen?,h1]
theorem WB.touch(h:WB W k f)(ht:Touch F W V)(hk:¬F k):WB V k f:=by
 obtain⟨c,h1,h2,h3⟩:=h;exact⟨c,(ht.block k (Array.getElem?_eq_some_iff.1 h1).1 hk).trans h1,h2,h3⟩
theorem WB.next(h:WB W k f)(hb:B0 W V):WB V k f:=h.touch (F:=fun _=>False) (Touch.of_below hb) id
theorem WB.set(h:WB W k f)(hj:j<83)(v:Value):WB (W.setCell ⟨k,j,none⟩ v) k (H6 f j v):=by
 obtain⟨c,h1,h2,h3⟩:=h;refine⟨c.setIfInBounds j v,AV v h1,by simp[h2],fun i hi=>?_⟩;rw[Array.getElem?_setIfInBounds];by_cases e:j=i
 ·subst e;simp[h2,hj,BQ]
 ·rw[if_neg e,AP _ _ (fun h=>e h.symm)];exact h3 i hi
theorem WB.of_eq{g:Nat→Value}(h:WB W k f)(he:∀j,j<83→f j=g j):WB W k g:=by
 obtain⟨c,h1,h2,h3⟩:=h;exact⟨c,h1,h2,fun j hj=>by rw[h3 j hj,he j hj]⟩
theorem WB.ZW(h:WB W k f)(hs:∀j,j<83→∀s,f j≠ .string s):YC W k:=by
 obtain⟨c,h1,h2,h3⟩:=h;refine⟨c,_,h1,fun j s hj=>?_⟩;have hlt:=(Array.getElem?_eq_some_iff.1 hj).1;rw[h3 j (by omega)]at hj;exact hs j (by omega) s (Option.some.inj hj)
end
def Row{α:Type}[Lay α](W:World)(k:Nat)(v:Value)(xs:List α):Prop:=BZ W v xs∧(xs≠[]→QH v k)
section
variable {α:Type} [Lay α] {W V:World} {k:Nat} {v:Value} {xs:List α}
theorem Row.next(h:Row W k v xs)(hb:B0 W V):Row V k v xs:=⟨h.1.next hb,h.2⟩
theorem Row.touch(h:Row W k v xs)(ht:Touch (· =k) W V):Row V k v xs:=by
 refine⟨?_,h.2⟩;rcases h.1 with h1|⟨b,off,cap,rfl,h1,h2,h3,h0,h4⟩
 ·exact .inl h1
 ·refine .inr ⟨b,off,cap,rfl,h1,h2,Nat.lt_of_lt_of_le h3 ht.size,h0,fun i v hi=>?_⟩;have hb:b≠k:=h.2 h0 b off _ cap rfl;rw[World.cell?,ht.block b h3 hb];exact h4 i v hi
theorem Row.new(h:BZ W v xs)(hk:W.heap.size≤k):Row W k v xs:=by
 refine⟨h,fun h0 b off n c e=>?_⟩;rcases h with⟨a,cap,_,e0,_⟩|⟨b',off',cap,rfl,_,_,h3,_,_⟩
 ·exact absurd e0 h0
 ·simp only[Value.slice.injEq,Option.some.injEq,Addr.mk.injEq]at e;omega
theorem Row.own{B:Nat}(h:BF W B v xs)(hk:k<B):Row W k v xs:=⟨h.seq,fun _=>UL h hk⟩
theorem Row.slice(h:Row W k v xs):∃a c,v=.slice a xs.length c:=AU h.1
theorem Row.nil(W:World)(k:Nat)(c:Nat)(hc:c≤maxLen)(a:Option Addr):Row W k (.slice a 0 c) ([]:List α):=⟨.inl ⟨a,c,rfl,rfl,hc⟩,fun h=>absurd rfl h⟩
theorem U0(hq:q<Lay.k α)(ht:∀x:α,∃s,(Lay.cs x)[q]?=some (Value.string s))(h:BZ W v xs)(hk:YC W k):Row W k v xs:=by
 refine⟨h,fun h0 b off n c e=>?_⟩;rcases h with⟨a,cap,_,e0,_⟩|⟨b',off',cap,rfl,_,_,h3,_,h4⟩
 ·exact absurd e0 h0
 ·simp only[Value.slice.injEq,Option.some.injEq,Addr.mk.injEq]at e;rintro rfl;obtain⟨x,r,rfl⟩:=List.exists_cons_of_ne_nil h0;obtain⟨s,hs⟩:=ht x;have:=h4 (0*Lay.k α+q) _ ((AZ (x::r) 0 x rfl q hq).trans hs);rw[e.1.1]at this;exact hk.no this
end
theorem A36{xs:List DF}(h:C9 W v xs)(hk:YC W k):Row W k v xs:=U0 (q:=0) (by decide) (fun x=>⟨_,rfl⟩) (NG.2 h) hk
theorem fF{xs:List AQ}(h:J5 W v xs)(hk:YC W k):Row W k v xs:=U0 (q:=3) (by decide) (fun x=>⟨_,rfl⟩) (JH.2 h) hk
theorem rV{xs:List Nd}(h:BZ W v xs)(hk:YC W k):Row W k v xs:=U0 (q:=0) (by decide) (fun x=>⟨_,rfl⟩) h hk
theorem QX{xs:List Wa}(h:BZ W v xs)(hk:YC W k):Row W k v xs:=U0 (q:=2) (by decide) (fun x=>⟨_,rfl⟩) h hk
theorem XW{xs:List En}(h:BZ W v xs)(hk:YC W k):Row W k v xs:=U0 (q:=0) (by decide) (fun x=>⟨_,rfl⟩) h hk
structure SvA(W:World)(k:Nat)(g:Nat→Value)(s:Sv):Prop where
 up:g 0=.bool s.up
 d:Row W k (g 1) s.fs
 id:g 2=I0 s.id
 ep:g 3=I0 s.ep
 l:Row W k (g 4) s.ts
 dn:g 5=I0 s.dn
 z:g 6=I0 s.tr.z
 n:Row W k (g 7) s.tr.ns
 i:Row W k (g 8) s.tr.ss
 w:Row W k (g 9) s.ws
section
variable {W V:World} {k:Nat} {g:Nat→Value} {s:Sv}
theorem SvA.next(h:SvA W k g s)(hb:B0 W V):SvA V k g s:=⟨h.up,h.d.next hb,h.id,h.ep,h.l.next hb,h.dn,h.z,h.n.next hb,h.i.next hb,h.w.next hb⟩
theorem SvA.touch(h:SvA W k g s)(ht:Touch (· =k) W V):SvA V k g s:=⟨h.up,h.d.touch ht,h.id,h.ep,h.l.touch ht,h.dn,h.z,h.n.touch ht,h.i.touch ht,h.w.touch ht⟩
theorem SvA.val(h:SvA W k g s):SvV W (.agg #[g 0,g 1,g 2,g 3,g 4,g 5,g 6,g 7,g 8,g 9]) s:=by
 rw[h.up,h.id,h.ep,h.dn,h.z];exact⟨_,_,_,_,_,rfl,NG.1 h.d.1,JH.1 h.l.1,h.n.1,h.i.1,h.w.1⟩
theorem SvA.moved(h:SvA W k g s)(hq:W.heap.size≤q):SvA W q g s:=⟨h.up,Row.new h.d.1 hq,h.id,h.ep,Row.new h.l.1 hq,h.dn,h.z,Row.new h.n.1 hq,Row.new h.i.1 hq,Row.new h.w.1 hq⟩
theorem SvA.cellP{P:Value→Prop}(hb:∀b,P (.bool b))(hn:∀n,P (I0 n))(hs:∀a n c,P (.slice a n c))(h:SvA W k g s)(j:Nat)(hj:j<10):P (g j):=by
 have r:∀ {α:Type} [Lay α] {v:Value} {xs:List α},Row W k v xs→P v:=fun h=>by obtain⟨a,c,e⟩:=h.slice;rw[e];exact hs _ _ _
 rcases(show j=0∨j=1∨j=2∨j=3∨j=4∨j=5∨j=6∨j=7∨j=8∨j=9 by omega)with rfl|rfl|rfl|rfl|rfl|rfl|rfl|rfl|rfl|rfl
 ·rw[h.up];exact hb _
 ·exact r h.d
 ·rw[h.id];exact hn _
 ·rw[h.ep];exact hn _
 ·exact r h.l
 ·rw[h.dn];exact hn _
 ·rw[h.z];exact hn _
 ·exact r h.n
 ·exact r h.i
 ·exact r h.w
theorem SvA.of{vd vl vn vs vw:Value}(hk:YC W k)(hv:SvV W (.agg #[.bool s.up,vd,I0 s.id,I0 s.ep,vl,I0 s.dn,I0 s.tr.z,vn,vs,vw]) s)(hs:s.tr.ss≠[]→QH vs k)
  (h0:g 0=.bool s.up) (h1:g 1=vd) (h2:g 2=I0 s.id) (h3:g 3=I0 s.ep) (h4:g 4=vl) (h5:g 5=I0 s.dn) (h6:g 6=I0 s.tr.z) (h7:g 7=vn) (h8:g 8=vs) (h9:g 9=vw):SvA W k g s:=by
 obtain⟨vd',vl',vn',vs',vw',e,r1,r2,r3,r4,r5⟩:=hv;simp only[Value.agg.injEq,Array.mk.injEq,List.cons.injEq,true_and,and_true]at e;obtain⟨rfl,rfl,rfl,rfl,rfl⟩:=e;exact⟨h0,by rw[h1];exact A36 r1 hk,h2,h3,by rw[h4];exact fF r2 hk,h5,h6,by rw[h7];exact rV r3 hk,by rw[h8];exact⟨r4,hs⟩,by rw[h9];exact QX r5 hk⟩
end
structure ClA(W:World)(k:Nat)(g:Nat→Value)(c:Cl):Prop where
 s:g 0=I0 c.s
 z:g 1=I0 c.z
 e:Row W k (g 2) c.es
structure WdR(W:World)(k:Nat)(f:Nat→Value)(p:Pw):Prop where
 n:f 0=I0 p.n
 s:∀i,i<3→SvA W k (fun q=>f (1+10*i+q)) (svP i (p.s i))
 r:∀i,i<3→f (31+i)=I0 (p.r i)
 c:∀i,i<16→ClA W k (fun q=>f (34+3*i+q)) (p.c i)
 d:Row W k (f 82) p.D
 h:∀i,i<3→(svP i (p.s i)).tr.ss≠[]→∀b,b≤p.h→QH (f (1+10*i+8)) b
 hk:p.h≤k
def WX(W:World)(k:Nat)(p:Pw):Prop:=∃f,WB W k f∧WdR W k f p
section
variable {W V:World} {k:Nat} {f:Nat→Value} {p:Pw}
theorem WdR.next(h:WdR W k f p)(hb:B0 W V):WdR V k f p:=
 ⟨h.n,fun i hi=>(h.s i hi).next hb,h.r,fun i hi=>⟨(h.c i hi).s,(h.c i hi).z,(h.c i hi).e.next hb⟩,h.d.next hb,h.h,h.hk⟩
theorem WdR.touch(h:WdR W k f p)(ht:Touch (· =k) W V):WdR V k f p:=
 ⟨h.n,fun i hi=>(h.s i hi).touch ht,h.r,fun i hi=>⟨(h.c i hi).s,(h.c i hi).z,(h.c i hi).e.touch ht⟩,h.d.touch ht,h.h,h.hk⟩
theorem WdR.moved(h:WdR W k f p)(hq:W.heap.size≤q)(hk:p.h≤q):WdR W q f p:=
 ⟨h.n,fun i hi=>(h.s i hi).moved hq,h.r,fun i hi=>⟨(h.c i hi).s,(h.c i hi).z,Row.new (h.c i hi).e.1 hq⟩,Row.new h.d.1 hq,h.h,hk⟩
theorem WX.next(h:WX W k p)(hb:B0 W V):WX V k p:=by
 obtain⟨f,h1,h2⟩:=h;exact⟨f,h1.next hb,h2.next hb⟩
theorem WX.lt(h:WX W k p):k<W.heap.size:=by
 obtain⟨f,h1,_⟩:=h;exact h1.lt
theorem WdR.cellP{P:Value→Prop}(hb:∀b,P (.bool b))(hn:∀n,P (I0 n))(hs:∀a n c,P (.slice a n c))(h:WdR W k f p)(j:Nat)(hj:j<83):P (f j):=by
 by_cases h0:j=0
 ·subst h0;rw[h.n];exact hn _
 ·by_cases h1:j<31
  ·have:=(h.s ((j-1)/10) (by omega)).cellP hb hn hs ((j-1)%10) (by omega);simp only[show 1+10*((j-1)/10)+(j-1)%10=j by omega]at this;exact this
  ·by_cases h2:j<34
   ·have:=h.r (j-31) (by omega);rw[show 31+(j-31)=j by omega]at this;rw[this];exact hn _
   ·by_cases h3:j<82
    ·have hc:=h.c ((j-34)/3) (by omega);have e0:34+3*((j-34)/3)+(j-34)%3=j:=by omega
     rcases(show (j-34)%3=0∨(j-34)%3=1∨(j-34)%3=2 by omega)with e|e|e
     ·have:=hc.s;simp only[←e,e0]at this;rw[this];exact hn _
     ·have:=hc.z;simp only[←e,e0]at this;rw[this];exact hn _
     ·obtain⟨a,c,e'⟩:=hc.e.slice;simp only[←e,e0]at e';rw[e'];exact hs _ _ _
    ·obtain rfl:j=82:=by omega
     obtain⟨a,c,e'⟩:=h.d.slice;rw[e'];exact hs _ _ _
theorem WdR.text(h:WdR W k f p)(j:Nat)(hj:j<83)(t:ByteArray):f j≠ .string t:=h.cellP (P:=(· ≠ .string t)) (fun _ e=>by cases e) (fun _ e=>by cases e) (fun _ _ _ e=>by cases e) j hj
theorem WdR.ZW(h:WdR W k f p)(hb:WB W k f):YC W k:=hb.ZW h.text
end
def C32(x0 x1 x2 x3 x4 x5 x6 x7 x8 x9:Value):Nat→Value
 |0=>x0|1=>x1|2=>x2|3=>x3|4=>x4|5=>x5|6=>x6|7=>x7|8=>x8|_=>x9
def AW6(x0 x1 x2:Value):Nat→Value
 |0=>x0|1=>x1|_=>x2
def B33(f:Nat→Value)(o n:Nat)(g:Nat→Value):Nat→Value:=fun j=>if o≤j∧j<o+n then g (j-o)else f j
theorem JJ{f g:Nat→Value}{n:Nat}(h:q<n):B33 f o n g (o+q)=g q:=by
 rw[B33,if_pos ⟨by omega,by omega⟩]
 congr 1
 omega
theorem EI{f g:Nat→Value}{n:Nat}(h:j<o∨o+n≤j):B33 f o n g j=f j:=by rw[B33,if_neg (by omega)]
def tV(W:World)(k o:Nat)(x0 x1 x2 x3 x4 x5 x6 x7 x8 x9:Value):World:=
 (((((((((W.setCell ⟨k,o,none⟩ x0).setCell ⟨k,o+1,none⟩ x1).setCell ⟨k,o+2,none⟩ x2).setCell ⟨k,o+3,none⟩ x3).setCell ⟨k,o+4,none⟩ x4).setCell ⟨k,o+5,none⟩ x5).setCell ⟨k,o+6,none⟩ x6).setCell ⟨k,o+7,none⟩ x7).setCell ⟨k,o+8,none⟩ x8).setCell ⟨k,o+9,none⟩ x9
def mG(W:World)(k o:Nat)(x0 x1 x2:Value):World:=((W.setCell ⟨k,o,none⟩ x0).setCell ⟨k,o+1,none⟩ x1).setCell ⟨k,o+2,none⟩ x2
section
variable {W:World} {k:Nat} {f:Nat→Value} {p:Pw}
theorem ES(W:World)(k j:Nat)(v:Value):Touch (· =k) W (W.setCell ⟨k,j,none⟩ v):=Touch.set (F:=(· =k)) (a:=⟨k,j,none⟩) rfl v
theorem U1(W:World)(k o:Nat)(x0 x1 x2 x3 x4 x5 x6 x7 x8 x9:Value):Touch (· =k) W (tV W k o x0 x1 x2 x3 x4 x5 x6 x7 x8 x9):=
 (((((((((ES _ _ _ _).trans (ES _ _ _ _)).trans (ES _ _ _ _)).trans (ES _ _ _ _)).trans (ES _ _ _ _)).trans (ES _ _ _ _)).trans (ES _ _ _ _)).trans (ES _ _ _ _)).trans (ES _ _ _ _)).trans (ES _ _ _ _)
theorem OJ(W:World)(k o:Nat)(x0 x1 x2:Value):Touch (· =k) W (mG W k o x0 x1 x2):=((ES _ _ _ _).trans (ES _ _ _ _)).trans (ES _ _ _ _)
theorem WB.mG(h:WB W k f)(ho:o+3≤83)(x0 x1 x2:Value):WB (mG W k o x0 x1 x2) k (B33 f o 3 (AW6 x0 x1 x2)):=by
 refine(((h.set (j:=o) (by omega) x0).set (j:=o+1) (by omega) x1).set (j:=o+2) (by omega) x2).of_eq fun j hj=>?_;by_cases h2:j=o+2
 ·subst h2;rw[BQ,JJ (by omega)];rfl
 ·by_cases h1:j=o+1
  ·subst h1;rw[AP _ _ (by omega),BQ,JJ (by omega)];rfl
  ·by_cases h0:j=o
   ·subst h0;rw[AP _ _ (by omega),AP _ _ (by omega),BQ,show B33 f j 3 (AW6 x0 x1 x2) j=B33 f j 3 (AW6 x0 x1 x2) (j+0)from rfl,JJ (by omega)];rfl
   ·rw[AP _ _ h2,AP _ _ h1,AP _ _ h0,EI (by omega)]
theorem WB.tV(h:WB W k f)(ho:o+10≤83)(x0 x1 x2 x3 x4 x5 x6 x7 x8 x9:Value):WB (tV W k o x0 x1 x2 x3 x4 x5 x6 x7 x8 x9) k (B33 f o 10 (C32 x0 x1 x2 x3 x4 x5 x6 x7 x8 x9)):=by
 refine((((((((((h.set (j:=o) (by omega) x0).set (j:=o+1) (by omega) x1).set (j:=o+2) (by omega) x2).set (j:=o+3) (by omega) x3).set (j:=o+4) (by omega) x4).set (j:=o+5) (by omega) x5).set (j:=o+6) (by omega) x6).set (j:=o+7) (by omega) x7).set (j:=o+8) (by omega) x8).set (j:=o+9) (by omega) x9).of_eq fun j hj=>?_;by_cases hr:o≤j∧j<o+10
 ·obtain⟨q,rfl⟩:∃q,j=o+q:=⟨j-o,by omega⟩;rw[JJ (by omega)];have hq:q<10:=by omega
  rcases(show q=0∨q=1∨q=2∨q=3∨q=4∨q=5∨q=6∨q=7∨q=8∨q=9 by omega)with rfl|rfl|rfl|rfl|rfl|rfl|rfl|rfl|rfl|rfl<;>simp[H6,C32]
 ·rw[EI (by omega),AP _ _ (by omega),AP _ _ (by omega),AP _ _ (by omega),AP _ _ (by omega),AP _ _ (by omega),AP _ _ (by omega),AP _ _ (by omega),AP _ _ (by omega),AP _ _ (by omega),AP _ _ (by omega)]
theorem SvA.congr{g g':Nat→Value}(h:SvA W k g s)(he:∀q,q<10→g' q=g q):SvA W k g' s:=by
 refine⟨?_,?_,?_,?_,?_,?_,?_,?_,?_,?_⟩<;>rw[he _ (by omega)]
 ·exact h.up
 ·exact h.d
 ·exact h.id
 ·exact h.ep
 ·exact h.l
 ·exact h.dn
 ·exact h.z
 ·exact h.n
 ·exact h.i
 ·exact h.w
theorem ClA.congr{g g':Nat→Value}{c:Cl}(h:ClA W k g c)(he:∀q,q<3→g' q=g q):ClA W k g' c:=by
 refine⟨?_,?_,?_⟩<;>rw[he _ (by omega)]
 ·exact h.s
 ·exact h.z
 ·exact h.e
theorem WX.jT(h:WX W k p)(hi:i<3){q:Ps}{vd vl vn vs vw:Value}(hq:svP i q=s)(hv:SvV W (.agg #[.bool s.up,vd,I0 s.id,I0 s.ep,vl,I0 s.dn,I0 s.tr.z,vn,vs,vw]) s)(hs:s.tr.ss≠[]→∀b,b≤k→QH vs b):
  WX (tV W k (1+10*i) (.bool s.up) vd (I0 s.id) (I0 s.ep) vl (I0 s.dn) (I0 s.tr.z) vn vs vw) k ⟨p.n,H6 p.s i q,p.r,p.c,p.D,p.H,p.h⟩:=by
 obtain⟨f,hb,hr⟩:=h;refine⟨_,hb.tV (o:=1+10*i) (by omega) _ _ _ _ _ _ _ _ _ _,WdR.touch (W:=W) ?_ (U1 _ _ _ _ _ _ _ _ _ _ _ _ _)⟩;have hA:SvA W k (C32 (.bool s.up) vd (I0 s.id) (I0 s.ep) vl (I0 s.dn) (I0 s.tr.z) vn vs vw) s:=SvA.of (hr.ZW hb) hv (fun h=>hs h k (Nat.le_refl k)) rfl rfl rfl rfl rfl rfl rfl rfl rfl rfl;refine⟨by rw[EI (by omega)];exact hr.n,fun j hj=>?_,fun j hj=>by rw[EI (by omega)];exact hr.r j hj,fun j hj=>(hr.c j hj).congr fun q hq=>by rw[EI (by omega)],by rw[EI (by omega)];exact hr.d,fun j hj h0=>?_,hr.hk⟩
 ·by_cases e:j=i
  ·subst e;simp only[BQ,hq];exact hA.congr fun q hq=>by rw[JJ hq]
  ·simp only[AP _ _ e];exact(hr.s j hj).congr fun q hq=>by rw[EI (by omega)]
 ·by_cases e:j=i
  ·subst e;simp only[BQ,hq]at h0;rw[JJ (by omega)];exact fun b hb=>hs h0 b (Nat.le_trans hb hr.hk)
  ·simp only[AP _ _ e]at h0;rw[EI (by omega)];exact hr.h j hj h0
theorem WX.QY(h:WX W k p)(hi:i<3)(v:Int):WX (W.setCell ⟨k,31+i,none⟩ (I0 v)) k ⟨p.n,p.s,H6 p.r i v,p.c,p.D,p.H,p.h⟩:=by
 obtain⟨f,hb,hr⟩:=h;refine⟨_,hb.set (j:=31+i) (by omega) _,WdR.touch (W:=W) ?_ (ES _ _ _ _)⟩;refine⟨by rw[AP _ _ (by omega)];exact hr.n,fun j hj=>(hr.s j hj).congr fun q hq=>by rw[AP _ _ (by omega)],fun j hj=>?_,fun j hj=>(hr.c j hj).congr fun q hq=>by rw[AP _ _ (by omega)],by rw[AP _ _ (by omega)];exact hr.d,fun j hj h0=>by rw[AP _ _ (by omega)];exact hr.h j hj h0,hr.hk⟩;by_cases e:j=i
 ·subst e;rw[BQ];simp only[BQ]
 ·rw[AP _ _ (by omega)];simp only[AP _ _ e];exact hr.r j hj
theorem WX.A37(h:WX W k p)(he:∀i,i<3→p.r i=r i):WX W k ⟨p.n,p.s,r,p.c,p.D,p.H,p.h⟩:=by
 obtain⟨f,hb,hr⟩:=h;exact⟨f,hb,hr.n,hr.s,fun i hi=>by rw[hr.r i hi,he i hi],hr.c,hr.d,hr.h,hr.hk⟩
theorem WX.clear(h:WX W k p):WX (mG W k 31 (I0 0) (I0 0) (I0 0)) k ⟨p.n,p.s,fun _=>0,p.c,p.D,p.H,p.h⟩:=by
 have h1:=((h.QY (i:=0) (by omega) 0).QY (i:=1) (by omega) 0).QY (i:=2) (by omega) 0;have h2:WX (mG W k 31 (I0 0) (I0 0) (I0 0)) k ⟨p.n,p.s,H6 (H6 (H6 p.r 0 0) 1 0) 2 0,p.c,p.D,p.H,p.h⟩:=h1;refine h2.A37 fun i hi=>?_;rcases(show i=0∨i=1∨i=2 by omega)with rfl|rfl|rfl<;>simp[H6]
theorem WX.A38(h:WX W k p)(n:Int):WX (W.setCell ⟨k,0,none⟩ (I0 n)) k ⟨n,p.s,p.r,p.c,p.D,p.H,p.h⟩:=by
 obtain⟨f,hb,hr⟩:=h;refine⟨_,hb.set (j:=0) (by omega) _,WdR.touch (W:=W) ?_ (ES _ _ _ _)⟩;exact⟨by rw[BQ],fun j hj=>(hr.s j hj).congr fun q hq=>by rw[AP _ _ (by omega)],fun j hj=>by rw[AP _ _ (by omega)];exact hr.r j hj,fun j hj=>(hr.c j hj).congr fun q hq=>by rw[AP _ _ (by omega)],by rw[AP _ _ (by omega)];exact hr.d,fun j hj h0=>by rw[AP _ _ (by omega)];exact hr.h j hj h0,hr.hk⟩
theorem WX.BF1(h:WX W k p)(hi:i<16){c:Cl}(hv:BZ W v c.es):WX (mG W k (34+3*i) (I0 c.s) (I0 c.z) v) k ⟨p.n,p.s,p.r,H6 p.c i c,p.D,p.H,p.h⟩:=by
 obtain⟨f,hb,hr⟩:=h;refine⟨_,hb.mG (o:=34+3*i) (by omega) _ _ _,WdR.touch (W:=W) ?_ (OJ _ _ _ _ _ _)⟩;refine⟨by rw[EI (by omega)];exact hr.n,fun j hj=>(hr.s j hj).congr fun q hq=>by rw[EI (by omega)],fun j hj=>by rw[EI (by omega)];exact hr.r j hj,fun j hj=>?_,by rw[EI (by omega)];exact hr.d,fun j hj h0=>by rw[EI (by omega)];exact hr.h j hj h0,hr.hk⟩;by_cases e:j=i
 ·subst e;simp only[BQ];exact ClA.congr (g:=AW6 (I0 c.s) (I0 c.z) v) ⟨rfl,rfl,XW hv (hr.ZW hb)⟩ fun q hq=>by rw[JJ hq]
 ·simp only[AP _ _ e];exact(hr.c j hj).congr fun q hq=>by rw[EI (by omega)]
theorem WX.C94(h:WX W k p){D:List AQ}(hv:BZ W v D)(H:List AQ):WX (W.setCell ⟨k,82,none⟩ v) k ⟨p.n,p.s,p.r,p.c,D,H,p.h⟩:=by
 obtain⟨f,hb,hr⟩:=h;refine⟨_,hb.set (j:=82) (by omega) _,WdR.touch (W:=W) ?_ (ES _ _ _ _)⟩;exact⟨by rw[AP _ _ (by omega)];exact hr.n,fun j hj=>(hr.s j hj).congr fun q hq=>by rw[AP _ _ (by omega)],fun j hj=>by rw[AP _ _ (by omega)];exact hr.r j hj,fun j hj=>(hr.c j hj).congr fun q hq=>by rw[AP _ _ (by omega)],by rw[BQ];exact fF (JH.1 hv) (hr.ZW hb),fun j hj h0=>by rw[AP _ _ (by omega)];exact hr.h j hj h0,hr.hk⟩
theorem WX.BN3(h:WX W k p)(hi:i<3)(hu:(p.s i).up=true){x:Ps}(hx:x=⟨(p.s i).up,(p.s i).e,(p.s i).m,(p.s i).a,(p.s i).q,(p.s i).dn,x.ws⟩)(hv:BZ W v x.ws):WX (W.setCell ⟨k,1+10*i+9,none⟩ v) k ⟨p.n,H6 p.s i x,p.r,p.c,p.D,p.H,p.h⟩:=by
 obtain⟨f,hb,hr⟩:=h;refine⟨_,hb.set (j:=1+10*i+9) (by omega) _,WdR.touch (W:=W) ?_ (ES _ _ _ _)⟩;refine⟨by rw[AP _ _ (by omega)];exact hr.n,fun j hj=>?_,fun j hj=>by rw[AP _ _ (by omega)];exact hr.r j hj,fun j hj=>(hr.c j hj).congr fun q hq=>by rw[AP _ _ (by omega)],by rw[AP _ _ (by omega)];exact hr.d,fun j hj h0=>by
  rw[AP _ _ (by omega)];refine hr.h j hj ?_;by_cases e:j=i
  ·subst e;simp only[BQ]at h0;rw[DJ (by rw[hx];exact hu)]at h0;rw[DJ hu];rw[hx]at h0;exact h0
  ·simp only[AP _ _ e]at h0;exact h0,hr.hk⟩
 by_cases e:j=i
 ·subst e;simp only[BQ];have hs:=hr.s j hj;have e1:svP j x=⟨(svP j (p.s j)).up,(svP j (p.s j)).fs,(svP j (p.s j)).id,(svP j (p.s j)).ep,(svP j (p.s j)).ts,(svP j (p.s j)).dn,(svP j (p.s j)).tr,x.ws⟩:=by
   rw[DJ hu,DJ (by rw[hx];exact hu),hx]
  rw[e1];have g:∀q,q<9→H6 f (1+10*j+9) v (1+10*j+q)=f (1+10*j+q):=fun q hq=>AP _ _ (by omega);exact⟨by rw[g 0 (by omega)];exact hs.up,by rw[g 1 (by omega)];exact hs.d,by rw[g 2 (by omega)];exact hs.id,by rw[g 3 (by omega)];exact hs.ep,by rw[g 4 (by omega)];exact hs.l,by rw[g 5 (by omega)];exact hs.dn,by rw[g 6 (by omega)];exact hs.z,by rw[g 7 (by omega)];exact hs.n,by rw[g 8 (by omega)];exact hs.i,by rw[BQ];exact QX hv (hr.ZW hb)⟩
 ·simp only[AP _ _ e];exact(hr.s j hj).congr fun q hq=>by rw[AP _ _ (by omega)]
end
structure Srv(W:World)(k o:Nat)(up:Bool)(id ep dn z:Int)(vd vl vn vs vw:Value):Prop where
 c0:W.cell? ⟨k,o,none⟩=some (.bool up)
 c1:W.cell? ⟨k,o+1,none⟩=some vd
 c2:W.cell? ⟨k,o+2,none⟩=some (I0 id)
 c3:W.cell? ⟨k,o+3,none⟩=some (I0 ep)
 c4:W.cell? ⟨k,o+4,none⟩=some vl
 c5:W.cell? ⟨k,o+5,none⟩=some (I0 dn)
 c6:W.cell? ⟨k,o+6,none⟩=some (I0 z)
 c7:W.cell? ⟨k,o+7,none⟩=some vn
 c8:W.cell? ⟨k,o+8,none⟩=some vs
 c9:W.cell? ⟨k,o+9,none⟩=some vw
theorem Srv.next{up:Bool}{id ep dn z:Int}{vd vl vn vs vw:Value}(h:Srv W k o up id ep dn z vd vl vn vs vw)(hk:k<W.heap.size)(hV:B0 W V):Srv V k o up id ep dn z vd vl vn vs vw:=by
 have e:∀j,V.cell? ⟨k,j,none⟩=W.cell? ⟨k,j,none⟩:=fun j=>by rw[World.cell?,World.cell?,hV.block k hk]
 exact⟨(e _).trans h.c0,(e _).trans h.c1,(e _).trans h.c2,(e _).trans h.c3,(e _).trans h.c4,(e _).trans h.c5,(e _).trans h.c6,(e _).trans h.c7,(e _).trans h.c8,(e _).trans h.c9⟩
theorem WX.srv(h:WX W k p)(hi:i<3)(hs:svP i (p.s i)=s):∃ad nd cd al cl an cn ai ci aw cw,
  Srv W k (1+10*i) s.up s.id s.ep s.dn s.tr.z (.slice ad nd cd) (.slice al s.ts.length cl) (.slice an s.tr.ns.length cn) (.slice ai s.tr.ss.length ci) (.slice aw s.ws.length cw)∧
  SvV W (.agg #[.bool s.up,.slice ad nd cd,I0 s.id,I0 s.ep,.slice al s.ts.length cl,I0 s.dn,I0 s.tr.z,.slice an s.tr.ns.length cn,.slice ai s.tr.ss.length ci,.slice aw s.ws.length cw]) s∧(s.tr.ss≠[]→QH (.slice ai s.tr.ss.length ci) k):=by
 obtain⟨f,hb,hr⟩:=h;have h:=hr.s i hi;rw[hs]at h;obtain⟨ad,cd,e1⟩:=h.d.slice;obtain⟨al,cl,e4⟩:=h.l.slice;obtain⟨an,cn,e7⟩:=h.n.slice;obtain⟨ai,ci,e8⟩:=h.i.slice;obtain⟨aw,cw,e9⟩:=h.w.slice;have hv:=h.val;have hw:=h.i.2;rw[e8]at hw;rw[h.up,e1,h.id,h.ep,e4,h.dn,h.z,e7,e8,e9]at hv;refine⟨ad,_,cd,al,cl,an,cn,ai,ci,aw,cw,⟨?_,?_,?_,?_,?_,?_,?_,?_,?_,?_⟩,hv,hw⟩
 ·rw[hb.cell (j:=1+10*i) (by omega)];exact congrArg some h.up
 ·rw[hb.cell (by omega)];exact congrArg some e1
 ·rw[hb.cell (by omega)];exact congrArg some h.id
 ·rw[hb.cell (by omega)];exact congrArg some h.ep
 ·rw[hb.cell (by omega)];exact congrArg some e4
 ·rw[hb.cell (by omega)];exact congrArg some h.dn
 ·rw[hb.cell (by omega)];exact congrArg some h.z
 ·rw[hb.cell (by omega)];exact congrArg some e7
 ·rw[hb.cell (by omega)];exact congrArg some e8
 ·rw[hb.cell (by omega)];exact congrArg some e9
theorem WX.role(h:WX W k p)(hi:i<3):W.cell? ⟨k,31+i,none⟩=some (I0 (p.r i)):=by
 obtain⟨f,hb,hr⟩:=h;rw[hb.cell (by omega),hr.r i hi]
theorem WX.count(h:WX W k p):W.cell? ⟨k,0,none⟩=some (I0 p.n):=by
 obtain⟨f,hb,hr⟩:=h;rw[hb.cell (by omega),hr.n]
theorem WX.AX(h:WX W k p)(j:Nat):W.frozen? ⟨k,j,none⟩=false:=by
 obtain⟨f,hb,hr⟩:=h;exact hb.AX j
theorem WX.cl(h:WX W k p)(hi:i<16):∃a c,W.cell? ⟨k,34+3*i,none⟩=some (I0 (p.c i).s)∧W.cell? ⟨k,34+3*i+1,none⟩=some (I0 (p.c i).z)∧W.cell? ⟨k,34+3*i+2,none⟩=some (.slice a (p.c i).es.length c)∧BZ W (.slice a (p.c i).es.length c) (p.c i).es:=by
 obtain⟨f,hb,hr⟩:=h;have h:=hr.c i hi;obtain⟨a,c,e⟩:=h.e.slice;have hv:=h.e.1;rw[e]at hv;refine⟨a,c,?_,?_,?_,hv⟩
 ·rw[hb.cell (j:=34+3*i) (by omega)];exact congrArg some h.s
 ·rw[hb.cell (by omega)];exact congrArg some h.z
 ·rw[hb.cell (by omega)];exact congrArg some e
theorem WX.ack(h:WX W k p):∃a c,W.cell? ⟨k,82,none⟩=some (.slice a p.D.length c)∧BZ W (.slice a p.D.length c) p.D:=by
 obtain⟨f,hb,hr⟩:=h;obtain⟨a,c,e⟩:=hr.d.slice;have hv:=hr.d.1;rw[e]at hv;exact⟨a,c,by rw[hb.cell (by omega),e],hv⟩
def RpB(W:World)(g:Nat):Prop:=W.heap[g]?=some (.cells #[I0 0,I0 0,.string ⟨#[]⟩,.string ⟨#[]⟩,I0 0,I0 0,I0 0,I0 0,I0 0,I0 0,I0 0,N0] 35 (0,0))
theorem RpB.new(w:World):RpB (w.alloc (.cells #[I0 0,I0 0,.string ⟨#[]⟩,.string ⟨#[]⟩,I0 0,I0 0,I0 0,I0 0,I0 0,I0 0,I0 0,N0] 35)) w.heap.size:=heap_alloc_new w _
theorem RpB.lt(h:RpB W g):g<W.heap.size:=(Array.getElem?_eq_some_iff.1 h).1
theorem RpB.touch(h:RpB W g)(ht:Touch F W V)(hg:¬F g):RpB V g:=(ht.block g h.lt hg).trans h
theorem RpB.next(h:RpB W g)(hb:B0 W V):RpB V g:=(hb.block g h.lt).trans h
theorem RpB.cells(h:RpB W g):(W.cell? ⟨g,0,none⟩=some (I0 0)∧W.cell? ⟨g,1,none⟩=some (I0 0)∧W.cell? ⟨g,2,none⟩=some (.string ⟨#[]⟩)∧W.cell? ⟨g,3,none⟩=some (.string ⟨#[]⟩)∧W.cell? ⟨g,4,none⟩=some (I0 0)∧W.cell? ⟨g,5,none⟩=some (I0 0))∧(W.cell? ⟨g,6,none⟩=some (I0 0)∧W.cell? ⟨g,7,none⟩=some (I0 0)∧W.cell? ⟨g,8,none⟩=some (I0 0)∧W.cell? ⟨g,9,none⟩=some (I0 0)∧W.cell? ⟨g,10,none⟩=some (I0 0)∧W.cell? ⟨g,11,none⟩=some (N0)):=by
 unfold RpB at h;refine⟨⟨?_,?_,?_,?_,?_,?_⟩,?_,?_,?_,?_,?_,?_⟩<;>simp[World.cell?,h]
theorem RpB.AX(h:RpB W g)(j:Nat):W.frozen? ⟨g,j,none⟩=false:=by
 unfold RpB at h;simp[World.frozen?,h]
def ZX(W:World)(g:Nat)(x0 x1 x2 x3 x4 x5 x6 x7 x8 x9 x10 x11:Value):World:=
 (((((((((((W.setCell ⟨g,0,none⟩ x0).setCell ⟨g,1,none⟩ x1).setCell ⟨g,2,none⟩ x2).setCell ⟨g,3,none⟩ x3).setCell ⟨g,4,none⟩ x4).setCell ⟨g,5,none⟩ x5).setCell ⟨g,6,none⟩ x6).setCell ⟨g,7,none⟩ x7).setCell ⟨g,8,none⟩ x8).setCell ⟨g,9,none⟩ x9).setCell ⟨g,10,none⟩ x10).setCell ⟨g,11,none⟩ x11
theorem Touch.new(h:Touch F w W)(hg:w.heap.size≤g)(v:Value):Touch F w (W.setCell ⟨g,j,none⟩ v):=
 ⟨h.os,h.tape,h.output,by simpa [World.setCell]using h.size,fun k hk hf=>(Below.heap_setCell W ⟨g,j,none⟩ v k (by show k≠g;omega)).trans (h.block k hk hf)⟩
theorem FK(h:Touch F w W)(hg:w.heap.size≤g)(x0 x1 x2 x3 x4 x5 x6 x7 x8 x9 x10 x11:Value):Touch F w (ZX W g x0 x1 x2 x3 x4 x5 x6 x7 x8 x9 x10 x11):=
 (((((((((((h.new hg x0).new hg x1).new hg x2).new hg x3).new hg x4).new hg x5).new hg x6).new hg x7).new hg x8).new hg x9).new hg x10).new hg x11
theorem XY(w:World)(o p:Obj):((w.alloc o).alloc p).heap[w.heap.size+1]?=some p:=by
 have h:=heap_alloc_new (w.alloc o) p;simpa using h
def QE(E:Int):Value:=.agg #[I0 E,I0 0,.string ⟨#[]⟩,.string ⟨#[]⟩,I0 0,I0 0,I0 0,I0 0,I0 0,I0 0,I0 0,N0]
theorem FU(E:Int)(w:World):Calls prog 42 #[I0 E] w (R0 w (QE E)):=by
 unfold QE;go_enter func42,ntmps42;go_wp2_with fail;refine bodyPost_ret (v:=.agg #[I0 E,I0 0,.string ⟨#[]⟩,.string ⟨#[]⟩,I0 0,I0 0,I0 0,I0 0,I0 0,I0 0,I0 0,N0]) (by simp[results,results42,go_sem]) rfl ⟨rfl,?_⟩
 first|exact Below.refl _ _|exact AB _ _|exact AL (AB _ _) (by assumption)|exact(by assumption)
def wP(k:Nat):Value:=P0 k
theorem ZN(i m:Int)(w:World):Calls prog 23 #[I0 i,I0 m] w fun e w'=>e=.returned (.bool (iE i m))∧w'=w:=by
 by_cases h:0≤i
 ·by_cases h2:i<m
  ·rw[show iE i m=true by simp[iE];omega];go_enter func23,ntmps23;go_wp2_with fail;go_ret;exact⟨rfl,rfl⟩
  ·rw[show iE i m=false by simp[iE];omega];go_enter func23,ntmps23;go_wp2_with fail;go_ret;exact⟨rfl,rfl⟩
 ·rw[show iE i m=false by simp[iE];omega];go_enter func23,ntmps23;go_wp2_with fail;go_ret;exact⟨rfl,rfl⟩
def PG(k E:Int):Bool:=decide (E=0)||decide (E=16)||(decide (E=7)&&decide (k=2))
theorem xU(k E:Int)(w:World):Calls prog 45 #[I0 k,I0 E] w fun e w'=>e=.returned (.bool (PG k E))∧w'=w:=by
 unfold PG;by_cases h0:E=0
 ·subst h0;go_enter func45,ntmps45;go_wp2_with fail;go_ret;exact⟨by simp,rfl⟩
 ·by_cases h1:E=16
  ·subst h1;go_enter func45,ntmps45;go_wp2_with fail;go_ret;exact⟨by simp,rfl⟩
  ·by_cases h2:E=7
   ·subst h2;by_cases h3:k=2
    ·subst h3;go_enter func45,ntmps45;go_wp2_with fail;go_ret;exact⟨by simp,rfl⟩
    ·go_enter func45,ntmps45;go_wp2_with fail;go_ret;exact⟨by simp[h3],rfl⟩
   ·go_enter func45,ntmps45;go_wp2_with fail;go_ret;exact⟨by simp[h0,h1,h2],rfl⟩
theorem mP(e:Int):(UY e).s.length+(UY e).t.length≤1048576:=by
 have:=XC (G6 e 0);simp only[UY,List.length_nil];omega
theorem QZ{e:Int}{s t:List UInt8}(h:s.length+t.length≤1048576):G9 (epD e++[⟨JA,s,t⟩]):=by
 unfold epD
 split
 ·exact XP h
 ·exact OY (mP e) h
theorem XZ(e:Int)(s t:List UInt8):There (epD e++[⟨JA,s,t⟩]) (epD e) ⟨JA,s,t⟩ [] JA:=by
 unfold epD
 split
 ·exact⟨rfl,rfl,by simp,by simp⟩
 ·exact fC _ _ _ _
theorem BF4(e:Int)(s t:List UInt8)(k:Nat):(epD e++[(⟨JA,s,t⟩:DF)]).map (TD k)=epD e++[⟨JA,s++t.take k,[]⟩]:=by
 unfold epD
 split
 ·simp[TD]
 ·simp[TD,UY]
theorem A45{e:Int}{s t:List UInt8}(he:zIn e=true)(h:s.length+t.length≤1048576):TP (epD e++[⟨JA,s,t⟩])=e:=by
 by_cases h0:e=0
 ·subst h0;rw[A34,List.nil_append];unfold TP;rw[dL (XP h) (YX s t)];show DK (ZV [])=0;rw[pJ,QS]
 ·rw[xQ h0];have h1:=LD.1 he;have hm:G6 e 0=e*2147483648:=by rw[(PI he (by decide)).1];omega
  have hz:FT (G6 e 0)=true:=by rw[hm];exact H8.2 ⟨by omega,by omega⟩
  unfold TP;show DK (ZV (RU [⟨EM,MJ (G6 e 0),[]⟩,⟨JA,s,t⟩] EM).1)=e;rw[QT (OY (by have:=XC (G6 e 0);simp;omega) h) (XT _ _ _ _)];simp only[List.append_nil];rw[(AN7 hz).1,I5 hz,hm];omega
section
variable {i:Nat} {q:Ps}
theorem II.small(ok:II 300 q):(BL q.m).length≤146100∧q.m.length≤300:=by
 have:=ok.len;exact⟨mM ok.log (by omega),by omega⟩
theorem O7(m:List AQ)(a:Nat):(BL (m.take a)).length+(BL (m.drop a)).length=(BL m).length:=by
 conv=>rhs;rw[←List.take_append_drop a m,FX,List.length_append]
theorem U4{x:AQ}(h:gdE x=0):x.p.length≤200∧x.d.length≤256:=⟨BK8 (aA h).2.2.2,(aA h).2.2.1⟩
theorem II.zin(ok:II 300 q):zIn q.e=true:=LD.2 ⟨ok.e0,by have:=ok.e1;omega⟩
theorem II.fits(ok:II 300 q)(hu:q.up=true):BM0 (svP i q):=by
 obtain⟨h1,h2⟩:=ok.small;have h3:=O7 q.m q.a;have g:=ok.play.good ok.dn;have gd:G9 (epD q.e++[⟨JA,BL (q.m.take q.a),BL (q.m.drop q.a)⟩]):=QZ (by omega);have hw:=ok.wl;rw[DJ hu];refine⟨?_,EN gd,by show q.m.length*72≤_;omega,fun x hx=>?_,by show (NQ q.m q.dn).ns.length*88≤_;have:=g.nod.few;omega,g.wf.BM2,OV g.ses,by show q.ws.length*32≤_;omega,fun x hx=>?_⟩
 ·simp only[epD]
  split<;>simp
 ·have:=U4 (ok.log.good x hx);omega
 ·have:=IQ (ok.wk x hx).2.2.2;omega
theorem rW(hu:q.up=true)(k:Nat):svP i (JO q k)=⟨false,((svP i q).fs).map (TD k),(svP i q).id,0,[],0,MI,[]⟩:=by
 rw[DJ hu,MB (p:=JO q k) rfl];simp only[BF4];rw[rQ,←List.append_assoc,←FX];have e:q.m.take (q.a+whole (q.m.drop q.a) k)=q.m.take q.a++(q.m.drop q.a).take (whole (q.m.drop q.a) k):=by rw[List.take_add]
 simp only[JO,e]
theorem BF5(ok:II 300 q)(hu:q.up=true){ke:Int}(hk:0≤ke)(v:Value)(w:World)(hv:SvV w v (svP i q)):Calls prog 17 #[v,I0 ke] w (XI w (svP i (JO q ke.toNat)) 0):=by
 obtain⟨h1,h2⟩:=ok.small;have h3:=O7 q.m q.a;have gd:G9 (svP i q).fs:=by rw[DJ hu];exact QZ (by omega)
 have G:J6 38 (fun x=>#[x,I0 ke]) (svP i q).fs ((svP i q).fs.map (TD ke.toNat)) 0:=by
  have:=IV (f:=38) (args:=fun x=>#[x,I0 ((ke.toNat:Nat):Int)]) fun v W hv=>AP0 v (svP i q).fs ke.toNat W hv (EN gd) gd;rwa[Int.toNat_of_nonneg hk]at this
 rw[rW hu];exact AU2 (svP i q) v _ ke w hv G
theorem xW(ok:II 300 q)(hu:q.up=true){ke:Int}(hk:ke<0)(v:Value)(w:World)(hv:SvV w v (svP i q)):Calls prog 17 #[v,I0 ke] w (XI w sv0 3):=by
 obtain⟨h1,h2⟩:=ok.small;have h3:=O7 q.m q.a;have gd:G9 (svP i q).fs:=by rw[DJ hu];exact QZ (by omega)
 exact AE0 (svP i q) v [] ke 3 w hv (by decide) (pY fun v W hv=>B77 v (svP i q).fs ke W hv (EN gd) (.inr hk))
theorem BX0(ok:II 300 q)(hu:q.up=false)(hi:i<3)(v:Value)(w:World)(hv:C9 w v (svP i q).fs):Calls prog 18 #[I0 i,.agg #[v]] w (XI w (svP i (upP q)) 0):=by
 obtain⟨h1,h2⟩:=ok.small;obtain⟨_,_,_,hs,hq⟩:=ok.down hu;have hl:(BL q.m++q.q).length+([]:List UInt8).length≤1048576:=by simp;omega
 rw[MB hu]at hv;have gd:G9 (epD q.e++[⟨JA,BL q.m++q.q,[]⟩]):=QZ hl;have R:VE (epD q.e++[⟨JA,BL q.m++q.q,[]⟩]) q.m (epD q.e) []:=⟨gd,ok.log,.inr ⟨_,q.q,XZ _ _ _,by simpa using hs⟩⟩;have:=A26 v _ _ q.m i w hv (EN gd) (by omega) (by omega) (VY R);rw[A45 ok.zin hl]at this;rw[DJ (p:=upP q) rfl];simpa [upP,KL,TV,show BL []=[]from rfl]using this
theorem BX1{x:AQ}(sure:Bool)(ok:II 299 q)(hu:q.up=true)(hg:gdE x=0)(hz:DL q.m<x.z)(v:Value)(w:World)(hv:SvV w v (svP i q)):Calls prog 105 #[v,DX x,.bool sure] w fun e w'=>YV w (svP i (OQ x sure q)) 0 e w'∧FrT w e:=by
 have ok':=ok.more (show (299:Int)≤300 by omega);obtain⟨h1,h2⟩:=ok'.small;have h3:=O7 q.m q.a;have hr:=bM hg;have hx:=U4 hg;have ha:=ok.a;have g0:G9 (epD q.e++[⟨JA,BL (q.m.take q.a),BL (q.m.drop q.a)⟩]):=QZ (by omega);have g1:G9 (epD q.e++[⟨JA,BL (q.m.take q.a),BL (q.m.drop q.a)++MP x⟩]):=QZ (by simp;omega);have W1:∀v W,C9 W v (epD q.e++[⟨JA,BL (q.m.take q.a),BL (q.m.drop q.a)⟩])→Calls prog 32 #[.agg #[v],S0 JA,S0 (MP x)] W fun e w'=>∃v',e=.returned (.tuple #[.agg #[v'],I0 0])∧UG w' W.heap.size v' (epD q.e++[⟨JA,BL (q.m.take q.a),BL (q.m.drop q.a)++MP x⟩])∧B0 W w':=fun v W hv=>
  dJ v _ (epD q.e) [] _ JA (MP x) W hv (EN g0) g0 (XZ _ _ _) (by simp only;omega)
 have S1:∀v W,C9 W v (epD q.e++[⟨JA,BL (q.m.take q.a),BL (q.m.drop q.a)++MP x⟩])→Calls prog 160 #[.agg #[v],S0 JA] W fun e w'=>∃v',e=.returned (.tuple #[.agg #[v'],I0 0])∧UG w' W.heap.size v' (epD q.e++[⟨JA,BL (q.m.take q.a)++(BL (q.m.drop q.a)++MP x),[]⟩])∧B0 W w':=fun v W hv=>
  UJ v _ (epD q.e) [] _ JA W hv (EN g1) g1 (XZ _ _ _)
 have T:CI2 (svP i q) x sure 0 (svP i (OQ x sure q)):=by
  rw[DJ hu];refine .inr (.inr ⟨by show ¬x.z≤DL q.m;omega,rfl,?_⟩)
  cases sure with
  |true=>
   refine⟨_,?_,jL _ _ _ x 0 hg (IV W1) (YU S1)⟩;rw[DJ (p:=OQ x true q) hu];simp only[OQ,if_true,aP q.m x ok.dn];rw[List.take_of_length_le (by simp),List.drop_of_length_le (by simp),←List.append_assoc,←FX,List.take_append_drop,←LG];rfl
  |false=>
   refine⟨_,?_,AE1 _ _ x hg (YU W1)⟩;rw[DJ (p:=OQ x false q) hu];simp only[OQ,Bool.false_eq_true,if_false,aP q.m x ok.dn];rw[List.take_append_of_le_length ha,List.drop_append_of_le_length ha,LG]
 exact xB (svP i q) _ v x sure 0 w hv (ok'.fits hu) T (by omega) (by omega) (by rw[DJ hu];show q.m.length≤_;omega)
theorem BN6(ok:II 300 q)(hu:q.up=true):Chn (svP i q) (q.m.drop q.dn) (q.m.length-q.dn):=by
 have e:∀j,(csP (svP i q) (q.m.drop q.dn) j).1.tr=NQ q.m (q.dn+j):=fun j=>by
  unfold csP NQ;rw[AV1,DJ hu,List.take_add,List.foldl_append];rfl
 refine⟨by simp,fun j x hj hx=>?_,fun x hx=>?_⟩
 ·rw[e];rw[List.getElem?_drop]at hx;exact ok.play _ x hx
 ·have:=(List.getElem?_eq_some_iff.1 hx).1;simp at this
theorem AX0(ok:II 300 q)(hu:q.up=true):BC1 (svP i q) (q.m.drop q.dn):=by
 have hw:=ok.wl;rw[DJ hu];refine⟨(ok.play.good ok.dn).wf,fun x hx=>?_,by show q.ws.length*32≤_;omega,fun x hx=>?_,fun x hx=>?_⟩
 ·have:=IQ (ok.wk x hx).2.2.2;omega
 ·have:=U4 (ok.log.good x (List.mem_of_mem_drop hx));omega
 ·have:=U4 (ok.log.good x (List.mem_of_mem_drop hx));omega
theorem BX2(ok:II 300 q)(hu:q.up=true):(YD i q).1.up=true∧(YD i q).1.fs=(svP i q).fs∧(YD i q).1.id=i∧(YD i q).1.ep=q.e∧(YD i q).1.ts=q.m∧(YD i q).1.tr=NQ q.m q.m.length:=by
 obtain⟨_,b1,b2,b3,b4,b5,_⟩:=BM3 (AX0 (i:=i) ok hu) (BN6 ok hu) _ (Nat.le_refl _);have hd:=ok.dn;refine⟨?_,b2,?_,?_,?_,?_⟩
 ·show (csP _ _ _).1.up=true;rw[b1,DJ hu]
 ·show (csP _ _ _).1.id=_;rw[b3,DJ hu]
 ·show (csP _ _ _).1.ep=_;rw[b4,DJ hu]
 ·show (csP _ _ _).1.ts=_;rw[b5,DJ hu]
 ·show (csP _ _ _).1.tr=_;unfold csP;rw[AV1,DJ hu];show (List.take _ _).foldl bU (NQ q.m q.dn)=_;unfold NQ;rw[←List.foldl_append,←List.take_add,show q.dn+(q.m.length-q.dn)=q.m.length by omega]
theorem AX1(ok:II 300 q)(hu:q.up=true)(v:Value)(w:World)(hv:SvV w v (svP i q)):Calls prog 106 #[v,I0 q.m.length] w fun e w'=>fA w (svP i (aQ i q)) (YD i q).2 0 e w'∧FrS w e:=by
 have hd:=ok.dn;obtain⟨c1,c2,c3,c4,c5,c6⟩:=BX2 (i:=i) ok hu;refine(rC (svP i q) v q.dn q.m.length (q.m.length-q.dn) (q.m.drop q.dn) w hv (ok.fits hu) (by rw[DJ hu]) hd (by rw[DJ hu];exact Nat.le_refl _) (by rw[DJ hu];show _=List.take _ (List.drop q.dn q.m);rw[List.take_of_length_le (by simp)]) (BN6 ok hu) (AX0 ok hu)).mono fun e w' H=>?_;have:=H.1 (by simp);have e:svP i (aQ i q)=⟨(csP (svP i q) (q.m.drop q.dn) (q.m.length-q.dn)).1.up,(csP (svP i q) (q.m.drop q.dn) (q.m.length-q.dn)).1.fs,(csP (svP i q) (q.m.drop q.dn) (q.m.length-q.dn)).1.id,(csP (svP i q) (q.m.drop q.dn) (q.m.length-q.dn)).1.ep,(csP (svP i q) (q.m.drop q.dn) (q.m.length-q.dn)).1.ts,(q.m.length:Int),(csP (svP i q) (q.m.drop q.dn) (q.m.length-q.dn)).1.tr,(csP (svP i q) (q.m.drop q.dn) (q.m.length-q.dn)).1.ws⟩:=by
  show _=(⟨(YD i q).1.up,(YD i q).1.fs,(YD i q).1.id,(YD i q).1.ep,(YD i q).1.ts,(q.m.length:Int),(YD i q).1.tr,(YD i q).1.ws⟩:Sv);rw[c1,c2,c3,c4,c5,c6,DJ (p:=aQ i q) hu,DJ hu];rfl
 rw[e];exact this
end
def rpV(r:Rp)(v:Value):Value:=.agg #[I0 r.E,I0 r.z,S0 r.p,S0 r.d,I0 r.t.c,I0 r.t.m,I0 r.t.q,I0 r.t.v,I0 r.t.k,I0 r.t.o,I0 r.t.n,v]
def Did(W:World)(k:Nat)(kd:Int)(x:Rp×Pw)(e:Ending)(w':World):Prop:=
 ∃v,e=.returned (rpV x.1 v)∧BF w' W.heap.size v x.1.ns∧Touch (· =k) W w'∧(PG kd x.1.E=true→WX w' k x.2)
theorem RD{kd:Int}(he:e=.returned (QE E))(ht:Touch (· =k) W w')(hl:PG kd E=false):Did W k kd (OZ E,p) e w':=
 ⟨N0,he,.inl ⟨rfl,rfl⟩,ht,fun h=>by rw[show (OZ E,p).1.E=E from rfl,hl]at h;cases h⟩
theorem WC(p:Pw)(k:Nat)(W:World)(hx:WX W k p):Calls prog 87 #[wP k] W fun e w'=>e=.returned (.tuple #[])∧WX w' k ⟨p.n,p.s,fun _=>0,p.c,p.D,p.H,p.h⟩∧Touch (· =k) W w':=by
 have X:=AA hx.clear;have T:=AA (OJ W k 31 (I0 0) (I0 0) (I0 0));have r0:=hx.role (i:=0) (by omega);have r1:=hx.role (i:=1) (by omega);have r2:=hx.role (i:=2) (by omega);have f0:=hx.AX 31;have f1:=hx.AX 32;have f2:=hx.AX 33;simp only[Nat.reduceAdd]at r0 r1 r2;unfold wP;clear hx;go_enter func87,ntmps87;go_wp2_with fail;exact bodyPost_end (v:=.tuple #[]) (by simp[results,results87,go_sem]) rfl ⟨rfl,A8 X,A8 T⟩
theorem OL(W:World)(n:Nat):B0 W (W.drewN n):=⟨rfl,rfl,rfl,Nat.le_refl _,fun _ _=>rfl⟩
structure DB(w W:World)(d:Dd):Prop where
 b:B0 w W
 r:RpB W (w.heap.size+1)
 d:F5 W w.heap.size d
theorem DB.start(w:World)(d:Dd):DB w ((w.alloc (.cells #[I0 d.k,I0 d.c,I0 d.s,I0 d.q.o,I0 d.q.s,S0 d.q.p,S0 d.q.d,I0 d.q.v,I0 d.q.f,I0 d.lo,I0 d.sl,I0 d.ke,.bool d.wt] 29)).alloc (.cells #[I0 0,I0 0,.string ⟨#[]⟩,.string ⟨#[]⟩,I0 0,I0 0,I0 0,I0 0,I0 0,I0 0,I0 0,N0] 35)) d:=by
 refine⟨AL (AB _ _) (AB _ _),XY _ _ _,?_⟩;exact F5.TY (heap_alloc_new w _:F5 (w.alloc _) w.heap.size d) (AB _ _) (by simp)
theorem DB.next(h:DB w W d)(hb:B0 W V):DB w V d:=⟨AL h.b hb,h.r.next hb,h.d.TY hb h.d.ltz⟩
theorem DB.cells(h:DB w W d):(W.cell? ⟨w.heap.size,0,none⟩=some (I0 d.k)∧W.cell? ⟨w.heap.size,1,none⟩=some (I0 d.c)∧W.cell? ⟨w.heap.size,2,none⟩=some (I0 d.s)∧W.cell? ⟨w.heap.size,3,none⟩=some (I0 d.q.o)∧W.cell? ⟨w.heap.size,4,none⟩=some (I0 d.q.s)∧W.cell? ⟨w.heap.size,5,none⟩=some (S0 d.q.p)∧W.cell? ⟨w.heap.size,6,none⟩=some (S0 d.q.d))∧W.cell? ⟨w.heap.size,7,none⟩=some (I0 d.q.v)∧W.cell? ⟨w.heap.size,8,none⟩=some (I0 d.q.f)∧W.cell? ⟨w.heap.size,9,none⟩=some (I0 d.lo)∧W.cell? ⟨w.heap.size,10,none⟩=some (I0 d.sl)∧W.cell? ⟨w.heap.size,11,none⟩=some (I0 d.ke)∧W.cell? ⟨w.heap.size,12,none⟩=some (.bool d.wt):=by
 have r:=h.d.row;simp only[Nat.zero_add]at r;exact⟨⟨r 0 _ rfl,r 1 _ rfl,r 2 _ rfl,r 3 _ rfl,r 4 _ rfl,r 5 _ rfl,r 6 _ rfl⟩,r 7 _ rfl,r 8 _ rfl,r 9 _ rfl,r 10 _ rfl,r 11 _ rfl,r 12 _ rfl⟩
theorem AE9(p:Pw)(d:Dd)(k:Nat)(W:World)(hx:WX W k p)(hi:0≤d.s∧d.s<3)(hu:(p.s d.s.toNat).up=false):Calls prog 65 #[wP k,ddV d] W (Did W k 3 (OZ 14,p)):=by
 have C:=AA (fun W=>FU 14 W);have D0:=AA (DB.start W d);obtain⟨i,hi3,hdi⟩:∃i:Nat,i<3∧d.s=i:=⟨d.s.toNat,by omega,by omega⟩;rw[hdi,Int.toNat_natCast]at hu;obtain⟨ad,nd,cd,al,cl,an,cn,ai,ci,aw,cw,S,_,_⟩:=hx.srv hi3 rfl;have S0:∀V,B0 W V→V.cell? ⟨k,1+10*i,none⟩=some (.bool false):=fun V hV=>by
  have:=S.c0;rw[MB hu]at this;rw[World.cell?,hV.block k hx.lt];exact this
 obtain⟨dk,dc,ds,⟨o,s,pp,dd,v,f⟩,lo,sl,ke,wt⟩:=d;simp only at hdi;subst hdi;unfold wP ddV;unfold QE at C;clear S hx hu hi;have hX:∀w1,DB W w1 ⟨dk,dc,(i:Int),⟨o,s,pp,dd,v,f⟩,lo,sl,ke,wt⟩→Did W k 3 (OZ 14,p) (.returned (QE 14)) (ZX w1 (W.heap.size+1) (I0 14) (I0 0) (.string ⟨#[]⟩) (.string ⟨#[]⟩) (I0 0) (I0 0) (I0 0) (I0 0) (I0 0) (I0 0) (I0 0) (N0)):=fun w1 h=>RD rfl (FK (Touch.of_below h.b) (by omega) _ _ _ _ _ _ _ _ _ _ _ _) (by decide);rcases(show i=0∨i=1∨i=2 by omega)with rfl|rfl|rfl
 all_goals
  simp only[Nat.reduceAdd,Nat.reduceMul]at S0;go_enter func65,ntmps65;go_upto_region 1 with fail;generalize ((W.alloc _).alloc _)=W0 at*;obtain⟨⟨e0,e1,e2,e3,e4,e5,e6⟩,e7,e8,e9,e10,e11,e12⟩:=(A8 D0).cells;have T0:=S0 W0 (A8 D0).b;simp only at e2
  go_quiet (fail)
  go_wp2_with fail;refine(A8 C _).mono ?_;rintro e w1 ⟨rfl,hb⟩;have D1:=(A8 D0).next (AL (OL _ _) hb);obtain⟨⟨c0,c1,c2,c3,c4,c5⟩,c6,c7,c8,c9,c10,c11⟩:=D1.r.cells;have f0:=D1.r.AX;have X1:=AA (hX w1 D1);clear hb D1 D0 C S0 hX;unfold QE at X1;go_wp2_with fail;exact bodyPost_ret (v:=.agg #[I0 14,I0 0,.string ⟨#[]⟩,.string ⟨#[]⟩,I0 0,I0 0,I0 0,I0 0,I0 0,I0 0,I0 0,N0]) (by simp[results,results65,go_sem,c0,c1,c2,c3,c4,c5,c6,c7,c8,c9,c10,c11]) rfl (A8 X1)
theorem C98(hj:j<3)(h:r j=2)(hb:∀m,m<j→r m≠2):ldP r=j:=by
 unfold ldP;rcases(show j=0∨j=1∨j=2 by omega)with rfl|rfl|rfl
 ·rw[if_pos h];rfl
 ·rw[if_neg (hb 0 (by omega)),if_pos h];rfl
 ·rw[if_neg (hb 0 (by omega)),if_neg (hb 1 (by omega)),if_pos h];rfl
theorem BX3(hb:∀m,m<3→r m≠2):ldP r=-1:=by
 unfold ldP;rw[if_neg (hb 0 (by omega)),if_neg (hb 1 (by omega)),if_neg (hb 2 (by omega))]
theorem BX4(r:Nat→Int)(k:Nat)(w:World)(hc:∀i,i<3→w.cell? ⟨k,31+i,none⟩=some (I0 (r i))):
  Calls prog 62 #[.slice (some ⟨k,31,none⟩) 3 3,I0 2] w (R0 w (I0 (ldP r))):=by
 have HC:=AA hc;clear hc;go_enter func62,ntmps62;go_wp2_with fail
 go_loopg [8] 3 (fun kx s8 wr=>∃j:Nat,s8=I0 j∧j≤3∧3-j≤kx∧Hid (∀m,m<j→r m≠2)∧Hid (B0 w wr∧∀i,i<3→wr.cell? ⟨k,31+i,none⟩=some (I0 (r i))))
 case atStart=>exact⟨0,rfl,by omega,Nat.le_refl _,AA (fun m hm=>by omega),AA ⟨Below.refl _ _,A8 HC⟩⟩
 case round=>
  obtain⟨j,rfl,hj,hg,hh,hB⟩:=hrel;by_cases hlt:j<3
  ·have d0:=(A8 hB).2 j hlt;have hjj:(j:Int)<3:=by omega
   by_cases h2:r j=2
   ·rw[h2]at d0;have HE:=AA (C98 hlt h2 (A8 hh));clear h2;go_wp2_with fail
    try go_quiet (fail)
    go_wp2_with fail;go_ret;exact⟨by rw[A8 HE];rfl,(A8 hB).1⟩
   ·have HN:=AA (fun m (hm:m<j+1)=>(show r m≠2 by
     by_cases e:m=j
     ·rw[e];exact h2
     ·exact A8 hh m (by omega)))
    have h3:¬2=r j:=fun e=>h2 e.symm;go_wp2_with fail
    try go_quiet (fail)
    go_wp2_with fail
    go_roundg (3-(j+1))
    case measure=>omega
    case rel=>exact⟨j+1,rfl,by omega,Nat.le_refl _,HN,hB⟩
  ·obtain rfl:j=3:=by omega
   have HE:=AA (BX3 (A8 hh));go_wp2_with fail;go_ret;exact⟨by rw[A8 HE];rfl,(A8 hB).1⟩
theorem O8(p:Pw)(k:Nat)(W:World)(hx:WX W k p):Calls prog 40 #[wP k] W (R0 W (I0 (ldP p.r))):=by
 have C:=AA (BX4 p.r k W (fun i hi=>hx.role hi));unfold wP;clear hx;go_enter func40,ntmps40;go_wp2_with fail;refine(A8 C).mono ?_;rintro e w1 ⟨rfl,hb⟩;go_wp2_with fail;go_ret;exact⟨rfl,hb⟩
def AX2(w:World)(s:Sv)(E:Int)(e:Ending)(w':World):Prop:=
 ∃ad nd cd al cl an cn ai ci aw cw,e=.returned (.tuple #[.agg #[.bool s.up,.slice ad nd cd,I0 s.id,I0 s.ep,.slice al s.ts.length cl,I0 s.dn,I0 s.tr.z,.slice an s.tr.ns.length cn,.slice ai s.tr.ss.length ci,.slice aw s.ws.length cw],I0 E])∧
  Hid (SvV w' (.agg #[.bool s.up,.slice ad nd cd,I0 s.id,I0 s.ep,.slice al s.ts.length cl,I0 s.dn,I0 s.tr.z,.slice an s.tr.ns.length cn,.slice ai s.tr.ss.length ci,.slice aw s.ws.length cw]) s∧(s.tr.ss≠[]→∀k,k<w.heap.size→QH (.slice ai s.tr.ss.length ci) k))∧B0 w w'
theorem mQ(h:XI w s E e w')(hs:s.tr.ss=[]):AX2 w s E e w':=by
 obtain⟨v,he,hv,hb⟩:=h;obtain⟨ad,nd,cd,al,cl,an,cn,ai,ci,aw,cw,rfl,_⟩:=hv.five;exact⟨ad,nd,cd,al,cl,an,cn,ai,ci,aw,cw,he,AA ⟨hv,fun h=>absurd hs h⟩,hb⟩
theorem GL{B:Nat}(h:JM B v)(hk:k<B):QH v k:=fun b off n c e=>by have:=h b off n c e;omega
theorem BF6(h:YV w s E e w'):AX2 w s E e w':=by
 obtain⟨ad,nd,cd,al,nl,cl,an,nn,cn,ai,ni,ci,aw,nw,cw,he,hs,hb⟩:=h;obtain⟨hv,hf⟩:=A8 hs;obtain⟨ad',nd',cd',al',cl',an',cn',ai',ci',aw',cw',e5,_⟩:=hv.five;simp only[Value.agg.injEq,Array.mk.injEq,List.cons.injEq,Value.slice.injEq,true_and,and_true]at e5;obtain⟨⟨rfl,rfl,rfl⟩,⟨rfl,rfl,rfl⟩,⟨rfl,rfl,rfl⟩,⟨rfl,rfl,rfl⟩,rfl,rfl,rfl⟩:=e5;exact⟨_,_,_,_,_,_,_,_,_,_,_,he,AA ⟨hv,fun _ k hk=>GL hf hk⟩,hb⟩
structure SBX(w V:World)(q:Nat)(s:Sv)(vd vl vn vs vw:Value):Prop where
 b:B0 w V
 le:w.heap.size≤q
 box:BN V q s.up vd s.id s.ep vl s.dn s.tr.z vn vs vw
 v:SvV V (.agg #[.bool s.up,vd,I0 s.id,I0 s.ep,vl,I0 s.dn,I0 s.tr.z,vn,vs,vw]) s
 a:s.tr.ss≠[]→∀k,k<w.heap.size→QH vs k
section
variable {w w1 u:World} {s:Sv} {ad al an ai aw:Option Addr} {nd cd nl cl nn cn ni ci nw cw:Nat}
theorem YZ(hb:B0 w w1)(hv:SvV w1 (.agg #[.bool s.up,.slice ad nd cd,I0 s.id,I0 s.ep,.slice al nl cl,I0 s.dn,I0 s.tr.z,.slice an nn cn,.slice ai ni ci,.slice aw nw cw]) s)(ha:s.tr.ss≠[]→∀k,k<u.heap.size→QH (.slice ai ni ci) k)(hu:w.heap.size≤u.heap.size):
  SBX w (w1.alloc (.cells #[.bool s.up,.slice ad nd cd,I0 s.id,I0 s.ep,.slice al nl cl,I0 s.dn,I0 s.tr.z,.slice an nn cn,.slice ai ni ci,.slice aw nw cw] 48)) w1.heap.size s (.slice ad nd cd) (.slice al nl cl) (.slice an nn cn) (.slice ai ni ci) (.slice aw nw cw):=
 ⟨AL hb (AB _ _),hb.size,BN.new _ _ _ _ _ _ _ _ _ _ _,hv.alloc _,fun h k hk=>ha h k (by omega)⟩
theorem fK(hb:B0 w w1)(hq:w.heap.size≤q)(hz:BN w1 q false (N0) 0 0 (N0) 0 0 (N0) (N0) (N0))(hv:SvV w1 (.agg #[.bool s.up,.slice ad nd cd,I0 s.id,I0 s.ep,.slice al nl cl,I0 s.dn,I0 s.tr.z,.slice an nn cn,.slice ai ni ci,.slice aw nw cw]) s)(ha:s.tr.ss≠[]→∀k,k<u.heap.size→QH (.slice ai ni ci) k)(hu:q<u.heap.size):
  SBX w (KW w1 q (.bool s.up) (.slice ad nd cd) (I0 s.id) (I0 s.ep) (.slice al nl cl) (I0 s.dn) (I0 s.tr.z) (.slice an nn cn) (.slice ai ni ci) (.slice aw nw cw)) q s (.slice ad nd cd) (.slice al nl cl) (.slice an nn cn) (.slice ai ni ci) (.slice aw nw cw):=by
 refine⟨EU hb hq _ _ _ _ _ _ _ _ _ _,hq,fB hz _ _ _ _ _ _ _ _ _ _,?_,fun h k hk=>ha h k (by omega)⟩;by_cases h:s.tr.ss=[]
 ·have hv2:=hv;obtain⟨vd,vl,vn,vs,vw,e,r1,r2,r3,r4,r5⟩:=hv2;simp only[Value.agg.injEq,Array.mk.injEq,List.cons.injEq,true_and,and_true]at e;obtain⟨rfl,rfl,rfl,rfl,rfl⟩:=e;have hd:=hz.ZW;have hx:SvV (KW w1 q (.bool s.up) (.slice ad nd cd) (I0 s.id) (I0 s.ep) (.slice al nl cl) (I0 s.dn) (I0 s.tr.z) (.slice an nn cn) (.slice ai ni ci) (.slice aw nw cw)) (.agg #[.bool s.up,.slice ad nd cd,I0 s.id,I0 s.ep,.slice al nl cl,I0 s.dn,I0 s.tr.z,.slice an nn cn,N0,.slice aw nw cw]) s:=
   lN hd (fun vd vl vn vs vw e=>by simp only[Value.agg.injEq,Array.mk.injEq,List.cons.injEq]at e;rw[←e.2.2.2.2.2.2.2.2.1];exact qH _ _ _) ⟨_,_,_,_,_,rfl,r1,r2,r3,by rw[h];exact BZ.nil _,r5⟩
  obtain⟨vd,vl,vn,vs,vw,e,q1,q2,q3,q4,q5⟩:=hx;simp only[Value.agg.injEq,Array.mk.injEq,List.cons.injEq,true_and,and_true]at e;obtain⟨rfl,rfl,rfl,rfl,rfl⟩:=e;refine⟨_,_,_,_,_,rfl,q1,q2,q3,?_,q5⟩;rw[h]at r4⊢;rcases r4 with h4|⟨_,_,_,_,_,_,_,h0,_⟩
  ·exact .inl h4
  ·exact absurd rfl h0
 ·exact lN hz.ZW (fun vd vl vn vs vw e=>by simp only[Value.agg.injEq,Array.mk.injEq,List.cons.injEq]at e;rw[←e.2.2.2.2.2.2.2.2.1];exact ha h q hu) hv
end
def A49:List Value:=[I0 0,I0 0,.string ⟨#[]⟩,.string ⟨#[]⟩,I0 0,I0 0,I0 0,I0 0,I0 0,I0 0,I0 0,N0]
theorem RpB.at(h:RpB W g)(hv:W.cell? ⟨g,j,none⟩=some v):A49[j]?=some v:=by
 unfold RpB at h;simpa [World.cell?,h,A49]using hv
theorem U6{s:ByteArray}(h:A49[j]?=some (.string s)):j=2∨j=3:=by
 by_cases hj:j<12
 ·rcases(show j=0∨j=1∨j=2∨j=3∨j=4∨j=5∨j=6∨j=7∨j=8∨j=9∨j=10∨j=11 by omega)with rfl|rfl|rfl|rfl|rfl|rfl|rfl|rfl|rfl|rfl|rfl|rfl<;>simp[A49]at h⊢
 ·rw[List.getElem?_eq_none (by simp[A49];omega)]at h;cases h
theorem AF4{s:ByteArray}(h:A49[j]?=some (.string s)):s=⟨#[]⟩:=by
 rcases U6 h with rfl|rfl<;>simpa [A49]using h.symm
theorem A50{n:Int}(h:A49[j]?=some (I0 n)):n=0:=by
 by_cases hj:j<12
 ·rcases(show j=0∨j=1∨j=2∨j=3∨j=4∨j=5∨j=6∨j=7∨j=8∨j=9∨j=10∨j=11 by omega)with rfl|rfl|rfl|rfl|rfl|rfl|rfl|rfl|rfl|rfl|rfl|rfl<;>simp[A49]at h<;>omega
 ·rw[List.getElem?_eq_none (by simp[A49];omega)]at h;cases h
theorem AY1{b:Bool}:A49[j]? ≠some (.bool b):=by
 intro h;by_cases hj:j<12
 ·rcases(show j=0∨j=1∨j=2∨j=3∨j=4∨j=5∨j=6∨j=7∨j=8∨j=9∨j=10∨j=11 by omega)with rfl|rfl|rfl|rfl|rfl|rfl|rfl|rfl|rfl|rfl|rfl|rfl<;>simp[A49]at h
 ·rw[List.getElem?_eq_none (by simp[A49];omega)]at h;cases h
theorem UR{α:Type}[Lay α]{xs:List α}(hg:RpB W g)(hv:BZ W v xs)(hno:∀x∈xs,∀off,¬ ∀ (j:Nat) u,j<Lay.k α→(Lay.cs x)[j]?=some u→A49[off+j]?=some u)(h0:xs≠[]):QH v g:=by
 intro b off n c e;rcases hv with⟨a,cap,_,e0,_⟩|⟨b',off',cap,rfl,_,_,h3,_,h4⟩
 ·exact absurd e0 h0
 ·simp only[Value.slice.injEq,Option.some.injEq,Addr.mk.injEq]at e;rintro rfl;obtain⟨x,r,rfl⟩:=List.exists_cons_of_ne_nil h0;refine hno x (by simp) off' fun j u hj hu=>hg.at ?_;have:=h4 (0*Lay.k α+j) _ ((AZ (x::r) 0 x rfl j hj).trans hu);rw[Nat.zero_mul,Nat.zero_add]at this;rw[←e.1.1];exact this
section
variable {W:World} {k g:Nat} {v:Value}
theorem BG0{xs:List DF}(hg:RpB W g)(h:BZ W v xs)(h0:xs≠[]):QH v g:=UR hg h (fun x _ off H=>by
 have a:=U6 (H 0 _ (by decide) rfl);have c:=U6 (H 2 _ (by decide) rfl);omega) h0
theorem AY2{xs:List AQ}(hg:RpB W g)(h:BZ W v xs)(h0:xs≠[]):QH v g:=UR hg h (fun x _ off H=>by
 have a:=U6 (H 3 _ (by decide) rfl);have c:=U6 (H 4 _ (by decide) rfl);omega) h0
theorem AY3{xs:List En}(hg:RpB W g)(h:BZ W v xs)(h0:xs≠[]):QH v g:=UR hg h (fun x _ off H=>AY1 (H 2 _ (by decide) rfl)) h0
theorem xY{xs:List Wa}(hg:RpB W g)(h:BZ W v xs)(hs:∀x∈xs,1≤x.s)(h0:xs≠[]):QH v g:=UR hg h (fun x hx off H=>by
 have a:=A50 (H 0 _ (by decide) rfl);have:=hs x hx;omega) h0
theorem BG1{xs:List Int}(hg:RpB W g)(h:BZ W v xs)(hs:∀x∈xs,1≤x)(h0:xs≠[]):QH v g:=UR hg h (fun x hx off H=>by
 have a:=A50 (H 0 _ (by decide) rfl);have:=hs x hx;omega) h0
theorem AY4{xs:List Nd}(hg:RpB W g)(h:BZ W v xs)(hs:∀x∈xs,x.p≠[])(h0:xs≠[]):QH v g:=UR hg h (fun x hx off H=>by
 have a:=AF4 (H 0 _ (by decide) rfl);have:x.p=[]:=by simpa using a
 exact hs x hx this) h0
theorem Row.far{α:Type}[Lay α]{xs:List α}(h:Row W k v xs)(ht:Touch (· =g) W V)(ha:xs≠[]→QH v g):Row V k v xs:=by
 refine⟨?_,h.2⟩;exact(Row.touch (k:=g) ⟨h.1,ha⟩ ht).1
end
theorem BX9{t:Tr}(h:MQ t):∀x∈t.ns,x.p≠[]:=fun x hx e=>by
 have:=(h.nod.ok x hx).path;rw[e]at this;exact absurd this (by decide)
theorem BG2{N:Int}{q:Ps}(ok:II N q):MQ (svP i q).tr∧∀x∈(svP i q).ws,1≤x.s:=by
 cases hu:q.up with
 |true=>rw[DJ hu];exact⟨ok.play.good ok.dn,fun x hx=>(ok.wk x hx).1⟩
 |false=>rw[MB hu];exact⟨UN,by simp⟩
theorem WX.reply(h:WX W k p)(hp:∀i,i<3→II 300 (p.s i))(hg:RpB W g)(hk:k≠g)(ht:Touch (· =g) W V):WX V k p:=by
 obtain⟨f,hb,hr⟩:=h;refine⟨f,hb.touch ht hk,hr.n,fun i hi=>?_,hr.r,fun i hi=>⟨(hr.c i hi).s,(hr.c i hi).z,(hr.c i hi).e.far ht (AY3 hg (hr.c i hi).e.1)⟩,hr.d.far ht (AY2 hg hr.d.1),hr.h,hr.hk⟩;obtain⟨gt,gw⟩:=BG2 (i:=i) (hp i hi);have s:=hr.s i hi;exact⟨s.up,s.d.far ht (BG0 hg s.d.1),s.id,s.ep,s.l.far ht (AY2 hg s.l.1),s.dn,s.z,s.n.far ht (AY4 hg s.n.1 (BX9 gt)),s.i.far ht (BG1 hg s.i.1 fun x hx=>(gt.ses.2 x hx).1),s.w.far ht (xY hg s.w.1 gw)⟩
theorem Y6(W:World)(g:Nat)(x0 x1 x2 x3 x4 x5 x6 x7 x8 x9 x10 x11:Value):Touch (· =g) W (ZX W g x0 x1 x2 x3 x4 x5 x6 x7 x8 x9 x10 x11):=
 (((((((((((ES _ _ _ _).trans (ES _ _ _ _)).trans (ES _ _ _ _)).trans (ES _ _ _ _)).trans (ES _ _ _ _)).trans (ES _ _ _ _)).trans (ES _ _ _ _)).trans (ES _ _ _ _)).trans (ES _ _ _ _)).trans (ES _ _ _ _)).trans (ES _ _ _ _)).trans (ES _ _ _ _)
structure DT(k:Nat)(w W:World)(d:Dd):Prop where
 t:Touch (· =k) w W
 r:RpB W (w.heap.size+1)
 d:F5 W w.heap.size d
section
variable {k:Nat} {w W V:World} {d:Dd}
theorem DB.dt(h:DB w W d)(k:Nat):DT k w W d:=⟨Touch.of_below h.b,h.r,h.d⟩
theorem DT.touch(h:DT k w W d)(hk:k<w.heap.size)(ht:Touch (· =k) W V):DT k w V d:=
 ⟨h.t.trans ht,h.r.touch ht (by omega),(ht.block _ h.d.ltz (by omega)).trans h.d⟩
theorem DT.next(h:DT k w W d)(hk:k<w.heap.size)(hb:B0 W V):DT k w V d:=h.touch hk (Touch.of_below hb)
theorem DT.cells(h:DT k w W d):(W.cell? ⟨w.heap.size,0,none⟩=some (I0 d.k)∧W.cell? ⟨w.heap.size,1,none⟩=some (I0 d.c)∧W.cell? ⟨w.heap.size,2,none⟩=some (I0 d.s)∧W.cell? ⟨w.heap.size,3,none⟩=some (I0 d.q.o)∧W.cell? ⟨w.heap.size,4,none⟩=some (I0 d.q.s)∧W.cell? ⟨w.heap.size,5,none⟩=some (S0 d.q.p)∧W.cell? ⟨w.heap.size,6,none⟩=some (S0 d.q.d))∧W.cell? ⟨w.heap.size,7,none⟩=some (I0 d.q.v)∧W.cell? ⟨w.heap.size,8,none⟩=some (I0 d.q.f)∧W.cell? ⟨w.heap.size,9,none⟩=some (I0 d.lo)∧W.cell? ⟨w.heap.size,10,none⟩=some (I0 d.sl)∧W.cell? ⟨w.heap.size,11,none⟩=some (I0 d.ke)∧W.cell? ⟨w.heap.size,12,none⟩=some (.bool d.wt):=by
 have r:=h.d.row;simp only[Nat.zero_add]at r;exact⟨⟨r 0 _ rfl,r 1 _ rfl,r 2 _ rfl,r 3 _ rfl,r 4 _ rfl,r 5 _ rfl,r 6 _ rfl⟩,r 7 _ rfl,r 8 _ rfl,r 9 _ rfl,r 10 _ rfl,r 11 _ rfl,r 12 _ rfl⟩
end
theorem mX{kd:Int}(hk:k<W.heap.size)(h:DT k W V d)(hx:WX V k p)(hp:∀i,i<3→II 300 (p.s i)):
  Did W k kd (OZ 0,p) (.returned (QE 0)) (ZX V (W.heap.size+1) (I0 0) (I0 0) (.string ⟨#[]⟩) (.string ⟨#[]⟩) (I0 0) (I0 0) (I0 0) (I0 0) (I0 0) (I0 0) (I0 0) (N0)):=
 ⟨N0,rfl,.inl ⟨rfl,rfl⟩,FK h.t (by omega) _ _ _ _ _ _ _ _ _ _ _ _,fun _=>hx.reply hp h.r (by omega) (Y6 _ _ _ _ _ _ _ _ _ _ _ _ _ _)⟩
structure Sl where
 ad:Option Addr
 nd:Nat
 cd:Nat
 al:Option Addr
 cl:Nat
 an:Option Addr
 cn:Nat
 ai:Option Addr
 ci:Nat
 aw:Option Addr
 cw:Nat
def rZ(s:Sv)(t:Sl):List Value:=[.bool s.up,.slice t.ad t.nd t.cd,I0 s.id,I0 s.ep,.slice t.al s.ts.length t.cl,I0 s.dn,I0 s.tr.z,.slice t.an s.tr.ns.length t.cn,.slice t.ai s.tr.ss.length t.ci,.slice t.aw s.ws.length t.cw]
def sD(s:Nat→Sv)(t:Nat→Sl):Array Value:=(rZ (s 0) (t 0)++(rZ (s 1) (t 1)++rZ (s 2) (t 2))).toArray
theorem WX.sl(h:WX W k p):∃t:Nat→Sl,∀i,i<3→∀q v,(rZ (svP i (p.s i)) (t i))[q]?=some v→W.cell? ⟨k,1+10*i+q,none⟩=some v:=by
 have e:∀i,∃t:Sl,i<3→∀q v,(rZ (svP i (p.s i)) t)[q]?=some v→W.cell? ⟨k,1+10*i+q,none⟩=some v:=fun i=>by
  by_cases hi:i<3
  ·obtain⟨ad,nd,cd,al,cl,an,cn,ai,ci,aw,cw,S,_,_⟩:=h.srv hi rfl;refine⟨⟨ad,nd,cd,al,cl,an,cn,ai,ci,aw,cw⟩,fun _ q v hq=>?_⟩;have hq10:q<10:=(List.getElem?_eq_some_iff.1 hq).1;rcases(show q=0∨q=1∨q=2∨q=3∨q=4∨q=5∨q=6∨q=7∨q=8∨q=9 by omega)with rfl|rfl|rfl|rfl|rfl|rfl|rfl|rfl|rfl|rfl
   ·exact S.c0.trans hq
   ·exact S.c1.trans hq
   ·exact S.c2.trans hq
   ·exact S.c3.trans hq
   ·exact S.c4.trans hq
   ·exact S.c5.trans hq
   ·exact S.c6.trans hq
   ·exact S.c7.trans hq
   ·exact S.c8.trans hq
   ·exact S.c9.trans hq
  ·exact⟨⟨none,0,0,none,0,none,0,none,0,none,0⟩,fun h=>absurd h hi⟩
 exact⟨fun i=>(e i).choose,fun i hi=>(e i).choose_spec hi⟩
theorem CJ5(s:Nat→Sv)(t:Nat→Sl):∀u:World,(Instr.index 70 (.agg (sD s t)) (I0 0)).run prog u=.ok (.agg (rZ (s 0) (t 0)).toArray) u:=fun _=>by kernel_rfl
theorem CJ6(s:Nat→Sv)(t:Nat→Sl):∀u:World,(Instr.index 70 (.agg (sD s t)) (I0 1)).run prog u=.ok (.agg (rZ (s 1) (t 1)).toArray) u:=fun _=>by kernel_rfl
theorem CJ7(s:Nat→Sv)(t:Nat→Sl):∀u:World,(Instr.index 70 (.agg (sD s t)) (I0 2)).run prog u=.ok (.agg (rZ (s 2) (t 2)).toArray) u:=fun _=>by kernel_rfl
theorem BY0(s:Nat→Sv)(t:Nat→Sl)(m:Nat)(hm:m<3)(u:World):(Instr.index 70 (.agg (sD s t)) (I0 m)).run prog u=.ok (.agg (rZ (s m) (t m)).toArray) u:=by
 rcases(show m=0∨m=1∨m=2 by omega)with rfl|rfl|rfl
 ·exact CJ5 s t u
 ·exact CJ6 s t u
 ·exact CJ7 s t u
theorem AF5(w:World)(k:Nat)(s:Nat→Sv)(t:Nat→Sl)(hc:∀i,i<3→∀q v,(rZ (s i) (t i))[q]?=some v→w.cell? ⟨k,1+10*i+q,none⟩=some v):
  (Instr.loadAt 70 (.pointer (some ⟨k,1,none⟩))).run prog w=.ok (.agg (sD s t)) w:=by
 have hl:=run_loadCells_list (P:=prog) (w:=w) ⟨k,1,none⟩ (sD s t).toList (fun j v hj=>by
  rw[Addr.add_lit];show w.cell? ⟨k,1+j,none⟩=some v;have hj':(rZ (s 0) (t 0)++(rZ (s 1) (t 1)++rZ (s 2) (t 2)))[j]?=some v:=hj;have l0:(rZ (s 0) (t 0)).length=10:=rfl;have l1:(rZ (s 1) (t 1)).length=10:=rfl;by_cases h0:j<10
  ·rw[List.getElem?_append_left (by omega)]at hj';exact hc 0 (by omega) j v hj'
  ·rw[List.getElem?_append_right (by omega),l0]at hj';by_cases h1:j<20
   ·rw[List.getElem?_append_left (by omega)]at hj';have:=hc 1 (by omega) (j-10) v hj';rwa[show 1+10*1+(j-10)=1+j by omega]at this
   ·rw[List.getElem?_append_right (by omega),l1]at hj';have:=hc 2 (by omega) (j-10-10) v hj';rwa[show 1+10*2+(j-10-10)=1+j by omega]at this)
 have h30:(sD s t).toList.length=30:=rfl;rw[h30]at hl;simp only[Instr.loadAt,Instr.sureAddr,Sem.run_bind,Sem.run_pure,Result.andThen];unfold loadVar;simp only[Sem.run_bind,isAgg70,sizeOf70,Result.andThen,if_true];rw[hl];rfl
theorem mY{w:World}{ops:Array Oper}{rest:List Oper}{o:Oper}{a:Act}{Q:Exit→Act→World→Prop}(hgd:o.guard=none)(x:Operand)(ho:o.op=.load 70 x)(k:Nat)(s:Nat→Sv)(t:Nat→Sl)
  (hx:a.eval x=.pointer (some ⟨k,1,none⟩)) (hc:∀i,i<3→∀q v,(rZ (s i) (t i))[q]?=some v→w.cell? ⟨k,1+10*i+q,none⟩=some v)
  (h:wpList prog ops Q rest (a.put o.dst (.agg (sD s t))) w):wpList prog ops Q (o::rest) a w:=by
 refine wpList_plain hgd fun K hK=>?_;have hr:=AF5 w k s t hc;unfold Oper.wp execOp;simp only[ho,Sem.run_bind,Sem.run_pure,Result.andThen_ok,hx,hr];exact hK _ _ h
end Go.Proofs.YtodnhndkghdinaaGreatDoor
