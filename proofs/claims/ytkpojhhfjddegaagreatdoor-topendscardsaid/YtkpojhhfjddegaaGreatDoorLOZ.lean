/-
  Part.
-/
import Derived.Test.YtkpojhhfjddegaaGreatDoorLOX
import Derived.Test.YtkpojhhfjddegaaGreatDoorLOY
import Derived.Deep.WholeRow
set_option maxRecDepth 20000
set_option maxHeartbeats 8000000
namespace Go.Proofs.YtkpojhhfjddegaaGreatDoor
open Go.RowKit Go.Proofs.Tryz
open _root_.Nat renaming le_refl->A8,lt_of_lt_of_le->AY,zero_add->BJ,le_trans->BP
open _root_.Array renaming getElem?_eq_some_iff->AL
open _root_.List renaming length_append->AP,getElem?_eq_some_iff->AV,getElem?_append_right->BD,getElem?_append_left->BN,take_of_length_le->BO,append_assoc->BZ,take_append_drop->DW
open Go.Value.slice renaming injEq->AQ
open Go.World renaming cell?->AX,frozen?->FC
open _root_.Option.some renaming injEq->BF
open Go.Value renaming ownBlock->DK,slice->FV
open Go.Sem renaming run_bind->EG,run_pure->ER
open Go.Result renaming andThen_ok->EH
open _root_.List.cons renaming injEq->EI
open Go.Value.agg renaming injEq->EO
open _root_.Array.mk renaming injEq->F8
open Go.Obj renaming cells->FW
open Go renaming World->FX,Value->FZ,Calls->G5
open _root_.Option renaming none->G6,some->G7
variable{F:Nat->Prop}{g B q k o n j i:Nat}{W V w w':FX}{v:FZ}{s:Sv}{r:Nat->Int}{p:Pw}{e:Ending}{E:Int}{d:Dd}{α:Type}
def WB(W:FX)(k:Nat)(f:Nat->FZ):Prop:=∃c:Array FZ,W.heap[k]?=G7 (FW c 74 (0,0))/\c.size=83/\∀j,j<83->c[j]?=G7 (f j)
section
variable {W V:FX} {k j:Nat} {f:Nat->FZ}
theorem WB.lt(h:WB W k f):k<W.heap.size:=by
 obtain⟨c,h1,_⟩:=h;exact(AL.1 h1).1
theorem WB.cell(h:WB W k f)(hj:j<83):W.cell? ⟨k,j,G6⟩=G7 (f j):=by
 obtain⟨c,h1,_,h3⟩:=h;simp[AX,h1,h3 j hj]
theorem WB.GX(h:WB W k f)(j:Nat):W.frozen? ⟨k,j,G6⟩=false:=by
 obtain⟨c,h1,_⟩:=h;simp[FC,h1]
theorem WB.touch(h:WB W k f)(ht:Touch F W V)(hk:¬F k):WB V k f:=by
 obtain⟨c,h1,h2,h3⟩:=h;exact⟨c,(ht.block k (AL.1 h1).1 hk).trans h1,h2,h3⟩
theorem WB.next(h:WB W k f)(hb:B0 W V):WB V k f:=h.touch (F:=fun _=>False) (Touch.of_below hb) id
theorem WB.set(h:WB W k f)(hj:j<83)(v:FZ):WB (W.setCell ⟨k,j,G6⟩ v) k (LH f j v):=by
 obtain⟨c,h1,h2,h3⟩:=h;refine⟨c.setIfInBounds j v,GV v h1,by simp[h2],fun i hi=>?_⟩;rw[Array.getElem?_setIfInBounds];by_cases e:j=i
 .subst e;simp[h2,hj,II]
 .rw[if_neg e,GN _ _ (fun h=>e h.symm)];exact h3 i hi
theorem WB.of_eq{g:Nat->FZ}(h:WB W k f)(he:∀j,j<83->f j=g j):WB W k g:=by
 obtain⟨c,h1,h2,h3⟩:=h;exact⟨c,h1,h2,fun j hj=>by rw[h3 j hj,he j hj]⟩
theorem WB.iO(h:WB W k f)(hs:∀j,j<83->∀s,f j≠ .string s):aO W k:=by
 obtain⟨c,h1,h2,h3⟩:=h;refine⟨c,_,h1,fun j s hj=>?_⟩;have hlt:=(AL.1 hj).1;rw[h3 j (by omega)]at hj;exact hs j (by omega) s (Option.some.inj hj)
end
def Row{α:Type}[Lay α](W:FX)(k:Nat)(v:FZ)(xs:List α):Prop:=IK W v xs/\(xs≠[]->VO v k)
section
variable {α:Type} [Lay α] {W V:FX} {k:Nat} {v:FZ} {xs:List α}
theorem Row.next(h:Row W k v xs)(hb:B0 W V):Row V k v xs:=⟨h.1.next hb,h.2⟩
theorem Row.touch(h:Row W k v xs)(ht:Touch (· =k) W V):Row V k v xs:=by
 refine⟨?_,h.2⟩;rcases h.1 with h1|⟨b,off,cap,rfl,h1,h2,h3,h0,h4⟩
 .exact .inl h1
 .refine .inr ⟨b,off,cap,rfl,h1,h2,AY h3 ht.size,h0,fun i v hi=>?_⟩;have hb:b≠k:=h.2 h0 b off _ cap rfl;rw[AX,ht.block b h3 hb];exact h4 i v hi
theorem Row.new(h:IK W v xs)(hk:W.heap.size<=k):Row W k v xs:=by
 refine⟨h,fun h0 b off n c e=>?_⟩;rcases h with⟨a,cap,_,e0,_⟩|⟨b',off',cap,rfl,_,_,h3,_,_⟩
 .exact absurd e0 h0
 .simp only[AQ,BF,Addr.mk.injEq]at e;omega
theorem Row.own(h:H6 W B v xs)(hk:k<B):Row W k v xs:=⟨h.seq,fun _=>YV h hk⟩
theorem Row.slice(h:Row W k v xs):∃a c,v=FV a xs.length c:=GL h.1
theorem Row.nil(W:FX)(k:Nat)(c:Nat)(hc:c<=maxLen)(a:Option Addr):Row W k (FV a 0 c) ([]:List α):=⟨.inl ⟨a,c,rfl,rfl,hc⟩,fun h=>absurd rfl h⟩
theorem YD(hq:q<Lay.k α)(ht:∀x:α,∃s,(Lay.cs x)[q]?=G7 (Value.string s))(h:IK W v xs)(hk:aO W k):Row W k v xs:=by
 refine⟨h,fun h0 b off n c e=>?_⟩;rcases h with⟨a,cap,_,e0,_⟩|⟨b',off',cap,rfl,_,_,h3,_,h4⟩
 .exact absurd e0 h0
 .simp only[AQ,BF,Addr.mk.injEq]at e;rintro rfl;obtain⟨x,r,rfl⟩:=List.exists_cons_of_ne_nil h0;obtain⟨s,hs⟩:=ht x;have:=h4 (0*Lay.k α+q) _ ((GY (x::r) 0 x rfl q hq).trans hs);rw[e.1.1]at this;exact hk.no this
end
theorem tH{xs:List DF}(h:IW W v xs)(hk:aO W k):Row W k v xs:=YD (q:=0) (by decide) (fun x=>⟨_,rfl⟩) (OQ.2 h) hk
theorem aF{xs:List GU}(h:NI W v xs)(hk:aO W k):Row W k v xs:=YD (q:=3) (by decide) (fun x=>⟨_,rfl⟩) (MJ.2 h) hk
theorem lZ{xs:List Nd}(h:IK W v xs)(hk:aO W k):Row W k v xs:=YD (q:=0) (by decide) (fun x=>⟨_,rfl⟩) h hk
theorem TV{xs:List Wa}(h:IK W v xs)(hk:aO W k):Row W k v xs:=YD (q:=2) (by decide) (fun x=>⟨_,rfl⟩) h hk
theorem YE{xs:List En}(h:IK W v xs)(hk:aO W k):Row W k v xs:=YD (q:=0) (by decide) (fun x=>⟨_,rfl⟩) h hk
structure SvA(W:FX)(k:Nat)(g:Nat->FZ)(s:Sv):Prop where
 up:g 0=.bool s.up
 d:Row W k (g 1) s.fs
 id:g 2=I0 s.id
 ep:g 3=I0 s.ep
 l:Row W k (g 4) s.ts
 dn:g 5=I0 s.dn
 z:g 6=I0 s.tr.z
 n:Row W k (g 7) s.tr.ns
 i:Row W k (g 8) s.tr.ss
 w:Row W k (g 9) s.ws
section
variable {W V:FX} {k:Nat} {g:Nat->FZ} {s:Sv}
theorem SvA.next(h:SvA W k g s)(hb:B0 W V):SvA V k g s:=⟨h.up,h.d.next hb,h.id,h.ep,h.l.next hb,h.dn,h.z,h.n.next hb,h.i.next hb,h.w.next hb⟩
theorem SvA.touch(h:SvA W k g s)(ht:Touch (· =k) W V):SvA V k g s:=⟨h.up,h.d.touch ht,h.id,h.ep,h.l.touch ht,h.dn,h.z,h.n.touch ht,h.i.touch ht,h.w.touch ht⟩
theorem SvA.val(h:SvA W k g s):SvV W (.agg #[g 0,g 1,g 2,g 3,g 4,g 5,g 6,g 7,g 8,g 9]) s:=by
 rw[h.up,h.id,h.ep,h.dn,h.z];exact⟨_,_,_,_,_,rfl,OQ.1 h.d.1,MJ.1 h.l.1,h.n.1,h.i.1,h.w.1⟩
theorem SvA.moved(h:SvA W k g s)(hq:W.heap.size<=q):SvA W q g s:=⟨h.up,Row.new h.d.1 hq,h.id,h.ep,Row.new h.l.1 hq,h.dn,h.z,Row.new h.n.1 hq,Row.new h.i.1 hq,Row.new h.w.1 hq⟩
theorem SvA.cellP{P:FZ->Prop}(hb:∀b,P (.bool b))(hn:∀n,P (I0 n))(hs:∀a n c,P (FV a n c))(h:SvA W k g s)(j:Nat)(hj:j<10):P (g j):=by
 have r:∀ {α:Type} [Lay α] {v:FZ} {xs:List α},Row W k v xs->P v:=fun h=>by obtain⟨a,c,e⟩:=h.slice;rw[e];exact hs _ _ _
 rcases(show j=0\/j=1\/j=2\/j=3\/j=4\/j=5\/j=6\/j=7\/j=8\/j=9 by omega)with rfl|rfl|rfl|rfl|rfl|rfl|rfl|rfl|rfl|rfl
 .rw[h.up];exact hb _
 .exact r h.d
 .rw[h.id];exact hn _
 .rw[h.ep];exact hn _
 .exact r h.l
 .rw[h.dn];exact hn _
 .rw[h.z];exact hn _
 .exact r h.n
 .exact r h.i
 .exact r h.w
theorem SvA.of{vd vl vn vs vw:FZ}(hk:aO W k)(hv:SvV W (.agg #[.bool s.up,vd,I0 s.id,I0 s.ep,vl,I0 s.dn,I0 s.tr.z,vn,vs,vw]) s)(hs:s.tr.ss≠[]->VO vs k)
  (h0:g 0=.bool s.up) (h1:g 1=vd) (h2:g 2=I0 s.id) (h3:g 3=I0 s.ep) (h4:g 4=vl) (h5:g 5=I0 s.dn) (h6:g 6=I0 s.tr.z) (h7:g 7=vn) (h8:g 8=vs) (h9:g 9=vw):SvA W k g s:=by
 obtain⟨vd',vl',vn',vs',vw',e,r1,r2,r3,r4,r5⟩:=hv;simp only[EO,F8,EI,true_and,and_true]at e;obtain⟨rfl,rfl,rfl,rfl,rfl⟩:=e;exact⟨h0,by rw[h1];exact tH r1 hk,h2,h3,by rw[h4];exact aF r2 hk,h5,h6,by rw[h7];exact lZ r3 hk,by rw[h8];exact⟨r4,hs⟩,by rw[h9];exact TV r5 hk⟩
end
structure ClA(W:FX)(k:Nat)(g:Nat->FZ)(c:Cl):Prop where
 s:g 0=I0 c.s
 z:g 1=I0 c.z
 e:Row W k (g 2) c.es
structure WdR(W:FX)(k:Nat)(f:Nat->FZ)(p:Pw):Prop where
 n:f 0=I0 p.n
 s:∀i,i<3->SvA W k (fun q=>f (1+10*i+q)) (svP i (p.s i))
 r:∀i,i<3->f (31+i)=I0 (p.r i)
 c:∀i,i<16->ClA W k (fun q=>f (34+3*i+q)) (p.c i)
 d:Row W k (f 82) p.D
 h:∀i,i<3->(svP i (p.s i)).tr.ss≠[]->∀b,b<=p.h->VO (f (1+10*i+8)) b
 hk:p.h<=k
def WX(W:FX)(k:Nat)(p:Pw):Prop:=∃f,WB W k f/\WdR W k f p
section
variable {W V:FX} {k:Nat} {f:Nat->FZ} {p:Pw}
theorem WdR.next(h:WdR W k f p)(hb:B0 W V):WdR V k f p:=
 ⟨h.n,fun i hi=>(h.s i hi).next hb,h.r,fun i hi=>⟨(h.c i hi).s,(h.c i hi).z,(h.c i hi).e.next hb⟩,h.d.next hb,h.h,h.hk⟩
theorem WdR.touch(h:WdR W k f p)(ht:Touch (· =k) W V):WdR V k f p:=
 ⟨h.n,fun i hi=>(h.s i hi).touch ht,h.r,fun i hi=>⟨(h.c i hi).s,(h.c i hi).z,(h.c i hi).e.touch ht⟩,h.d.touch ht,h.h,h.hk⟩
theorem WdR.moved(h:WdR W k f p)(hq:W.heap.size<=q)(hk:p.h<=q):WdR W q f p:=
 ⟨h.n,fun i hi=>(h.s i hi).moved hq,h.r,fun i hi=>⟨(h.c i hi).s,(h.c i hi).z,Row.new (h.c i hi).e.1 hq⟩,Row.new h.d.1 hq,h.h,hk⟩
theorem WX.next(h:WX W k p)(hb:B0 W V):WX V k p:=by
 obtain⟨f,h1,h2⟩:=h;exact⟨f,h1.next hb,h2.next hb⟩
theorem WX.lt(h:WX W k p):k<W.heap.size:=by
 obtain⟨f,h1,_⟩:=h;exact h1.lt
theorem WdR.cellP{P:FZ->Prop}(hb:∀b,P (.bool b))(hn:∀n,P (I0 n))(hs:∀a n c,P (FV a n c))(h:WdR W k f p)(j:Nat)(hj:j<83):P (f j):=by
 by_cases h0:j=0
 .subst h0;rw[h.n];exact hn _
 .by_cases h1:j<31
  .have:=(h.s ((j-1)/10) (by omega)).cellP hb hn hs ((j-1)%10) (by omega);simp only[show 1+10*((j-1)/10)+(j-1)%10=j by omega]at this;exact this
  .by_cases h2:j<34
   .have:=h.r (j-31) (by omega);rw[show 31+(j-31)=j by omega]at this;rw[this];exact hn _
   .by_cases h3:j<82
    .have hc:=h.c ((j-34)/3) (by omega);have e0:34+3*((j-34)/3)+(j-34)%3=j:=by omega
     rcases(show (j-34)%3=0\/(j-34)%3=1\/(j-34)%3=2 by omega)with e|e|e
     .have:=hc.s;simp only[<-e,e0]at this;rw[this];exact hn _
     .have:=hc.z;simp only[<-e,e0]at this;rw[this];exact hn _
     .obtain⟨a,c,e'⟩:=hc.e.slice;simp only[<-e,e0]at e';rw[e'];exact hs _ _ _
    .obtain rfl:j=82:=by omega
     obtain⟨a,c,e'⟩:=h.d.slice;rw[e'];exact hs _ _ _
theorem WdR.text(h:WdR W k f p)(j:Nat)(hj:j<83)(t:ByteArray):f j≠ .string t:=h.cellP (P:=(· ≠ .string t)) (fun _ e=>by cases e) (fun _ e=>by cases e) (fun _ _ _ e=>by cases e) j hj
theorem WdR.iO(h:WdR W k f p)(hb:WB W k f):aO W k:=hb.iO h.text
end
def CI9(x0 x1 x2 x3 x4 x5 x6 x7 x8 x9:FZ):Nat->FZ
 |0=>x0|1=>x1|2=>x2|3=>x3|4=>x4|5=>x5|6=>x6|7=>x7|8=>x8|_=>x9
def B97(x0 x1 x2:FZ):Nat->FZ
 |0=>x0|1=>x1|_=>x2
def BH1(f:Nat->FZ)(o n:Nat)(g:Nat->FZ):Nat->FZ:=fun j=>if o<=j/\j<o+n then g (j-o)else f j
theorem OC{f g:Nat->FZ}(h:q<n):BH1 f o n g (o+q)=g q:=by
 rw[BH1,if_pos ⟨by omega,by omega⟩]
 congr 1
 omega
theorem JF{f g:Nat->FZ}(h:j<o\/o+n<=j):BH1 f o n g j=f j:=by rw[BH1,if_neg (by omega)]
def qE(W:FX)(k o:Nat)(x0 x1 x2 x3 x4 x5 x6 x7 x8 x9:FZ):FX:=
 (((((((((W.setCell ⟨k,o,G6⟩ x0).setCell ⟨k,o+1,G6⟩ x1).setCell ⟨k,o+2,G6⟩ x2).setCell ⟨k,o+3,G6⟩ x3).setCell ⟨k,o+4,G6⟩ x4).setCell ⟨k,o+5,G6⟩ x5).setCell ⟨k,o+6,G6⟩ x6).setCell ⟨k,o+7,G6⟩ x7).setCell ⟨k,o+8,G6⟩ x8).setCell ⟨k,o+9,G6⟩ x9
def jF(W:FX)(k o:Nat)(x0 x1 x2:FZ):FX:=((W.setCell ⟨k,o,G6⟩ x0).setCell ⟨k,o+1,G6⟩ x1).setCell ⟨k,o+2,G6⟩ x2
section
variable {W:FX} {k:Nat} {f:Nat->FZ} {p:Pw}
theorem JK(W:FX)(k j:Nat)(v:FZ):Touch (· =k) W (W.setCell ⟨k,j,G6⟩ v):=Touch.set (F:=(· =k)) (a:=⟨k,j,G6⟩) rfl v
theorem WR(W:FX)(k o:Nat)(x0 x1 x2 x3 x4 x5 x6 x7 x8 x9:FZ):Touch (· =k) W (qE W k o x0 x1 x2 x3 x4 x5 x6 x7 x8 x9):=
 (((((((((JK _ _ _ _).trans (JK _ _ _ _)).trans (JK _ _ _ _)).trans (JK _ _ _ _)).trans (JK _ _ _ _)).trans (JK _ _ _ _)).trans (JK _ _ _ _)).trans (JK _ _ _ _)).trans (JK _ _ _ _)).trans (JK _ _ _ _)
theorem SE(W:FX)(k o:Nat)(x0 x1 x2:FZ):Touch (· =k) W (jF W k o x0 x1 x2):=((JK _ _ _ _).trans (JK _ _ _ _)).trans (JK _ _ _ _)
theorem WB.jF(h:WB W k f)(ho:o+3<=83)(x0 x1 x2:FZ):WB (jF W k o x0 x1 x2) k (BH1 f o 3 (B97 x0 x1 x2)):=by
 refine(((h.set (j:=o) (by omega) x0).set (j:=o+1) (by omega) x1).set (j:=o+2) (by omega) x2).of_eq fun j hj=>?_;by_cases h2:j=o+2
 .subst h2;rw[II,OC (by omega)];rfl
 .by_cases h1:j=o+1
  .subst h1;rw[GN _ _ (by omega),II,OC (by omega)];rfl
  .by_cases h0:j=o
   .subst h0;rw[GN _ _ (by omega),GN _ _ (by omega),II,show BH1 f j 3 (B97 x0 x1 x2) j=BH1 f j 3 (B97 x0 x1 x2) (j+0)from rfl,OC (by omega)];rfl
   .rw[GN _ _ h2,GN _ _ h1,GN _ _ h0,JF (by omega)]
theorem WB.qE(h:WB W k f)(ho:o+10<=83)(x0 x1 x2 x3 x4 x5 x6 x7 x8 x9:FZ):WB (qE W k o x0 x1 x2 x3 x4 x5 x6 x7 x8 x9) k (BH1 f o 10 (CI9 x0 x1 x2 x3 x4 x5 x6 x7 x8 x9)):=by
 refine((((((((((h.set (j:=o) (by omega) x0).set (j:=o+1) (by omega) x1).set (j:=o+2) (by omega) x2).set (j:=o+3) (by omega) x3).set (j:=o+4) (by omega) x4).set (j:=o+5) (by omega) x5).set (j:=o+6) (by omega) x6).set (j:=o+7) (by omega) x7).set (j:=o+8) (by omega) x8).set (j:=o+9) (by omega) x9).of_eq fun j hj=>?_;by_cases hr:o<=j/\j<o+10
 .obtain⟨q,rfl⟩:∃q,j=o+q:=⟨j-o,by omega⟩;rw[OC (by omega)];have hq:q<10:=by omega
  rcases(show q=0\/q=1\/q=2\/q=3\/q=4\/q=5\/q=6\/q=7\/q=8\/q=9 by omega)with rfl|rfl|rfl|rfl|rfl|rfl|rfl|rfl|rfl|rfl<;>simp[LH,CI9]
 .rw[JF (by omega),GN _ _ (by omega),GN _ _ (by omega),GN _ _ (by omega),GN _ _ (by omega),GN _ _ (by omega),GN _ _ (by omega),GN _ _ (by omega),GN _ _ (by omega),GN _ _ (by omega),GN _ _ (by omega)]
theorem SvA.congr{g g':Nat->FZ}(h:SvA W k g s)(he:∀q,q<10->g' q=g q):SvA W k g' s:=by
 refine⟨?_,?_,?_,?_,?_,?_,?_,?_,?_,?_⟩<;>rw[he _ (by omega)]
 .exact h.up
 .exact h.d
 .exact h.id
 .exact h.ep
 .exact h.l
 .exact h.dn
 .exact h.z
 .exact h.n
 .exact h.i
 .exact h.w
theorem ClA.congr{g g':Nat->FZ}{c:Cl}(h:ClA W k g c)(he:∀q,q<3->g' q=g q):ClA W k g' c:=by
 refine⟨?_,?_,?_⟩<;>rw[he _ (by omega)]
 .exact h.s
 .exact h.z
 .exact h.e
theorem WX.qF(h:WX W k p)(hi:i<3){q:Ps}{vd vl vn vs vw:FZ}(hq:svP i q=s)(hv:SvV W (.agg #[.bool s.up,vd,I0 s.id,I0 s.ep,vl,I0 s.dn,I0 s.tr.z,vn,vs,vw]) s)(hs:s.tr.ss≠[]->∀b,b<=k->VO vs b):
  WX (qE W k (1+10*i) (.bool s.up) vd (I0 s.id) (I0 s.ep) vl (I0 s.dn) (I0 s.tr.z) vn vs vw) k ⟨p.n,LH p.s i q,p.r,p.c,p.D,p.H,p.h⟩:=by
 obtain⟨f,hb,hr⟩:=h;refine⟨_,hb.qE (o:=1+10*i) (by omega) _ _ _ _ _ _ _ _ _ _,WdR.touch (W:=W) ?_ (WR _ _ _ _ _ _ _ _ _ _ _ _ _)⟩;have hA:SvA W k (CI9 (.bool s.up) vd (I0 s.id) (I0 s.ep) vl (I0 s.dn) (I0 s.tr.z) vn vs vw) s:=SvA.of (hr.iO hb) hv (fun h=>hs h k (A8 k)) rfl rfl rfl rfl rfl rfl rfl rfl rfl rfl;refine⟨by rw[JF (by omega)];exact hr.n,fun j hj=>?_,fun j hj=>by rw[JF (by omega)];exact hr.r j hj,fun j hj=>(hr.c j hj).congr fun q hq=>by rw[JF (by omega)],by rw[JF (by omega)];exact hr.d,fun j hj h0=>?_,hr.hk⟩
 .by_cases e:j=i
  .subst e;simp only[II,hq];exact hA.congr fun q hq=>by rw[OC hq]
  .simp only[GN _ _ e];exact(hr.s j hj).congr fun q hq=>by rw[JF (by omega)]
 .by_cases e:j=i
  .subst e;simp only[II,hq]at h0;rw[OC (by omega)];exact fun b hb=>hs h0 b (BP hb hr.hk)
  .simp only[GN _ _ e]at h0;rw[JF (by omega)];exact hr.h j hj h0
theorem WX.WG(h:WX W k p)(hi:i<3)(v:Int):WX (W.setCell ⟨k,31+i,G6⟩ (I0 v)) k ⟨p.n,p.s,LH p.r i v,p.c,p.D,p.H,p.h⟩:=by
 obtain⟨f,hb,hr⟩:=h;refine⟨_,hb.set (j:=31+i) (by omega) _,WdR.touch (W:=W) ?_ (JK _ _ _ _)⟩;refine⟨by rw[GN _ _ (by omega)];exact hr.n,fun j hj=>(hr.s j hj).congr fun q hq=>by rw[GN _ _ (by omega)],fun j hj=>?_,fun j hj=>(hr.c j hj).congr fun q hq=>by rw[GN _ _ (by omega)],by rw[GN _ _ (by omega)];exact hr.d,fun j hj h0=>by rw[GN _ _ (by omega)];exact hr.h j hj h0,hr.hk⟩;by_cases e:j=i
 .subst e;rw[II];simp only[II]
 .rw[GN _ _ (by omega)];simp only[GN _ _ e];exact hr.r j hj
theorem WX.AG1(h:WX W k p)(he:∀i,i<3->p.r i=r i):WX W k ⟨p.n,p.s,r,p.c,p.D,p.H,p.h⟩:=by
 obtain⟨f,hb,hr⟩:=h;exact⟨f,hb,hr.n,hr.s,fun i hi=>by rw[hr.r i hi,he i hi],hr.c,hr.d,hr.h,hr.hk⟩
theorem WX.clear(h:WX W k p):WX (jF W k 31 (I0 0) (I0 0) (I0 0)) k ⟨p.n,p.s,fun _=>0,p.c,p.D,p.H,p.h⟩:=by
 have h1:=((h.WG (i:=0) (by omega) 0).WG (i:=1) (by omega) 0).WG (i:=2) (by omega) 0;have h2:WX (jF W k 31 (I0 0) (I0 0) (I0 0)) k ⟨p.n,p.s,LH (LH (LH p.r 0 0) 1 0) 2 0,p.c,p.D,p.H,p.h⟩:=h1;refine h2.AG1 fun i hi=>?_;rcases(show i=0\/i=1\/i=2 by omega)with rfl|rfl|rfl<;>simp[LH]
theorem WX.AG2(h:WX W k p)(n:Int):WX (W.setCell ⟨k,0,G6⟩ (I0 n)) k ⟨n,p.s,p.r,p.c,p.D,p.H,p.h⟩:=by
 obtain⟨f,hb,hr⟩:=h;refine⟨_,hb.set (j:=0) (by omega) _,WdR.touch (W:=W) ?_ (JK _ _ _ _)⟩;exact⟨by rw[II],fun j hj=>(hr.s j hj).congr fun q hq=>by rw[GN _ _ (by omega)],fun j hj=>by rw[GN _ _ (by omega)];exact hr.r j hj,fun j hj=>(hr.c j hj).congr fun q hq=>by rw[GN _ _ (by omega)],by rw[GN _ _ (by omega)];exact hr.d,fun j hj h0=>by rw[GN _ _ (by omega)];exact hr.h j hj h0,hr.hk⟩
theorem WX.BS8(h:WX W k p)(hi:i<16){c:Cl}(hv:IK W v c.es):WX (jF W k (34+3*i) (I0 c.s) (I0 c.z) v) k ⟨p.n,p.s,p.r,LH p.c i c,p.D,p.H,p.h⟩:=by
 obtain⟨f,hb,hr⟩:=h;refine⟨_,hb.jF (o:=34+3*i) (by omega) _ _ _,WdR.touch (W:=W) ?_ (SE _ _ _ _ _ _)⟩;refine⟨by rw[JF (by omega)];exact hr.n,fun j hj=>(hr.s j hj).congr fun q hq=>by rw[JF (by omega)],fun j hj=>by rw[JF (by omega)];exact hr.r j hj,fun j hj=>?_,by rw[JF (by omega)];exact hr.d,fun j hj h0=>by rw[JF (by omega)];exact hr.h j hj h0,hr.hk⟩;by_cases e:j=i
 .subst e;simp only[II];exact ClA.congr (g:=B97 (I0 c.s) (I0 c.z) v) ⟨rfl,rfl,YE hv (hr.iO hb)⟩ fun q hq=>by rw[OC hq]
 .simp only[GN _ _ e];exact(hr.c j hj).congr fun q hq=>by rw[JF (by omega)]
theorem WX.CP4(h:WX W k p){D:List GU}(hv:IK W v D)(H:List GU):WX (W.setCell ⟨k,82,G6⟩ v) k ⟨p.n,p.s,p.r,p.c,D,H,p.h⟩:=by
 obtain⟨f,hb,hr⟩:=h;refine⟨_,hb.set (j:=82) (by omega) _,WdR.touch (W:=W) ?_ (JK _ _ _ _)⟩;exact⟨by rw[GN _ _ (by omega)];exact hr.n,fun j hj=>(hr.s j hj).congr fun q hq=>by rw[GN _ _ (by omega)],fun j hj=>by rw[GN _ _ (by omega)];exact hr.r j hj,fun j hj=>(hr.c j hj).congr fun q hq=>by rw[GN _ _ (by omega)],by rw[II];exact aF (MJ.1 hv) (hr.iO hb),fun j hj h0=>by rw[GN _ _ (by omega)];exact hr.h j hj h0,hr.hk⟩
theorem WX.C17(h:WX W k p)(hi:i<3)(hu:(p.s i).up=true){x:Ps}(hx:x=⟨(p.s i).up,(p.s i).e,(p.s i).m,(p.s i).a,(p.s i).q,(p.s i).dn,x.ws⟩)(hv:IK W v x.ws):WX (W.setCell ⟨k,1+10*i+9,G6⟩ v) k ⟨p.n,LH p.s i x,p.r,p.c,p.D,p.H,p.h⟩:=by
 obtain⟨f,hb,hr⟩:=h;refine⟨_,hb.set (j:=1+10*i+9) (by omega) _,WdR.touch (W:=W) ?_ (JK _ _ _ _)⟩;refine⟨by rw[GN _ _ (by omega)];exact hr.n,fun j hj=>?_,fun j hj=>by rw[GN _ _ (by omega)];exact hr.r j hj,fun j hj=>(hr.c j hj).congr fun q hq=>by rw[GN _ _ (by omega)],by rw[GN _ _ (by omega)];exact hr.d,fun j hj h0=>by
  rw[GN _ _ (by omega)];refine hr.h j hj ?_;by_cases e:j=i
  .subst e;simp only[II]at h0;rw[J5 (by rw[hx];exact hu)]at h0;rw[J5 hu];rw[hx]at h0;exact h0
  .simp only[GN _ _ e]at h0;exact h0,hr.hk⟩
 by_cases e:j=i
 .subst e;simp only[II];have hs:=hr.s j hj;have e1:svP j x=⟨(svP j (p.s j)).up,(svP j (p.s j)).fs,(svP j (p.s j)).id,(svP j (p.s j)).ep,(svP j (p.s j)).ts,(svP j (p.s j)).dn,(svP j (p.s j)).tr,x.ws⟩:=by
   rw[J5 hu,J5 (by rw[hx];exact hu),hx]
  rw[e1];have g:∀q,q<9->LH f (1+10*j+9) v (1+10*j+q)=f (1+10*j+q):=fun q hq=>GN _ _ (by omega);exact⟨by rw[g 0 (by omega)];exact hs.up,by rw[g 1 (by omega)];exact hs.d,by rw[g 2 (by omega)];exact hs.id,by rw[g 3 (by omega)];exact hs.ep,by rw[g 4 (by omega)];exact hs.l,by rw[g 5 (by omega)];exact hs.dn,by rw[g 6 (by omega)];exact hs.z,by rw[g 7 (by omega)];exact hs.n,by rw[g 8 (by omega)];exact hs.i,by rw[II];exact TV hv (hr.iO hb)⟩
 .simp only[GN _ _ e];exact(hr.s j hj).congr fun q hq=>by rw[GN _ _ (by omega)]
end
structure Srv(W:FX)(k o:Nat)(up:Bool)(id ep dn z:Int)(vd vl vn vs vw:FZ):Prop where
 c0:W.cell? ⟨k,o,G6⟩=G7 (.bool up)
 c1:W.cell? ⟨k,o+1,G6⟩=G7 vd
 c2:W.cell? ⟨k,o+2,G6⟩=G7 (I0 id)
 c3:W.cell? ⟨k,o+3,G6⟩=G7 (I0 ep)
 c4:W.cell? ⟨k,o+4,G6⟩=G7 vl
 c5:W.cell? ⟨k,o+5,G6⟩=G7 (I0 dn)
 c6:W.cell? ⟨k,o+6,G6⟩=G7 (I0 z)
 c7:W.cell? ⟨k,o+7,G6⟩=G7 vn
 c8:W.cell? ⟨k,o+8,G6⟩=G7 vs
 c9:W.cell? ⟨k,o+9,G6⟩=G7 vw
theorem Srv.next{up:Bool}{id ep dn z:Int}{vd vl vn vs vw:FZ}(h:Srv W k o up id ep dn z vd vl vn vs vw)(hk:k<W.heap.size)(hV:B0 W V):Srv V k o up id ep dn z vd vl vn vs vw:=by
 have e:∀j,V.cell? ⟨k,j,G6⟩=W.cell? ⟨k,j,G6⟩:=fun j=>by rw[AX,AX,hV.block k hk]
 exact⟨(e _).trans h.c0,(e _).trans h.c1,(e _).trans h.c2,(e _).trans h.c3,(e _).trans h.c4,(e _).trans h.c5,(e _).trans h.c6,(e _).trans h.c7,(e _).trans h.c8,(e _).trans h.c9⟩
theorem WX.srv(h:WX W k p)(hi:i<3)(hs:svP i (p.s i)=s):∃ad nd cd al cl an cn ai ci aw cw,
  Srv W k (1+10*i) s.up s.id s.ep s.dn s.tr.z (FV ad nd cd) (FV al s.ts.length cl) (FV an s.tr.ns.length cn) (FV ai s.tr.ss.length ci) (FV aw s.ws.length cw)/\
  SvV W (.agg #[.bool s.up,FV ad nd cd,I0 s.id,I0 s.ep,FV al s.ts.length cl,I0 s.dn,I0 s.tr.z,FV an s.tr.ns.length cn,FV ai s.tr.ss.length ci,FV aw s.ws.length cw]) s/\(s.tr.ss≠[]->VO (FV ai s.tr.ss.length ci) k):=by
 obtain⟨f,hb,hr⟩:=h;have h:=hr.s i hi;rw[hs]at h;obtain⟨ad,cd,e1⟩:=h.d.slice;obtain⟨al,cl,e4⟩:=h.l.slice;obtain⟨an,cn,e7⟩:=h.n.slice;obtain⟨ai,ci,e8⟩:=h.i.slice;obtain⟨aw,cw,e9⟩:=h.w.slice;have hv:=h.val;have hw:=h.i.2;rw[e8]at hw;rw[h.up,e1,h.id,h.ep,e4,h.dn,h.z,e7,e8,e9]at hv;refine⟨ad,_,cd,al,cl,an,cn,ai,ci,aw,cw,⟨?_,?_,?_,?_,?_,?_,?_,?_,?_,?_⟩,hv,hw⟩
 .rw[hb.cell (j:=1+10*i) (by omega)];exact congrArg G7 h.up
 .rw[hb.cell (by omega)];exact congrArg G7 e1
 .rw[hb.cell (by omega)];exact congrArg G7 h.id
 .rw[hb.cell (by omega)];exact congrArg G7 h.ep
 .rw[hb.cell (by omega)];exact congrArg G7 e4
 .rw[hb.cell (by omega)];exact congrArg G7 h.dn
 .rw[hb.cell (by omega)];exact congrArg G7 h.z
 .rw[hb.cell (by omega)];exact congrArg G7 e7
 .rw[hb.cell (by omega)];exact congrArg G7 e8
 .rw[hb.cell (by omega)];exact congrArg G7 e9
theorem WX.role(h:WX W k p)(hi:i<3):W.cell? ⟨k,31+i,G6⟩=G7 (I0 (p.r i)):=by
 obtain⟨f,hb,hr⟩:=h;rw[hb.cell (by omega),hr.r i hi]
theorem WX.count(h:WX W k p):W.cell? ⟨k,0,G6⟩=G7 (I0 p.n):=by
 obtain⟨f,hb,hr⟩:=h;rw[hb.cell (by omega),hr.n]
theorem WX.GX(h:WX W k p)(j:Nat):W.frozen? ⟨k,j,G6⟩=false:=by
 obtain⟨f,hb,hr⟩:=h;exact hb.GX j
theorem WX.cl(h:WX W k p)(hi:i<16):∃a c,W.cell? ⟨k,34+3*i,G6⟩=G7 (I0 (p.c i).s)/\W.cell? ⟨k,34+3*i+1,G6⟩=G7 (I0 (p.c i).z)/\W.cell? ⟨k,34+3*i+2,G6⟩=G7 (FV a (p.c i).es.length c)/\IK W (FV a (p.c i).es.length c) (p.c i).es:=by
 obtain⟨f,hb,hr⟩:=h;have h:=hr.c i hi;obtain⟨a,c,e⟩:=h.e.slice;have hv:=h.e.1;rw[e]at hv;refine⟨a,c,?_,?_,?_,hv⟩
 .rw[hb.cell (j:=34+3*i) (by omega)];exact congrArg G7 h.s
 .rw[hb.cell (by omega)];exact congrArg G7 h.z
 .rw[hb.cell (by omega)];exact congrArg G7 e
theorem WX.ack(h:WX W k p):∃a c,W.cell? ⟨k,82,G6⟩=G7 (FV a p.D.length c)/\IK W (FV a p.D.length c) p.D:=by
 obtain⟨f,hb,hr⟩:=h;obtain⟨a,c,e⟩:=hr.d.slice;have hv:=hr.d.1;rw[e]at hv;exact⟨a,c,by rw[hb.cell (by omega),e],hv⟩
noncomputable def zW:Array FZ:=(((prog.info? 74).bind (·.zero)).getD undef).cells
theorem B98:(prog.info? 74).map (fun i=>(i.zero,i.size))=G7 (G7 (.agg zW),83):=by kernel_rfl
theorem CA9:zW.size=83:=by kernel_rfl
theorem CZ7(h:n=83):(prog.info? 74).map (·.size)=G7 n:=by rw[h];exact(zero_of_info B98).2
noncomputable def zB:Array FZ:=(prog.built 74 []).getD #[]
theorem CB0:zB.size=83:=by kernel_rfl
section
variable {w:FX} {ops:Array Oper} {rest:List Oper} {o:Oper} {a:Act} {Q:Exit->Act->FX->Prop}
theorem iG(hgd:o.guard=G6)(x:Operand)(ho:o.op=.load 74 x)(k:Nat)(c:Array FZ)(hx:a.eval x=P0 k)(hc:w.heap[k]?=G7 (FW c 74 (0,0)))(h83:c.size=83)
  (h:wpList prog ops Q rest (a.put o.dst (.agg c)) w):wpList prog ops Q (o::rest) a w:=by
 refine wpList_plain hgd fun K hK=>?_;have hr:(Instr.loadAt 74 (P0 k)).run prog w=.ok (.agg c) w:=by
  have hl:=run_loadCells_list (P:=prog) (w:=w) ⟨k,0,G6⟩ c.toList (fun j v hj=>by
   rw[Addr.add_lit];show w.cell? ⟨k,0+j,G6⟩=G7 v;rw[BJ,cell_of_row _ _ j c _ (0,0) hc];simpa using hj)
  rw[show c.toList.length=83 by simpa using h83]at hl;simp only[Instr.loadAt,Instr.sureAddr,EG,ER,Result.andThen];unfold loadVar;simp only[EG,isAgg74,sizeOf74,Result.andThen,if_true];rw[hl];simp
 unfold Oper.wp execOp;simp only[ho,EG,ER,EH,hx,hr];exact hK _ _ h
theorem tJ(hgd:o.guard=G6)(ho:o.op=.alloc 74)(h:wpList prog ops Q rest (a.put o.dst (.pointer (G7 ⟨w.heap.size,0,G6⟩))) (w.alloc (FW zW 74))):wpList prog ops Q (o::rest) a w:=by
 refine wpList_plain hgd fun K hK=>?_;have hz:=(zero_of_info B98).1 w;have hr:(Instr.alloc 74 true (.tuple #[])).run prog w=.ok (.pointer (G7 ⟨w.heap.size,0,G6⟩)) (w.alloc (FW zW 74)):=by
  simp[Instr.alloc,newVar,newRow,hz,Value.cells,go_sem]
 unfold Oper.wp execOp;simp only[ho,EG,ER,EH,hr];exact hK _ _ h
theorem A71(hgd:o.guard=G6)(x:Operand)(ho:o.op=.box 74 x)(c:Array FZ)(hx:a.eval x=.agg c)(h:wpList prog ops Q rest (a.put o.dst (.pointer (G7 ⟨w.heap.size,0,G6⟩))) (w.alloc (FW c 74))):wpList prog ops Q (o::rest) a w:=by
 refine wpList_plain hgd fun K hK=>?_;have hr:(Instr.box 74 (.agg c)).run prog w=.ok (.pointer (G7 ⟨w.heap.size,0,G6⟩)) (w.alloc (FW c 74)):=by
  simp[Instr.box,newVar,newRow,Value.cells,go_sem]
 unfold Oper.wp execOp;simp only[ho,EG,ER,EH,hx,hr];exact hK _ _ h
theorem tK(hgd:o.guard=G6)(ho:o.op=.build 74 #[])(h:wpList prog ops Q rest (a.put o.dst (.agg zB)) w):wpList prog ops Q (o::rest) a w:=by
 refine wpList_build hgd 74 #[] ho ?_ ?_
 .simp only[Array.map_empty]
  kernel_rfl
 .simp only[Array.map_empty];exact h
theorem dJ(hgd:o.guard=G6)(x y:Operand)(ho:o.op=.store 74 x y)(k:Nat)(c old:Array FZ)(hx:a.eval x=P0 k)(hy:a.eval y=.agg c)(hc:w.heap[k]?=G7 (FW old 74 (0,0)))(h83:c.size=83)(ho83:old.size=83)(h1:c.all (·.oneCell')=true)
  (h:wpList prog ops Q rest (a.put o.dst undef) (w.setRow k c)):wpList prog ops Q (o::rest) a w:=
 wpList_store_row hgd _ x y ho k c hx hy _ old hc (CZ7 h83) (by omega) h1 h
theorem nZ(hgd:o.guard=G6)(x y:Operand)(ho:o.op=.store 74 x y)(c:Array FZ)(hx:a.eval x=.pointer (G7 ⟨w.heap.size,0,G6⟩))(hy:a.eval y=.agg c)(h83:c.size=83)(h1:c.all (·.oneCell')=true)
  (h:wpList prog ops Q rest (a.put o.dst undef) (w.alloc (FW c 74))):wpList prog ops Q (o::rest) a (w.alloc (FW zW 74)):=by
 refine dJ hgd x y ho w.heap.size c zW hx hy (heap_alloc_last w _) h83 CA9 h1 ?_;rw[World.setRow_alloc_new];exact h
end
def RpB(W:FX)(g:Nat):Prop:=W.heap[g]?=G7 (FW #[I0 0,I0 0,.string ⟨#[]⟩,.string ⟨#[]⟩,I0 0,I0 0,I0 0,I0 0,I0 0,I0 0,I0 0,N0] 36 (0,0))
theorem RpB.new(w:FX):RpB (w.alloc (FW #[I0 0,I0 0,.string ⟨#[]⟩,.string ⟨#[]⟩,I0 0,I0 0,I0 0,I0 0,I0 0,I0 0,I0 0,N0] 36)) w.heap.size:=heap_alloc_new w _
theorem RpB.lt(h:RpB W g):g<W.heap.size:=(AL.1 h).1
theorem RpB.touch(h:RpB W g)(ht:Touch F W V)(hg:¬F g):RpB V g:=(ht.block g h.lt hg).trans h
theorem RpB.next(h:RpB W g)(hb:B0 W V):RpB V g:=(hb.block g h.lt).trans h
theorem RpB.cells(h:RpB W g):(W.cell? ⟨g,0,G6⟩=G7 (I0 0)/\W.cell? ⟨g,1,G6⟩=G7 (I0 0)/\W.cell? ⟨g,2,G6⟩=G7 (.string ⟨#[]⟩)/\W.cell? ⟨g,3,G6⟩=G7 (.string ⟨#[]⟩)/\W.cell? ⟨g,4,G6⟩=G7 (I0 0)/\W.cell? ⟨g,5,G6⟩=G7 (I0 0))/\(W.cell? ⟨g,6,G6⟩=G7 (I0 0)/\W.cell? ⟨g,7,G6⟩=G7 (I0 0)/\W.cell? ⟨g,8,G6⟩=G7 (I0 0)/\W.cell? ⟨g,9,G6⟩=G7 (I0 0)/\W.cell? ⟨g,10,G6⟩=G7 (I0 0)/\W.cell? ⟨g,11,G6⟩=G7 (N0)):=by
 unfold RpB at h;refine⟨⟨?_,?_,?_,?_,?_,?_⟩,?_,?_,?_,?_,?_,?_⟩<;>simp[AX,h]
theorem RpB.GX(h:RpB W g)(j:Nat):W.frozen? ⟨g,j,G6⟩=false:=by
 unfold RpB at h;simp[FC,h]
def iP(W:FX)(g:Nat)(x0 x1 x2 x3 x4 x5 x6 x7 x8 x9 x10 x11:FZ):FX:=
 (((((((((((W.setCell ⟨g,0,G6⟩ x0).setCell ⟨g,1,G6⟩ x1).setCell ⟨g,2,G6⟩ x2).setCell ⟨g,3,G6⟩ x3).setCell ⟨g,4,G6⟩ x4).setCell ⟨g,5,G6⟩ x5).setCell ⟨g,6,G6⟩ x6).setCell ⟨g,7,G6⟩ x7).setCell ⟨g,8,G6⟩ x8).setCell ⟨g,9,G6⟩ x9).setCell ⟨g,10,G6⟩ x10).setCell ⟨g,11,G6⟩ x11
theorem Touch.new(h:Touch F w W)(hg:w.heap.size<=g)(v:FZ):Touch F w (W.setCell ⟨g,j,G6⟩ v):=
 ⟨h.os,h.tape,h.output,by simpa [World.setCell]using h.size,fun k hk hf=>(Below.heap_setCell W ⟨g,j,G6⟩ v k (by show k≠g;omega)).trans (h.block k hk hf)⟩
theorem KH(h:Touch F w W)(hg:w.heap.size<=g)(x0 x1 x2 x3 x4 x5 x6 x7 x8 x9 x10 x11:FZ):Touch F w (iP W g x0 x1 x2 x3 x4 x5 x6 x7 x8 x9 x10 x11):=
 (((((((((((h.new hg x0).new hg x1).new hg x2).new hg x3).new hg x4).new hg x5).new hg x6).new hg x7).new hg x8).new hg x9).new hg x10).new hg x11
theorem dK(w:FX)(o p:Obj):((w.alloc o).alloc p).heap[w.heap.size+1]?=G7 p:=by
 have h:=heap_alloc_new (w.alloc o) p;simpa using h
def VJ(E:Int):FZ:=.agg #[I0 E,I0 0,.string ⟨#[]⟩,.string ⟨#[]⟩,I0 0,I0 0,I0 0,I0 0,I0 0,I0 0,I0 0,N0]
theorem KQ(E:Int)(w:FX):G5 prog 25 #[I0 E] w (R0 w (VJ E)):=by
 unfold VJ;go_enter func25,ntmps25;go_wp2_with fail;refine bodyPost_ret (v:=.agg #[I0 E,I0 0,.string ⟨#[]⟩,.string ⟨#[]⟩,I0 0,I0 0,I0 0,I0 0,I0 0,I0 0,I0 0,N0]) (by simp[results,results25,go_sem]) rfl ⟨rfl,?_⟩
 first|exact Below.refl _ _|exact GH _ _|exact GI (GH _ _) (by assumption)|exact(by assumption)
def wP(k:Nat):FZ:=P0 k
theorem YF(i m:Int)(w:FX):G5 prog 20 #[I0 i,I0 m] w fun e w'=>e=.returned (.bool (lY i m))/\w'=w:=by
 by_cases h:0<=i
 .by_cases h2:i<m
  .rw[show lY i m=true by simp[lY];omega];go_enter func20,ntmps20;go_wp2_with fail;go_ret;exact⟨rfl,rfl⟩
  .rw[show lY i m=false by simp[lY];omega];go_enter func20,ntmps20;go_wp2_with fail;go_ret;exact⟨rfl,rfl⟩
 .rw[show lY i m=false by simp[lY];omega];go_enter func20,ntmps20;go_wp2_with fail;go_ret;exact⟨rfl,rfl⟩
def PO(k E:Int):Bool:=decide (E=0)||decide (E=16)||(decide (E=7)&&decide (k=2))
theorem A73(k E:Int)(w:FX):G5 prog 28 #[I0 k,I0 E] w fun e w'=>e=.returned (.bool (PO k E))/\w'=w:=by
 unfold PO;by_cases h0:E=0
 .subst h0;go_enter func28,ntmps28;go_wp2_with fail;go_ret;exact⟨by simp,rfl⟩
 .by_cases h1:E=16
  .subst h1;go_enter func28,ntmps28;go_wp2_with fail;go_ret;exact⟨by simp,rfl⟩
  .by_cases h2:E=7
   .subst h2;by_cases h3:k=2
    .subst h3;go_enter func28,ntmps28;go_wp2_with fail;go_ret;exact⟨by simp,rfl⟩
    .go_enter func28,ntmps28;go_wp2_with fail;go_ret;exact⟨by simp[h3],rfl⟩
   .go_enter func28,ntmps28;go_wp2_with fail;go_ret;exact⟨by simp[h0,h1,h2],rfl⟩
theorem tY(e:Int):(Z9 e).s.length+(Z9 e).t.length<=1048576:=by
 have:=bK (L6 e 0);simp only[Z9,List.length_nil];omega
theorem aH{e:Int}{s t:List UInt8}(h:s.length+t.length<=1048576):LV (epD e++[⟨O9,s,t⟩]):=by
 unfold epD
 split
 .exact dF h
 .exact UJ (tY e) h
theorem jH(e:Int)(s t:List UInt8):There (epD e++[⟨O9,s,t⟩]) (epD e) ⟨O9,s,t⟩ [] O9:=by
 unfold epD
 split
 .exact⟨rfl,rfl,by simp,by simp⟩
 .exact lV _ _ _ _
theorem BT5(e:Int)(s t:List UInt8)(k:Nat):(epD e++[(⟨O9,s,t⟩:DF)]).map (XQ k)=epD e++[⟨O9,s++t.take k,[]⟩]:=by
 unfold epD
 split
 .simp[XQ]
 .simp[XQ,Z9]
theorem BT6{e:Int}{s t:List UInt8}(he:zIn e=true)(h:s.length+t.length<=1048576):ZI (epD e++[⟨O9,s,t⟩])=e:=by
 by_cases h0:e=0
 .subst h0;rw[AF9,List.nil_append];unfold ZI;rw[kT (dF h) (fP s t)];show J4 (iM [])=0;rw[wI,VY]
 .rw[A70 h0];have h1:=QF.1 he;have hm:L6 e 0=e*2147483648:=by rw[(UR he (by decide)).1];omega
  have hz:KP (L6 e 0)=true:=by rw[hm];exact MC.2 ⟨by omega,by omega⟩
  unfold ZI;show J4 (iM (WT [⟨JI,RI (L6 e 0),[]⟩,⟨O9,s,t⟩] JI).1)=e;rw[VZ (UJ (by have:=bK (L6 e 0);simp;omega) h) (dH _ _ _ _)];simp only[List.append_nil];rw[(B13 hz).1,MF hz,hm];omega
section
variable {i:Nat} {q:Ps}
theorem MO.small(ok:MO 300 q):(IG q.m).length<=146100/\q.m.length<=300:=by
 have:=ok.len;exact⟨tV ok.log (by omega),by omega⟩
theorem VK(m:List GU)(a:Nat):(IG (m.take a)).length+(IG (m.drop a)).length=(IG m).length:=by
 conv=>rhs;rw[<-DW a m,LK,AP]
theorem YH{x:GU}(h:gdE x=0):x.p.length<=200/\x.d.length<=256:=⟨BY9 (iR h).2.2.2,(iR h).2.2.1⟩
theorem MO.zin(ok:MO 300 q):zIn q.e=true:=QF.2 ⟨ok.e0,by have:=ok.e1;omega⟩
theorem MO.fits(ok:MO 300 q)(hu:q.up=true):C02 (svP i q):=by
 obtain⟨h1,h2⟩:=ok.small;have h3:=VK q.m q.a;have g:=ok.play.good ok.dn;have gd:LV (epD q.e++[⟨O9,IG (q.m.take q.a),IG (q.m.drop q.a)⟩]):=aH (by omega);have hw:=ok.wl;rw[J5 hu];refine⟨?_,JW gd,by show q.m.length*72<=_;omega,fun x hx=>?_,by show (TG q.m q.dn).ns.length*88<=_;have:=g.nod.few;omega,g.wf.CN0,UF g.ses,by show q.ws.length*32<=_;omega,fun x hx=>?_⟩
 .simp only[epD]
  split<;>simp
 .have:=YH (ok.log.good x hx);omega
 .have:=MR (ok.wk x hx).2.2.2;omega
theorem yS(hu:q.up=true)(k:Nat):svP i (OL q k)=⟨false,((svP i q).fs).map (XQ k),(svP i q).id,0,[],0,RH,[]⟩:=by
 rw[J5 hu,UK (p:=OL q k) rfl];simp only[BT5];rw[yN,<-BZ,<-LK];have e:q.m.take (q.a+whole (q.m.drop q.a) k)=q.m.take q.a++(q.m.drop q.a).take (whole (q.m.drop q.a) k):=by rw[List.take_add]
 simp only[OL,e]
theorem BT7(ok:MO 300 q)(hu:q.up=true){ke:Int}(hk:0<=ke)(v:FZ)(w:FX)(hv:SvV w v (svP i q)):G5 prog 54 #[v,I0 ke] w (bW w (svP i (OL q ke.toNat)) 0):=by
 obtain⟨h1,h2⟩:=ok.small;have h3:=VK q.m q.a;have gd:LV (svP i q).fs:=by rw[J5 hu];exact aH (by omega)
 have G:NK 82 (fun x=>#[x,I0 ke]) (svP i q).fs ((svP i q).fs.map (XQ ke.toNat)) 0:=by
  have:=MV (f:=82) (args:=fun x=>#[x,I0 ((ke.toNat:Nat):Int)]) fun v W hv=>B26 v (svP i q).fs ke.toNat W hv (JW gd) gd;rwa[Int.toNat_of_nonneg hk]at this
 rw[yS hu];exact B78 (svP i q) v _ ke w hv G
theorem A74(ok:MO 300 q)(hu:q.up=true){ke:Int}(hk:ke<0)(v:FZ)(w:FX)(hv:SvV w v (svP i q)):G5 prog 54 #[v,I0 ke] w (bW w sv0 3):=by
 obtain⟨h1,h2⟩:=ok.small;have h3:=VK q.m q.a;have gd:LV (svP i q).fs:=by rw[J5 hu];exact aH (by omega)
 exact AR0 (svP i q) v [] ke 3 w hv (by decide) (wW fun v W hv=>BL5 v (svP i q).fs ke W hv (JW gd) (.inr hk))
theorem CC3(ok:MO 300 q)(hu:q.up=false)(hi:i<3)(v:FZ)(w:FX)(hv:IW w v (svP i q).fs):G5 prog 30 #[I0 i,.agg #[v]] w (bW w (svP i (upP q)) 0):=by
 obtain⟨h1,h2⟩:=ok.small;obtain⟨_,_,_,hs,hq⟩:=ok.down hu;have hl:(IG q.m++q.q).length+([]:List UInt8).length<=1048576:=by simp;omega
 rw[UK hu]at hv;have gd:LV (epD q.e++[⟨O9,IG q.m++q.q,[]⟩]):=aH hl;have R:ZJ (epD q.e++[⟨O9,IG q.m++q.q,[]⟩]) q.m (epD q.e) []:=⟨gd,ok.log,.inr ⟨_,q.q,jH _ _ _,by simpa using hs⟩⟩;have:=AF1 v _ _ q.m i w hv (JW gd) (by omega) (by omega) (lT R);rw[BT6 ok.zin hl]at this;rw[J5 (p:=upP q) rfl];simpa [upP,PS,YB,show IG []=[]from rfl]using this
theorem CC4{x:GU}(sure:Bool)(ok:MO 299 q)(hu:q.up=true)(hg:gdE x=0)(hz:J6 q.m<x.z)(v:FZ)(w:FX)(hv:SvV w v (svP i q)):G5 prog 69 #[v,JA x,.bool sure] w fun e w'=>fM w (svP i (UC x sure q)) 0 e w'/\FrT w e:=by
 have ok':=ok.more (show (299:Int)<=300 by omega);obtain⟨h1,h2⟩:=ok'.small;have h3:=VK q.m q.a;have hr:=jW hg;have hx:=YH hg;have ha:=ok.a;have g0:LV (epD q.e++[⟨O9,IG (q.m.take q.a),IG (q.m.drop q.a)⟩]):=aH (by omega);have g1:LV (epD q.e++[⟨O9,IG (q.m.take q.a),IG (q.m.drop q.a)++RV x⟩]):=aH (by simp;omega);have W1:∀v W,IW W v (epD q.e++[⟨O9,IG (q.m.take q.a),IG (q.m.drop q.a)⟩])->G5 prog 61 #[.agg #[v],S0 O9,S0 (RV x)] W fun e w'=>∃v',e=.returned (.tuple #[.agg #[v'],I0 0])/\YR w' W.heap.size v' (epD q.e++[⟨O9,IG (q.m.take q.a),IG (q.m.drop q.a)++RV x⟩])/\B0 W w':=fun v W hv=>
  kR v _ (epD q.e) [] _ O9 (RV x) W hv (JW g0) g0 (jH _ _ _) (by simp only;omega)
 have S1:∀v W,IW W v (epD q.e++[⟨O9,IG (q.m.take q.a),IG (q.m.drop q.a)++RV x⟩])->G5 prog 133 #[.agg #[v],S0 O9] W fun e w'=>∃v',e=.returned (.tuple #[.agg #[v'],I0 0])/\YR w' W.heap.size v' (epD q.e++[⟨O9,IG (q.m.take q.a)++(IG (q.m.drop q.a)++RV x),[]⟩])/\B0 W w':=fun v W hv=>
  YT v _ (epD q.e) [] _ O9 W hv (JW g1) g1 (jH _ _ _)
 have T:CY9 (svP i q) x sure 0 (svP i (UC x sure q)):=by
  rw[J5 hu];refine .inr (.inr ⟨by show ¬x.z<=J6 q.m;omega,rfl,?_⟩)
  cases sure with
  |true=>
   refine⟨_,?_,pW _ _ _ x 0 hg (MV W1) (fK S1)⟩;rw[J5 (p:=UC x true q) hu];simp only[UC,if_true,jD q.m x ok.dn];rw[BO (by simp),List.drop_of_length_le (by simp),<-BZ,<-LK,DW,<-QG];rfl
  |false=>
   refine⟨_,?_,AR1 _ _ x hg (fK W1)⟩;rw[J5 (p:=UC x false q) hu];simp only[UC,Bool.false_eq_true,if_false,jD q.m x ok.dn];rw[List.take_append_of_le_length ha,List.drop_append_of_le_length ha,QG]
 exact A57 (svP i q) _ v x sure 0 w hv (ok'.fits hu) T (by omega) (by omega) (by rw[J5 hu];show q.m.length<=_;omega)
theorem C20(ok:MO 300 q)(hu:q.up=true):Chn (svP i q) (q.m.drop q.dn) (q.m.length-q.dn):=by
 have e:∀j,(csP (svP i q) (q.m.drop q.dn) j).1.tr=TG q.m (q.dn+j):=fun j=>by
  unfold csP TG;rw[B86,J5 hu,List.take_add,List.foldl_append];rfl
 refine⟨by simp,fun j x hj hx=>?_,fun x hx=>?_⟩
 .rw[e];rw[List.getElem?_drop]at hx;exact ok.play _ x hx
 .have:=(AV.1 hx).1;simp at this
theorem BA7(ok:MO 300 q)(hu:q.up=true):BP9 (svP i q) (q.m.drop q.dn):=by
 have hw:=ok.wl;rw[J5 hu];refine⟨(ok.play.good ok.dn).wf,fun x hx=>?_,by show q.ws.length*32<=_;omega,fun x hx=>?_,fun x hx=>?_⟩
 .have:=MR (ok.wk x hx).2.2.2;omega
 .have:=YH (ok.log.good x (List.mem_of_mem_drop hx));omega
 .have:=YH (ok.log.good x (List.mem_of_mem_drop hx));omega
theorem CC5(ok:MO 300 q)(hu:q.up=true):(dW i q).1.up=true/\(dW i q).1.fs=(svP i q).fs/\(dW i q).1.id=i/\(dW i q).1.ep=q.e/\(dW i q).1.ts=q.m/\(dW i q).1.tr=TG q.m q.m.length:=by
 obtain⟨_,b1,b2,b3,b4,b5,_⟩:=C04 (BA7 (i:=i) ok hu) (C20 ok hu) _ (A8 _);have hd:=ok.dn;refine⟨?_,b2,?_,?_,?_,?_⟩
 .show (csP _ _ _).1.up=true;rw[b1,J5 hu]
 .show (csP _ _ _).1.id=_;rw[b3,J5 hu]
 .show (csP _ _ _).1.ep=_;rw[b4,J5 hu]
 .show (csP _ _ _).1.ts=_;rw[b5,J5 hu]
 .show (csP _ _ _).1.tr=_;unfold csP;rw[B86,J5 hu];show (List.take _ _).foldl kC (TG q.m q.dn)=_;unfold TG;rw[<-List.foldl_append,<-List.take_add,show q.dn+(q.m.length-q.dn)=q.m.length by omega]
theorem BA8(ok:MO 300 q)(hu:q.up=true)(v:FZ)(w:FX)(hv:SvV w v (svP i q)):G5 prog 70 #[v,I0 q.m.length] w fun e w'=>lS w (svP i (jE i q)) (dW i q).2 0 e w'/\FrS w e:=by
 have hd:=ok.dn;obtain⟨c1,c2,c3,c4,c5,c6⟩:=CC5 (i:=i) ok hu;refine(yD (svP i q) v q.dn q.m.length (q.m.length-q.dn) (q.m.drop q.dn) w hv (ok.fits hu) (by rw[J5 hu]) hd (by rw[J5 hu];exact A8 _) (by rw[J5 hu];show _=List.take _ (List.drop q.dn q.m);rw[BO (by simp)]) (C20 ok hu) (BA7 ok hu)).mono fun e w' H=>?_;have:=H.1 (by simp);have e:svP i (jE i q)=⟨(csP (svP i q) (q.m.drop q.dn) (q.m.length-q.dn)).1.up,(csP (svP i q) (q.m.drop q.dn) (q.m.length-q.dn)).1.fs,(csP (svP i q) (q.m.drop q.dn) (q.m.length-q.dn)).1.id,(csP (svP i q) (q.m.drop q.dn) (q.m.length-q.dn)).1.ep,(csP (svP i q) (q.m.drop q.dn) (q.m.length-q.dn)).1.ts,(q.m.length:Int),(csP (svP i q) (q.m.drop q.dn) (q.m.length-q.dn)).1.tr,(csP (svP i q) (q.m.drop q.dn) (q.m.length-q.dn)).1.ws⟩:=by
  show _=(⟨(dW i q).1.up,(dW i q).1.fs,(dW i q).1.id,(dW i q).1.ep,(dW i q).1.ts,(q.m.length:Int),(dW i q).1.tr,(dW i q).1.ws⟩:Sv);rw[c1,c2,c3,c4,c5,c6,J5 (p:=jE i q) hu,J5 hu];rfl
 rw[e];exact this
end
structure CB2(w W:FX)(s z:Int)(v:FZ):Prop where
 below:B0 w W
 s:NC W (w.heap.size+1) s z v
 r:NC W w.heap.size 0 0 (N0)
section
variable {w W V:FX} {s z:Int} {v:FZ}
theorem CB2.next(h:CB2 w W s z v)(hb:B0 W V):CB2 w V s z v:=⟨GI h.below hb,h.s.next hb,h.r.next hb⟩
theorem CB2.put(h:CB2 w W s z v)(u:FZ):CB2 w (W.setCell ⟨w.heap.size+1,2,G6⟩ u) s z u:=
 ⟨h.below.setCell (by simp) u,h.s.set2,h.r.other (by simp) u⟩
theorem CB2.start(w:FX)(s z:Int)(v:FZ):CB2 w ((w.alloc (FW #[I0 0,I0 0,N0] 39)).alloc (FW #[I0 s,I0 z,v] 39)) s z v:=by
 have h:=NC.new (w.alloc (FW #[I0 0,I0 0,N0] 39)) s z v;rw[show (w.alloc (FW #[I0 0,I0 0,N0] 39)).heap.size=w.heap.size+1 by simp]at h;exact⟨GI (GH _ _) (GH _ _),h,(NC.new w 0 0 _).next (GH _ _)⟩
end
def A75(w:FX)(c:Cl)(e:Ending)(w':FX):Prop:=
 ∃a n,e=.returned (.agg #[I0 c.s,I0 c.z,FV a c.es.length n])/\H6 w' w.heap.size (FV a c.es.length n) c.es/\B0 w w'
theorem fQ(p:Pw)(k i:Nat)(W:FX)(hx:WX W k p)(hi:i<16)(c:Cl)(hc:p.c i=c)(hl:c.es.length<=400):
  G5 prog 8 #[wP k,I0 i] W (A75 W c):=by
 obtain⟨a,cp,e0,e1,e2,hv⟩:=hx.cl hi;rw[hc]at e0 e1 e2 hv;have hk0:=hx.lt;have HC:=G9 (fun V (hV:B0 W V)=>BA3 _ c.es V (hv.next hV) (by omega));have HS:Hid (∀V,B0 W V->V.cell? ⟨k,34+3*i,G6⟩=G7 (I0 c.s)/\V.cell? ⟨k,34+3*i+1,G6⟩=G7 (I0 c.z)/\V.cell? ⟨k,34+3*i+2,G6⟩=G7 (FV a c.es.length cp)):=G9 fun V hV=>⟨(hV.cell (p:=⟨k,_,G6⟩) hk0).trans e0,(hV.cell (p:=⟨k,_,G6⟩) hk0).trans e1,(hV.cell (p:=⟨k,_,G6⟩) hk0).trans e2⟩;have CC:=YF i 16;rw[show lY i 16=true by simp[lY];omega]at CC;clear e0 e1 e2 hv hx hc hl;obtain⟨s,z,es⟩:=c;simp only[Nat.mul_comm 3 i]at*;have hi4:(i:Int)<16:=by omega
 have hi5:(0:Int)<=i:=by omega
 unfold wP;go_enter func8,ntmps8;go_wp2_with fail;refine(CC _).mono ?_;rintro e w1 ⟨rfl,rfl⟩;obtain⟨c0,c1,c2⟩:=G8 HS _ (GH W (FW #[I0 0,I0 0,N0] 39));clear CC HS;go_upto_region 4 with fail;clear c0 c1 c2;have X0:=CB2.start W s z (FV a es.length cp);generalize ((W.alloc (FW #[I0 0,I0 0,N0] 39)).alloc _)=V0 at*;have HX0:=G9 X0;have x0:=X0.s.c0;have x1:=X0.s.c1;have x2:=X0.s.c2;clear X0 hi4 hi5 hi hk0;go_wp2_with fail;refine(G8 HC _ (G8 HX0).below).mono ?_;rintro e w1 ⟨v1,rfl,o1,hb1⟩;obtain⟨a1,c1,rfl,_⟩:=o1.slice;have z1:W.heap.size+2<=V0.heap.size:=(G8 HX0).s.lt;have X1:=(G8 HX0).next hb1;have HX1:=G9 (X1.put (FV a1 es.length c1));clear x0 x1 x2;have x0:=X1.s.c0;have x1:=X1.s.c1;have x2:=X1.s.c2;have g2:=X1.s.fr 2;have O1:=G9 (IY (j:=2) (u:=FV a1 es.length c1) (o1.lower z1) (by omega:W.heap.size+1<_));clear X1 o1 hb1 z1 HX0 HC;go_upto_region 5 with fail;generalize w1.setCell ⟨W.heap.size+1,2,G6⟩ (FV a1 es.length c1)=V1 at*;clear x0 x1 x2 g2;have x0:=(G8 HX1).s.c0;have x1:=(G8 HX1).s.c1;have x2:=(G8 HX1).s.c2;have r0:=(G8 HX1).r.c0;have r1:=(G8 HX1).r.c1;have r2:=(G8 HX1).r.c2;have rf0:=(G8 HX1).r.fr 0;have rf1:=(G8 HX1).r.fr 1;have rf2:=(G8 HX1).r.fr 2;have HF:=G9 ((((G8 HX1).below.setCell (p:=⟨W.heap.size,0,G6⟩) (A8 _) (I0 s)).setCell (p:=⟨W.heap.size,1,G6⟩) (A8 _) (I0 z)).setCell (p:=⟨W.heap.size,2,G6⟩) (A8 _) (FV a1 es.length c1));have Q1:=G9 ((IY (j:=2) (u:=FV a1 es.length c1) (IY (j:=1) (u:=I0 z) (IY (j:=0) (u:=I0 s) (G8 O1) (by omega:W.heap.size<_)) (by omega:W.heap.size<_)) (by omega:W.heap.size<_)).lower (Nat.le_add_right _ 2));clear O1 HX1;go_wp2_with fail;exact bodyPost_ret (v:=.agg #[I0 s,I0 z,FV a1 es.length c1]) (by simp[results,results8,go_sem,r0,r1,r2]) rfl ⟨a1,c1,rfl,G8 Q1,G8 HF⟩
def rpV(r:Rp)(v:FZ):FZ:=.agg #[I0 r.E,I0 r.z,S0 r.p,S0 r.d,I0 r.t.c,I0 r.t.m,I0 r.t.q,I0 r.t.v,I0 r.t.k,I0 r.t.o,I0 r.t.n,v]
def Did(W:FX)(k:Nat)(kd:Int)(x:Rp×Pw)(e:Ending)(w':FX):Prop:=
 ∃v,e=.returned (rpV x.1 v)/\H6 w' W.heap.size v x.1.ns/\Touch (· =k) W w'/\(PO kd x.1.E=true->WX w' k x.2)
theorem WH{kd:Int}(he:e=.returned (VJ E))(ht:Touch (· =k) W w')(hl:PO kd E=false):Did W k kd (OJ E,p) e w':=
 ⟨N0,he,.inl ⟨rfl,rfl⟩,ht,fun h=>by rw[show (OJ E,p).1.E=E from rfl,hl]at h;cases h⟩
theorem aI(p:Pw)(k:Nat)(W:FX)(hx:WX W k p):G5 prog 47 #[wP k] W fun e w'=>e=.returned (.tuple #[])/\WX w' k ⟨p.n,p.s,fun _=>0,p.c,p.D,p.H,p.h⟩/\Touch (· =k) W w':=by
 have X:=G9 hx.clear;have T:=G9 (SE W k 31 (I0 0) (I0 0) (I0 0));have r0:=hx.role (i:=0) (by omega);have r1:=hx.role (i:=1) (by omega);have r2:=hx.role (i:=2) (by omega);have f0:=hx.GX 31;have f1:=hx.GX 32;have f2:=hx.GX 33;simp only[Nat.reduceAdd]at r0 r1 r2;unfold wP;clear hx;go_enter func47,ntmps47;go_wp2_with fail;exact bodyPost_end (v:=.tuple #[]) (by simp[results,results47,go_sem]) rfl ⟨rfl,G8 X,G8 T⟩
theorem U6(W:FX)(n:Nat):B0 W (W.drewN n):=⟨rfl,rfl,rfl,A8 _,fun _ _=>rfl⟩
structure DB(w W:FX)(d:Dd):Prop where
 b:B0 w W
 r:RpB W (w.heap.size+1)
 d:JM W w.heap.size d
theorem DB.start(w:FX)(d:Dd):DB w ((w.alloc (FW #[I0 d.k,I0 d.c,I0 d.s,I0 d.q.o,I0 d.q.s,S0 d.q.p,S0 d.q.d,I0 d.q.v,I0 d.q.f,I0 d.lo,I0 d.sl,I0 d.ke,.bool d.wt] 30)).alloc (FW #[I0 0,I0 0,.string ⟨#[]⟩,.string ⟨#[]⟩,I0 0,I0 0,I0 0,I0 0,I0 0,I0 0,I0 0,N0] 36)) d:=by
 refine⟨GI (GH _ _) (GH _ _),dK _ _ _,?_⟩;exact JM.VI (heap_alloc_new w _:JM (w.alloc _) w.heap.size d) (GH _ _) (by simp)
theorem DB.next(h:DB w W d)(hb:B0 W V):DB w V d:=⟨GI h.b hb,h.r.next hb,h.d.VI hb h.d.ltz⟩
theorem DB.cells(h:DB w W d):(W.cell? ⟨w.heap.size,0,G6⟩=G7 (I0 d.k)/\W.cell? ⟨w.heap.size,1,G6⟩=G7 (I0 d.c)/\W.cell? ⟨w.heap.size,2,G6⟩=G7 (I0 d.s)/\W.cell? ⟨w.heap.size,3,G6⟩=G7 (I0 d.q.o)/\W.cell? ⟨w.heap.size,4,G6⟩=G7 (I0 d.q.s)/\W.cell? ⟨w.heap.size,5,G6⟩=G7 (S0 d.q.p)/\W.cell? ⟨w.heap.size,6,G6⟩=G7 (S0 d.q.d))/\W.cell? ⟨w.heap.size,7,G6⟩=G7 (I0 d.q.v)/\W.cell? ⟨w.heap.size,8,G6⟩=G7 (I0 d.q.f)/\W.cell? ⟨w.heap.size,9,G6⟩=G7 (I0 d.lo)/\W.cell? ⟨w.heap.size,10,G6⟩=G7 (I0 d.sl)/\W.cell? ⟨w.heap.size,11,G6⟩=G7 (I0 d.ke)/\W.cell? ⟨w.heap.size,12,G6⟩=G7 (.bool d.wt):=by
 have r:=h.d.row;simp only[BJ]at r;exact⟨⟨r 0 _ rfl,r 1 _ rfl,r 2 _ rfl,r 3 _ rfl,r 4 _ rfl,r 5 _ rfl,r 6 _ rfl⟩,r 7 _ rfl,r 8 _ rfl,r 9 _ rfl,r 10 _ rfl,r 11 _ rfl,r 12 _ rfl⟩
theorem AS0(p:Pw)(d:Dd)(k:Nat)(W:FX)(hx:WX W k p)(hi:0<=d.s/\d.s<3)(hu:(p.s d.s.toNat).up=false):G5 prog 38 #[wP k,ddV d] W (Did W k 3 (OJ 14,p)):=by
 have C:=G9 (fun W=>KQ 14 W);have D0:=G9 (DB.start W d);obtain⟨i,hi3,hdi⟩:∃i:Nat,i<3/\d.s=i:=⟨d.s.toNat,by omega,by omega⟩;rw[hdi,Int.toNat_natCast]at hu;obtain⟨ad,nd,cd,al,cl,an,cn,ai,ci,aw,cw,S,_,_⟩:=hx.srv hi3 rfl;have S0:∀V,B0 W V->V.cell? ⟨k,1+10*i,G6⟩=G7 (.bool false):=fun V hV=>by
  have:=S.c0;rw[UK hu]at this;rw[AX,hV.block k hx.lt];exact this
 obtain⟨dk,dc,ds,⟨o,s,pp,dd,v,f⟩,lo,sl,ke,wt⟩:=d;simp only at hdi;subst hdi;unfold wP ddV;unfold VJ at C;clear S hx hu hi;have hX:∀w1,DB W w1 ⟨dk,dc,(i:Int),⟨o,s,pp,dd,v,f⟩,lo,sl,ke,wt⟩->Did W k 3 (OJ 14,p) (.returned (VJ 14)) (iP w1 (W.heap.size+1) (I0 14) (I0 0) (.string ⟨#[]⟩) (.string ⟨#[]⟩) (I0 0) (I0 0) (I0 0) (I0 0) (I0 0) (I0 0) (I0 0) (N0)):=fun w1 h=>WH rfl (KH (Touch.of_below h.b) (by omega) _ _ _ _ _ _ _ _ _ _ _ _) (by decide);rcases(show i=0\/i=1\/i=2 by omega)with rfl|rfl|rfl
 all_goals
  simp only[Nat.reduceAdd,Nat.reduceMul]at S0;go_enter func38,ntmps38;go_upto_region 1 with fail;generalize ((W.alloc _).alloc _)=W0 at*;obtain⟨⟨e0,e1,e2,e3,e4,e5,e6⟩,e7,e8,e9,e10,e11,e12⟩:=(G8 D0).cells;have T0:=S0 W0 (G8 D0).b;simp only at e2
  go_quiet (fail)
  go_wp2_with fail;refine(G8 C _).mono ?_;rintro e w1 ⟨rfl,hb⟩;have D1:=(G8 D0).next (GI (U6 _ _) hb);obtain⟨⟨c0,c1,c2,c3,c4,c5⟩,c6,c7,c8,c9,c10,c11⟩:=D1.r.cells;have f0:=D1.r.GX;have X1:=G9 (hX w1 D1);clear hb D1 D0 C S0 hX;unfold VJ at X1;go_wp2_with fail;exact bodyPost_ret (v:=.agg #[I0 14,I0 0,.string ⟨#[]⟩,.string ⟨#[]⟩,I0 0,I0 0,I0 0,I0 0,I0 0,I0 0,I0 0,N0]) (by simp[results,results38,go_sem,c0,c1,c2,c3,c4,c5,c6,c7,c8,c9,c10,c11]) rfl (G8 X1)
theorem CQ3(hj:j<3)(h:r j=2)(hb:∀m,m<j->r m≠2):ldP r=j:=by
 unfold ldP;rcases(show j=0\/j=1\/j=2 by omega)with rfl|rfl|rfl
 .rw[if_pos h];rfl
 .rw[if_neg (hb 0 (by omega)),if_pos h];rfl
 .rw[if_neg (hb 0 (by omega)),if_neg (hb 1 (by omega)),if_pos h];rfl
theorem CC9(hb:∀m,m<3->r m≠2):ldP r=-1:=by
 unfold ldP;rw[if_neg (hb 0 (by omega)),if_neg (hb 1 (by omega)),if_neg (hb 2 (by omega))]
theorem CD0(r:Nat->Int)(k:Nat)(w:FX)(hc:∀i,i<3->w.cell? ⟨k,31+i,G6⟩=G7 (I0 (r i))):
  G5 prog 23 #[FV (G7 ⟨k,31,G6⟩) 3 3,I0 2] w (R0 w (I0 (ldP r))):=by
 have HC:=G9 hc;clear hc;go_enter func23,ntmps23;go_wp2_with fail
 go_loopg [8] 3 (fun kx s8 wr=>∃j:Nat,s8=I0 j/\j<=3/\3-j<=kx/\Hid (∀m,m<j->r m≠2)/\Hid (B0 w wr/\∀i,i<3->wr.cell? ⟨k,31+i,G6⟩=G7 (I0 (r i))))
 case atStart=>exact⟨0,rfl,by omega,A8 _,G9 (fun m hm=>by omega),G9 ⟨Below.refl _ _,G8 HC⟩⟩
 case round=>
  obtain⟨j,rfl,hj,hg,hh,hB⟩:=hrel;by_cases hlt:j<3
  .have d0:=(G8 hB).2 j hlt;have hjj:(j:Int)<3:=by omega
   by_cases h2:r j=2
   .rw[h2]at d0;have HE:=G9 (CQ3 hlt h2 (G8 hh));clear h2;go_wp2_with fail
    try go_quiet (fail)
    go_wp2_with fail;go_ret;exact⟨by rw[G8 HE];rfl,(G8 hB).1⟩
   .have HN:=G9 (fun m (hm:m<j+1)=>(show r m≠2 by
     by_cases e:m=j
     .rw[e];exact h2
     .exact G8 hh m (by omega)))
    have h3:¬2=r j:=fun e=>h2 e.symm;go_wp2_with fail
    try go_quiet (fail)
    go_wp2_with fail
    go_roundg (3-(j+1))
    case measure=>omega
    case rel=>exact⟨j+1,rfl,by omega,A8 _,HN,hB⟩
  .obtain rfl:j=3:=by omega
   have HE:=G9 (CC9 (G8 hh));go_wp2_with fail;go_ret;exact⟨by rw[G8 HE];rfl,(G8 hB).1⟩
theorem NZ(p:Pw)(k:Nat)(W:FX)(hx:WX W k p):G5 prog 11 #[wP k] W (R0 W (I0 (ldP p.r))):=by
 have C:=G9 (CD0 p.r k W (fun i hi=>hx.role hi));unfold wP;clear hx;go_enter func11,ntmps11;go_wp2_with fail;refine(G8 C).mono ?_;rintro e w1 ⟨rfl,hb⟩;go_wp2_with fail;go_ret;exact⟨rfl,hb⟩
def BB1(w:FX)(s:Sv)(E:Int)(e:Ending)(w':FX):Prop:=
 ∃ad nd cd al cl an cn ai ci aw cw,e=.returned (.tuple #[.agg #[.bool s.up,FV ad nd cd,I0 s.id,I0 s.ep,FV al s.ts.length cl,I0 s.dn,I0 s.tr.z,FV an s.tr.ns.length cn,FV ai s.tr.ss.length ci,FV aw s.ws.length cw],I0 E])/\
  Hid (SvV w' (.agg #[.bool s.up,FV ad nd cd,I0 s.id,I0 s.ep,FV al s.ts.length cl,I0 s.dn,I0 s.tr.z,FV an s.tr.ns.length cn,FV ai s.tr.ss.length ci,FV aw s.ws.length cw]) s/\(s.tr.ss≠[]->∀k,k<w.heap.size->VO (FV ai s.tr.ss.length ci) k))/\B0 w w'
theorem uD(h:bW w s E e w')(hs:s.tr.ss=[]):BB1 w s E e w':=by
 obtain⟨v,he,hv,hb⟩:=h;obtain⟨ad,nd,cd,al,cl,an,cn,ai,ci,aw,cw,rfl,_⟩:=hv.five;exact⟨ad,nd,cd,al,cl,an,cn,ai,ci,aw,cw,he,G9 ⟨hv,fun h=>absurd hs h⟩,hb⟩
theorem LJ(h:OH B v)(hk:k<B):VO v k:=fun b off n c e=>by have:=h b off n c e;omega
theorem BU1(h:fM w s E e w'):BB1 w s E e w':=by
 obtain⟨ad,nd,cd,al,nl,cl,an,nn,cn,ai,ni,ci,aw,nw,cw,he,hs,hb⟩:=h;obtain⟨hv,hf⟩:=G8 hs;obtain⟨ad',nd',cd',al',cl',an',cn',ai',ci',aw',cw',e5,_⟩:=hv.five;simp only[EO,F8,EI,AQ,true_and,and_true]at e5;obtain⟨⟨rfl,rfl,rfl⟩,⟨rfl,rfl,rfl⟩,⟨rfl,rfl,rfl⟩,⟨rfl,rfl,rfl⟩,rfl,rfl,rfl⟩:=e5;exact⟨_,_,_,_,_,_,_,_,_,_,_,he,G9 ⟨hv,fun _ k hk=>LJ hf hk⟩,hb⟩
structure SBX(w V:FX)(q:Nat)(s:Sv)(vd vl vn vs vw:FZ):Prop where
 b:B0 w V
 le:w.heap.size<=q
 box:IJ V q s.up vd s.id s.ep vl s.dn s.tr.z vn vs vw
 v:SvV V (.agg #[.bool s.up,vd,I0 s.id,I0 s.ep,vl,I0 s.dn,I0 s.tr.z,vn,vs,vw]) s
 a:s.tr.ss≠[]->∀k,k<w.heap.size->VO vs k
section
variable {w w1 u:FX} {s:Sv} {ad al an ai aw:Option Addr} {nd cd nl cl nn cn ni ci nw cw:Nat}
theorem fU(hb:B0 w w1)(hv:SvV w1 (.agg #[.bool s.up,FV ad nd cd,I0 s.id,I0 s.ep,FV al nl cl,I0 s.dn,I0 s.tr.z,FV an nn cn,FV ai ni ci,FV aw nw cw]) s)(ha:s.tr.ss≠[]->∀k,k<u.heap.size->VO (FV ai ni ci) k)(hu:w.heap.size<=u.heap.size):
  SBX w (w1.alloc (FW #[.bool s.up,FV ad nd cd,I0 s.id,I0 s.ep,FV al nl cl,I0 s.dn,I0 s.tr.z,FV an nn cn,FV ai ni ci,FV aw nw cw] 55)) w1.heap.size s (FV ad nd cd) (FV al nl cl) (FV an nn cn) (FV ai ni ci) (FV aw nw cw):=
 ⟨GI hb (GH _ _),hb.size,IJ.new _ _ _ _ _ _ _ _ _ _ _,hv.alloc _,fun h k hk=>ha h k (by omega)⟩
theorem mJ(hb:B0 w w1)(hq:w.heap.size<=q)(hz:IJ w1 q false (N0) 0 0 (N0) 0 0 (N0) (N0) (N0))(hv:SvV w1 (.agg #[.bool s.up,FV ad nd cd,I0 s.id,I0 s.ep,FV al nl cl,I0 s.dn,I0 s.tr.z,FV an nn cn,FV ai ni ci,FV aw nw cw]) s)(ha:s.tr.ss≠[]->∀k,k<u.heap.size->VO (FV ai ni ci) k)(hu:q<u.heap.size):
  SBX w (OU w1 q (.bool s.up) (FV ad nd cd) (I0 s.id) (I0 s.ep) (FV al nl cl) (I0 s.dn) (I0 s.tr.z) (FV an nn cn) (FV ai ni ci) (FV aw nw cw)) q s (FV ad nd cd) (FV al nl cl) (FV an nn cn) (FV ai ni ci) (FV aw nw cw):=by
 refine⟨JO hb hq _ _ _ _ _ _ _ _ _ _,hq,lU hz _ _ _ _ _ _ _ _ _ _,?_,fun h k hk=>ha h k (by omega)⟩;by_cases h:s.tr.ss=[]
 .have hv2:=hv;obtain⟨vd,vl,vn,vs,vw,e,r1,r2,r3,r4,r5⟩:=hv2;simp only[EO,F8,EI,true_and,and_true]at e;obtain⟨rfl,rfl,rfl,rfl,rfl⟩:=e;have hd:=hz.iO;have hx:SvV (OU w1 q (.bool s.up) (FV ad nd cd) (I0 s.id) (I0 s.ep) (FV al nl cl) (I0 s.dn) (I0 s.tr.z) (FV an nn cn) (FV ai ni ci) (FV aw nw cw)) (.agg #[.bool s.up,FV ad nd cd,I0 s.id,I0 s.ep,FV al nl cl,I0 s.dn,I0 s.tr.z,FV an nn cn,N0,FV aw nw cw]) s:=
   sG hd (fun vd vl vn vs vw e=>by simp only[EO,F8,EI]at e;rw[<-e.2.2.2.2.2.2.2.2.1];exact xH _ _ _) ⟨_,_,_,_,_,rfl,r1,r2,r3,by rw[h];exact IK.nil _,r5⟩
  obtain⟨vd,vl,vn,vs,vw,e,q1,q2,q3,q4,q5⟩:=hx;simp only[EO,F8,EI,true_and,and_true]at e;obtain⟨rfl,rfl,rfl,rfl,rfl⟩:=e;refine⟨_,_,_,_,_,rfl,q1,q2,q3,?_,q5⟩;rw[h]at r4⊢;rcases r4 with h4|⟨_,_,_,_,_,_,_,h0,_⟩
  .exact .inl h4
  .exact absurd rfl h0
 .exact sG hz.iO (fun vd vl vn vs vw e=>by simp only[EO,F8,EI]at e;rw[<-e.2.2.2.2.2.2.2.2.1];exact ha h q hu) hv
end
def AH4:List FZ:=[I0 0,I0 0,.string ⟨#[]⟩,.string ⟨#[]⟩,I0 0,I0 0,I0 0,I0 0,I0 0,I0 0,I0 0,N0]
theorem RpB.at(h:RpB W g)(hv:W.cell? ⟨g,j,G6⟩=G7 v):AH4[j]?=G7 v:=by
 unfold RpB at h;simpa [AX,h,AH4]using hv
theorem YI{s:ByteArray}(h:AH4[j]?=G7 (.string s)):j=2\/j=3:=by
 by_cases hj:j<12
 .rcases(show j=0\/j=1\/j=2\/j=3\/j=4\/j=5\/j=6\/j=7\/j=8\/j=9\/j=10\/j=11 by omega)with rfl|rfl|rfl|rfl|rfl|rfl|rfl|rfl|rfl|rfl|rfl|rfl<;>simp[AH4]at h⊢
 .rw[List.getElem?_eq_none (by simp[AH4];omega)]at h;cases h
theorem AS5{s:ByteArray}(h:AH4[j]?=G7 (.string s)):s=⟨#[]⟩:=by
 rcases YI h with rfl|rfl<;>simpa [AH4]using h.symm
theorem AH5{n:Int}(h:AH4[j]?=G7 (I0 n)):n=0:=by
 by_cases hj:j<12
 .rcases(show j=0\/j=1\/j=2\/j=3\/j=4\/j=5\/j=6\/j=7\/j=8\/j=9\/j=10\/j=11 by omega)with rfl|rfl|rfl|rfl|rfl|rfl|rfl|rfl|rfl|rfl|rfl|rfl<;>simp[AH4]at h<;>omega
 .rw[List.getElem?_eq_none (by simp[AH4];omega)]at h;cases h
theorem BC0{b:Bool}:AH4[j]? ≠G7 (.bool b):=by
 intro h;by_cases hj:j<12
 .rcases(show j=0\/j=1\/j=2\/j=3\/j=4\/j=5\/j=6\/j=7\/j=8\/j=9\/j=10\/j=11 by omega)with rfl|rfl|rfl|rfl|rfl|rfl|rfl|rfl|rfl|rfl|rfl|rfl<;>simp[AH4]at h
 .rw[List.getElem?_eq_none (by simp[AH4];omega)]at h;cases h
theorem Z4[Lay α]{xs:List α}(hg:RpB W g)(hv:IK W v xs)(hno:∀x∈xs,∀off,¬ ∀ (j:Nat) u,j<Lay.k α->(Lay.cs x)[j]?=G7 u->AH4[off+j]?=G7 u)(h0:xs≠[]):VO v g:=by
 intro b off n c e;rcases hv with⟨a,cap,_,e0,_⟩|⟨b',off',cap,rfl,_,_,h3,_,h4⟩
 .exact absurd e0 h0
 .simp only[AQ,BF,Addr.mk.injEq]at e;rintro rfl;obtain⟨x,r,rfl⟩:=List.exists_cons_of_ne_nil h0;refine hno x (by simp) off' fun j u hj hu=>hg.at ?_;have:=h4 (0*Lay.k α+j) _ ((GY (x::r) 0 x rfl j hj).trans hu);rw[Nat.zero_mul,BJ]at this;rw[<-e.1.1];exact this
section
variable {W:FX} {k g:Nat} {v:FZ}
theorem BU5{xs:List DF}(hg:RpB W g)(h:IK W v xs)(h0:xs≠[]):VO v g:=Z4 hg h (fun x _ off H=>by
 have a:=YI (H 0 _ (by decide) rfl);have c:=YI (H 2 _ (by decide) rfl);omega) h0
theorem BC1{xs:List GU}(hg:RpB W g)(h:IK W v xs)(h0:xs≠[]):VO v g:=Z4 hg h (fun x _ off H=>by
 have a:=YI (H 3 _ (by decide) rfl);have c:=YI (H 4 _ (by decide) rfl);omega) h0
theorem BC2{xs:List En}(hg:RpB W g)(h:IK W v xs)(h0:xs≠[]):VO v g:=Z4 hg h (fun x _ off H=>BC0 (H 2 _ (by decide) rfl)) h0
theorem A79{xs:List Wa}(hg:RpB W g)(h:IK W v xs)(hs:∀x∈xs,1<=x.s)(h0:xs≠[]):VO v g:=Z4 hg h (fun x hx off H=>by
 have a:=AH5 (H 0 _ (by decide) rfl);have:=hs x hx;omega) h0
theorem BU6{xs:List Int}(hg:RpB W g)(h:IK W v xs)(hs:∀x∈xs,1<=x)(h0:xs≠[]):VO v g:=Z4 hg h (fun x hx off H=>by
 have a:=AH5 (H 0 _ (by decide) rfl);have:=hs x hx;omega) h0
theorem BC3{xs:List Nd}(hg:RpB W g)(h:IK W v xs)(hs:∀x∈xs,x.p≠[])(h0:xs≠[]):VO v g:=Z4 hg h (fun x hx off H=>by
 have a:=AS5 (H 0 _ (by decide) rfl);have:x.p=[]:=by simpa using a
 exact hs x hx this) h0
theorem Row.far[Lay α]{xs:List α}(h:Row W k v xs)(ht:Touch (· =g) W V)(ha:xs≠[]->VO v g):Row V k v xs:=by
 refine⟨?_,h.2⟩;exact(Row.touch (k:=g) ⟨h.1,ha⟩ ht).1
end
theorem CD6{t:Tr}(h:SN t):∀x∈t.ns,x.p≠[]:=fun x hx e=>by
 have:=(h.nod.ok x hx).path;rw[e]at this;exact absurd this (by decide)
theorem BU7{N:Int}{q:Ps}(ok:MO N q):SN (svP i q).tr/\∀x∈(svP i q).ws,1<=x.s:=by
 cases hu:q.up with
 |true=>rw[J5 hu];exact⟨ok.play.good ok.dn,fun x hx=>(ok.wk x hx).1⟩
 |false=>rw[UK hu];exact⟨dA,by simp⟩
theorem WX.reply(h:WX W k p)(hp:∀i,i<3->MO 300 (p.s i))(hg:RpB W g)(hk:k≠g)(ht:Touch (· =g) W V):WX V k p:=by
 obtain⟨f,hb,hr⟩:=h;refine⟨f,hb.touch ht hk,hr.n,fun i hi=>?_,hr.r,fun i hi=>⟨(hr.c i hi).s,(hr.c i hi).z,(hr.c i hi).e.far ht (BC2 hg (hr.c i hi).e.1)⟩,hr.d.far ht (BC1 hg hr.d.1),hr.h,hr.hk⟩;obtain⟨gt,gw⟩:=BU7 (i:=i) (hp i hi);have s:=hr.s i hi;exact⟨s.up,s.d.far ht (BU5 hg s.d.1),s.id,s.ep,s.l.far ht (BC1 hg s.l.1),s.dn,s.z,s.n.far ht (BC3 hg s.n.1 (CD6 gt)),s.i.far ht (BU6 hg s.i.1 fun x hx=>(gt.ses.2 x hx).1),s.w.far ht (A79 hg s.w.1 gw)⟩
theorem dO(W:FX)(g:Nat)(x0 x1 x2 x3 x4 x5 x6 x7 x8 x9 x10 x11:FZ):Touch (· =g) W (iP W g x0 x1 x2 x3 x4 x5 x6 x7 x8 x9 x10 x11):=
 (((((((((((JK _ _ _ _).trans (JK _ _ _ _)).trans (JK _ _ _ _)).trans (JK _ _ _ _)).trans (JK _ _ _ _)).trans (JK _ _ _ _)).trans (JK _ _ _ _)).trans (JK _ _ _ _)).trans (JK _ _ _ _)).trans (JK _ _ _ _)).trans (JK _ _ _ _)).trans (JK _ _ _ _)
structure DT(k:Nat)(w W:FX)(d:Dd):Prop where
 t:Touch (· =k) w W
 r:RpB W (w.heap.size+1)
 d:JM W w.heap.size d
section
variable {k:Nat} {w W V:FX} {d:Dd}
theorem DB.dt(h:DB w W d)(k:Nat):DT k w W d:=⟨Touch.of_below h.b,h.r,h.d⟩
theorem DT.touch(h:DT k w W d)(hk:k<w.heap.size)(ht:Touch (· =k) W V):DT k w V d:=
 ⟨h.t.trans ht,h.r.touch ht (by omega),(ht.block _ h.d.ltz (by omega)).trans h.d⟩
theorem DT.next(h:DT k w W d)(hk:k<w.heap.size)(hb:B0 W V):DT k w V d:=h.touch hk (Touch.of_below hb)
theorem DT.cells(h:DT k w W d):(W.cell? ⟨w.heap.size,0,G6⟩=G7 (I0 d.k)/\W.cell? ⟨w.heap.size,1,G6⟩=G7 (I0 d.c)/\W.cell? ⟨w.heap.size,2,G6⟩=G7 (I0 d.s)/\W.cell? ⟨w.heap.size,3,G6⟩=G7 (I0 d.q.o)/\W.cell? ⟨w.heap.size,4,G6⟩=G7 (I0 d.q.s)/\W.cell? ⟨w.heap.size,5,G6⟩=G7 (S0 d.q.p)/\W.cell? ⟨w.heap.size,6,G6⟩=G7 (S0 d.q.d))/\W.cell? ⟨w.heap.size,7,G6⟩=G7 (I0 d.q.v)/\W.cell? ⟨w.heap.size,8,G6⟩=G7 (I0 d.q.f)/\W.cell? ⟨w.heap.size,9,G6⟩=G7 (I0 d.lo)/\W.cell? ⟨w.heap.size,10,G6⟩=G7 (I0 d.sl)/\W.cell? ⟨w.heap.size,11,G6⟩=G7 (I0 d.ke)/\W.cell? ⟨w.heap.size,12,G6⟩=G7 (.bool d.wt):=by
 have r:=h.d.row;simp only[BJ]at r;exact⟨⟨r 0 _ rfl,r 1 _ rfl,r 2 _ rfl,r 3 _ rfl,r 4 _ rfl,r 5 _ rfl,r 6 _ rfl⟩,r 7 _ rfl,r 8 _ rfl,r 9 _ rfl,r 10 _ rfl,r 11 _ rfl,r 12 _ rfl⟩
end
theorem uH{kd:Int}(hk:k<W.heap.size)(h:DT k W V d)(hx:WX V k p)(hp:∀i,i<3->MO 300 (p.s i)):
  Did W k kd (OJ 0,p) (.returned (VJ 0)) (iP V (W.heap.size+1) (I0 0) (I0 0) (.string ⟨#[]⟩) (.string ⟨#[]⟩) (I0 0) (I0 0) (I0 0) (I0 0) (I0 0) (I0 0) (I0 0) (N0)):=
 ⟨N0,rfl,.inl ⟨rfl,rfl⟩,KH h.t (by omega) _ _ _ _ _ _ _ _ _ _ _ _,fun _=>hx.reply hp h.r (by omega) (dO _ _ _ _ _ _ _ _ _ _ _ _ _ _)⟩
structure Sl where
 ad:Option Addr
 nd:Nat
 cd:Nat
 al:Option Addr
 cl:Nat
 an:Option Addr
 cn:Nat
 ai:Option Addr
 ci:Nat
 aw:Option Addr
 cw:Nat
def yX(s:Sv)(t:Sl):List FZ:=[.bool s.up,FV t.ad t.nd t.cd,I0 s.id,I0 s.ep,FV t.al s.ts.length t.cl,I0 s.dn,I0 s.tr.z,FV t.an s.tr.ns.length t.cn,FV t.ai s.tr.ss.length t.ci,FV t.aw s.ws.length t.cw]
def yY(s:Nat->Sv)(t:Nat->Sl):Array FZ:=(yX (s 0) (t 0)++(yX (s 1) (t 1)++yX (s 2) (t 2))).toArray
theorem WX.sl(h:WX W k p):∃t:Nat->Sl,∀i,i<3->∀q v,(yX (svP i (p.s i)) (t i))[q]?=G7 v->W.cell? ⟨k,1+10*i+q,G6⟩=G7 v:=by
 have e:∀i,∃t:Sl,i<3->∀q v,(yX (svP i (p.s i)) t)[q]?=G7 v->W.cell? ⟨k,1+10*i+q,G6⟩=G7 v:=fun i=>by
  by_cases hi:i<3
  .obtain⟨ad,nd,cd,al,cl,an,cn,ai,ci,aw,cw,S,_,_⟩:=h.srv hi rfl;refine⟨⟨ad,nd,cd,al,cl,an,cn,ai,ci,aw,cw⟩,fun _ q v hq=>?_⟩;have hq10:q<10:=(AV.1 hq).1;rcases(show q=0\/q=1\/q=2\/q=3\/q=4\/q=5\/q=6\/q=7\/q=8\/q=9 by omega)with rfl|rfl|rfl|rfl|rfl|rfl|rfl|rfl|rfl|rfl
   .exact S.c0.trans hq
   .exact S.c1.trans hq
   .exact S.c2.trans hq
   .exact S.c3.trans hq
   .exact S.c4.trans hq
   .exact S.c5.trans hq
   .exact S.c6.trans hq
   .exact S.c7.trans hq
   .exact S.c8.trans hq
   .exact S.c9.trans hq
  .exact⟨⟨G6,0,0,G6,0,G6,0,G6,0,G6,0⟩,fun h=>absurd h hi⟩
 exact⟨fun i=>(e i).choose,fun i hi=>(e i).choose_spec hi⟩
theorem D00(s:Nat->Sv)(t:Nat->Sl):∀u:FX,(Instr.index 56 (.agg (yY s t)) (I0 0)).run prog u=.ok (.agg (yX (s 0) (t 0)).toArray) u:=fun _=>by kernel_rfl
theorem D01(s:Nat->Sv)(t:Nat->Sl):∀u:FX,(Instr.index 56 (.agg (yY s t)) (I0 1)).run prog u=.ok (.agg (yX (s 1) (t 1)).toArray) u:=fun _=>by kernel_rfl
theorem D02(s:Nat->Sv)(t:Nat->Sl):∀u:FX,(Instr.index 56 (.agg (yY s t)) (I0 2)).run prog u=.ok (.agg (yX (s 2) (t 2)).toArray) u:=fun _=>by kernel_rfl
theorem CD7(s:Nat->Sv)(t:Nat->Sl)(m:Nat)(hm:m<3)(u:FX):(Instr.index 56 (.agg (yY s t)) (I0 m)).run prog u=.ok (.agg (yX (s m) (t m)).toArray) u:=by
 rcases(show m=0\/m=1\/m=2 by omega)with rfl|rfl|rfl
 .exact D00 s t u
 .exact D01 s t u
 .exact D02 s t u
theorem AS6(w:FX)(k:Nat)(s:Nat->Sv)(t:Nat->Sl)(hc:∀i,i<3->∀q v,(yX (s i) (t i))[q]?=G7 v->w.cell? ⟨k,1+10*i+q,G6⟩=G7 v):
  (Instr.loadAt 56 (.pointer (G7 ⟨k,1,G6⟩))).run prog w=.ok (.agg (yY s t)) w:=by
 have hl:=run_loadCells_list (P:=prog) (w:=w) ⟨k,1,G6⟩ (yY s t).toList (fun j v hj=>by
  rw[Addr.add_lit];show w.cell? ⟨k,1+j,G6⟩=G7 v;have hj':(yX (s 0) (t 0)++(yX (s 1) (t 1)++yX (s 2) (t 2)))[j]?=G7 v:=hj;have l0:(yX (s 0) (t 0)).length=10:=rfl;have l1:(yX (s 1) (t 1)).length=10:=rfl;by_cases h0:j<10
  .rw[BN (by omega)]at hj';exact hc 0 (by omega) j v hj'
  .rw[BD (by omega),l0]at hj';by_cases h1:j<20
   .rw[BN (by omega)]at hj';have:=hc 1 (by omega) (j-10) v hj';rwa[show 1+10*1+(j-10)=1+j by omega]at this
   .rw[BD (by omega),l1]at hj';have:=hc 2 (by omega) (j-10-10) v hj';rwa[show 1+10*2+(j-10-10)=1+j by omega]at this)
 have h30:(yY s t).toList.length=30:=rfl;rw[h30]at hl;simp only[Instr.loadAt,Instr.sureAddr,EG,ER,Result.andThen];unfold loadVar;simp only[EG,isAgg56,sizeOf56,Result.andThen,if_true];rw[hl];rfl
theorem uI{w:FX}{ops:Array Oper}{rest:List Oper}{o:Oper}{a:Act}{Q:Exit->Act->FX->Prop}(hgd:o.guard=G6)(x:Operand)(ho:o.op=.load 56 x)(k:Nat)(s:Nat->Sv)(t:Nat->Sl)
  (hx:a.eval x=.pointer (G7 ⟨k,1,G6⟩)) (hc:∀i,i<3->∀q v,(yX (s i) (t i))[q]?=G7 v->w.cell? ⟨k,1+10*i+q,G6⟩=G7 v)
  (h:wpList prog ops Q rest (a.put o.dst (.agg (yY s t))) w):wpList prog ops Q (o::rest) a w:=by
 refine wpList_plain hgd fun K hK=>?_;have hr:=AS6 w k s t hc;unfold Oper.wp execOp;simp only[ho,EG,ER,EH,hx,hr];exact hK _ _ h
def vot(s:Nat->Ps)(j:Nat):List Int:=(([0,1,2].take j).filter fun i=>(s i).up).map fun i:Nat=>(i:Int)
theorem CE2{s:Nat->Ps}(hj:j<3)(h:(s j).up=true):vot s (j+1)=vot s j++[(j:Int)]:=by
 rcases(show j=0\/j=1\/j=2 by omega)with rfl|rfl|rfl<;>simp[vot,List.filter_cons,h]<;>(repeat' split)<;>simp
theorem CR4{s:Nat->Ps}(hj:j<3)(h:(s j).up=false):vot s (j+1)=vot s j:=by
 rcases(show j=0\/j=1\/j=2 by omega)with rfl|rfl|rfl<;>simp[vot,List.filter_cons,h]
theorem CE3(s:Nat->Ps)(j:Nat):(vot s j).length<=3:=by
 rw[vot,List.length_map];exact BP (List.length_filter_le _ _) (by simp;omega)
theorem CE4(s:Nat->Ps):vot s 3=(KD s).map fun i:Nat=>(i:Int):=rfl
theorem BV1(i:Nat)(q:Ps):(svP i q).up=q.up:=by
 cases h:q.up
 .rw[UK h]
 .rw[J5 h]
theorem mQ{U:FX}(h:B0 W V)(hg:V.grownBy U v.ownBlock)(hn:∀g,v.ownBlock=G7 g->W.heap.size<=g):B0 W U:=
 ⟨hg.os.trans h.os,hg.tape.trans h.tape,hg.output.trans h.output,BP h.size hg.size,fun b hb=>(hg.block b (AY hb h.size) (fun e=>by have:=hn b e.symm;omega)).trans (h.block b hb)⟩
theorem BC5[Lay α]{xs:List α}(h:H6 W B v xs):∀g,v.ownBlock=G7 g->B<=g:=fun g hg=>by
 rcases h with⟨rfl,_⟩|⟨g',cap,rfl,hB,_⟩
 .simp[DK]at hg
 .simp only[DK,BF]at hg;omega
theorem qJ(p:Pw)(k:Nat)(W:FX)(hx:WX W k p):G5 prog 55 #[wP k] W fun e w'=>∃v,e=.returned v/\H6 w' W.heap.size v ((KD p.s).map fun i:Nat=>(i:Int))/\B0 W w':=by
 obtain⟨t,ht⟩:=hx.sl;have HT:=G9 ht;have IX:=G9 (fun(m:Nat) (hm:m<3) (u:FX)=>CD7 (fun i=>svP i (p.s i)) t m hm u);obtain⟨i0,hi0,hz0,hz1,hz2⟩:=A36;clear hx ht;unfold wP;go_enter func55,ntmps55;go_wp2_with (refine uI rfl _ rfl k (fun i=>svP i (p.s i)) t rfl (G8 HT) ?_);clear HT
 go_loopg [3,10] 3 (fun kx s3 s10 wr=>∃j:Nat,∃a c,s10=I0 j/\s3=FV a (vot p.s j).length c/\j<=3/\3-j<=kx/\Hid (H6 wr W.heap.size (FV a (vot p.s j).length c) (vot p.s j)/\B0 W wr))
 case atStart=>exact⟨0,G6,0,rfl,rfl,by omega,A8 _,G9 ⟨.inl ⟨rfl,rfl⟩,Below.refl _ _⟩⟩
 case round=>
  obtain⟨j,a,c,rfl,rfl,hj,hg,HI⟩:=hrel;by_cases hlt:j<3
  .have IXm:=G8 IX j hlt;have hl:=CE3 p.s j;have hjj:(j:Int)<3:=by omega
   have eu:=BV1 j (p.s j);unfold yX at IXm;generalize svP j (p.s j)=s0 at*;generalize t j=tj at*;obtain⟨up,fs,id,ep,ts,dn,tr,ws⟩:=s0;simp only at eu IXm;subst eu;by_cases hu:(p.s j).up=true
   .have HS:=G9 (CE2 hlt hu);rw[hu]at IXm;clear hu;go_upto_region 5 with fail;have B2:=G9 (GI (G8 HI).2 (GH wr (FW #[.bool true,FV tj.ad tj.nd tj.cd,I0 id,I0 ep,FV tj.al ts.length tj.cl,I0 dn,I0 tr.z,FV tj.an tr.ns.length tj.cn,FV tj.ai tr.ss.length tj.ci,FV tj.aw ws.length tj.cw] 55)));have O2:=G9 ((G8 HI).1.next (GH wr (FW #[.bool true,FV tj.ad tj.nd tj.cd,I0 id,I0 ep,FV tj.al ts.length tj.cl,I0 dn,I0 tr.z,FV tj.an tr.ns.length tj.cn,FV tj.ai tr.ss.length tj.ci,FV tj.aw ws.length tj.cw] 55)));have E2:=(heap_alloc_new wr (FW #[.bool true,FV tj.ad tj.nd tj.cd,I0 id,I0 ep,FV tj.al ts.length tj.cl,I0 dn,I0 tr.z,FV tj.an tr.ns.length tj.cn,FV tj.ai tr.ss.length tj.ci,FV tj.aw ws.length tj.cw] 55));generalize wr.alloc _=W2 at*;have e0:W2.cell? ⟨wr.heap.size,0,G6⟩=G7 (.bool true):=by simp[AX,E2]
    clear HI IXm IX E2;have O3:=G9 (fun O=>(G8 O2).next (GH W2 O));have S3:=G9 (fun O=>BP (G8 B2).size (GH W2 O).size);go_wp2_with (at_builtin;refine mP rfl _ _ 50 rfl i0 _ 8 underlying50 hi0 hz0 hz1 hz2 rfl (by decide) _ (vot p.s j) rfl W.heap.size (G8 O3 _) W2.heap.size rfl (j:Int) (sK W2 j) (by omega) (by simp only[maxLen];omega) (G8 S3 _) ?_);intro a8 c8 w8 ho8 hg8;have HO:=G9 ho8;have HB:=G9 (mQ (GI (G8 B2) (GH W2 _)) hg8 (BC5 (G8 O2)));clear ho8 hg8 O3 S3 B2 O2;go_wp2_with fail
    go_roundg (3-(j+1))
    case measure=>omega
    case rel=>exact⟨j+1,a8,c8,by simp,by rw[G8 HS,AP];rfl,by omega,A8 _,G9 ⟨by rw[G8 HS,AP];exact G8 HO,G8 HB⟩⟩
   .have HS:=G9 (CR4 hlt (by simpa using hu));rw[show (p.s j).up=false by simpa using hu]at IXm;clear hu;go_upto_region 5 with fail;have B2:=G9 (GI (G8 HI).2 (GH wr (FW #[.bool false,FV tj.ad tj.nd tj.cd,I0 id,I0 ep,FV tj.al ts.length tj.cl,I0 dn,I0 tr.z,FV tj.an tr.ns.length tj.cn,FV tj.ai tr.ss.length tj.ci,FV tj.aw ws.length tj.cw] 55)));have O2:=G9 ((G8 HI).1.next (GH wr (FW #[.bool false,FV tj.ad tj.nd tj.cd,I0 id,I0 ep,FV tj.al ts.length tj.cl,I0 dn,I0 tr.z,FV tj.an tr.ns.length tj.cn,FV tj.ai tr.ss.length tj.ci,FV tj.aw ws.length tj.cw] 55)));have E2:=(heap_alloc_new wr (FW #[.bool false,FV tj.ad tj.nd tj.cd,I0 id,I0 ep,FV tj.al ts.length tj.cl,I0 dn,I0 tr.z,FV tj.an tr.ns.length tj.cn,FV tj.ai tr.ss.length tj.ci,FV tj.aw ws.length tj.cw] 55));generalize wr.alloc _=W2 at*;have e0:W2.cell? ⟨wr.heap.size,0,G6⟩=G7 (.bool false):=by simp[AX,E2]
    clear HI IXm IX E2;go_wp2_with fail
    go_roundg (3-(j+1))
    case measure=>omega
    case rel=>exact⟨j+1,a,c,by simp,by rw[G8 HS],by omega,A8 _,G9 ⟨by rw[G8 HS];exact G8 O2,G8 B2⟩⟩
  .obtain rfl:j=3:=by omega
   go_wp2_with fail;go_ret;exact⟨_,rfl,by rw[<-CE4];exact(G8 HI).1,(G8 HI).2⟩
