/-
  Part.
-/
import Derived.Test.YtefephchbjfdfaaGreatDoorLMU
import Derived.Test.YtefephchbjfdfaaGreatDoorLMV
set_option maxRecDepth 20000
set_option maxHeartbeats 8000000
namespace Go.Proofs.YtefephchbjfdfaaGreatDoor
open Go.RowKit Go.Proofs.Tryz
open _root_.Nat renaming le_refl->AA,lt_of_lt_of_le->AY,zero_add->BK
open _root_.Array renaming getElem?_eq_some_iff->AL
open _root_.List renaming getElem?_eq_getElem->AO,length_append->AP,getElem?_eq_some_iff->AV,getElem?_append_right->BD,getElem?_append_left->BN,take_of_length_le->BO,append_assoc->BZ,append_nil->DV,take_append_drop->DW,length_take->FB
open Go.Value.slice renaming injEq->AQ
open Go.World renaming cell?->AX,frozen?->FC
open _root_.Option.some renaming injEq->BF,inj->BQ
open Go.Builtin renaming zeroCells->BJ
open Go.Value renaming ownBlock->DK,slice->FV
open _root_.List.cons renaming injEq->EI
open Go.Value.agg renaming injEq->EO
open Go.Addr.mk renaming injEq->EW
open _root_.Array.mk renaming injEq->F8
open Go.Obj renaming cells->FW
open Go renaming World->FX,Value->FZ,Calls->G5
open _root_.Option renaming none->G6,some->G8
variable{F:Nat->Prop}{g B q k o n j i:Nat}{W V w w':FX}{v vd vl vn vs vw:FZ}{f:Nat->FZ}{s:Sv}{p:Pw}{e:Ending}{E:Int}{d:Dd}{α:Type}
def WB(W:FX)(k:Nat)(f:Nat->FZ):Prop:=∃c:Array FZ,W.heap[k]?=G8 (FW c 83 (0,0))/\c.size=83/\∀j,j<83->c[j]?=G8 (f j)
section
variable {W V:FX} {k j:Nat} {f:Nat->FZ}
theorem WB.lt(h:WB W k f):k<W.heap.size:=by
 obtain⟨c,h1,_⟩:=h;exact(AL.1 h1).1
theorem WB.cell(h:WB W k f)(hj:j<83):W.cell? ⟨k,j,G6⟩=G8 (f j):=by
 obtain⟨c,h1,_,h3⟩:=h;simp[AX,h1,h3 j hj]
theorem WB.H6(h:WB W k f)(j:Nat):W.frozen? ⟨k,j,G6⟩=false:=by
 obtain⟨c,h1,_⟩:=h;simp[FC,h1]
theorem WB.touch(h:WB W k f)(ht:Touch F W V)(hk:¬F k):WB V k f:=by
 obtain⟨c,h1,h2,h3⟩:=h;exact⟨c,(ht.block k (AL.1 h1).1 hk).trans h1,h2,h3⟩
theorem WB.next(h:WB W k f)(hb:B0 W V):WB V k f:=h.touch (F:=fun _=>False) (Touch.of_below hb) id
theorem WB.set(h:WB W k f)(hj:j<83)(v:FZ):WB (W.setCell ⟨k,j,G6⟩ v) k (LZ f j v):=by
 obtain⟨c,h1,h2,h3⟩:=h;refine⟨c.setIfInBounds j v,GY v h1,by simp[h2],fun i hi=>?_⟩;rw[Array.getElem?_setIfInBounds];by_cases e:j=i
 .subst e;simp[h2,hj,IU]
 .rw[if_neg e,GN _ _ (fun h=>e h.symm)];exact h3 i hi
theorem WB.of_eq{g:Nat->FZ}(h:WB W k f)(he:∀j,j<83->f j=g j):WB W k g:=by
 obtain⟨c,h1,h2,h3⟩:=h;exact⟨c,h1,h2,fun j hj=>by rw[h3 j hj,he j hj]⟩
theorem WB.fK(h:WB W k f)(hs:∀j,j<83->∀s,f j≠ .string s):aA W k:=by
 obtain⟨c,h1,h2,h3⟩:=h;refine⟨c,_,h1,fun j s hj=>?_⟩;have hlt:=(AL.1 hj).1;rw[h3 j (by omega)]at hj;exact hs j (by omega) s (BQ hj)
end
def Row{α:Type}[Lay α](W:FX)(k:Nat)(v:FZ)(xs:List α):Prop:=IV W v xs/\(xs≠[]->TM v k)
section
variable {α:Type} [Lay α] {W V:FX} {k:Nat} {v:FZ} {xs:List α}
theorem Row.next(h:Row W k v xs)(hb:B0 W V):Row V k v xs:=⟨h.1.next hb,h.2⟩
theorem Row.touch(h:Row W k v xs)(ht:Touch (· =k) W V):Row V k v xs:=by
 refine⟨?_,h.2⟩;rcases h.1 with h1|⟨b,off,cap,rfl,h1,h2,h3,h0,h4⟩
 .exact .inl h1
 .refine .inr ⟨b,off,cap,rfl,h1,h2,AY h3 ht.size,h0,fun i v hi=>?_⟩;have hb:b≠k:=h.2 h0 b off _ cap rfl;rw[AX,ht.block b h3 hb];exact h4 i v hi
theorem Row.new(h:IV W v xs)(hk:W.heap.size<=k):Row W k v xs:=by
 refine⟨h,fun h0 b off n c e=>?_⟩;rcases h with⟨a,cap,_,e0,_⟩|⟨b',off',cap,rfl,_,_,h3,_,_⟩
 .exact absurd e0 h0
 .simp only[AQ,BF,EW]at e;omega
theorem Row.own(h:I5 W B v xs)(hk:k<B):Row W k v xs:=⟨h.seq,fun _=>VL h hk⟩
theorem Row.slice(h:Row W k v xs):∃a c,v=FV a xs.length c:=GU h.1
theorem Row.nil(W:FX)(k:Nat)(c:Nat)(hc:c<=maxLen)(a:Option Addr):Row W k (FV a 0 c) ([]:List α):=⟨.inl ⟨a,c,rfl,rfl,hc⟩,fun h=>absurd rfl h⟩
theorem XW(hq:q<Lay.k α)(ht:∀x:α,∃s,(Lay.cs x)[q]?=G8 (Value.string s))(h:IV W v xs)(hk:aA W k):Row W k v xs:=by
 refine⟨h,fun h0 b off n c e=>?_⟩;rcases h with⟨a,cap,_,e0,_⟩|⟨b',off',cap,rfl,_,_,h3,_,h4⟩
 .exact absurd e0 h0
 .simp only[AQ,BF,EW]at e;rintro rfl;obtain⟨x,r,rfl⟩:=List.exists_cons_of_ne_nil h0;obtain⟨s,hs⟩:=ht x;have:=h4 (0*Lay.k α+q) _ ((GZ (x::r) 0 x rfl q hq).trans hs);rw[e.1.1]at this;exact hk.no this
end
theorem rX{xs:List DF}(h:IY W v xs)(hk:aA W k):Row W k v xs:=XW (q:=0) (by decide) (fun x=>⟨_,rfl⟩) (OU.2 h) hk
theorem ZT{xs:List GV}(h:NQ W v xs)(hk:aA W k):Row W k v xs:=XW (q:=3) (by decide) (fun x=>⟨_,rfl⟩) (MJ.2 h) hk
theorem l9{xs:List Nd}(h:IV W v xs)(hk:aA W k):Row W k v xs:=XW (q:=0) (by decide) (fun x=>⟨_,rfl⟩) h hk
theorem VT{xs:List Wa}(h:IV W v xs)(hk:aA W k):Row W k v xs:=XW (q:=2) (by decide) (fun x=>⟨_,rfl⟩) h hk
theorem XY{xs:List En}(h:IV W v xs)(hk:aA W k):Row W k v xs:=XW (q:=0) (by decide) (fun x=>⟨_,rfl⟩) h hk
structure SvA(W:FX)(k:Nat)(g:Nat->FZ)(s:Sv):Prop where
 up:g 0=.bool s.up
 d:Row W k (g 1) s.fs
 id:g 2=I0 s.id
 ep:g 3=I0 s.ep
 l:Row W k (g 4) s.ts
 dn:g 5=I0 s.dn
 z:g 6=I0 s.tr.z
 n:Row W k (g 7) s.tr.ns
 i:Row W k (g 8) s.tr.ss
 w:Row W k (g 9) s.ws
section
variable {W V:FX} {k:Nat} {g:Nat->FZ} {s:Sv}
theorem SvA.next(h:SvA W k g s)(hb:B0 W V):SvA V k g s:=⟨h.up,h.d.next hb,h.id,h.ep,h.l.next hb,h.dn,h.z,h.n.next hb,h.i.next hb,h.w.next hb⟩
theorem SvA.touch(h:SvA W k g s)(ht:Touch (· =k) W V):SvA V k g s:=⟨h.up,h.d.touch ht,h.id,h.ep,h.l.touch ht,h.dn,h.z,h.n.touch ht,h.i.touch ht,h.w.touch ht⟩
theorem SvA.val(h:SvA W k g s):SvV W (.agg #[g 0,g 1,g 2,g 3,g 4,g 5,g 6,g 7,g 8,g 9]) s:=by
 rw[h.up,h.id,h.ep,h.dn,h.z];exact⟨_,_,_,_,_,rfl,OU.1 h.d.1,MJ.1 h.l.1,h.n.1,h.i.1,h.w.1⟩
theorem SvA.moved(h:SvA W k g s)(hq:W.heap.size<=q):SvA W q g s:=⟨h.up,Row.new h.d.1 hq,h.id,h.ep,Row.new h.l.1 hq,h.dn,h.z,Row.new h.n.1 hq,Row.new h.i.1 hq,Row.new h.w.1 hq⟩
theorem SvA.cellP{P:FZ->Prop}(hb:∀b,P (.bool b))(hn:∀n,P (I0 n))(hs:∀a n c,P (FV a n c))(h:SvA W k g s)(j:Nat)(hj:j<10):P (g j):=by
 have r:∀ {α:Type} [Lay α] {v:FZ} {xs:List α},Row W k v xs->P v:=fun h=>by obtain⟨a,c,e⟩:=h.slice;rw[e];exact hs _ _ _
 rcases(show j=0\/j=1\/j=2\/j=3\/j=4\/j=5\/j=6\/j=7\/j=8\/j=9 by omega)with rfl|rfl|rfl|rfl|rfl|rfl|rfl|rfl|rfl|rfl
 .rw[h.up];exact hb _
 .exact r h.d
 .rw[h.id];exact hn _
 .rw[h.ep];exact hn _
 .exact r h.l
 .rw[h.dn];exact hn _
 .rw[h.z];exact hn _
 .exact r h.n
 .exact r h.i
 .exact r h.w
theorem SvA.of{vd vl vn vs vw:FZ}(hk:aA W k)(hv:SvV W (.agg #[.bool s.up,vd,I0 s.id,I0 s.ep,vl,I0 s.dn,I0 s.tr.z,vn,vs,vw]) s)(hs:s.tr.ss≠[]->TM vs k)
  (h0:g 0=.bool s.up) (h1:g 1=vd) (h2:g 2=I0 s.id) (h3:g 3=I0 s.ep) (h4:g 4=vl) (h5:g 5=I0 s.dn) (h6:g 6=I0 s.tr.z) (h7:g 7=vn) (h8:g 8=vs) (h9:g 9=vw):SvA W k g s:=by
 obtain⟨vd',vl',vn',vs',vw',e,r1,r2,r3,r4,r5⟩:=hv;simp only[EO,F8,EI,true_and,and_true]at e;obtain⟨rfl,rfl,rfl,rfl,rfl⟩:=e;exact⟨h0,by rw[h1];exact rX r1 hk,h2,h3,by rw[h4];exact ZT r2 hk,h5,h6,by rw[h7];exact l9 r3 hk,by rw[h8];exact⟨r4,hs⟩,by rw[h9];exact VT r5 hk⟩
end
structure ClA(W:FX)(k:Nat)(g:Nat->FZ)(c:Cl):Prop where
 s:g 0=I0 c.s
 z:g 1=I0 c.z
 e:Row W k (g 2) c.es
structure WdR(W:FX)(k:Nat)(f:Nat->FZ)(p:Pw):Prop where
 n:f 0=I0 p.n
 s:∀i,i<3->SvA W k (fun q=>f (1+10*i+q)) (svP i (p.s i))
 r:∀i,i<3->f (31+i)=I0 (p.r i)
 c:∀i,i<16->ClA W k (fun q=>f (34+3*i+q)) (p.c i)
 d:Row W k (f 82) p.D
 h:∀i,i<3->∀b,p.h b->((svP i (p.s i)).tr.ss≠[]->TM (f (1+10*i+8)) b)/\((svP i (p.s i)).ws≠[]->TM (f (1+10*i+9)) b)
 hk:∀b,p.h b->b<W.heap.size
def WX(W:FX)(k:Nat)(p:Pw):Prop:=∃f,WB W k f/\WdR W k f p
section
variable {W V:FX} {k:Nat} {f:Nat->FZ} {p:Pw}
theorem WdR.next(h:WdR W k f p)(hb:B0 W V):WdR V k f p:=
 ⟨h.n,fun i hi=>(h.s i hi).next hb,h.r,fun i hi=>⟨(h.c i hi).s,(h.c i hi).z,(h.c i hi).e.next hb⟩,h.d.next hb,h.h,fun b e=>AY (h.hk b e) hb.size⟩
theorem WdR.touch(h:WdR W k f p)(ht:Touch (· =k) W V):WdR V k f p:=
 ⟨h.n,fun i hi=>(h.s i hi).touch ht,h.r,fun i hi=>⟨(h.c i hi).s,(h.c i hi).z,(h.c i hi).e.touch ht⟩,h.d.touch ht,h.h,fun b e=>AY (h.hk b e) ht.size⟩
theorem WdR.moved(h:WdR W k f p)(hq:W.heap.size<=q):WdR W q f p:=
 ⟨h.n,fun i hi=>(h.s i hi).moved hq,h.r,fun i hi=>⟨(h.c i hi).s,(h.c i hi).z,Row.new (h.c i hi).e.1 hq⟩,Row.new h.d.1 hq,h.h,h.hk⟩
theorem WX.next(h:WX W k p)(hb:B0 W V):WX V k p:=by
 obtain⟨f,h1,h2⟩:=h;exact⟨f,h1.next hb,h2.next hb⟩
theorem WX.lt(h:WX W k p):k<W.heap.size:=by
 obtain⟨f,h1,_⟩:=h;exact h1.lt
theorem WX.hlt(h:WX W k p){b:Nat}(e:p.h b):b<W.heap.size:=by
 obtain⟨f,_,hr⟩:=h;exact hr.hk b e
theorem WX.hle(h:WX W k p){b:Nat}(e:b=k\/p.h b):b<W.heap.size:=e.elim (fun e=>e ▸ h.lt) (fun e=>h.hlt e)
def grH(p:Pw)(v:FZ):Pw:=⟨p.n,p.s,p.r,p.c,p.D,p.H,fun b=>p.h b\/v.ownBlock=G8 b⟩
theorem WX.few(h:WX W k p){g:Nat->Prop}(hg:∀b,g b->p.h b):WX W k ⟨p.n,p.s,p.r,p.c,p.D,p.H,g⟩:=by
 obtain⟨f,hb,hr⟩:=h;exact⟨f,hb,hr.n,hr.s,hr.r,hr.c,hr.d,fun i hi b e=>hr.h i hi b (hg b e),fun b e=>hr.hk b (hg b e)⟩
theorem WX.grN(h:WX W k p)(hv:v.ownBlock=G6):WX W k (grH p v):=h.few fun b e=>e.elim id fun e=>by rw[hv]at e;cases e
theorem WX.gr0(h:WX W k (grH p v)):WX W k p:=h.few (p:=grH p v) fun _ e=>.inl e
theorem WdR.cellP{P:FZ->Prop}(hb:∀b,P (.bool b))(hn:∀n,P (I0 n))(hs:∀a n c,P (FV a n c))(h:WdR W k f p)(j:Nat)(hj:j<83):P (f j):=by
 by_cases h0:j=0
 .subst h0;rw[h.n];exact hn _
 .by_cases h1:j<31
  .have:=(h.s ((j-1)/10) (by omega)).cellP hb hn hs ((j-1)%10) (by omega);simp only[show 1+10*((j-1)/10)+(j-1)%10=j by omega]at this;exact this
  .by_cases h2:j<34
   .have:=h.r (j-31) (by omega);rw[show 31+(j-31)=j by omega]at this;rw[this];exact hn _
   .by_cases h3:j<82
    .have hc:=h.c ((j-34)/3) (by omega);have e0:34+3*((j-34)/3)+(j-34)%3=j:=by omega
     rcases(show (j-34)%3=0\/(j-34)%3=1\/(j-34)%3=2 by omega)with e|e|e
     .have:=hc.s;simp only[<-e,e0]at this;rw[this];exact hn _
     .have:=hc.z;simp only[<-e,e0]at this;rw[this];exact hn _
     .obtain⟨a,c,e'⟩:=hc.e.slice;simp only[<-e,e0]at e';rw[e'];exact hs _ _ _
    .obtain rfl:j=82:=by omega
     obtain⟨a,c,e'⟩:=h.d.slice;rw[e'];exact hs _ _ _
theorem WdR.text(h:WdR W k f p)(j:Nat)(hj:j<83)(t:ByteArray):f j≠ .string t:=h.cellP (P:=(· ≠ .string t)) (fun _ e=>by cases e) (fun _ e=>by cases e) (fun _ _ _ e=>by cases e) j hj
theorem WdR.fK(h:WdR W k f p)(hb:WB W k f):aA W k:=hb.fK h.text
end
def CF6(x0 x1 x2 x3 x4 x5 x6 x7 x8 x9:FZ):Nat->FZ
 |0=>x0|1=>x1|2=>x2|3=>x3|4=>x4|5=>x5|6=>x6|7=>x7|8=>x8|_=>x9
def B67(x0 x1 x2:FZ):Nat->FZ
 |0=>x0|1=>x1|_=>x2
def BE2(f:Nat->FZ)(o n:Nat)(g:Nat->FZ):Nat->FZ:=fun j=>if o<=j/\j<o+n then g (j-o)else f j
theorem NC{g:Nat->FZ}(h:q<n):BE2 f o n g (o+q)=g q:=by
 rw[BE2,if_pos ⟨by omega,by omega⟩]
 congr 1
 omega
theorem JB{g:Nat->FZ}(h:j<o\/o+n<=j):BE2 f o n g j=f j:=by rw[BE2,if_neg (by omega)]
def yY(W:FX)(k o:Nat)(x0 x1 x2 x3 x4 x5 x6 x7 x8 x9:FZ):FX:=
 (((((((((W.setCell ⟨k,o,G6⟩ x0).setCell ⟨k,o+1,G6⟩ x1).setCell ⟨k,o+2,G6⟩ x2).setCell ⟨k,o+3,G6⟩ x3).setCell ⟨k,o+4,G6⟩ x4).setCell ⟨k,o+5,G6⟩ x5).setCell ⟨k,o+6,G6⟩ x6).setCell ⟨k,o+7,G6⟩ x7).setCell ⟨k,o+8,G6⟩ x8).setCell ⟨k,o+9,G6⟩ x9
def rY(W:FX)(k o:Nat)(x0 x1 x2:FZ):FX:=((W.setCell ⟨k,o,G6⟩ x0).setCell ⟨k,o+1,G6⟩ x1).setCell ⟨k,o+2,G6⟩ x2
section
variable {W:FX} {k:Nat} {f:Nat->FZ} {p:Pw}
theorem JQ(W:FX)(k j:Nat)(v:FZ):Touch (· =k) W (W.setCell ⟨k,j,G6⟩ v):=Touch.set (F:=(· =k)) (a:=⟨k,j,G6⟩) rfl v
theorem XZ(W:FX)(k o:Nat)(x0 x1 x2 x3 x4 x5 x6 x7 x8 x9:FZ):Touch (· =k) W (yY W k o x0 x1 x2 x3 x4 x5 x6 x7 x8 x9):=
 (((((((((JQ _ _ _ _).trans (JQ _ _ _ _)).trans (JQ _ _ _ _)).trans (JQ _ _ _ _)).trans (JQ _ _ _ _)).trans (JQ _ _ _ _)).trans (JQ _ _ _ _)).trans (JQ _ _ _ _)).trans (JQ _ _ _ _)).trans (JQ _ _ _ _)
theorem TK(W:FX)(k o:Nat)(x0 x1 x2:FZ):Touch (· =k) W (rY W k o x0 x1 x2):=((JQ _ _ _ _).trans (JQ _ _ _ _)).trans (JQ _ _ _ _)
theorem WB.rY(h:WB W k f)(ho:o+3<=83)(x0 x1 x2:FZ):WB (rY W k o x0 x1 x2) k (BE2 f o 3 (B67 x0 x1 x2)):=by
 refine(((h.set (j:=o) (by omega) x0).set (j:=o+1) (by omega) x1).set (j:=o+2) (by omega) x2).of_eq fun j hj=>?_;by_cases h2:j=o+2
 .subst h2;rw[IU,NC (by omega)];rfl
 .by_cases h1:j=o+1
  .subst h1;rw[GN _ _ (by omega),IU,NC (by omega)];rfl
  .by_cases h0:j=o
   .subst h0;rw[GN _ _ (by omega),GN _ _ (by omega),IU,show BE2 f j 3 (B67 x0 x1 x2) j=BE2 f j 3 (B67 x0 x1 x2) (j+0)from rfl,NC (by omega)];rfl
   .rw[GN _ _ h2,GN _ _ h1,GN _ _ h0,JB (by omega)]
theorem WB.yY(h:WB W k f)(ho:o+10<=83)(x0 x1 x2 x3 x4 x5 x6 x7 x8 x9:FZ):WB (yY W k o x0 x1 x2 x3 x4 x5 x6 x7 x8 x9) k (BE2 f o 10 (CF6 x0 x1 x2 x3 x4 x5 x6 x7 x8 x9)):=by
 refine((((((((((h.set (j:=o) (by omega) x0).set (j:=o+1) (by omega) x1).set (j:=o+2) (by omega) x2).set (j:=o+3) (by omega) x3).set (j:=o+4) (by omega) x4).set (j:=o+5) (by omega) x5).set (j:=o+6) (by omega) x6).set (j:=o+7) (by omega) x7).set (j:=o+8) (by omega) x8).set (j:=o+9) (by omega) x9).of_eq fun j hj=>?_;by_cases hr:o<=j/\j<o+10
 .obtain⟨q,rfl⟩:∃q,j=o+q:=⟨j-o,by omega⟩;rw[NC (by omega)];have hq:q<10:=by omega
  rcases(show q=0\/q=1\/q=2\/q=3\/q=4\/q=5\/q=6\/q=7\/q=8\/q=9 by omega)with rfl|rfl|rfl|rfl|rfl|rfl|rfl|rfl|rfl|rfl<;>simp[LZ,CF6]
 .rw[JB (by omega),GN _ _ (by omega),GN _ _ (by omega),GN _ _ (by omega),GN _ _ (by omega),GN _ _ (by omega),GN _ _ (by omega),GN _ _ (by omega),GN _ _ (by omega),GN _ _ (by omega),GN _ _ (by omega)]
theorem SvA.congr{g g':Nat->FZ}(h:SvA W k g s)(he:∀q,q<10->g' q=g q):SvA W k g' s:=by
 refine⟨?_,?_,?_,?_,?_,?_,?_,?_,?_,?_⟩<;>rw[he _ (by omega)]
 .exact h.up
 .exact h.d
 .exact h.id
 .exact h.ep
 .exact h.l
 .exact h.dn
 .exact h.z
 .exact h.n
 .exact h.i
 .exact h.w
theorem ClA.congr{g g':Nat->FZ}{c:Cl}(h:ClA W k g c)(he:∀q,q<3->g' q=g q):ClA W k g' c:=by
 refine⟨?_,?_,?_⟩<;>rw[he _ (by omega)]
 .exact h.s
 .exact h.z
 .exact h.e
theorem WX.oZ(h:WX W k p)(hi:i<3){q:Ps}(hq:svP i q=s)(hv:SvV W (.agg #[.bool s.up,vd,I0 s.id,I0 s.ep,vl,I0 s.dn,I0 s.tr.z,vn,vs,vw]) s)(hs:∀b,b=k\/p.h b->(s.tr.ss≠[]->TM vs b)/\(s.ws≠[]->TM vw b)):
  WX (yY W k (1+10*i) (.bool s.up) vd (I0 s.id) (I0 s.ep) vl (I0 s.dn) (I0 s.tr.z) vn vs vw) k ⟨p.n,LZ p.s i q,p.r,p.c,p.D,p.H,p.h⟩:=by
 obtain⟨f,hb,hr⟩:=h;refine⟨_,hb.yY (o:=1+10*i) (by omega) _ _ _ _ _ _ _ _ _ _,WdR.touch (W:=W) ?_ (XZ _ _ _ _ _ _ _ _ _ _ _ _ _)⟩;have hA:SvA W k (CF6 (.bool s.up) vd (I0 s.id) (I0 s.ep) vl (I0 s.dn) (I0 s.tr.z) vn vs vw) s:=SvA.of (hr.fK hb) hv (hs k (.inl rfl)).1 rfl rfl rfl rfl rfl rfl rfl rfl rfl rfl;refine⟨by rw[JB (by omega)];exact hr.n,fun j hj=>?_,fun j hj=>by rw[JB (by omega)];exact hr.r j hj,fun j hj=>(hr.c j hj).congr fun q hq=>by rw[JB (by omega)],by rw[JB (by omega)];exact hr.d,fun j hj b hb=>?_,hr.hk⟩
 .by_cases e:j=i
  .subst e;simp only[IU,hq];exact hA.congr fun q hq=>by rw[NC hq]
  .simp only[GN _ _ e];exact(hr.s j hj).congr fun q hq=>by rw[JB (by omega)]
 .by_cases e:j=i
  .subst e;simp only[IU,hq];rw[NC (by omega),NC (by omega)];exact hs b (.inr hb)
  .simp only[GN _ _ e];rw[JB (by omega),JB (by omega)];exact hr.h j hj b hb
theorem WX.VU(h:WX W k p)(hi:i<3)(v:Int):WX (W.setCell ⟨k,31+i,G6⟩ (I0 v)) k ⟨p.n,p.s,LZ p.r i v,p.c,p.D,p.H,p.h⟩:=by
 obtain⟨f,hb,hr⟩:=h;refine⟨_,hb.set (j:=31+i) (by omega) _,WdR.touch (W:=W) ?_ (JQ _ _ _ _)⟩;refine⟨by rw[GN _ _ (by omega)];exact hr.n,fun j hj=>(hr.s j hj).congr fun q hq=>by rw[GN _ _ (by omega)],fun j hj=>?_,fun j hj=>(hr.c j hj).congr fun q hq=>by rw[GN _ _ (by omega)],by rw[GN _ _ (by omega)];exact hr.d,fun j hj b hb=>by rw[GN _ _ (by omega),GN _ _ (by omega)];exact hr.h j hj b hb,hr.hk⟩;by_cases e:j=i
 .subst e;rw[IU];simp only[IU]
 .rw[GN _ _ (by omega)];simp only[GN _ _ e];exact hr.r j hj
theorem WX.AD5(h:WX W k p){r:Nat->Int}(he:∀i,i<3->p.r i=r i):WX W k ⟨p.n,p.s,r,p.c,p.D,p.H,p.h⟩:=by
 obtain⟨f,hb,hr⟩:=h;exact⟨f,hb,hr.n,hr.s,fun i hi=>by rw[hr.r i hi,he i hi],hr.c,hr.d,hr.h,hr.hk⟩
theorem WX.clear(h:WX W k p):WX (rY W k 31 (I0 0) (I0 0) (I0 0)) k ⟨p.n,p.s,fun _=>0,p.c,p.D,p.H,p.h⟩:=by
 have h1:=((h.VU (i:=0) (by omega) 0).VU (i:=1) (by omega) 0).VU (i:=2) (by omega) 0;have h2:WX (rY W k 31 (I0 0) (I0 0) (I0 0)) k ⟨p.n,p.s,LZ (LZ (LZ p.r 0 0) 1 0) 2 0,p.c,p.D,p.H,p.h⟩:=h1;refine h2.AD5 fun i hi=>?_;rcases(show i=0\/i=1\/i=2 by omega)with rfl|rfl|rfl<;>simp[LZ]
theorem WX.AD6(h:WX W k p)(n:Int):WX (W.setCell ⟨k,0,G6⟩ (I0 n)) k ⟨n,p.s,p.r,p.c,p.D,p.H,p.h⟩:=by
 obtain⟨f,hb,hr⟩:=h;refine⟨_,hb.set (j:=0) (by omega) _,WdR.touch (W:=W) ?_ (JQ _ _ _ _)⟩;exact⟨by rw[IU],fun j hj=>(hr.s j hj).congr fun q hq=>by rw[GN _ _ (by omega)],fun j hj=>by rw[GN _ _ (by omega)];exact hr.r j hj,fun j hj=>(hr.c j hj).congr fun q hq=>by rw[GN _ _ (by omega)],by rw[GN _ _ (by omega)];exact hr.d,fun j hj b hb=>by rw[GN _ _ (by omega),GN _ _ (by omega)];exact hr.h j hj b hb,hr.hk⟩
theorem WX.BP8(h:WX W k p)(hi:i<16){c:Cl}(hv:IV W v c.es):WX (rY W k (34+3*i) (I0 c.s) (I0 c.z) v) k ⟨p.n,p.s,p.r,LZ p.c i c,p.D,p.H,p.h⟩:=by
 obtain⟨f,hb,hr⟩:=h;refine⟨_,hb.rY (o:=34+3*i) (by omega) _ _ _,WdR.touch (W:=W) ?_ (TK _ _ _ _ _ _)⟩;refine⟨by rw[JB (by omega)];exact hr.n,fun j hj=>(hr.s j hj).congr fun q hq=>by rw[JB (by omega)],fun j hj=>by rw[JB (by omega)];exact hr.r j hj,fun j hj=>?_,by rw[JB (by omega)];exact hr.d,fun j hj b hb=>by rw[JB (by omega),JB (by omega)];exact hr.h j hj b hb,hr.hk⟩;by_cases e:j=i
 .subst e;simp only[IU];exact ClA.congr (g:=B67 (I0 c.s) (I0 c.z) v) ⟨rfl,rfl,XY hv (hr.fK hb)⟩ fun q hq=>by rw[NC hq]
 .simp only[GN _ _ e];exact(hr.c j hj).congr fun q hq=>by rw[JB (by omega)]
theorem WX.CM4(h:WX W k p){D:List GV}(hv:IV W v D)(H:List GV):WX (W.setCell ⟨k,82,G6⟩ v) k ⟨p.n,p.s,p.r,p.c,D,H,p.h⟩:=by
 obtain⟨f,hb,hr⟩:=h;refine⟨_,hb.set (j:=82) (by omega) _,WdR.touch (W:=W) ?_ (JQ _ _ _ _)⟩;exact⟨by rw[GN _ _ (by omega)];exact hr.n,fun j hj=>(hr.s j hj).congr fun q hq=>by rw[GN _ _ (by omega)],fun j hj=>by rw[GN _ _ (by omega)];exact hr.r j hj,fun j hj=>(hr.c j hj).congr fun q hq=>by rw[GN _ _ (by omega)],by rw[IU];exact ZT (MJ.1 hv) (hr.fK hb),fun j hj b hb=>by rw[GN _ _ (by omega),GN _ _ (by omega)];exact hr.h j hj b hb,hr.hk⟩
theorem WX.BY4(h:WX W k p)(hi:i<3)(hu:(p.s i).up=true){x:Ps}(hx:x=⟨(p.s i).up,(p.s i).e,(p.s i).m,(p.s i).a,(p.s i).q,(p.s i).dn,x.ws⟩)(hv:IV W v x.ws)(ha:x.ws≠[]->∀b,p.h b->TM v b):WX (W.setCell ⟨k,1+10*i+9,G6⟩ v) k ⟨p.n,LZ p.s i x,p.r,p.c,p.D,p.H,p.h⟩:=by
 obtain⟨f,hb,hr⟩:=h;refine⟨_,hb.set (j:=1+10*i+9) (by omega) _,WdR.touch (W:=W) ?_ (JQ _ _ _ _)⟩;refine⟨by rw[GN _ _ (by omega)];exact hr.n,fun j hj=>?_,fun j hj=>by rw[GN _ _ (by omega)];exact hr.r j hj,fun j hj=>(hr.c j hj).congr fun q hq=>by rw[GN _ _ (by omega)],by rw[GN _ _ (by omega)];exact hr.d,fun j hj b hb=>by
  rw[GN _ _ (by omega)];have o:=hr.h j hj b hb;by_cases e:j=i
  .subst e;simp only[IU];refine⟨fun h0=>o.1 ?_,fun h0=>ha (by rwa[J5 (by rw[hx];exact hu)]at h0) b hb⟩;rw[J5 (by rw[hx];exact hu)]at h0;rw[J5 hu];rw[hx]at h0;exact h0
  .simp only[GN _ _ e];rw[GN _ _ (by omega)];exact o,hr.hk⟩
 by_cases e:j=i
 .subst e;simp only[IU];have hs:=hr.s j hj;have e1:svP j x=⟨(svP j (p.s j)).up,(svP j (p.s j)).fs,(svP j (p.s j)).id,(svP j (p.s j)).ep,(svP j (p.s j)).ts,(svP j (p.s j)).dn,(svP j (p.s j)).tr,x.ws⟩:=by
   rw[J5 hu,J5 (by rw[hx];exact hu),hx]
  rw[e1];have g:∀q,q<9->LZ f (1+10*j+9) v (1+10*j+q)=f (1+10*j+q):=fun q hq=>GN _ _ (by omega);exact⟨by rw[g 0 (by omega)];exact hs.up,by rw[g 1 (by omega)];exact hs.d,by rw[g 2 (by omega)];exact hs.id,by rw[g 3 (by omega)];exact hs.ep,by rw[g 4 (by omega)];exact hs.l,by rw[g 5 (by omega)];exact hs.dn,by rw[g 6 (by omega)];exact hs.z,by rw[g 7 (by omega)];exact hs.n,by rw[g 8 (by omega)];exact hs.i,by rw[IU];exact VT hv (hr.fK hb)⟩
 .simp only[GN _ _ e];exact(hr.s j hj).congr fun q hq=>by rw[GN _ _ (by omega)]
end
structure Srv(W:FX)(k o:Nat)(up:Bool)(id ep dn z:Int)(vd vl vn vs vw:FZ):Prop where
 c0:W.cell? ⟨k,o,G6⟩=G8 (.bool up)
 c1:W.cell? ⟨k,o+1,G6⟩=G8 vd
 c2:W.cell? ⟨k,o+2,G6⟩=G8 (I0 id)
 c3:W.cell? ⟨k,o+3,G6⟩=G8 (I0 ep)
 c4:W.cell? ⟨k,o+4,G6⟩=G8 vl
 c5:W.cell? ⟨k,o+5,G6⟩=G8 (I0 dn)
 c6:W.cell? ⟨k,o+6,G6⟩=G8 (I0 z)
 c7:W.cell? ⟨k,o+7,G6⟩=G8 vn
 c8:W.cell? ⟨k,o+8,G6⟩=G8 vs
 c9:W.cell? ⟨k,o+9,G6⟩=G8 vw
theorem Srv.next{up:Bool}{id ep dn z:Int}(h:Srv W k o up id ep dn z vd vl vn vs vw)(hk:k<W.heap.size)(hV:B0 W V):Srv V k o up id ep dn z vd vl vn vs vw:=by
 have e:∀j,V.cell? ⟨k,j,G6⟩=W.cell? ⟨k,j,G6⟩:=fun j=>by rw[AX,AX,hV.block k hk]
 exact⟨(e _).trans h.c0,(e _).trans h.c1,(e _).trans h.c2,(e _).trans h.c3,(e _).trans h.c4,(e _).trans h.c5,(e _).trans h.c6,(e _).trans h.c7,(e _).trans h.c8,(e _).trans h.c9⟩
theorem WX.srv(h:WX W k p)(hi:i<3)(hs:svP i (p.s i)=s):∃ad nd cd al cl an cn ai ci aw cw,
  Srv W k (1+10*i) s.up s.id s.ep s.dn s.tr.z (FV ad nd cd) (FV al s.ts.length cl) (FV an s.tr.ns.length cn) (FV ai s.tr.ss.length ci) (FV aw s.ws.length cw)/\
  SvV W (.agg #[.bool s.up,FV ad nd cd,I0 s.id,I0 s.ep,FV al s.ts.length cl,I0 s.dn,I0 s.tr.z,FV an s.tr.ns.length cn,FV ai s.tr.ss.length ci,FV aw s.ws.length cw]) s/\(s.tr.ss≠[]->TM (FV ai s.tr.ss.length ci) k):=by
 obtain⟨f,hb,hr⟩:=h;have h:=hr.s i hi;rw[hs]at h;obtain⟨ad,cd,e1⟩:=h.d.slice;obtain⟨al,cl,e4⟩:=h.l.slice;obtain⟨an,cn,e7⟩:=h.n.slice;obtain⟨ai,ci,e8⟩:=h.i.slice;obtain⟨aw,cw,e9⟩:=h.w.slice;have hv:=h.val;have hw:=h.i.2;rw[e8]at hw;rw[h.up,e1,h.id,h.ep,e4,h.dn,h.z,e7,e8,e9]at hv;refine⟨ad,_,cd,al,cl,an,cn,ai,ci,aw,cw,⟨?_,?_,?_,?_,?_,?_,?_,?_,?_,?_⟩,hv,hw⟩
 .rw[hb.cell (j:=1+10*i) (by omega)];exact congrArg G8 h.up
 .rw[hb.cell (by omega)];exact congrArg G8 e1
 .rw[hb.cell (by omega)];exact congrArg G8 h.id
 .rw[hb.cell (by omega)];exact congrArg G8 h.ep
 .rw[hb.cell (by omega)];exact congrArg G8 e4
 .rw[hb.cell (by omega)];exact congrArg G8 h.dn
 .rw[hb.cell (by omega)];exact congrArg G8 h.z
 .rw[hb.cell (by omega)];exact congrArg G8 e7
 .rw[hb.cell (by omega)];exact congrArg G8 e8
 .rw[hb.cell (by omega)];exact congrArg G8 e9
theorem WX.role(h:WX W k p)(hi:i<3):W.cell? ⟨k,31+i,G6⟩=G8 (I0 (p.r i)):=by
 obtain⟨f,hb,hr⟩:=h;rw[hb.cell (by omega),hr.r i hi]
theorem WX.count(h:WX W k p):W.cell? ⟨k,0,G6⟩=G8 (I0 p.n):=by
 obtain⟨f,hb,hr⟩:=h;rw[hb.cell (by omega),hr.n]
theorem WX.H6(h:WX W k p)(j:Nat):W.frozen? ⟨k,j,G6⟩=false:=by
 obtain⟨f,hb,hr⟩:=h;exact hb.H6 j
theorem WX.cl(h:WX W k p)(hi:i<16):∃a c,W.cell? ⟨k,34+3*i,G6⟩=G8 (I0 (p.c i).s)/\W.cell? ⟨k,34+3*i+1,G6⟩=G8 (I0 (p.c i).z)/\W.cell? ⟨k,34+3*i+2,G6⟩=G8 (FV a (p.c i).es.length c)/\IV W (FV a (p.c i).es.length c) (p.c i).es:=by
 obtain⟨f,hb,hr⟩:=h;have h:=hr.c i hi;obtain⟨a,c,e⟩:=h.e.slice;have hv:=h.e.1;rw[e]at hv;refine⟨a,c,?_,?_,?_,hv⟩
 .rw[hb.cell (j:=34+3*i) (by omega)];exact congrArg G8 h.s
 .rw[hb.cell (by omega)];exact congrArg G8 h.z
 .rw[hb.cell (by omega)];exact congrArg G8 e
theorem WX.ack(h:WX W k p):∃a c,W.cell? ⟨k,82,G6⟩=G8 (FV a p.D.length c)/\IV W (FV a p.D.length c) p.D:=by
 obtain⟨f,hb,hr⟩:=h;obtain⟨a,c,e⟩:=hr.d.slice;have hv:=hr.d.1;rw[e]at hv;exact⟨a,c,by rw[hb.cell (by omega),e],hv⟩
def RpB(W:FX)(g:Nat):Prop:=W.heap[g]?=G8 (FW #[I0 0,I0 0,.string ⟨#[]⟩,.string ⟨#[]⟩,I0 0,I0 0,I0 0,I0 0,I0 0,I0 0,I0 0,N0] 36 (0,0))
theorem RpB.new(w:FX):RpB (w.alloc (FW #[I0 0,I0 0,.string ⟨#[]⟩,.string ⟨#[]⟩,I0 0,I0 0,I0 0,I0 0,I0 0,I0 0,I0 0,N0] 36)) w.heap.size:=heap_alloc_new w _
theorem RpB.lt(h:RpB W g):g<W.heap.size:=(AL.1 h).1
theorem RpB.touch(h:RpB W g)(ht:Touch F W V)(hg:¬F g):RpB V g:=(ht.block g h.lt hg).trans h
theorem RpB.next(h:RpB W g)(hb:B0 W V):RpB V g:=(hb.block g h.lt).trans h
theorem RpB.cells(h:RpB W g):(W.cell? ⟨g,0,G6⟩=G8 (I0 0)/\W.cell? ⟨g,1,G6⟩=G8 (I0 0)/\W.cell? ⟨g,2,G6⟩=G8 (.string ⟨#[]⟩)/\W.cell? ⟨g,3,G6⟩=G8 (.string ⟨#[]⟩)/\W.cell? ⟨g,4,G6⟩=G8 (I0 0)/\W.cell? ⟨g,5,G6⟩=G8 (I0 0))/\(W.cell? ⟨g,6,G6⟩=G8 (I0 0)/\W.cell? ⟨g,7,G6⟩=G8 (I0 0)/\W.cell? ⟨g,8,G6⟩=G8 (I0 0)/\W.cell? ⟨g,9,G6⟩=G8 (I0 0)/\W.cell? ⟨g,10,G6⟩=G8 (I0 0)/\W.cell? ⟨g,11,G6⟩=G8 (N0)):=by
 unfold RpB at h;refine⟨⟨?_,?_,?_,?_,?_,?_⟩,?_,?_,?_,?_,?_,?_⟩<;>simp[AX,h]
theorem RpB.H6(h:RpB W g)(j:Nat):W.frozen? ⟨g,j,G6⟩=false:=by
 unfold RpB at h;simp[FC,h]
def gW(W:FX)(g:Nat)(x0 x1 x2 x3 x4 x5 x6 x7 x8 x9 x10 x11:FZ):FX:=
 (((((((((((W.setCell ⟨g,0,G6⟩ x0).setCell ⟨g,1,G6⟩ x1).setCell ⟨g,2,G6⟩ x2).setCell ⟨g,3,G6⟩ x3).setCell ⟨g,4,G6⟩ x4).setCell ⟨g,5,G6⟩ x5).setCell ⟨g,6,G6⟩ x6).setCell ⟨g,7,G6⟩ x7).setCell ⟨g,8,G6⟩ x8).setCell ⟨g,9,G6⟩ x9).setCell ⟨g,10,G6⟩ x10).setCell ⟨g,11,G6⟩ x11
theorem Touch.new(h:Touch F w W)(hg:w.heap.size<=g)(v:FZ):Touch F w (W.setCell ⟨g,j,G6⟩ v):=
 ⟨h.os,h.tape,h.output,by simpa [World.setCell]using h.size,fun k hk hf=>(Below.heap_setCell W ⟨g,j,G6⟩ v k (by show k≠g;omega)).trans (h.block k hk hf)⟩
theorem KH(h:Touch F w W)(hg:w.heap.size<=g)(x0 x1 x2 x3 x4 x5 x6 x7 x8 x9 x10 x11:FZ):Touch F w (gW W g x0 x1 x2 x3 x4 x5 x6 x7 x8 x9 x10 x11):=
 (((((((((((h.new hg x0).new hg x1).new hg x2).new hg x3).new hg x4).new hg x5).new hg x6).new hg x7).new hg x8).new hg x9).new hg x10).new hg x11
theorem cO(w:FX)(o p:Obj):((w.alloc o).alloc p).heap[w.heap.size+1]?=G8 p:=by
 have h:=heap_alloc_new (w.alloc o) p;simpa using h
def UY(E:Int):FZ:=.agg #[I0 E,I0 0,.string ⟨#[]⟩,.string ⟨#[]⟩,I0 0,I0 0,I0 0,I0 0,I0 0,I0 0,I0 0,N0]
theorem KQ(E:Int)(w:FX):G5 prog 18 #[I0 E] w (R0 w (UY E)):=by
 unfold UY;go_enter func18,ntmps18;go_wp2_with fail;refine bodyPost_ret (v:=.agg #[I0 E,I0 0,.string ⟨#[]⟩,.string ⟨#[]⟩,I0 0,I0 0,I0 0,I0 0,I0 0,I0 0,I0 0,N0]) (by simp[results,results18,go_sem]) rfl ⟨rfl,?_⟩
 first|exact Below.refl _ _|exact GI _ _|exact GK (GI _ _) (by assumption)|exact(by assumption)
def wP(k:Nat):FZ:=P0 k
theorem Y0(i m:Int)(w:FX):G5 prog 22 #[I0 i,I0 m] w fun e w'=>e=.returned (.bool (l7 i m))/\w'=w:=by
 by_cases h:0<=i
 .by_cases h2:i<m
  .rw[show l7 i m=true by simp[l7];omega];go_enter func22,ntmps22;go_wp2_with fail;go_ret;exact⟨rfl,rfl⟩
  .rw[show l7 i m=false by simp[l7];omega];go_enter func22,ntmps22;go_wp2_with fail;go_ret;exact⟨rfl,rfl⟩
 .rw[show l7 i m=false by simp[l7];omega];go_enter func22,ntmps22;go_wp2_with fail;go_ret;exact⟨rfl,rfl⟩
def UA(k E:Int):Bool:=decide (E=0)||decide (E=16)||(decide (E=7)&&decide (k=2))
theorem A48(k E:Int)(w:FX):G5 prog 21 #[I0 k,I0 E] w fun e w'=>e=.returned (.bool (UA k E))/\w'=w:=by
 unfold UA;by_cases h0:E=0
 .subst h0;go_enter func21,ntmps21;go_wp2_with fail;go_ret;exact⟨by simp,rfl⟩
 .by_cases h1:E=16
  .subst h1;go_enter func21,ntmps21;go_wp2_with fail;go_ret;exact⟨by simp,rfl⟩
  .by_cases h2:E=7
   .subst h2;by_cases h3:k=2
    .subst h3;go_enter func21,ntmps21;go_wp2_with fail;go_ret;exact⟨by simp,rfl⟩
    .go_enter func21,ntmps21;go_wp2_with fail;go_ret;exact⟨by simp[h3],rfl⟩
   .go_enter func21,ntmps21;go_wp2_with fail;go_ret;exact⟨by simp[h0,h1,h2],rfl⟩
theorem sG(e:Int):(YS e).s.length+(YS e).t.length<=1048576:=by
 have:=aX (L9 e 0);simp only[YS,List.length_nil];omega
theorem ZV{e:Int}{s t:List UInt8}(h:s.length+t.length<=1048576):LV (epD e++[⟨OE,s,t⟩]):=by
 unfold epD
 split
 .exact bT h
 .exact U1 (sG e) h
theorem iP(e:Int)(s t:List UInt8):There (epD e++[⟨OE,s,t⟩]) (epD e) ⟨OE,s,t⟩ [] OE:=by
 unfold epD
 split
 .exact⟨rfl,rfl,by simp,by simp⟩
 .exact kX _ _ _ _
theorem BQ1(e:Int)(s t:List UInt8)(k:Nat):(epD e++[(⟨OE,s,t⟩:DF)]).map (XE k)=epD e++[⟨OE,s++t.take k,[]⟩]:=by
 unfold epD
 split
 .simp[XE]
 .simp[XE,YS]
theorem BQ2{e:Int}{s t:List UInt8}(he:zIn e=true)(h:s.length+t.length<=1048576):Z5 (epD e++[⟨OE,s,t⟩])=e:=by
 by_cases h0:e=0
 .subst h0;rw[AD3,List.nil_append];unfold Z5;rw[jY (bT h) (eY s t)];show J6 (gV [])=0;rw[vO,VJ]
 .rw[A45 h0];have h1:=QA.1 he;have hm:L9 e 0=e*2147483648:=by rw[(UD he (by decide)).1];omega
  have hz:KP (L9 e 0)=true:=by rw[hm];exact MC.2 ⟨by omega,by omega⟩
  unfold Z5;show J6 (gV (WG [⟨JL,QX (L9 e 0),[]⟩,⟨OE,s,t⟩] JL).1)=e;rw[VK (U1 (by have:=aX (L9 e 0);simp;omega) h) (bY _ _ _ _)];simp only[DV];rw[(AY3 hz).1,MF hz,hm];omega
section
variable {i:Nat} {q:Ps}
theorem MP.small(ok:MP 300 q):(IJ q.m).length<=146100/\q.m.length<=300:=by
 have:=ok.len;exact⟨sD ok.log (by omega),by omega⟩
theorem UZ(m:List GV)(a:Nat):(IJ (m.take a)).length+(IJ (m.drop a)).length=(IJ m).length:=by
 conv=>rhs;rw[<-DW a m,LM,AP]
theorem Y6{x:GV}(h:gdE x=0):x.p.length<=200/\x.d.length<=256:=⟨BW0 (gY h).2.2.2,(gY h).2.2.1⟩
theorem MP.zin(ok:MP 300 q):zIn q.e=true:=QA.2 ⟨ok.e0,by have:=ok.e1;omega⟩
theorem MP.fits(ok:MP 300 q)(hu:q.up=true):BX2 (svP i q):=by
 obtain⟨h1,h2⟩:=ok.small;have h3:=UZ q.m q.a;have g:=ok.play.good ok.dn;have gd:LV (epD q.e++[⟨OE,IJ (q.m.take q.a),IJ (q.m.drop q.a)⟩]):=ZV (by omega);have hw:=ok.wl;rw[J5 hu];refine⟨?_,JX gd,by show q.m.length*72<=_;omega,fun x hx=>?_,by show (SK q.m q.dn).ns.length*88<=_;have:=g.nod.few;omega,g.wf.CJ8,TW g.ses,by show q.ws.length*32<=_;omega,fun x hx=>?_⟩
 .simp only[epD]
  split<;>simp
 .have:=Y6 (ok.log.good x hx);omega
 .have:=MV (ok.wk x hx).2.2.2;omega
theorem yB(hu:q.up=true)(k:Nat):svP i (OO q k)=⟨false,((svP i q).fs).map (XE k),(svP i q).id,0,[],0,QW,[]⟩:=by
 rw[J5 hu,SN (p:=OO q k) rfl];simp only[BQ1];rw[xZ,<-BZ,<-LM];have e:q.m.take (q.a+whole (q.m.drop q.a) k)=q.m.take q.a++(q.m.drop q.a).take (whole (q.m.drop q.a) k):=by rw[List.take_add]
 simp only[OO,e]
theorem BQ3(ok:MP 300 q)(hu:q.up=true){ke:Int}(hk:0<=ke)(v:FZ)(w:FX)(hv:SvV w v (svP i q)):G5 prog 56 #[v,I0 ke] w (bH w (svP i (OO q ke.toNat)) 0):=by
 obtain⟨h1,h2⟩:=ok.small;have h3:=UZ q.m q.a;have gd:LV (svP i q).fs:=by rw[J5 hu];exact ZV (by omega)
 have G:NT 94 (fun x=>#[x,I0 ke]) (svP i q).fs ((svP i q).fs.map (XE ke.toNat)) 0:=by
  have:=MX (f:=94) (args:=fun x=>#[x,I0 ((ke.toNat:Nat):Int)]) fun v W hv=>AZ5 v (svP i q).fs ke.toNat W hv (JX gd) gd;rwa[Int.toNat_of_nonneg hk]at this
 rw[yB hu];exact B49 (svP i q) v _ ke w hv G
theorem A49(ok:MP 300 q)(hu:q.up=true){ke:Int}(hk:ke<0)(v:FZ)(w:FX)(hv:SvV w v (svP i q)):G5 prog 56 #[v,I0 ke] w (bH w sv0 3):=by
 obtain⟨h1,h2⟩:=ok.small;have h3:=UZ q.m q.a;have gd:LV (svP i q).fs:=by rw[J5 hu];exact ZV (by omega)
 exact AN8 (svP i q) v [] ke 3 w hv (by decide) (vZ fun v W hv=>BI4 v (svP i q).fs ke W hv (JX gd) (.inr hk))
theorem C82(ok:MP 300 q)(hu:q.up=false)(hi:i<3)(v:FZ)(w:FX)(hv:IY w v (svP i q).fs):G5 prog 15 #[I0 i,.agg #[v]] w (bH w (svP i (upP q)) 0):=by
 obtain⟨h1,h2⟩:=ok.small;obtain⟨_,_,_,hs,hq⟩:=ok.down hu;have hl:(IJ q.m++q.q).length+([]:List UInt8).length<=1048576:=by simp;omega
 rw[SN hu]at hv;have gd:LV (epD q.e++[⟨OE,IJ q.m++q.q,[]⟩]):=ZV hl;have R:Z9 (epD q.e++[⟨OE,IJ q.m++q.q,[]⟩]) q.m (epD q.e) []:=⟨gd,ok.log,.inr ⟨_,q.q,iP _ _ _,by simpa using hs⟩⟩;have:=AC5 v _ _ q.m i w hv (JX gd) (by omega) (by omega) (kW R);rw[BQ2 ok.zin hl]at this;rw[J5 (p:=upP q) rfl];simpa [upP,PL,XQ,show IJ []=[]from rfl]using this
theorem C83{x:GV}(sure:Bool)(ok:MP 299 q)(hu:q.up=true)(hg:gdE x=0)(hz:J7 q.m<x.z)(v:FZ)(w:FX)(hv:SvV w v (svP i q)):G5 prog 81 #[v,JC x,.bool sure] w fun e w'=>eX w (svP i (TP x sure q)) 0 e w'/\FrT w e:=by
 have ok':=ok.more (show (299:Int)<=300 by omega);obtain⟨h1,h2⟩:=ok'.small;have h3:=UZ q.m q.a;have hr:=jE hg;have hx:=Y6 hg;have ha:=ok.a;have g0:LV (epD q.e++[⟨OE,IJ (q.m.take q.a),IJ (q.m.drop q.a)⟩]):=ZV (by omega);have g1:LV (epD q.e++[⟨OE,IJ (q.m.take q.a),IJ (q.m.drop q.a)++RI x⟩]):=ZV (by simp;omega);have W1:∀v W,IY W v (epD q.e++[⟨OE,IJ (q.m.take q.a),IJ (q.m.drop q.a)⟩])->G5 prog 40 #[.agg #[v],S0 OE,S0 (RI x)] W fun e w'=>∃v',e=.returned (.tuple #[.agg #[v'],I0 0])/\YH w' W.heap.size v' (epD q.e++[⟨OE,IJ (q.m.take q.a),IJ (q.m.drop q.a)++RI x⟩])/\B0 W w':=fun v W hv=>
  jW v _ (epD q.e) [] _ OE (RI x) W hv (JX g0) g0 (iP _ _ _) (by simp only;omega)
 have S1:∀v W,IY W v (epD q.e++[⟨OE,IJ (q.m.take q.a),IJ (q.m.drop q.a)++RI x⟩])->G5 prog 143 #[.agg #[v],S0 OE] W fun e w'=>∃v',e=.returned (.tuple #[.agg #[v'],I0 0])/\YH w' W.heap.size v' (epD q.e++[⟨OE,IJ (q.m.take q.a)++(IJ (q.m.drop q.a)++RI x),[]⟩])/\B0 W w':=fun v W hv=>
  YJ v _ (epD q.e) [] _ OE W hv (JX g1) g1 (iP _ _ _)
 have T:CV4 (svP i q) x sure 0 (svP i (TP x sure q)):=by
  rw[J5 hu];refine .inr (.inr ⟨by show ¬x.z<=J7 q.m;omega,rfl,?_⟩)
  cases sure with
  |true=>
   refine⟨_,?_,oN _ _ _ x 0 hg (MX W1) (eU S1)⟩;rw[J5 (p:=TP x true q) hu];simp only[TP,if_true,iK q.m x ok.dn];rw[BO (by simp),List.drop_of_length_le (by simp),<-BZ,<-LM,DW,<-QB];rfl
  |false=>
   refine⟨_,?_,AN9 _ _ x hg (eU W1)⟩;rw[J5 (p:=TP x false q) hu];simp only[TP,Bool.false_eq_true,if_false,iK q.m x ok.dn];rw[List.take_append_of_le_length ha,List.drop_append_of_le_length ha,QB]
 exact A34 (svP i q) _ v x sure 0 w hv (ok'.fits hu) T (by omega) (by omega) (by rw[J5 hu];show q.m.length<=_;omega)
theorem BY7(ok:MP 300 q)(hu:q.up=true):Chn (svP i q) (q.m.drop q.dn) (q.m.length-q.dn):=by
 have e:∀j,(csP (svP i q) (q.m.drop q.dn) j).1.tr=SK q.m (q.dn+j):=fun j=>by
  unfold csP SK;rw[B58,J5 hu,List.take_add,List.foldl_append];rfl
 refine⟨by simp,fun j x hj hx=>?_,fun x hx=>?_⟩
 .rw[e];rw[List.getElem?_drop]at hx;exact ok.play _ x hx
 .have:=(AV.1 hx).1;simp at this
theorem B72(ok:MP 300 q)(hu:q.up=true):BM8 (svP i q) (q.m.drop q.dn):=by
 have hw:=ok.wl;rw[J5 hu];refine⟨(ok.play.good ok.dn).wf,fun x hx=>?_,by show q.ws.length*32<=_;omega,fun x hx=>?_,fun x hx=>?_⟩
 .have:=MV (ok.wk x hx).2.2.2;omega
 .have:=Y6 (ok.log.good x (List.mem_of_mem_drop hx));omega
 .have:=Y6 (ok.log.good x (List.mem_of_mem_drop hx));omega
theorem C84(ok:MP 300 q)(hu:q.up=true):(dK i q).1.up=true/\(dK i q).1.fs=(svP i q).fs/\(dK i q).1.id=i/\(dK i q).1.ep=q.e/\(dK i q).1.ts=q.m/\(dK i q).1.tr=SK q.m q.m.length:=by
 obtain⟨_,b1,b2,b3,b4,b5,_⟩:=BX4 (B72 (i:=i) ok hu) (BY7 ok hu) _ (AA _);have hd:=ok.dn;refine⟨?_,b2,?_,?_,?_,?_⟩
 .show (csP _ _ _).1.up=true;rw[b1,J5 hu]
 .show (csP _ _ _).1.id=_;rw[b3,J5 hu]
 .show (csP _ _ _).1.ep=_;rw[b4,J5 hu]
 .show (csP _ _ _).1.ts=_;rw[b5,J5 hu]
 .show (csP _ _ _).1.tr=_;unfold csP;rw[B58,J5 hu];show (List.take _ _).foldl jI (SK q.m q.dn)=_;unfold SK;rw[<-List.foldl_append,<-List.take_add,show q.dn+(q.m.length-q.dn)=q.m.length by omega]
theorem B73(ok:MP 300 q)(hu:q.up=true)(v:FZ)(w:FX)(hv:SvV w v (svP i q)):G5 prog 82 #[v,I0 q.m.length] w fun e w'=>kU w (svP i (iL i q)) (dK i q).2 0 e w'/\FrS w e:=by
 have hd:=ok.dn;obtain⟨c1,c2,c3,c4,c5,c6⟩:=C84 (i:=i) ok hu;refine(xK (svP i q) v q.dn q.m.length (q.m.length-q.dn) (q.m.drop q.dn) w hv (ok.fits hu) (by rw[J5 hu]) hd (by rw[J5 hu];exact AA _) (by rw[J5 hu];show _=List.take _ (List.drop q.dn q.m);rw[BO (by simp)]) (BY7 ok hu) (B72 ok hu)).mono fun e w' H=>?_;have:=H.1 (by simp);have e:svP i (iL i q)=⟨(csP (svP i q) (q.m.drop q.dn) (q.m.length-q.dn)).1.up,(csP (svP i q) (q.m.drop q.dn) (q.m.length-q.dn)).1.fs,(csP (svP i q) (q.m.drop q.dn) (q.m.length-q.dn)).1.id,(csP (svP i q) (q.m.drop q.dn) (q.m.length-q.dn)).1.ep,(csP (svP i q) (q.m.drop q.dn) (q.m.length-q.dn)).1.ts,(q.m.length:Int),(csP (svP i q) (q.m.drop q.dn) (q.m.length-q.dn)).1.tr,(csP (svP i q) (q.m.drop q.dn) (q.m.length-q.dn)).1.ws⟩:=by
  show _=(⟨(dK i q).1.up,(dK i q).1.fs,(dK i q).1.id,(dK i q).1.ep,(dK i q).1.ts,(q.m.length:Int),(dK i q).1.tr,(dK i q).1.ws⟩:Sv);rw[c1,c2,c3,c4,c5,c6,J5 (p:=iL i q) hu,J5 hu];rfl
 rw[e];exact this
end
def rpV(r:Rp)(v:FZ):FZ:=.agg #[I0 r.E,I0 r.z,S0 r.p,S0 r.d,I0 r.t.c,I0 r.t.m,I0 r.t.q,I0 r.t.v,I0 r.t.k,I0 r.t.o,I0 r.t.n,v]
def CW2(P:Nat)(u:FZ):Prop:=(P%3=2/\∃s,u=.string s)\/(P%3≠2/\∃n,u=I0 n)
def NtP(W:FX)(g:Nat):Prop:=∃cs:List FZ,W.heap[g]?=G8 (FW cs.toArray 42 (0,0))/\∀P u,cs[P]?=G8 u->CW2 P u
theorem NtP.touch(h:NtP W g)(ht:Touch F W V)(hg:¬F g):NtP V g:=by
 obtain⟨cs,h1,h2⟩:=h;exact⟨cs,(ht.block g (AL.1 h1).1 hg).trans h1,h2⟩
theorem NtP.next(h:NtP W g)(hb:B0 W V):NtP V g:=h.touch (F:=fun _=>False) (Touch.of_below hb) id
structure ZW(W:FX)(B:Nat)(v:FZ)(xs:List Nt):Prop where
 o:I5 W B v xs
 p:∀g,v.ownBlock=G8 g->NtP W g
theorem ZW.nil(W:FX)(B:Nat):ZW W B (N0) []:=⟨.inl ⟨rfl,rfl⟩,fun g e=>by simp[DK]at e⟩
section
variable {W V:FX} {B C:Nat} {v:FZ} {xs:List Nt}
theorem ZW.next(h:ZW W B v xs)(hb:B0 W V):ZW V B v xs:=⟨h.o.next hb,fun g e=>(h.p g e).next hb⟩
theorem ZW.lower(h:ZW W B v xs)(hc:C<=B):ZW W C v xs:=⟨h.o.lower hc,h.p⟩
theorem OB(h:ZW W B v xs)(ht:Touch F W V)(hf:∀k,v.ownBlock=G8 k->¬F k):ZW V B v xs:=⟨PX h.o ht hf,fun g e=>(h.p g e).touch ht (hf g e)⟩
end
def Did(W:FX)(k:Nat)(kd:Int)(x:Rp×Pw)(e:Ending)(w':FX):Prop:=
 ∃v,e=.returned (rpV x.1 v)/\ZW w' W.heap.size v x.1.ns/\Touch (· =k) W w'/\(UA kd x.1.E=true->WX w' k (grH x.2 v))
theorem VW{kd:Int}(he:e=.returned (UY E))(ht:Touch (· =k) W w')(hl:UA kd E=false):Did W k kd (U4 E,p) e w':=
 ⟨N0,he,ZW.nil _ _,ht,fun h=>by rw[show (U4 E,p).1.E=E from rfl,hl]at h;cases h⟩
theorem ZX(p:Pw)(k:Nat)(W:FX)(hx:WX W k p):G5 prog 49 #[wP k] W fun e w'=>e=.returned (.tuple #[])/\WX w' k ⟨p.n,p.s,fun _=>0,p.c,p.D,p.H,p.h⟩/\Touch (· =k) W w':=by
 have X:=GH hx.clear;have T:=GH (TK W k 31 (I0 0) (I0 0) (I0 0));have r0:=hx.role (i:=0) (by omega);have r1:=hx.role (i:=1) (by omega);have r2:=hx.role (i:=2) (by omega);have f0:=hx.H6 31;have f1:=hx.H6 32;have f2:=hx.H6 33;simp only[Nat.reduceAdd]at r0 r1 r2;unfold wP;clear hx;go_enter func49,ntmps49;go_wp2_with fail;exact bodyPost_end (v:=.tuple #[]) (by simp[results,results49,go_sem]) rfl ⟨rfl,G9 X,G9 T⟩
theorem TL(W:FX)(n:Nat):B0 W (W.drewN n):=⟨rfl,rfl,rfl,AA _,fun _ _=>rfl⟩
structure DB(w W:FX)(d:Dd):Prop where
 b:B0 w W
 r:RpB W (w.heap.size+1)
 d:JU W w.heap.size d
theorem DB.start(w:FX)(d:Dd):DB w ((w.alloc (FW #[I0 d.k,I0 d.c,I0 d.s,I0 d.q.o,I0 d.q.s,S0 d.q.p,S0 d.q.d,I0 d.q.v,I0 d.q.f,I0 d.lo,I0 d.sl,I0 d.ke,.bool d.wt] 30)).alloc (FW #[I0 0,I0 0,.string ⟨#[]⟩,.string ⟨#[]⟩,I0 0,I0 0,I0 0,I0 0,I0 0,I0 0,I0 0,N0] 36)) d:=by
 refine⟨GK (GI _ _) (GI _ _),cO _ _ _,?_⟩;exact JU.XV (heap_alloc_new w _:JU (w.alloc _) w.heap.size d) (GI _ _) (by simp)
theorem DB.next(h:DB w W d)(hb:B0 W V):DB w V d:=⟨GK h.b hb,h.r.next hb,h.d.XV hb h.d.ltz⟩
theorem DB.cells(h:DB w W d):(W.cell? ⟨w.heap.size,0,G6⟩=G8 (I0 d.k)/\W.cell? ⟨w.heap.size,1,G6⟩=G8 (I0 d.c)/\W.cell? ⟨w.heap.size,2,G6⟩=G8 (I0 d.s)/\W.cell? ⟨w.heap.size,3,G6⟩=G8 (I0 d.q.o)/\W.cell? ⟨w.heap.size,4,G6⟩=G8 (I0 d.q.s)/\W.cell? ⟨w.heap.size,5,G6⟩=G8 (S0 d.q.p)/\W.cell? ⟨w.heap.size,6,G6⟩=G8 (S0 d.q.d))/\W.cell? ⟨w.heap.size,7,G6⟩=G8 (I0 d.q.v)/\W.cell? ⟨w.heap.size,8,G6⟩=G8 (I0 d.q.f)/\W.cell? ⟨w.heap.size,9,G6⟩=G8 (I0 d.lo)/\W.cell? ⟨w.heap.size,10,G6⟩=G8 (I0 d.sl)/\W.cell? ⟨w.heap.size,11,G6⟩=G8 (I0 d.ke)/\W.cell? ⟨w.heap.size,12,G6⟩=G8 (.bool d.wt):=by
 have r:=h.d.row;simp only[BK]at r;exact⟨⟨r 0 _ rfl,r 1 _ rfl,r 2 _ rfl,r 3 _ rfl,r 4 _ rfl,r 5 _ rfl,r 6 _ rfl⟩,r 7 _ rfl,r 8 _ rfl,r 9 _ rfl,r 10 _ rfl,r 11 _ rfl,r 12 _ rfl⟩
theorem AO8(p:Pw)(d:Dd)(k:Nat)(W:FX)(hx:WX W k p)(hi:0<=d.s/\d.s<3)(hu:(p.s d.s.toNat).up=false):G5 prog 36 #[wP k,ddV d] W (Did W k 3 (U4 14,p)):=by
 have C:=GH (fun W=>KQ 14 W);have D0:=GH (DB.start W d);obtain⟨i,hi3,hdi⟩:∃i:Nat,i<3/\d.s=i:=⟨d.s.toNat,by omega,by omega⟩;rw[hdi,Int.toNat_natCast]at hu;obtain⟨ad,nd,cd,al,cl,an,cn,ai,ci,aw,cw,S,_,_⟩:=hx.srv hi3 rfl;have S0:∀V,B0 W V->V.cell? ⟨k,1+10*i,G6⟩=G8 (.bool false):=fun V hV=>by
  have:=S.c0;rw[SN hu]at this;rw[AX,hV.block k hx.lt];exact this
 obtain⟨dk,dc,ds,⟨o,s,pp,dd,v,f⟩,lo,sl,ke,wt⟩:=d;simp only at hdi;subst hdi;unfold wP ddV;unfold UY at C;clear S hx hu hi;have hX:∀w1,DB W w1 ⟨dk,dc,(i:Int),⟨o,s,pp,dd,v,f⟩,lo,sl,ke,wt⟩->Did W k 3 (U4 14,p) (.returned (UY 14)) (gW w1 (W.heap.size+1) (I0 14) (I0 0) (.string ⟨#[]⟩) (.string ⟨#[]⟩) (I0 0) (I0 0) (I0 0) (I0 0) (I0 0) (I0 0) (I0 0) (N0)):=fun w1 h=>VW rfl (KH (Touch.of_below h.b) (by omega) _ _ _ _ _ _ _ _ _ _ _ _) (by decide);rcases(show i=0\/i=1\/i=2 by omega)with rfl|rfl|rfl
 all_goals
  simp only[Nat.reduceAdd,Nat.reduceMul]at S0;go_enter func36,ntmps36;go_upto_region 1 with fail;generalize ((W.alloc _).alloc _)=W0 at*;obtain⟨⟨e0,e1,e2,e3,e4,e5,e6⟩,e7,e8,e9,e10,e11,e12⟩:=(G9 D0).cells;have T0:=S0 W0 (G9 D0).b;simp only at e2
  go_quiet (fail)
  go_wp2_with fail;refine(G9 C _).mono ?_;rintro e w1 ⟨rfl,hb⟩;have D1:=(G9 D0).next (GK (TL _ _) hb);obtain⟨⟨c0,c1,c2,c3,c4,c5⟩,c6,c7,c8,c9,c10,c11⟩:=D1.r.cells;have f0:=D1.r.H6;have X1:=GH (hX w1 D1);clear hb D1 D0 C S0 hX;unfold UY at X1;go_wp2_with fail;exact bodyPost_ret (v:=.agg #[I0 14,I0 0,.string ⟨#[]⟩,.string ⟨#[]⟩,I0 0,I0 0,I0 0,I0 0,I0 0,I0 0,I0 0,N0]) (by simp[results,results36,go_sem,c0,c1,c2,c3,c4,c5,c6,c7,c8,c9,c10,c11]) rfl (G9 X1)
def B74(w:FX)(s:Sv)(E:Int)(e:Ending)(w':FX):Prop:=
 ∃ad nd cd al cl an cn ai ci aw cw,e=.returned (.tuple #[.agg #[.bool s.up,FV ad nd cd,I0 s.id,I0 s.ep,FV al s.ts.length cl,I0 s.dn,I0 s.tr.z,FV an s.tr.ns.length cn,FV ai s.tr.ss.length ci,FV aw s.ws.length cw],I0 E])/\
  Hid (SvV w' (.agg #[.bool s.up,FV ad nd cd,I0 s.id,I0 s.ep,FV al s.ts.length cl,I0 s.dn,I0 s.tr.z,FV an s.tr.ns.length cn,FV ai s.tr.ss.length ci,FV aw s.ws.length cw]) s/\(s.tr.ss≠[]->∀k,k<w.heap.size->TM (FV ai s.tr.ss.length ci) k))/\B0 w w'
theorem sH(h:bH w s E e w')(hs:s.tr.ss=[]):B74 w s E e w':=by
 obtain⟨v,he,hv,hb⟩:=h;obtain⟨ad,nd,cd,al,cl,an,cn,ai,ci,aw,cw,rfl,_⟩:=hv.five;exact⟨ad,nd,cd,al,cl,an,cn,ai,ci,aw,cw,he,GH ⟨hv,fun h=>absurd hs h⟩,hb⟩
theorem KY(h:OA B v)(hk:k<B):TM v k:=fun b off n c e=>by have:=h b off n c e;omega
theorem BQ4(h:eX w s E e w'):B74 w s E e w':=by
 obtain⟨ad,nd,cd,al,nl,cl,an,nn,cn,ai,ni,ci,aw,nw,cw,he,hs,hb⟩:=h;obtain⟨hv,hf⟩:=G9 hs;obtain⟨ad',nd',cd',al',cl',an',cn',ai',ci',aw',cw',e5,_⟩:=hv.five;simp only[EO,F8,EI,AQ,true_and,and_true]at e5;obtain⟨⟨rfl,rfl,rfl⟩,⟨rfl,rfl,rfl⟩,⟨rfl,rfl,rfl⟩,⟨rfl,rfl,rfl⟩,rfl,rfl,rfl⟩:=e5;exact⟨_,_,_,_,_,_,_,_,_,_,_,he,GH ⟨hv,fun _ k hk=>KY hf hk⟩,hb⟩
structure SBX(w V:FX)(q:Nat)(s:Sv)(vd vl vn vs vw:FZ):Prop where
 b:B0 w V
 le:w.heap.size<=q
 box:IB V q s.up vd s.id s.ep vl s.dn s.tr.z vn vs vw
 v:SvV V (.agg #[.bool s.up,vd,I0 s.id,I0 s.ep,vl,I0 s.dn,I0 s.tr.z,vn,vs,vw]) s
 a:s.tr.ss≠[]->∀k,k<w.heap.size->TM vs k
section
variable {w w1 u:FX} {s:Sv} {ad al an ai aw:Option Addr} {nd cd nl cl nn cn ni ci nw cw:Nat}
theorem fA(hb:B0 w w1)(hv:SvV w1 (.agg #[.bool s.up,FV ad nd cd,I0 s.id,I0 s.ep,FV al nl cl,I0 s.dn,I0 s.tr.z,FV an nn cn,FV ai ni ci,FV aw nw cw]) s)(ha:s.tr.ss≠[]->∀k,k<u.heap.size->TM (FV ai ni ci) k)(hu:w.heap.size<=u.heap.size):
  SBX w (w1.alloc (FW #[.bool s.up,FV ad nd cd,I0 s.id,I0 s.ep,FV al nl cl,I0 s.dn,I0 s.tr.z,FV an nn cn,FV ai ni ci,FV aw nw cw] 55)) w1.heap.size s (FV ad nd cd) (FV al nl cl) (FV an nn cn) (FV ai ni ci) (FV aw nw cw):=
 ⟨GK hb (GI _ _),hb.size,IB.new _ _ _ _ _ _ _ _ _ _ _,hv.alloc _,fun h k hk=>ha h k (by omega)⟩
theorem lI(hb:B0 w w1)(hq:w.heap.size<=q)(hz:IB w1 q false (N0) 0 0 (N0) 0 0 (N0) (N0) (N0))(hv:SvV w1 (.agg #[.bool s.up,FV ad nd cd,I0 s.id,I0 s.ep,FV al nl cl,I0 s.dn,I0 s.tr.z,FV an nn cn,FV ai ni ci,FV aw nw cw]) s)(ha:s.tr.ss≠[]->∀k,k<u.heap.size->TM (FV ai ni ci) k)(hu:q<u.heap.size):
  SBX w (NY w1 q (.bool s.up) (FV ad nd cd) (I0 s.id) (I0 s.ep) (FV al nl cl) (I0 s.dn) (I0 s.tr.z) (FV an nn cn) (FV ai ni ci) (FV aw nw cw)) q s (FV ad nd cd) (FV al nl cl) (FV an nn cn) (FV ai ni ci) (FV aw nw cw):=by
 refine⟨JE hb hq _ _ _ _ _ _ _ _ _ _,hq,XT hz _ _ _ _ _ _ _ _ _ _,?_,fun h k hk=>ha h k (by omega)⟩;by_cases h:s.tr.ss=[]
 .have hv2:=hv;obtain⟨vd,vl,vn,vs,vw,e,r1,r2,r3,r4,r5⟩:=hv2;simp only[EO,F8,EI,true_and,and_true]at e;obtain⟨rfl,rfl,rfl,rfl,rfl⟩:=e;have hd:=hz.fK;have hx:SvV (NY w1 q (.bool s.up) (FV ad nd cd) (I0 s.id) (I0 s.ep) (FV al nl cl) (I0 s.dn) (I0 s.tr.z) (FV an nn cn) (FV ai ni ci) (FV aw nw cw)) (.agg #[.bool s.up,FV ad nd cd,I0 s.id,I0 s.ep,FV al nl cl,I0 s.dn,I0 s.tr.z,FV an nn cn,N0,FV aw nw cw]) s:=
   rE hd (fun vd vl vn vs vw e=>by simp only[EO,F8,EI]at e;rw[<-e.2.2.2.2.2.2.2.2.1];exact wJ _ _ _) ⟨_,_,_,_,_,rfl,r1,r2,r3,by rw[h];exact IV.nil _,r5⟩
  obtain⟨vd,vl,vn,vs,vw,e,q1,q2,q3,q4,q5⟩:=hx;simp only[EO,F8,EI,true_and,and_true]at e;obtain⟨rfl,rfl,rfl,rfl,rfl⟩:=e;refine⟨_,_,_,_,_,rfl,q1,q2,q3,?_,q5⟩;rw[h]at r4⊢;rcases r4 with h4|⟨_,_,_,_,_,_,_,h0,_⟩
  .exact .inl h4
  .exact absurd rfl h0
 .exact rE hz.fK (fun vd vl vn vs vw e=>by simp only[EO,F8,EI]at e;rw[<-e.2.2.2.2.2.2.2.2.1];exact ha h q hu) hv
end
def AE6:List FZ:=[I0 0,I0 0,.string ⟨#[]⟩,.string ⟨#[]⟩,I0 0,I0 0,I0 0,I0 0,I0 0,I0 0,I0 0,N0]
theorem RpB.at(h:RpB W g)(hv:W.cell? ⟨g,j,G6⟩=G8 v):AE6[j]?=G8 v:=by
 unfold RpB at h;simpa [AX,h,AE6]using hv
theorem Y7{s:ByteArray}(h:AE6[j]?=G8 (.string s)):j=2\/j=3:=by
 by_cases hj:j<12
 .rcases(show j=0\/j=1\/j=2\/j=3\/j=4\/j=5\/j=6\/j=7\/j=8\/j=9\/j=10\/j=11 by omega)with rfl|rfl|rfl|rfl|rfl|rfl|rfl|rfl|rfl|rfl|rfl|rfl<;>simp[AE6]at h⊢
 .rw[List.getElem?_eq_none (by simp[AE6];omega)]at h;cases h
theorem AP3{s:ByteArray}(h:AE6[j]?=G8 (.string s)):s=⟨#[]⟩:=by
 rcases Y7 h with rfl|rfl<;>simpa [AE6]using h.symm
theorem AE7{n:Int}(h:AE6[j]?=G8 (I0 n)):n=0:=by
 by_cases hj:j<12
 .rcases(show j=0\/j=1\/j=2\/j=3\/j=4\/j=5\/j=6\/j=7\/j=8\/j=9\/j=10\/j=11 by omega)with rfl|rfl|rfl|rfl|rfl|rfl|rfl|rfl|rfl|rfl|rfl|rfl<;>simp[AE6]at h<;>omega
 .rw[List.getElem?_eq_none (by simp[AE6];omega)]at h;cases h
theorem B83{b:Bool}:AE6[j]? ≠G8 (.bool b):=by
 intro h;by_cases hj:j<12
 .rcases(show j=0\/j=1\/j=2\/j=3\/j=4\/j=5\/j=6\/j=7\/j=8\/j=9\/j=10\/j=11 by omega)with rfl|rfl|rfl|rfl|rfl|rfl|rfl|rfl|rfl|rfl|rfl|rfl<;>simp[AE6]at h
 .rw[List.getElem?_eq_none (by simp[AE6];omega)]at h;cases h
theorem YP[Lay α]{xs:List α}(hg:RpB W g)(hv:IV W v xs)(hno:∀x∈xs,∀off,¬ ∀ (j:Nat) u,j<Lay.k α->(Lay.cs x)[j]?=G8 u->AE6[off+j]?=G8 u)(h0:xs≠[]):TM v g:=by
 intro b off n c e;rcases hv with⟨a,cap,_,e0,_⟩|⟨b',off',cap,rfl,_,_,h3,_,h4⟩
 .exact absurd e0 h0
 .simp only[AQ,BF,EW]at e;rintro rfl;obtain⟨x,r,rfl⟩:=List.exists_cons_of_ne_nil h0;refine hno x (by simp) off' fun j u hj hu=>hg.at ?_;have:=h4 (0*Lay.k α+j) _ ((GZ (x::r) 0 x rfl j hj).trans hu);rw[Nat.zero_mul,BK]at this;rw[<-e.1.1];exact this
section
variable {W:FX} {k g:Nat} {v:FZ}
theorem BQ8{xs:List DF}(hg:RpB W g)(h:IV W v xs)(h0:xs≠[]):TM v g:=YP hg h (fun x _ off H=>by
 have a:=Y7 (H 0 _ (by decide) rfl);have c:=Y7 (H 2 _ (by decide) rfl);omega) h0
theorem B84{xs:List GV}(hg:RpB W g)(h:IV W v xs)(h0:xs≠[]):TM v g:=YP hg h (fun x _ off H=>by
 have a:=Y7 (H 3 _ (by decide) rfl);have c:=Y7 (H 4 _ (by decide) rfl);omega) h0
theorem B85{xs:List En}(hg:RpB W g)(h:IV W v xs)(h0:xs≠[]):TM v g:=YP hg h (fun x _ off H=>B83 (H 2 _ (by decide) rfl)) h0
theorem A51{xs:List Wa}(hg:RpB W g)(h:IV W v xs)(hs:∀x∈xs,1<=x.s)(h0:xs≠[]):TM v g:=YP hg h (fun x hx off H=>by
 have a:=AE7 (H 0 _ (by decide) rfl);have:=hs x hx;omega) h0
theorem BQ9{xs:List Int}(hg:RpB W g)(h:IV W v xs)(hs:∀x∈xs,1<=x)(h0:xs≠[]):TM v g:=YP hg h (fun x hx off H=>by
 have a:=AE7 (H 0 _ (by decide) rfl);have:=hs x hx;omega) h0
theorem B86{xs:List Nd}(hg:RpB W g)(h:IV W v xs)(hs:∀x∈xs,x.p≠[])(h0:xs≠[]):TM v g:=YP hg h (fun x hx off H=>by
 have a:=AP3 (H 0 _ (by decide) rfl);have:x.p=[]:=by simpa using a
 exact hs x hx this) h0
theorem Row.far[Lay α]{xs:List α}(h:Row W k v xs)(ht:Touch (· =g) W V)(ha:xs≠[]->TM v g):Row V k v xs:=by
 refine⟨?_,h.2⟩;exact(Row.touch (k:=g) ⟨h.1,ha⟩ ht).1
end
theorem C89{t:Tr}(h:RX t):∀x∈t.ns,x.p≠[]:=fun x hx e=>by
 have:=(h.nod.ok x hx).path;rw[e]at this;exact absurd this (by decide)
theorem BR0{N:Int}{q:Ps}(ok:MP N q):RX (svP i q).tr/\∀x∈(svP i q).ws,1<=x.s:=by
 cases hu:q.up with
 |true=>rw[J5 hu];exact⟨ok.play.good ok.dn,fun x hx=>(ok.wk x hx).1⟩
 |false=>rw[SN hu];exact⟨bP,by simp⟩
theorem WX.reply(h:WX W k p)(hp:∀i,i<3->MP 300 (p.s i))(hg:RpB W g)(hk:k≠g)(ht:Touch (· =g) W V):WX V k p:=by
 obtain⟨f,hb,hr⟩:=h;refine⟨f,hb.touch ht hk,hr.n,fun i hi=>?_,hr.r,fun i hi=>⟨(hr.c i hi).s,(hr.c i hi).z,(hr.c i hi).e.far ht (B85 hg (hr.c i hi).e.1)⟩,hr.d.far ht (B84 hg hr.d.1),hr.h,fun b e=>AY (hr.hk b e) ht.size⟩;obtain⟨gt,gw⟩:=BR0 (i:=i) (hp i hi);have s:=hr.s i hi;exact⟨s.up,s.d.far ht (BQ8 hg s.d.1),s.id,s.ep,s.l.far ht (B84 hg s.l.1),s.dn,s.z,s.n.far ht (B86 hg s.n.1 (C89 gt)),s.i.far ht (BQ9 hg s.i.1 fun x hx=>(gt.ses.2 x hx).1),s.w.far ht (A51 hg s.w.1 gw)⟩
theorem dA(W:FX)(g:Nat)(x0 x1 x2 x3 x4 x5 x6 x7 x8 x9 x10 x11:FZ):Touch (· =g) W (gW W g x0 x1 x2 x3 x4 x5 x6 x7 x8 x9 x10 x11):=
 (((((((((((JQ _ _ _ _).trans (JQ _ _ _ _)).trans (JQ _ _ _ _)).trans (JQ _ _ _ _)).trans (JQ _ _ _ _)).trans (JQ _ _ _ _)).trans (JQ _ _ _ _)).trans (JQ _ _ _ _)).trans (JQ _ _ _ _)).trans (JQ _ _ _ _)).trans (JQ _ _ _ _)).trans (JQ _ _ _ _)
structure DT(k:Nat)(w W:FX)(d:Dd):Prop where
 t:Touch (· =k) w W
 r:RpB W (w.heap.size+1)
 d:JU W w.heap.size d
section
variable {k:Nat} {w W V:FX} {d:Dd}
theorem DB.dt(h:DB w W d)(k:Nat):DT k w W d:=⟨Touch.of_below h.b,h.r,h.d⟩
theorem DT.touch(h:DT k w W d)(hk:k<w.heap.size)(ht:Touch (· =k) W V):DT k w V d:=
 ⟨h.t.trans ht,h.r.touch ht (by omega),(ht.block _ h.d.ltz (by omega)).trans h.d⟩
theorem DT.next(h:DT k w W d)(hk:k<w.heap.size)(hb:B0 W V):DT k w V d:=h.touch hk (Touch.of_below hb)
theorem DT.cells(h:DT k w W d):(W.cell? ⟨w.heap.size,0,G6⟩=G8 (I0 d.k)/\W.cell? ⟨w.heap.size,1,G6⟩=G8 (I0 d.c)/\W.cell? ⟨w.heap.size,2,G6⟩=G8 (I0 d.s)/\W.cell? ⟨w.heap.size,3,G6⟩=G8 (I0 d.q.o)/\W.cell? ⟨w.heap.size,4,G6⟩=G8 (I0 d.q.s)/\W.cell? ⟨w.heap.size,5,G6⟩=G8 (S0 d.q.p)/\W.cell? ⟨w.heap.size,6,G6⟩=G8 (S0 d.q.d))/\W.cell? ⟨w.heap.size,7,G6⟩=G8 (I0 d.q.v)/\W.cell? ⟨w.heap.size,8,G6⟩=G8 (I0 d.q.f)/\W.cell? ⟨w.heap.size,9,G6⟩=G8 (I0 d.lo)/\W.cell? ⟨w.heap.size,10,G6⟩=G8 (I0 d.sl)/\W.cell? ⟨w.heap.size,11,G6⟩=G8 (I0 d.ke)/\W.cell? ⟨w.heap.size,12,G6⟩=G8 (.bool d.wt):=by
 have r:=h.d.row;simp only[BK]at r;exact⟨⟨r 0 _ rfl,r 1 _ rfl,r 2 _ rfl,r 3 _ rfl,r 4 _ rfl,r 5 _ rfl,r 6 _ rfl⟩,r 7 _ rfl,r 8 _ rfl,r 9 _ rfl,r 10 _ rfl,r 11 _ rfl,r 12 _ rfl⟩
end
theorem sN{kd:Int}(hk:k<W.heap.size)(h:DT k W V d)(hx:WX V k p)(hp:∀i,i<3->MP 300 (p.s i)):
  Did W k kd (U4 0,p) (.returned (UY 0)) (gW V (W.heap.size+1) (I0 0) (I0 0) (.string ⟨#[]⟩) (.string ⟨#[]⟩) (I0 0) (I0 0) (I0 0) (I0 0) (I0 0) (I0 0) (I0 0) (N0)):=
 ⟨N0,rfl,ZW.nil _ _,KH h.t (by omega) _ _ _ _ _ _ _ _ _ _ _ _,fun _=>(WX.grN (v:=N0) hx rfl).reply hp h.r (by omega) (dA _ _ _ _ _ _ _ _ _ _ _ _ _ _)⟩
theorem AE8(P:Nat):P%3=0\/P%3=1\/P%3=2:=by omega
theorem BY8(T:List Nt)(P:Nat)(u:FZ)(h:(GL T)[P]?=G8 u):CW2 P u:=by
 have hP:P<T.length*3:=by
  have:=(AV.1 h).1;rw[GX]at this;exact this
 obtain⟨x,hx⟩:∃x,T[P/3]?=G8 x:=⟨_,AO (by omega)⟩;have:=GZ T (P/3) x hx (P%3) (Nat.mod_lt _ (by decide));rw[show P/3*Lay.k Nt+P%3=P by show P/3*3+P%3=P;omega,h]at this;rcases AE8 P with e|e|e
 .rw[e]at this;exact .inr ⟨by omega,_,BQ this⟩
 .rw[e]at this;exact .inr ⟨by omega,_,BQ this⟩
 .rw[e]at this;exact .inl ⟨e,_,BQ this⟩
def nt0:Nt:=⟨0,0,[]⟩
theorem C90(n:Nat):(BJ #[I0 0,I0 0,.string ⟨#[]⟩] n).toList=GL (List.replicate n nt0):=by
 apply List.ext_getElem?
 intro P;by_cases h:P<n*3
 .have:=GZ (List.replicate n nt0) (P/3) nt0 (by rw[List.getElem?_replicate,if_pos (by omega)]) (P%3) (Nat.mod_lt _ (by decide));rw[show P/3*Lay.k Nt+P%3=P by show P/3*3+P%3=P;omega]at this;rw[this];simp only[BJ,Array.toList_map,List.getElem?_map,Array.toList_range,List.getElem?_range (show P<n*#[I0 0,I0 0,.string ⟨#[]⟩].size from h),Option.map_some];rcases AE8 P with e|e|e<;>(simp only[show #[I0 0,I0 0,.string ⟨#[]⟩].size=3 from rfl,e];rfl)
 .have e1:(BJ #[I0 0,I0 0,.string ⟨#[]⟩] n).toList[P]?=G6:=by
   refine List.getElem?_eq_none ?_;simp only[BJ,Array.toList_map,List.length_map,Array.toList_range,List.length_range];show n*3<=P;omega
  have e2:(GL (List.replicate n nt0))[P]?=G6:=List.getElem?_eq_none (by
   rw[GX,List.length_replicate];show n*3<=P;omega)
  rw[e1,e2]
theorem C91(L:List Nt):NtP (W.alloc (FW (GL L).toArray 42)) W.heap.size:=⟨_,heap_alloc_new W _,BY8 L⟩
theorem C92{T:List Nt}(h:NtP W g)(hl:∀cs:List FZ,W.heap[g]?=G8 (FW cs.toArray 42 (0,0))->n*3+T.length*3<=cs.length):NtP (W.setCells g (n*3) (GL T)) g:=by
 obtain⟨cs,h1,h2⟩:=h;have hlen:=hl cs h1;have hT:(GL T).length=T.length*3:=GX T;refine⟨_,NM (GL T) (n*3) W _ h1 (by rw[hT];exact hlen),fun P u hu=>?_⟩;by_cases a:P<n*3
 .rw[BZ,BN (by rw[FB];omega),List.getElem?_take_of_lt a]at hu;exact h2 P u hu
 .have ht:(cs.take (n*3)).length=n*3:=by rw[FB];omega
  rw[BZ,BD (by omega),ht]at hu;by_cases b:P-n*3<T.length*3
  .rw[BN (by omega)]at hu;have:=BY8 T _ u hu;unfold CW2 at*;rwa[show (P-n*3)%3=P%3 by omega]at this
  .rw[BD (by omega),List.getElem?_drop]at hu;have:=h2 _ u hu;rwa[show n*3+(GL T).length+(P-n*3-(GL T).length)=P by omega]at this
theorem AP4(W:FX)(ty:TypeId)(B:Nat)(v u:FZ)(N T:List Nt)(hv:I5 W B v N)(hp:∀g,v.ownBlock=G8 g->NtP W g)(hu:IV W u T)(hl:(N.length+T.length)*32<=140737488355328)(v':FZ)(w':FX)
  (hr:(Builtin.append_ #[34,34] ty #[v,u]).run prog W=.ok v' w'):∀g,v'.ownBlock=G8 g->NtP w' g:=by
 obtain⟨i0,hi0,hz0,hz1,hz2⟩:=AJ1;rcases hu with⟨a,cap,rfl,rfl,_⟩|⟨b,off,cap,rfl,_,_,_,hne,hc⟩
 .have e:(Builtin.append_ #[34,34] ty #[v,FV a 0 cap]).run prog W=.ok v W:=by
   rcases hv.row.2 with⟨rfl,_⟩|⟨g,cap',cur,rfl,_,_,hnc,_⟩
   .cases a<;>simp[Builtin.append_,run_underlying underlying34,sizeOf,typeInfo,hi0,Builtin.lenOf,Builtin.firstCells,loadCells,loadCellsFrom]
   .cases a<;>simp[Builtin.append_,run_underlying underlying34,sizeOf,typeInfo,hi0,Builtin.lenOf,Builtin.firstCells,loadCells,loadCellsFrom,hnc,storeCells]
  rw[e]at hr
  cases hr
  exact hp
 .have hsrc:Src prog i0.size 34 (FV (G8 ⟨b,off,G6⟩) T.length cap) T.length (GL T) W:=by
   rw[hz1];exact Src.ofSlice W underlying34 ⟨b,off,G6⟩ _ _ _ (GX T) (fun j x hj=>by rw[Addr.add_lit];exact hc j x hj) (JK T)
  have hT:0<T.length:=List.length_pos_iff.2 hne;have grow:∀ (base:Option Addr) (c:Nat),c<N.length+T.length->v=FV base N.length c->(Builtin.firstCells i0.size N.length (FV base N.length c)).run prog W.drew=.ok (GL N).toArray W.drew->∀g,v'.ownBlock=G8 g->NtP w' g:=fun base c hc hv hold g hg=>by
   subst hv;have hn:=nextslicecap_le hc;have e:=run_append_grow_src W 34 34 ty 42 i0 _ underlying34 hi0 hz0 base N.length c (GL N) hold _ T.length (GL T) hsrc hc (by omega) (by rw[hz2];omega);rw[e]at hr
   cases hr
   simp only[DK,BF]at hg;subst hg;have hz:(GL N++GL T).toArray++BJ (Value.agg #[I0 0,I0 0,.string ⟨#[]⟩]).cells (grownCap W (N.length+T.length) c 42-(N.length+T.length))=(GL (N++T++List.replicate (grownCap W (N.length+T.length) c 42-(N.length+T.length)) nt0)).toArray:=by
    apply Array.ext'
    rw[Array.toList_append,show (Value.agg #[I0 0,I0 0,.string ⟨#[]⟩]).cells=#[I0 0,I0 0,.string ⟨#[]⟩]from rfl,C90,I8,I8]
   rw[hz];exact C91 (W:=W.drew) _
  rcases hv with⟨rfl,rfl⟩|⟨g,c,rfl,_,rest,h1,h2,h3,h4⟩
  .exact grow G6 0 (by simpa using hT) rfl (by simp[Builtin.firstCells,GL])
  .by_cases hroom:N.length+T.length<=c
   .have hlen:(GL N++rest).length=c*3:=by
     rw[AP,GX,h2];rfl
    have hcl:(GL T).length=T.length*3:=GX T;have e:=run_append_room_src W 34 34 ty 42 i0 underlying34 hi0 g 0 N.length c _ T.length (GL T) hsrc hroom (fun j hj=>by
     rw[hz1,AX,h1];simp only[List.getElem?_toArray];rw[AO (by rw[hlen];omega)];rfl) (fun j _=>by simp[FC,h1])
    rw[hz1,BK]at e;rw[e]at hr
    cases hr
    intro q hq;simp only[DK,BF]at hq;subst hq;exact C92 (hp g rfl) fun cs hcs=>by
     rw[h1]at hcs;simp only[BF,Obj.cells.injEq,and_true]at hcs;have:=congrArg Array.size hcs.1;simp only[List.size_toArray]at this;omega
   .refine grow (G8 ⟨g,0,G6⟩) c (by omega) rfl ?_;rw[hz1];refine run_firstCells_some W.drew 3 N.length ⟨g,0,G6⟩ N.length c (GL N) (GX N) (fun j x hj=>?_);have hlt:=(AV.1 hj).1;rw[Addr.add_lit];show W.cell? ⟨g,0+j,G6⟩=G8 x;simp[AX,h1,BN hlt,hj]
structure Off(f:Nat->FZ)(p:Pw)(g:Nat):Prop where
 d:∀i,i<3->(svP i (p.s i)).fs≠[]->TM (f (1+10*i+1)) g
 l:∀i,i<3->(svP i (p.s i)).ts≠[]->TM (f (1+10*i+4)) g
 n:∀i,i<3->(svP i (p.s i)).tr.ns≠[]->TM (f (1+10*i+7)) g
 i:∀i,i<3->(svP i (p.s i)).tr.ss≠[]->TM (f (1+10*i+8)) g
 w:∀i,i<3->(svP i (p.s i)).ws≠[]->TM (f (1+10*i+9)) g
 c:∀i,i<16->(p.c i).es≠[]->TM (f (34+3*i+2)) g
 a:p.D≠[]->TM (f 82) g
def WXO(W:FX)(k:Nat)(p:Pw)(v:FZ):Prop:=∃f,WB W k f/\WdR W k f p/\∀g,v.ownBlock=G8 g->Off f p g
theorem WXO.x(h:WXO W k p v):WX W k p:=by
 obtain⟨f,h1,h2,_⟩:=h;exact⟨f,h1,h2⟩
theorem fB(h:WdR W k f p)(hg:W.heap.size<=g):Off f p g:=
 ⟨fun i hi h0=>(Row.new (h.s i hi).d.1 hg).2 h0,fun i hi h0=>(Row.new (h.s i hi).l.1 hg).2 h0,fun i hi h0=>(Row.new (h.s i hi).n.1 hg).2 h0,fun i hi h0=>(Row.new (h.s i hi).i.1 hg).2 h0,fun i hi h0=>(Row.new (h.s i hi).w.1 hg).2 h0,fun i hi h0=>(Row.new (h.c i hi).e.1 hg).2 h0,fun h0=>(Row.new h.d.1 hg).2 h0⟩
theorem WX.off(h:WX W k p):WXO W k p (N0):=by
 obtain⟨f,h1,h2⟩:=h;exact⟨f,h1,h2,fun g hg=>by simp[DK]at hg⟩
theorem WXO.far(h:WXO W k p v)(hv:v.ownBlock=G8 g)(hk:k≠g)(ht:Touch (· =g) W V):WXO V k p v:=by
 obtain⟨f,hb,hr,ho⟩:=h;have o:=ho g hv;refine⟨f,hb.touch ht hk,⟨hr.n,fun i hi=>?_,hr.r,fun i hi=>⟨(hr.c i hi).s,(hr.c i hi).z,(hr.c i hi).e.far ht (o.c i hi)⟩,hr.d.far ht o.a,hr.h,fun b e=>AY (hr.hk b e) ht.size⟩,ho⟩;have s:=hr.s i hi;exact⟨s.up,s.d.far ht (o.d i hi),s.id,s.ep,s.l.far ht (o.l i hi),s.dn,s.z,s.n.far ht (o.n i hi),s.i.far ht (o.i i hi),s.w.far ht (o.w i hi)⟩
theorem WXO.gr(h:WXO W k p v)(hv:∀g,v.ownBlock=G8 g->g<W.heap.size):WX W k (grH p v):=by
 obtain⟨f,hb,hr,ho⟩:=h;exact⟨f,hb,hr.n,hr.s,hr.r,hr.c,hr.d,fun i hi b e=>e.elim (hr.h i hi b) fun e=>⟨fun h0=>(ho b e).i i hi h0,fun h0=>(ho b e).w i hi h0⟩,fun b e=>e.elim (hr.hk b) (hv b)⟩
theorem WXO.farG{u:FZ}(h:WXO W k p v)(hv:v.ownBlock=G8 g)(hk:k≠g)(ht:Touch (· =g) W V)(hu:∀b,u.ownBlock=G8 b->W.heap.size<=b/\b<V.heap.size):WX V k (grH p u):=by
 obtain⟨f,hb,hr,ho⟩:=h;have o:=ho g hv;refine⟨f,hb.touch ht hk,hr.n,fun i hi=>?_,hr.r,fun i hi=>⟨(hr.c i hi).s,(hr.c i hi).z,(hr.c i hi).e.far ht (o.c i hi)⟩,hr.d.far ht o.a,fun i hi b e=>e.elim (hr.h i hi b) fun e=>⟨fun h0=>(fB hr (hu b e).1).i i hi h0,fun h0=>(fB hr (hu b e).1).w i hi h0⟩,fun b e=>e.elim (fun e=>AY (hr.hk b e) ht.size) fun e=>(hu b e).2⟩;have s:=hr.s i hi;exact⟨s.up,s.d.far ht (o.d i hi),s.id,s.ep,s.l.far ht (o.l i hi),s.dn,s.z,s.n.far ht (o.n i hi),s.i.far ht (o.i i hi),s.w.far ht (o.w i hi)⟩
theorem WXO.next(h:WXO W k p v)(hb:B0 W V):WXO V k p v:=by
 obtain⟨f,h1,h2,h3⟩:=h;exact⟨f,h1.next hb,h2.next hb,h3⟩
theorem WXO.grown{v':FZ}(h:WXO W k p v)(hk:∀g,v.ownBlock=G8 g->k≠g)(hg:W.grownBy V v.ownBlock)(hn:∀g,v'.ownBlock=G8 g->v.ownBlock=G8 g\/W.heap.size<=g):WXO V k p v':=by
 have h1:WXO V k p v/\∀f,WB W k f->WdR W k f p->∀g,W.heap.size<=g->Off f p g:=⟨by
  cases e:v.ownBlock with
  |none=>exact h.next (by rw[e]at hg;exact⟨hg.os,hg.tape,hg.output,hg.size,fun b hb=>hg.block b hb (by simp)⟩)
  |some g=>exact h.far e (hk g e) ⟨hg.os,hg.tape,hg.output,hg.size,fun b hb hne=>hg.block b hb (by rw[e];intro e';exact hne (BQ e'))⟩,fun f _ hr g hg=>fB hr hg⟩
 obtain⟨f,hb,hr,ho⟩:=h;obtain⟨f1,hb1,hr1,ho1⟩:=h1.1;have ef:∀j,j<83->f1 j=f j:=fun j hj=>by
  have c1:=hb1.cell hj;have c2:=hb.cell hj;have:V.cell? ⟨k,j,G6⟩=W.cell? ⟨k,j,G6⟩:=by
   rw[AX,AX,hg.block k hb.lt (fun e=>hk k e.symm rfl)]
  rw[this,c2]at c1;exact(BQ c1).symm
 refine⟨f1,hb1,hr1,fun g hg'=>?_⟩;rcases hn g hg' with e|e
 .exact ho1 g e
 .have o:=fB hr e;exact⟨fun i hi h0=>by rw[ef _ (by omega)];exact o.d i hi h0,fun i hi h0=>by rw[ef _ (by omega)];exact o.l i hi h0,fun i hi h0=>by rw[ef _ (by omega)];exact o.n i hi h0,fun i hi h0=>by rw[ef _ (by omega)];exact o.i i hi h0,fun i hi h0=>by rw[ef _ (by omega)];exact o.w i hi h0,fun i hi h0=>by rw[ef _ (by omega)];exact o.c i hi h0,fun h0=>by rw[ef _ (by omega)];exact o.a h0⟩
structure Fr5(B:Nat)(vd vl vn vs vw:FZ):Prop where
 d:∀g,g<B->TM vd g
 l:∀g,g<B->TM vl g
 n:∀g,g<B->TM vn g
 i:∀g,g<B->TM vs g
 w:∀g,g<B->TM vw g
theorem WXO.oZ(h:WXO W k p v)(hi:i<3){q:Ps}(hq:svP i q=s)(hv:SvV W (.agg #[.bool s.up,vd,I0 s.id,I0 s.ep,vl,I0 s.dn,I0 s.tr.z,vn,vs,vw]) s)(hf:Fr5 B vd vl vn vs vw)(hk:k<B)(hh:∀b,p.h b->b<B)(hg:∀g,v.ownBlock=G8 g->g<B):
  WXO (yY W k (1+10*i) (.bool s.up) vd (I0 s.id) (I0 s.ep) vl (I0 s.dn) (I0 s.tr.z) vn vs vw) k ⟨p.n,LZ p.s i q,p.r,p.c,p.D,p.H,p.h⟩ v:=by
 obtain⟨f,hb,hr,ho⟩:=h;have hA:SvA W k (CF6 (.bool s.up) vd (I0 s.id) (I0 s.ep) vl (I0 s.dn) (I0 s.tr.z) vn vs vw) s:=SvA.of (hr.fK hb) hv (fun _=>hf.i k hk) rfl rfl rfl rfl rfl rfl rfl rfl rfl rfl;refine⟨_,hb.yY (o:=1+10*i) (by omega) _ _ _ _ _ _ _ _ _ _,WdR.touch (W:=W) ?_ (XZ _ _ _ _ _ _ _ _ _ _ _ _ _),fun g e=>?_⟩
 .refine⟨by rw[JB (by omega)];exact hr.n,fun j hj=>?_,fun j hj=>by rw[JB (by omega)];exact hr.r j hj,fun j hj=>(hr.c j hj).congr fun q hq=>by rw[JB (by omega)],by rw[JB (by omega)];exact hr.d,fun j hj b hb=>?_,hr.hk⟩
  .by_cases e:j=i
   .subst e;simp only[IU,hq];exact hA.congr fun q hq=>by rw[NC hq]
   .simp only[GN _ _ e];exact(hr.s j hj).congr fun q hq=>by rw[JB (by omega)]
  .by_cases e:j=i
   .subst e;rw[NC (by omega),NC (by omega)];exact⟨fun _=>hf.i b (hh b hb),fun _=>hf.w b (hh b hb)⟩
   .simp only[GN _ _ e];rw[JB (by omega),JB (by omega)];exact hr.h j hj b hb
 .have o:=ho g e;have hgB:=hg g e;refine⟨fun j hj h0=>?_,fun j hj h0=>?_,fun j hj h0=>?_,fun j hj h0=>?_,fun j hj h0=>?_,fun j hj h0=>by rw[JB (by omega)];exact o.c j hj h0,fun h0=>by rw[JB (by omega)];exact o.a h0⟩
  all_goals
   by_cases e:j=i
   .subst e;rw[NC (by omega)]
    first|exact hf.d g hgB|exact hf.l g hgB|exact hf.n g hgB|exact hf.i g hgB|exact hf.w g hgB
   .rw[JB (by omega)];simp only[GN _ _ e]at h0
    first|exact o.d j hj h0|exact o.l j hj h0|exact o.n j hj h0|exact o.i j hj h0|exact o.w j hj h0
def C93(w:FX)(s:Sv)(T:List Nt)(e:Ending)(w':FX):Prop:=
 ∃ad nd cd al cl an cn ai ci aw cw aN cN,e=.returned (.tuple #[.agg #[.bool s.up,FV ad nd cd,I0 s.id,I0 s.ep,FV al s.ts.length cl,I0 s.dn,I0 s.tr.z,FV an s.tr.ns.length cn,FV ai s.tr.ss.length ci,FV aw s.ws.length cw],FV aN T.length cN,I0 0])/\
  Hid (SvV w' (.agg #[.bool s.up,FV ad nd cd,I0 s.id,I0 s.ep,FV al s.ts.length cl,I0 s.dn,I0 s.tr.z,FV an s.tr.ns.length cn,FV ai s.tr.ss.length ci,FV aw s.ws.length cw]) s/\Fr5 w.heap.size (FV ad nd cd) (FV al s.ts.length cl) (FV an s.tr.ns.length cn) (FV ai s.tr.ss.length ci) (FV aw s.ws.length cw)/\IV w' (FV aN T.length cN) T/\∀g,g<w.heap.size->TM (FV aN T.length cN) g)/\B0 w w'
theorem BR1{T:List Nt}(h:kU w s T 0 e w')(hf:FrS w e):C93 w s T e w':=by
 obtain⟨v,aN,cN,rfl,hs,hn,hb⟩:=h;obtain⟨ad,nd,cd,al,cl,an,cn,ai,ci,aw,cw,rfl,_⟩:=hs.five;obtain⟨f8,f1,f4,f7,f9,fy⟩:=hf _ _ _ _ _ _ _ _ _ _ _ _ rfl;exact⟨ad,nd,cd,al,cl,an,cn,ai,ci,aw,cw,aN,cN,rfl,GH ⟨hs,⟨fun g hg=>KY f1 hg,fun g hg=>KY f4 hg,fun g hg=>KY f7 hg,fun g hg=>KY f8 hg,fun g hg=>KY f9 hg⟩,hn,fun g hg=>KY fy hg⟩,hb⟩
theorem yE:∀ (l:List Nat) (s:Nat->Ps) (i:Nat),MR s (l++[i])=(LZ (MR s l).1 i (iL i ((MR s l).1 i)),(MR s l).2++(dK i ((MR s l).1 i)).2)
 |[],s,i=>by simp[MR]
 |j::l,s,i=>by
  show ((MR (LZ s j (iL j (s j))) (l++[i])).1,(dK j (s j)).2++(MR (LZ s j (iL j (s j))) (l++[i])).2)=_;rw[yE l _ i];simp[MR]
theorem sO:∀ (l:List Nat) (s:Nat->Ps),l.Nodup->(∀i∈l,(s i).up=true)->(∀i∈l,((s i).ws.length:Int)<=300)->(MR s l).2.length<=l.length*300
 |[],s,_,_,_=>by simp[MR]
 |j::l,s,hn,hu,hw=>by
  obtain⟨h1,h2⟩:=List.nodup_cons.1 hn;have hj:=(B71 (i:=j) (hu j (by simp))).2.1;have hwj:=hw j (by simp);have same:∀i∈l,LZ s j (iL j (s j)) i=s i:=fun i hi=>GN _ _ (by rintro rfl;exact h1 hi);have ih:=sO l (LZ s j (iL j (s j))) h2 (fun i hi=>by rw[same i hi];exact hu i (by simp[hi])) (fun i hi=>by rw[same i hi];exact hw i (by simp[hi]));show ((dK j (s j)).2++_).length<=_;rw[AP,List.length_cons];omega
theorem AP5(W:FX)(ty:TypeId)(B:Nat)(v u:FZ)(N T:List Nt)(hv:I5 W B v N)(hu:IV W u T)(hl:(N.length+T.length)*32<=140737488355328)(hB:B<=W.heap.size):
  ∃v' w',(Builtin.append_ #[34,34] ty #[v,u]).run prog W=.ok v' w'/\I5 w' B v' (N++T)/\W.grownBy w' v.ownBlock/\∀g,v'.ownBlock=G8 g->v.ownBlock=G8 g\/W.heap.size<=g:=by
 obtain⟨i0,hi0,hz0,hz1,hz2⟩:=AJ1;have main:∀ (a:Addr) (c:Nat),(∀j x,(GL T)[j]?=G8 x->W.cell? (a.add j)=G8 x)->∃v' w',(Builtin.append_ #[34,34] ty #[v,FV (G8 a) T.length c]).run prog W=.ok v' w'/\I5 w' B v' (N++T)/\W.grownBy w' v.ownBlock/\∀g,v'.ownBlock=G8 g->v.ownBlock=G8 g\/W.heap.size<=g:=fun a c hc=>by
  obtain⟨v',w',h1,h2,h3,_,h5⟩:=run_append_own_at (P:=prog) W B 34 ty 42 i0 _ 3 32 underlying34 hi0 hz0 hz1 hz2 rfl (by decide) v N.length (GL N) hv.row a T.length c (GL T) (GX T) hc (JK T) (by simp only[maxLen];omega) hl hB;refine⟨v',w',h1,I5.LD (by rw[AP,I8];exact h2),h3,fun g hg=>?_⟩;rcases h5 with e|e
  .rw[e]at hg;exact .inl hg
  .rw[e]at hg;simp only[BF]at hg;exact .inr (by omega)
 rcases hu with⟨a,cap,rfl,rfl,_⟩|⟨b,off,cap,rfl,_,_,_,_,hr⟩
 .cases a with
  |some a=>exact main a cap (fun j x hj=>by simp[GL]at hj)
  |none=>
   refine⟨v,W,?_,by rw[DV];exact hv,⟨rfl,rfl,rfl,AA _,fun _ _ _=>rfl⟩,fun g hg=>.inl hg⟩;have hown:=hv.row;rcases hown.2 with⟨rfl,_⟩|⟨g,cap',cur,rfl,_,_,hnc,_⟩
   .simp[Builtin.append_,run_underlying underlying34,sizeOf,typeInfo,hi0,Builtin.lenOf,Builtin.firstCells]
   .simp[Builtin.append_,run_underlying underlying34,sizeOf,typeInfo,hi0,Builtin.lenOf,Builtin.firstCells,hnc,storeCells]
 .exact main ⟨b,off,G6⟩ cap (fun j x hj=>by rw[Addr.add_lit];exact hr j x hj)
theorem sQ{w:FX}{ops:Array Oper}{rest:List Oper}{o:Oper}{a:Act}{Q:Exit->Act->FX->Prop}(hgd:o.guard=G6)(s x:Operand)
  (ho:o.op=.call {callee:=.builtin .append,args:=#[s,x],argTypes:=#[34,34]})
  (B:Nat) (v u:FZ) (N T:List Nt) (hs:a.eval s=v) (hx:a.eval x=u) (hv:ZW w B v N) (hu:IV w u T) (hl:(N.length+T.length)*32<=140737488355328) (hB:B<=w.heap.size)
  (h:∀a' c' w',ZW w' B (FV a' (N++T).length c') (N++T)->w.grownBy w' v.ownBlock->(∀g,(Value.slice a' (N++T).length c').ownBlock=G8 g->v.ownBlock=G8 g\/w.heap.size<=g)->wpList prog ops Q rest (a.put o.dst (FV a' (N++T).length c')) w'):wpList prog ops Q (o::rest) a w:=by
 refine wpList_plain hgd fun K hK=>?_;obtain⟨v',w',hr,h2,h3,h4⟩:=AP5 w o.type B v u N T hv.o hu hl hB;have h5:=AP4 w o.type B v u N T hv.o hv.p hu hl v' w' hr;obtain⟨a',c',rfl⟩:=IQ h2;unfold Oper.wp execOp;simp only[ho,resolve,invoke,builtin,Sem.run_bind,Sem.run_pure,Result.andThen_ok,List.map_toArray,List.map_cons,List.map_nil,hs,hx,hr];exact hK _ _ (h a' c' w' ⟨h2,h5⟩ h3 h4)
theorem B87{P:Nat}{s:ByteArray}(h:NtP W g)(hc:W.cell? ⟨g,P,G6⟩=G8 (.string s)):P%3=2:=by
 obtain⟨cs,h1,h2⟩:=h;have hc:cs[P]?=G8 (.string s):=by simpa [AX,h1]using hc
 rcases h2 P _ hc with⟨e,_⟩|⟨_,n,e⟩
 .exact e
 .cases e
theorem dB[Lay α]{xs:List α}(hq:q+1<Lay.k α)(ht:∀x:α,∃s t,(Lay.cs x)[q]?=G8 (Value.string s)/\(Lay.cs x)[q+1]?=G8 (Value.string t))(h:IV W v xs)(hn:NtP W g):xs≠[]->TM v g:=by
 intro h0 b off n c e;rcases h with⟨a,cap,_,e0,_⟩|⟨b',off',cap,rfl,_,_,h3,_,h4⟩
 .exact absurd e0 h0
 .simp only[AQ,BF,EW]at e;rintro rfl;obtain⟨x,r,rfl⟩:=List.exists_cons_of_ne_nil h0;obtain⟨s,t,hs,ht⟩:=ht x;have c0:=h4 (0*Lay.k α+q) _ ((GZ (x::r) 0 x rfl q (by omega)).trans hs);have c1:=h4 (0*Lay.k α+(q+1)) _ ((GZ (x::r) 0 x rfl (q+1) hq).trans ht);rw[e.1.1]at c0 c1;have a0:=B87 hn c0;have a1:=B87 hn c1;omega
theorem WX.notes(h:WX W k p)(hg:p.h g)(hn:NtP W g)(hk:k≠g)(ht:Touch (· =g) W V):WX V k p:=by
 obtain⟨f,hb,hr⟩:=h;have o:Off f p g:=⟨fun i hi=>dB (q:=0) (by decide) (fun x=>⟨_,_,rfl,rfl⟩) (hr.s i hi).d.1 hn,fun i hi=>dB (q:=3) (by decide) (fun x=>⟨_,_,rfl,rfl⟩) (hr.s i hi).l.1 hn,fun i hi=>dB (q:=0) (by decide) (fun x=>⟨_,_,rfl,rfl⟩) (hr.s i hi).n.1 hn,fun i hi=>(hr.h i hi g hg).1,fun i hi=>(hr.h i hi g hg).2,fun i hi=>dB (q:=0) (by decide) (fun x=>⟨_,_,rfl,rfl⟩) (hr.c i hi).e.1 hn,dB (q:=3) (by decide) (fun x=>⟨_,_,rfl,rfl⟩) hr.d.1 hn⟩;have x:WXO W k p (FV (G8 ⟨g,0,G6⟩) 1 1):=⟨f,hb,hr,fun b e=>by
  simp only[DK,BF]at e;subst e;exact o⟩
 exact(x.far rfl hk ht).x
theorem WX.CN4(h:WX W k p):aA W k:=by
 obtain⟨f,hb,hr⟩:=h;exact hr.fK hb
theorem WX.CN5{m:Nat}(h:WX W k p)(hm:p.h m)(hd:aA W m)(hk:k≠m)(ht:Touch (· =m) W V):WX V k p:=by
 obtain⟨f,hb,hr⟩:=h;have o:Off f p m:=⟨fun i hi=>(rX (OU.1 (hr.s i hi).d.1) hd).2,fun i hi=>(ZT (MJ.1 (hr.s i hi).l.1) hd).2,fun i hi=>(l9 (hr.s i hi).n.1 hd).2,fun i hi=>(hr.h i hi m hm).1,fun i hi=>(hr.h i hi m hm).2,fun i hi=>(XY (hr.c i hi).e.1 hd).2,(ZT (MJ.1 hr.d.1) hd).2⟩;have x:WXO W k p (FV (G8 ⟨m,0,G6⟩) 1 1):=⟨f,hb,hr,fun b e=>by
  simp only[DK,BF]at e;subst e;exact o⟩
 exact(x.far rfl hk ht).x
theorem WX.bare(h:WX W k p)(h0:∀i,i<3->(svP i (p.s i)).tr.ss=[]/\(svP i (p.s i)).ws=[]){H:Nat->Prop}(hH:∀b,H b->b<W.heap.size):WX W k ⟨p.n,p.s,p.r,p.c,p.D,p.H,H⟩:=by
 obtain⟨f,hb,hr⟩:=h;exact⟨f,hb,hr.n,hr.s,hr.r,hr.c,hr.d,fun i hi b _=>⟨fun e=>absurd (h0 i hi).1 e,fun e=>absurd (h0 i hi).2 e⟩,hH⟩
theorem WX.newer(h:WX W k p)(ht:Touch F W V)(hx:WX V k p)(hF:∀b,F b->k≠b){H:Nat->Prop}(hH:∀b,H b->W.heap.size<=b/\b<V.heap.size):WX V k ⟨p.n,p.s,p.r,p.c,p.D,p.H,fun b=>p.h b\/H b⟩:=by
 obtain⟨f,hb,hr⟩:=h;obtain⟨f',hb',hr'⟩:=hx;have hf:∀j,j<83->f' j=f j:=fun j hj=>by
  have c1:=hb'.cell hj;have c2:=hb.cell hj;have:V.cell? ⟨k,j,G6⟩=W.cell? ⟨k,j,G6⟩:=by
   rw[AX,AX,ht.block k hb.lt (fun e=>hF k e rfl)]
  rw[this,c2]at c1;exact(BQ c1).symm
 refine⟨f',hb',hr'.n,hr'.s,hr'.r,hr'.c,hr'.d,fun i hi b e=>e.elim (hr'.h i hi b) fun e=>?_,fun b e=>e.elim (hr'.hk b) fun e=>(hH b e).2⟩;have o:=fB hr (hH b e).1;refine⟨fun h0=>?_,fun h0=>?_⟩
 .rw[hf _ (by omega)];exact o.i i hi h0
 .rw[hf _ (by omega)];exact o.w i hi h0
def TS(p:Pw)(h:Nat->Prop):Pw:=⟨p.n,p.s,p.r,p.c,p.D,p.H,h⟩
section
variable (p:Pw) (d:Dd) (h:Nat->Prop)
theorem C94:PY (TS p h) d=((PY p d).1,TS (PY p d).2 h):=by
 unfold PY;by_cases a:ldP p.r=-1
 .rw[if_pos (show ldP (TS p h).r=-1 from a),if_pos a]
 rw[if_neg (show ¬ldP (TS p h).r=-1 from a),if_neg a];by_cases b:wE p d≠0
 .rw[if_pos (show wE (TS p h) d≠0 from b),if_pos b];rfl
 rw[if_neg (show ¬wE (TS p h) d≠0 from b),if_neg b];by_cases c:(wL p d).length<2
 .rw[if_pos (show (wL (TS p h) d).length<2 from c),if_pos c];rfl
 .rw[if_neg (show ¬ (wL (TS p h) d).length<2 from c),if_neg c];rfl
theorem C95:bZ (TS p h) d=((bZ p d).1,TS (bZ p d).2 h):=by
 unfold bZ;by_cases a:(p.s d.s.toNat).up=false
 .rw[if_pos (show ((TS p h).s d.s.toNat).up=false from a),if_pos a]
 rw[if_neg (show ¬ ((TS p h).s d.s.toNat).up=false from a),if_neg a];by_cases b:(rTr p d).z<(p.c d.c.toNat).z
 .rw[if_pos (show (rTr (TS p h) d).z<((TS p h).c d.c.toNat).z from b),if_pos b]
 rw[if_neg (show ¬ (rTr (TS p h) d).z<((TS p h).c d.c.toNat).z from b),if_neg b];by_cases c:d.wt=false
 .rw[if_pos c,if_pos c];rfl
 rw[if_neg c,if_neg c];by_cases e:ZB (p.s d.s.toNat).ws (rWa p d)≠0
 .rw[if_pos (show ZB ((TS p h).s d.s.toNat).ws (rWa (TS p h) d)≠0 from e),if_pos e];rfl
 .rw[if_neg (show ¬ZB ((TS p h).s d.s.toNat).ws (rWa (TS p h) d)≠0 from e),if_neg e];rfl
theorem C96(i:Nat)(ke:Int):RS (TS p h) i ke=((RS p i ke).1,TS (RS p i ke).2 h):=by
 unfold RS;by_cases a:(p.s i).up=false
 .rw[if_pos (show ((TS p h).s i).up=false from a),if_pos a]
 rw[if_neg (show ¬ ((TS p h).s i).up=false from a),if_neg a];by_cases b:ke<0
 .rw[if_pos b,if_pos b]
 .rw[if_neg b,if_neg b];rfl
theorem C97(i:Nat):upW (TS p h) i=((upW p i).1,TS (upW p i).2 h):=by
 unfold upW;by_cases a:(p.s i).up=true
 .rw[if_pos (show ((TS p h).s i).up=true from a),if_pos a]
 .rw[if_neg (show ¬ ((TS p h).s i).up=true from a),if_neg a];rfl
theorem C98:RD (TS p h)=((RD p).1,TS (RD p).2 h):=by
 unfold RD;by_cases a:(KD p.s).length<2
 .rw[if_pos (show (KD (TS p h).s).length<2 from a),if_pos a]
 rw[if_neg (show ¬ (KD (TS p h).s).length<2 from a),if_neg a];by_cases b:A46 p.s=true
 .rw[if_pos (show A46 (TS p h).s=true from b),if_pos b]
 .rw[if_neg (show ¬A46 (TS p h).s=true from b),if_neg b];rfl
theorem BR2:iM (TS p h) d=((iM p d).1,TS (iM p d).2 h):=by
 unfold iM;by_cases a:d.k=1
 .rw[if_pos a,if_pos a];exact C94 p d h
 rw[if_neg a,if_neg a];by_cases b:d.k=2
 .rw[if_pos b,if_pos b];exact C95 p d h
 rw[if_neg b,if_neg b];by_cases c:d.k=3
 .rw[if_pos c,if_pos c];exact C96 p h _ _
 rw[if_neg c,if_neg c];by_cases e:d.k=4
 .rw[if_pos e,if_pos e];exact C97 p h _
 .rw[if_neg e,if_neg e];exact C98 p h
theorem C99:doP (TS p h) d=((doP p d).1,TS (doP p d).2 h):=by
 unfold doP;by_cases a:300<=p.n
 .rw[if_pos (show 300<=(TS p h).n from a),if_pos a]
 rw[if_neg (show ¬300<=(TS p h).n from a),if_neg a];by_cases b:VR d≠0
 .rw[if_pos b,if_pos b];rfl
 .rw[if_neg b,if_neg b];exact BR2 (OQ p) d h
end
