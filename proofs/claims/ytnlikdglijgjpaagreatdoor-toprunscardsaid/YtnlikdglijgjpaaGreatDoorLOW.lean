/-
  Part.
-/
import Derived.Test.YtnlikdglijgjpaaGreatDoorLOU
import Derived.Test.YtnlikdglijgjpaaGreatDoorLOV
set_option maxRecDepth 20000
set_option maxHeartbeats 8000000
namespace Go.Proofs.YtnlikdglijgjpaaGreatDoor
open Go.RowKit Go.Proofs.Tryz
open _root_.Nat renaming le_refl->A8,lt_of_lt_of_le->AX,zero_add->BI,le_trans->BN
open _root_.Array renaming getElem?_eq_some_iff->AB
open _root_.List renaming length_append->AO,getElem?_eq_some_iff->AU,mem_of_getElem?->AZ,getElem?_append_right->BA,length_cons->BG,getElem?_append_left->BK,take_of_length_le->BM,append_assoc->BR,take_append_drop->DU,take_length->DV,length_map->EH,length_nil->EU
open Go.Value.slice renaming injEq->AP
open Go.World renaming cell?->AV,frozen?->F8
open _root_.Option.some renaming injEq->BD
open Go.Value renaming ownBlock->DC,slice->FT
open _root_.List.cons renaming injEq->EG
open Go.Value.agg renaming injEq->EM
open _root_.Array.mk renaming injEq->F6
open Go.Obj renaming cells->FU
open Go renaming World->FV,Value->FW,Calls->FX
open _root_.Option renaming none->FZ,some->G5
variable{F:Nat->Prop}{g B q k o j i:Nat}{W V w w':FV}{v:FW}{s:Sv}{r:Nat->Int}{p:Pw}{e E:Int}{d:Dd}{α:Type}
noncomputable def SY(p:Pw):List Dd->List Rp
 |[]=>[]
 |d::l=>(doP p d).1::SY (doP p d).2 l
theorem gW:∀ (l:List Dd) (p:Pw),(SY p l).length=l.length
 |[],_=>rfl
 |d::l,p=>by rw[SY,BG,BG,gW l]
theorem xA:∀ (l:List Dd) (p:Pw) (n:Nat),SY p (l.take n)=(SY p l).take n
 |[],p,n=>by simp[SY]
 |d::l,p,0=>rfl
 |d::l,p,n+1=>by rw[List.take_succ_cons,SY,SY,List.take_succ_cons,xA l]
theorem xB:∀ (l:List Dd) (p:Pw) (d:Dd),SY p (l++[d])=SY p l++[(doP (Y9 p l) d).1]
 |[],p,d=>rfl
 |e::l,p,d=>by
  show (doP p e).1::SY (doP p e).2 (l++[d])=_;rw[xB l];rfl
def UA(p:Pw)(h:Nat):Pw:=⟨p.n,p.s,p.r,p.c,p.D,p.H,h⟩
section
variable (p:Pw) (d:Dd) (h:Nat)
theorem C76:P9 (UA p h) d=((P9 p d).1,UA (P9 p d).2 h):=by
 unfold P9;by_cases a:ldP p.r=-1
 .rw[if_pos (show ldP (UA p h).r=-1 from a),if_pos a]
 rw[if_neg (show ¬ldP (UA p h).r=-1 from a),if_neg a];by_cases b:wE p d≠0
 .rw[if_pos (show wE (UA p h) d≠0 from b),if_pos b];rfl
 rw[if_neg (show ¬wE (UA p h) d≠0 from b),if_neg b];by_cases c:(wL p d).length<2
 .rw[if_pos (show (wL (UA p h) d).length<2 from c),if_pos c];rfl
 .rw[if_neg (show ¬ (wL (UA p h) d).length<2 from c),if_neg c];rfl
theorem C77:aV (UA p h) d=((aV p d).1,UA (aV p d).2 h):=by
 unfold aV;by_cases a:(p.s d.s.toNat).up=false
 .rw[if_pos (show ((UA p h).s d.s.toNat).up=false from a),if_pos a]
 rw[if_neg (show ¬ ((UA p h).s d.s.toNat).up=false from a),if_neg a];by_cases b:(rTr p d).z<(p.c d.c.toNat).z
 .rw[if_pos (show (rTr (UA p h) d).z<((UA p h).c d.c.toNat).z from b),if_pos b]
 rw[if_neg (show ¬ (rTr (UA p h) d).z<((UA p h).c d.c.toNat).z from b),if_neg b];by_cases c:d.wt=false
 .rw[if_pos c,if_pos c];rfl
 rw[if_neg c,if_neg c];by_cases e:YK (p.s d.s.toNat).ws (rWa p d)≠0
 .rw[if_pos (show YK ((UA p h).s d.s.toNat).ws (rWa (UA p h) d)≠0 from e),if_pos e];rfl
 .rw[if_neg (show ¬YK ((UA p h).s d.s.toNat).ws (rWa (UA p h) d)≠0 from e),if_neg e];rfl
theorem C78(i:Nat)(ke:Int):QW (UA p h) i ke=((QW p i ke).1,UA (QW p i ke).2 h):=by
 unfold QW;by_cases a:(p.s i).up=false
 .rw[if_pos (show ((UA p h).s i).up=false from a),if_pos a]
 rw[if_neg (show ¬ ((UA p h).s i).up=false from a),if_neg a];by_cases b:ke<0
 .rw[if_pos b,if_pos b]
 .rw[if_neg b,if_neg b];rfl
theorem C79(i:Nat):upW (UA p h) i=((upW p i).1,UA (upW p i).2 h):=by
 unfold upW;by_cases a:(p.s i).up=true
 .rw[if_pos (show ((UA p h).s i).up=true from a),if_pos a]
 .rw[if_neg (show ¬ ((UA p h).s i).up=true from a),if_neg a];rfl
theorem C80:QL (UA p h)=((QL p).1,UA (QL p).2 h):=by
 unfold QL;by_cases a:(JX p.s).length<2
 .rw[if_pos (show (JX (UA p h).s).length<2 from a),if_pos a]
 rw[if_neg (show ¬ (JX (UA p h).s).length<2 from a),if_neg a];by_cases b:A31 p.s=true
 .rw[if_pos (show A31 (UA p h).s=true from b),if_pos b]
 .rw[if_neg (show ¬A31 (UA p h).s=true from b),if_neg b];rfl
theorem BP1:gU (UA p h) d=((gU p d).1,UA (gU p d).2 h):=by
 unfold gU;by_cases a:d.k=1
 .rw[if_pos a,if_pos a];exact C76 p d h
 rw[if_neg a,if_neg a];by_cases b:d.k=2
 .rw[if_pos b,if_pos b];exact C77 p d h
 rw[if_neg b,if_neg b];by_cases c:d.k=3
 .rw[if_pos c,if_pos c];exact C78 p h _ _
 rw[if_neg c,if_neg c];by_cases e:d.k=4
 .rw[if_pos e,if_pos e];exact C79 p h _
 .rw[if_neg e,if_neg e];exact C80 p h
theorem C81:doP (UA p h) d=((doP p d).1,UA (doP p d).2 h):=by
 unfold doP;by_cases a:300<=p.n
 .rw[if_pos (show 300<=(UA p h).n from a),if_pos a]
 rw[if_neg (show ¬300<=(UA p h).n from a),if_neg a];by_cases b:V6 d≠0
 .rw[if_pos b,if_pos b];rfl
 .rw[if_neg b,if_neg b];exact BP1 (O9 p) d h
end
theorem xC:∀ (l:List Dd) (p:Pw) (h:Nat),SY (UA p h) l=SY p l
 |[],_,_=>rfl
 |d::l,p,h=>by rw[SY,SY,C81,xC l]
theorem AO0(k j:Nat)(l:List Dd):SY (pw0 k) l=SY (pw0 j) l:=xC l (pw0 j) k
def WB(W:FV)(k:Nat)(f:Nat->FW):Prop:=∃c:Array FW,W.heap[k]?=G5 (FU c 90 (0,0))/\c.size=83/\∀j,j<83->c[j]?=G5 (f j)
section
variable {W V:FV} {k j:Nat} {f:Nat->FW}
theorem WB.lt(h:WB W k f):k<W.heap.size:=by
 obtain⟨c,h1,_⟩:=h;exact(AB.1 h1).1
theorem WB.cell(h:WB W k f)(hj:j<83):W.cell? ⟨k,j,FZ⟩=G5 (f j):=by
 obtain⟨c,h1,_,h3⟩:=h;simp[AV,h1,h3 j hj]
theorem WB.GX(h:WB W k f)(j:Nat):W.frozen? ⟨k,j,FZ⟩=false:=by
 obtain⟨c,h1,_⟩:=h;simp[F8,h1]
theorem WB.touch(h:WB W k f)(ht:Touch F W V)(hk:¬F k):WB V k f:=by
 obtain⟨c,h1,h2,h3⟩:=h;exact⟨c,(ht.block k (AB.1 h1).1 hk).trans h1,h2,h3⟩
theorem WB.next(h:WB W k f)(hb:B0 W V):WB V k f:=h.touch (F:=fun _=>False) (Touch.of_below hb) id
theorem WB.set(h:WB W k f)(hj:j<83)(v:FW):WB (W.setCell ⟨k,j,FZ⟩ v) k (LW f j v):=by
 obtain⟨c,h1,h2,h3⟩:=h;refine⟨c.setIfInBounds j v,GU v h1,by simp[h2],fun i hi=>?_⟩;rw[Array.getElem?_setIfInBounds];by_cases e:j=i
 .subst e;simp[h2,hj,IK]
 .rw[if_neg e,GI _ _ (fun h=>e h.symm)];exact h3 i hi
theorem WB.of_eq{g:Nat->FW}(h:WB W k f)(he:∀j,j<83->f j=g j):WB W k g:=by
 obtain⟨c,h1,h2,h3⟩:=h;exact⟨c,h1,h2,fun j hj=>by rw[h3 j hj,he j hj]⟩
theorem WB.fJ(h:WB W k f)(hs:∀j,j<83->∀s,f j≠ .string s):bK W k:=by
 obtain⟨c,h1,h2,h3⟩:=h;refine⟨c,_,h1,fun j s hj=>?_⟩;have hlt:=(AB.1 hj).1;rw[h3 j (by omega)]at hj;exact hs j (by omega) s (Option.some.inj hj)
end
def Row{α:Type}[Lay α](W:FV)(k:Nat)(v:FW)(xs:List α):Prop:=IE W v xs/\(xs≠[]->UF v k)
section
variable {α:Type} [Lay α] {W V:FV} {k:Nat} {v:FW} {xs:List α}
theorem Row.next(h:Row W k v xs)(hb:B0 W V):Row V k v xs:=⟨h.1.next hb,h.2⟩
theorem Row.touch(h:Row W k v xs)(ht:Touch (· =k) W V):Row V k v xs:=by
 refine⟨?_,h.2⟩;rcases h.1 with h1|⟨b,off,cap,rfl,h1,h2,h3,h0,h4⟩
 .exact .inl h1
 .refine .inr ⟨b,off,cap,rfl,h1,h2,AX h3 ht.size,h0,fun i v hi=>?_⟩;have hb:b≠k:=h.2 h0 b off _ cap rfl;rw[AV,ht.block b h3 hb];exact h4 i v hi
theorem Row.new(h:IE W v xs)(hk:W.heap.size<=k):Row W k v xs:=by
 refine⟨h,fun h0 b off n c e=>?_⟩;rcases h with⟨a,cap,_,e0,_⟩|⟨b',off',cap,rfl,_,_,h3,_,_⟩
 .exact absurd e0 h0
 .simp only[AP,BD,Addr.mk.injEq]at e;omega
theorem Row.own(h:H7 W B v xs)(hk:k<B):Row W k v xs:=⟨h.seq,fun _=>XU h hk⟩
theorem Row.slice(h:Row W k v xs):∃a c,v=FT a xs.length c:=GL h.1
theorem Row.nil(W:FV)(k:Nat)(c:Nat)(hc:c<=maxLen)(a:Option Addr):Row W k (FT a 0 c) ([]:List α):=⟨.inl ⟨a,c,rfl,rfl,hc⟩,fun h=>absurd rfl h⟩
theorem XB(hq:q<Lay.k α)(ht:∀x:α,∃s,(Lay.cs x)[q]?=G5 (Value.string s))(h:IE W v xs)(hk:bK W k):Row W k v xs:=by
 refine⟨h,fun h0 b off n c e=>?_⟩;rcases h with⟨a,cap,_,e0,_⟩|⟨b',off',cap,rfl,_,_,h3,_,h4⟩
 .exact absurd e0 h0
 .simp only[AP,BD,Addr.mk.injEq]at e;rintro rfl;obtain⟨x,r,rfl⟩:=List.exists_cons_of_ne_nil h0;obtain⟨s,hs⟩:=ht x;have:=h4 (0*Lay.k α+q) _ ((GV (x::r) 0 x rfl q hq).trans hs);rw[e.1.1]at this;exact hk.no this
end
theorem AC9{xs:List DF}(h:IQ W v xs)(hk:bK W k):Row W k v xs:=XB (q:=0) (by decide) (fun x=>⟨_,rfl⟩) (UU.2 h) hk
theorem kR{xs:List GK}(h:NT W v xs)(hk:bK W k):Row W k v xs:=XB (q:=3) (by decide) (fun x=>⟨_,rfl⟩) (OY.2 h) hk
theorem xE{xs:List Nd}(h:IE W v xs)(hk:bK W k):Row W k v xs:=XB (q:=0) (by decide) (fun x=>⟨_,rfl⟩) h hk
theorem V7{xs:List Wa}(h:IE W v xs)(hk:bK W k):Row W k v xs:=XB (q:=2) (by decide) (fun x=>⟨_,rfl⟩) h hk
theorem aX{xs:List En}(h:IE W v xs)(hk:bK W k):Row W k v xs:=XB (q:=0) (by decide) (fun x=>⟨_,rfl⟩) h hk
structure SvA(W:FV)(k:Nat)(g:Nat->FW)(s:Sv):Prop where
 up:g 0=.bool s.up
 d:Row W k (g 1) s.fs
 id:g 2=I0 s.id
 ep:g 3=I0 s.ep
 l:Row W k (g 4) s.ts
 dn:g 5=I0 s.dn
 z:g 6=I0 s.tr.z
 n:Row W k (g 7) s.tr.ns
 i:Row W k (g 8) s.tr.ss
 w:Row W k (g 9) s.ws
section
variable {W V:FV} {k:Nat} {g:Nat->FW} {s:Sv}
theorem SvA.next(h:SvA W k g s)(hb:B0 W V):SvA V k g s:=⟨h.up,h.d.next hb,h.id,h.ep,h.l.next hb,h.dn,h.z,h.n.next hb,h.i.next hb,h.w.next hb⟩
theorem SvA.touch(h:SvA W k g s)(ht:Touch (· =k) W V):SvA V k g s:=⟨h.up,h.d.touch ht,h.id,h.ep,h.l.touch ht,h.dn,h.z,h.n.touch ht,h.i.touch ht,h.w.touch ht⟩
theorem SvA.val(h:SvA W k g s):SvV W (.agg #[g 0,g 1,g 2,g 3,g 4,g 5,g 6,g 7,g 8,g 9]) s:=by
 rw[h.up,h.id,h.ep,h.dn,h.z];exact⟨_,_,_,_,_,rfl,UU.1 h.d.1,OY.1 h.l.1,h.n.1,h.i.1,h.w.1⟩
theorem SvA.moved(h:SvA W k g s)(hq:W.heap.size<=q):SvA W q g s:=⟨h.up,Row.new h.d.1 hq,h.id,h.ep,Row.new h.l.1 hq,h.dn,h.z,Row.new h.n.1 hq,Row.new h.i.1 hq,Row.new h.w.1 hq⟩
theorem SvA.cellP{P:FW->Prop}(hb:∀b,P (.bool b))(hn:∀n,P (I0 n))(hs:∀a n c,P (FT a n c))(h:SvA W k g s)(j:Nat)(hj:j<10):P (g j):=by
 have r:∀ {α:Type} [Lay α] {v:FW} {xs:List α},Row W k v xs->P v:=fun h=>by obtain⟨a,c,e⟩:=h.slice;rw[e];exact hs _ _ _
 rcases(show j=0\/j=1\/j=2\/j=3\/j=4\/j=5\/j=6\/j=7\/j=8\/j=9 by omega)with rfl|rfl|rfl|rfl|rfl|rfl|rfl|rfl|rfl|rfl
 .rw[h.up];exact hb _
 .exact r h.d
 .rw[h.id];exact hn _
 .rw[h.ep];exact hn _
 .exact r h.l
 .rw[h.dn];exact hn _
 .rw[h.z];exact hn _
 .exact r h.n
 .exact r h.i
 .exact r h.w
theorem SvA.of{vd vl vn vs vw:FW}(hk:bK W k)(hv:SvV W (.agg #[.bool s.up,vd,I0 s.id,I0 s.ep,vl,I0 s.dn,I0 s.tr.z,vn,vs,vw]) s)(hs:s.tr.ss≠[]->UF vs k)
  (h0:g 0=.bool s.up) (h1:g 1=vd) (h2:g 2=I0 s.id) (h3:g 3=I0 s.ep) (h4:g 4=vl) (h5:g 5=I0 s.dn) (h6:g 6=I0 s.tr.z) (h7:g 7=vn) (h8:g 8=vs) (h9:g 9=vw):SvA W k g s:=by
 obtain⟨vd',vl',vn',vs',vw',e,r1,r2,r3,r4,r5⟩:=hv;simp only[EM,F6,EG,true_and,and_true]at e;obtain⟨rfl,rfl,rfl,rfl,rfl⟩:=e;exact⟨h0,by rw[h1];exact AC9 r1 hk,h2,h3,by rw[h4];exact kR r2 hk,h5,h6,by rw[h7];exact xE r3 hk,by rw[h8];exact⟨r4,hs⟩,by rw[h9];exact V7 r5 hk⟩
end
structure ClA(W:FV)(k:Nat)(g:Nat->FW)(c:Cl):Prop where
 s:g 0=I0 c.s
 z:g 1=I0 c.z
 e:Row W k (g 2) c.es
structure WdR(W:FV)(k:Nat)(f:Nat->FW)(p:Pw):Prop where
 n:f 0=I0 p.n
 s:∀i,i<3->SvA W k (fun q=>f (1+10*i+q)) (svP i (p.s i))
 r:∀i,i<3->f (31+i)=I0 (p.r i)
 c:∀i,i<16->ClA W k (fun q=>f (34+3*i+q)) (p.c i)
 d:Row W k (f 82) p.D
 h:∀i,i<3->(svP i (p.s i)).tr.ss≠[]->∀b,b<=p.h->UF (f (1+10*i+8)) b
 hk:p.h<=k
def WX(W:FV)(k:Nat)(p:Pw):Prop:=∃f,WB W k f/\WdR W k f p
section
variable {W V:FV} {k:Nat} {f:Nat->FW} {p:Pw}
theorem WdR.next(h:WdR W k f p)(hb:B0 W V):WdR V k f p:=
 ⟨h.n,fun i hi=>(h.s i hi).next hb,h.r,fun i hi=>⟨(h.c i hi).s,(h.c i hi).z,(h.c i hi).e.next hb⟩,h.d.next hb,h.h,h.hk⟩
theorem WdR.touch(h:WdR W k f p)(ht:Touch (· =k) W V):WdR V k f p:=
 ⟨h.n,fun i hi=>(h.s i hi).touch ht,h.r,fun i hi=>⟨(h.c i hi).s,(h.c i hi).z,(h.c i hi).e.touch ht⟩,h.d.touch ht,h.h,h.hk⟩
theorem WdR.moved(h:WdR W k f p)(hq:W.heap.size<=q)(hk:p.h<=q):WdR W q f p:=
 ⟨h.n,fun i hi=>(h.s i hi).moved hq,h.r,fun i hi=>⟨(h.c i hi).s,(h.c i hi).z,Row.new (h.c i hi).e.1 hq⟩,Row.new h.d.1 hq,h.h,hk⟩
theorem WX.next(h:WX W k p)(hb:B0 W V):WX V k p:=by
 obtain⟨f,h1,h2⟩:=h;exact⟨f,h1.next hb,h2.next hb⟩
theorem WX.lt(h:WX W k p):k<W.heap.size:=by
 obtain⟨f,h1,_⟩:=h;exact h1.lt
theorem WdR.cellP{P:FW->Prop}(hb:∀b,P (.bool b))(hn:∀n,P (I0 n))(hs:∀a n c,P (FT a n c))(h:WdR W k f p)(j:Nat)(hj:j<83):P (f j):=by
 by_cases h0:j=0
 .subst h0;rw[h.n];exact hn _
 .by_cases h1:j<31
  .have:=(h.s ((j-1)/10) (by omega)).cellP hb hn hs ((j-1)%10) (by omega);simp only[show 1+10*((j-1)/10)+(j-1)%10=j by omega]at this;exact this
  .by_cases h2:j<34
   .have:=h.r (j-31) (by omega);rw[show 31+(j-31)=j by omega]at this;rw[this];exact hn _
   .by_cases h3:j<82
    .have hc:=h.c ((j-34)/3) (by omega);have e0:34+3*((j-34)/3)+(j-34)%3=j:=by omega
     rcases(show (j-34)%3=0\/(j-34)%3=1\/(j-34)%3=2 by omega)with e|e|e
     .have:=hc.s;simp only[<-e,e0]at this;rw[this];exact hn _
     .have:=hc.z;simp only[<-e,e0]at this;rw[this];exact hn _
     .obtain⟨a,c,e'⟩:=hc.e.slice;simp only[<-e,e0]at e';rw[e'];exact hs _ _ _
    .obtain rfl:j=82:=by omega
     obtain⟨a,c,e'⟩:=h.d.slice;rw[e'];exact hs _ _ _
theorem WdR.text(h:WdR W k f p)(j:Nat)(hj:j<83)(t:ByteArray):f j≠ .string t:=h.cellP (P:=(· ≠ .string t)) (fun _ e=>by cases e) (fun _ e=>by cases e) (fun _ _ _ e=>by cases e) j hj
theorem WdR.fJ(h:WdR W k f p)(hb:WB W k f):bK W k:=hb.fJ h.text
end
def CE5(x0 x1 x2 x3 x4 x5 x6 x7 x8 x9:FW):Nat->FW
 |0=>x0|1=>x1|2=>x2|3=>x3|4=>x4|5=>x5|6=>x6|7=>x7|8=>x8|_=>x9
def B67(x0 x1 x2:FW):Nat->FW
 |0=>x0|1=>x1|_=>x2
def BD3(f:Nat->FW)(o n:Nat)(g:Nat->FW):Nat->FW:=fun j=>if o<=j/\j<o+n then g (j-o)else f j
theorem NY{f g:Nat->FW}{n:Nat}(h:q<n):BD3 f o n g (o+q)=g q:=by
 rw[BD3,if_pos ⟨by omega,by omega⟩]
 congr 1
 omega
theorem JD{f g:Nat->FW}{n:Nat}(h:j<o\/o+n<=j):BD3 f o n g j=f j:=by rw[BD3,if_neg (by omega)]
def yI(W:FV)(k o:Nat)(x0 x1 x2 x3 x4 x5 x6 x7 x8 x9:FW):FV:=
 (((((((((W.setCell ⟨k,o,FZ⟩ x0).setCell ⟨k,o+1,FZ⟩ x1).setCell ⟨k,o+2,FZ⟩ x2).setCell ⟨k,o+3,FZ⟩ x3).setCell ⟨k,o+4,FZ⟩ x4).setCell ⟨k,o+5,FZ⟩ x5).setCell ⟨k,o+6,FZ⟩ x6).setCell ⟨k,o+7,FZ⟩ x7).setCell ⟨k,o+8,FZ⟩ x8).setCell ⟨k,o+9,FZ⟩ x9
def qZ(W:FV)(k o:Nat)(x0 x1 x2:FW):FV:=((W.setCell ⟨k,o,FZ⟩ x0).setCell ⟨k,o+1,FZ⟩ x1).setCell ⟨k,o+2,FZ⟩ x2
section
variable {W:FV} {k:Nat} {f:Nat->FW} {p:Pw}
theorem JJ(W:FV)(k j:Nat)(v:FW):Touch (· =k) W (W.setCell ⟨k,j,FZ⟩ v):=Touch.set (F:=(· =k)) (a:=⟨k,j,FZ⟩) rfl v
theorem XC(W:FV)(k o:Nat)(x0 x1 x2 x3 x4 x5 x6 x7 x8 x9:FW):Touch (· =k) W (yI W k o x0 x1 x2 x3 x4 x5 x6 x7 x8 x9):=
 (((((((((JJ _ _ _ _).trans (JJ _ _ _ _)).trans (JJ _ _ _ _)).trans (JJ _ _ _ _)).trans (JJ _ _ _ _)).trans (JJ _ _ _ _)).trans (JJ _ _ _ _)).trans (JJ _ _ _ _)).trans (JJ _ _ _ _)).trans (JJ _ _ _ _)
theorem SI(W:FV)(k o:Nat)(x0 x1 x2:FW):Touch (· =k) W (qZ W k o x0 x1 x2):=((JJ _ _ _ _).trans (JJ _ _ _ _)).trans (JJ _ _ _ _)
theorem WB.qZ(h:WB W k f)(ho:o+3<=83)(x0 x1 x2:FW):WB (qZ W k o x0 x1 x2) k (BD3 f o 3 (B67 x0 x1 x2)):=by
 refine(((h.set (j:=o) (by omega) x0).set (j:=o+1) (by omega) x1).set (j:=o+2) (by omega) x2).of_eq fun j hj=>?_;by_cases h2:j=o+2
 .subst h2;rw[IK,NY (by omega)];rfl
 .by_cases h1:j=o+1
  .subst h1;rw[GI _ _ (by omega),IK,NY (by omega)];rfl
  .by_cases h0:j=o
   .subst h0;rw[GI _ _ (by omega),GI _ _ (by omega),IK,show BD3 f j 3 (B67 x0 x1 x2) j=BD3 f j 3 (B67 x0 x1 x2) (j+0)from rfl,NY (by omega)];rfl
   .rw[GI _ _ h2,GI _ _ h1,GI _ _ h0,JD (by omega)]
theorem WB.yI(h:WB W k f)(ho:o+10<=83)(x0 x1 x2 x3 x4 x5 x6 x7 x8 x9:FW):WB (yI W k o x0 x1 x2 x3 x4 x5 x6 x7 x8 x9) k (BD3 f o 10 (CE5 x0 x1 x2 x3 x4 x5 x6 x7 x8 x9)):=by
 refine((((((((((h.set (j:=o) (by omega) x0).set (j:=o+1) (by omega) x1).set (j:=o+2) (by omega) x2).set (j:=o+3) (by omega) x3).set (j:=o+4) (by omega) x4).set (j:=o+5) (by omega) x5).set (j:=o+6) (by omega) x6).set (j:=o+7) (by omega) x7).set (j:=o+8) (by omega) x8).set (j:=o+9) (by omega) x9).of_eq fun j hj=>?_;by_cases hr:o<=j/\j<o+10
 .obtain⟨q,rfl⟩:∃q,j=o+q:=⟨j-o,by omega⟩;rw[NY (by omega)];have hq:q<10:=by omega
  rcases(show q=0\/q=1\/q=2\/q=3\/q=4\/q=5\/q=6\/q=7\/q=8\/q=9 by omega)with rfl|rfl|rfl|rfl|rfl|rfl|rfl|rfl|rfl|rfl<;>simp[LW,CE5]
 .rw[JD (by omega),GI _ _ (by omega),GI _ _ (by omega),GI _ _ (by omega),GI _ _ (by omega),GI _ _ (by omega),GI _ _ (by omega),GI _ _ (by omega),GI _ _ (by omega),GI _ _ (by omega),GI _ _ (by omega)]
theorem SvA.congr{g g':Nat->FW}(h:SvA W k g s)(he:∀q,q<10->g' q=g q):SvA W k g' s:=by
 refine⟨?_,?_,?_,?_,?_,?_,?_,?_,?_,?_⟩<;>rw[he _ (by omega)]
 .exact h.up
 .exact h.d
 .exact h.id
 .exact h.ep
 .exact h.l
 .exact h.dn
 .exact h.z
 .exact h.n
 .exact h.i
 .exact h.w
theorem ClA.congr{g g':Nat->FW}{c:Cl}(h:ClA W k g c)(he:∀q,q<3->g' q=g q):ClA W k g' c:=by
 refine⟨?_,?_,?_⟩<;>rw[he _ (by omega)]
 .exact h.s
 .exact h.z
 .exact h.e
theorem WX.oC(h:WX W k p)(hi:i<3){q:Ps}{vd vl vn vs vw:FW}(hq:svP i q=s)(hv:SvV W (.agg #[.bool s.up,vd,I0 s.id,I0 s.ep,vl,I0 s.dn,I0 s.tr.z,vn,vs,vw]) s)(hs:s.tr.ss≠[]->∀b,b<=k->UF vs b):
  WX (yI W k (1+10*i) (.bool s.up) vd (I0 s.id) (I0 s.ep) vl (I0 s.dn) (I0 s.tr.z) vn vs vw) k ⟨p.n,LW p.s i q,p.r,p.c,p.D,p.H,p.h⟩:=by
 obtain⟨f,hb,hr⟩:=h;refine⟨_,hb.yI (o:=1+10*i) (by omega) _ _ _ _ _ _ _ _ _ _,WdR.touch (W:=W) ?_ (XC _ _ _ _ _ _ _ _ _ _ _ _ _)⟩;have hA:SvA W k (CE5 (.bool s.up) vd (I0 s.id) (I0 s.ep) vl (I0 s.dn) (I0 s.tr.z) vn vs vw) s:=SvA.of (hr.fJ hb) hv (fun h=>hs h k (A8 k)) rfl rfl rfl rfl rfl rfl rfl rfl rfl rfl;refine⟨by rw[JD (by omega)];exact hr.n,fun j hj=>?_,fun j hj=>by rw[JD (by omega)];exact hr.r j hj,fun j hj=>(hr.c j hj).congr fun q hq=>by rw[JD (by omega)],by rw[JD (by omega)];exact hr.d,fun j hj h0=>?_,hr.hk⟩
 .by_cases e:j=i
  .subst e;simp only[IK,hq];exact hA.congr fun q hq=>by rw[NY hq]
  .simp only[GI _ _ e];exact(hr.s j hj).congr fun q hq=>by rw[JD (by omega)]
 .by_cases e:j=i
  .subst e;simp only[IK,hq]at h0;rw[NY (by omega)];exact fun b hb=>hs h0 b (BN hb hr.hk)
  .simp only[GI _ _ e]at h0;rw[JD (by omega)];exact hr.h j hj h0
theorem WX.V9(h:WX W k p)(hi:i<3)(v:Int):WX (W.setCell ⟨k,31+i,FZ⟩ (I0 v)) k ⟨p.n,p.s,LW p.r i v,p.c,p.D,p.H,p.h⟩:=by
 obtain⟨f,hb,hr⟩:=h;refine⟨_,hb.set (j:=31+i) (by omega) _,WdR.touch (W:=W) ?_ (JJ _ _ _ _)⟩;refine⟨by rw[GI _ _ (by omega)];exact hr.n,fun j hj=>(hr.s j hj).congr fun q hq=>by rw[GI _ _ (by omega)],fun j hj=>?_,fun j hj=>(hr.c j hj).congr fun q hq=>by rw[GI _ _ (by omega)],by rw[GI _ _ (by omega)];exact hr.d,fun j hj h0=>by rw[GI _ _ (by omega)];exact hr.h j hj h0,hr.hk⟩;by_cases e:j=i
 .subst e;rw[IK];simp only[IK]
 .rw[GI _ _ (by omega)];simp only[GI _ _ e];exact hr.r j hj
theorem WX.AD0(h:WX W k p)(he:∀i,i<3->p.r i=r i):WX W k ⟨p.n,p.s,r,p.c,p.D,p.H,p.h⟩:=by
 obtain⟨f,hb,hr⟩:=h;exact⟨f,hb,hr.n,hr.s,fun i hi=>by rw[hr.r i hi,he i hi],hr.c,hr.d,hr.h,hr.hk⟩
theorem WX.clear(h:WX W k p):WX (qZ W k 31 (I0 0) (I0 0) (I0 0)) k ⟨p.n,p.s,fun _=>0,p.c,p.D,p.H,p.h⟩:=by
 have h1:=((h.V9 (i:=0) (by omega) 0).V9 (i:=1) (by omega) 0).V9 (i:=2) (by omega) 0;have h2:WX (qZ W k 31 (I0 0) (I0 0) (I0 0)) k ⟨p.n,p.s,LW (LW (LW p.r 0 0) 1 0) 2 0,p.c,p.D,p.H,p.h⟩:=h1;refine h2.AD0 fun i hi=>?_;rcases(show i=0\/i=1\/i=2 by omega)with rfl|rfl|rfl<;>simp[LW]
theorem WX.AD1(h:WX W k p)(n:Int):WX (W.setCell ⟨k,0,FZ⟩ (I0 n)) k ⟨n,p.s,p.r,p.c,p.D,p.H,p.h⟩:=by
 obtain⟨f,hb,hr⟩:=h;refine⟨_,hb.set (j:=0) (by omega) _,WdR.touch (W:=W) ?_ (JJ _ _ _ _)⟩;exact⟨by rw[IK],fun j hj=>(hr.s j hj).congr fun q hq=>by rw[GI _ _ (by omega)],fun j hj=>by rw[GI _ _ (by omega)];exact hr.r j hj,fun j hj=>(hr.c j hj).congr fun q hq=>by rw[GI _ _ (by omega)],by rw[GI _ _ (by omega)];exact hr.d,fun j hj h0=>by rw[GI _ _ (by omega)];exact hr.h j hj h0,hr.hk⟩
theorem WX.BP3(h:WX W k p)(hi:i<16){c:Cl}(hv:IE W v c.es):WX (qZ W k (34+3*i) (I0 c.s) (I0 c.z) v) k ⟨p.n,p.s,p.r,LW p.c i c,p.D,p.H,p.h⟩:=by
 obtain⟨f,hb,hr⟩:=h;refine⟨_,hb.qZ (o:=34+3*i) (by omega) _ _ _,WdR.touch (W:=W) ?_ (SI _ _ _ _ _ _)⟩;refine⟨by rw[JD (by omega)];exact hr.n,fun j hj=>(hr.s j hj).congr fun q hq=>by rw[JD (by omega)],fun j hj=>by rw[JD (by omega)];exact hr.r j hj,fun j hj=>?_,by rw[JD (by omega)];exact hr.d,fun j hj h0=>by rw[JD (by omega)];exact hr.h j hj h0,hr.hk⟩;by_cases e:j=i
 .subst e;simp only[IK];exact ClA.congr (g:=B67 (I0 c.s) (I0 c.z) v) ⟨rfl,rfl,aX hv (hr.fJ hb)⟩ fun q hq=>by rw[NY hq]
 .simp only[GI _ _ e];exact(hr.c j hj).congr fun q hq=>by rw[JD (by omega)]
theorem WX.CM1(h:WX W k p){D:List GK}(hv:IE W v D)(H:List GK):WX (W.setCell ⟨k,82,FZ⟩ v) k ⟨p.n,p.s,p.r,p.c,D,H,p.h⟩:=by
 obtain⟨f,hb,hr⟩:=h;refine⟨_,hb.set (j:=82) (by omega) _,WdR.touch (W:=W) ?_ (JJ _ _ _ _)⟩;exact⟨by rw[GI _ _ (by omega)];exact hr.n,fun j hj=>(hr.s j hj).congr fun q hq=>by rw[GI _ _ (by omega)],fun j hj=>by rw[GI _ _ (by omega)];exact hr.r j hj,fun j hj=>(hr.c j hj).congr fun q hq=>by rw[GI _ _ (by omega)],by rw[IK];exact kR (OY.1 hv) (hr.fJ hb),fun j hj h0=>by rw[GI _ _ (by omega)];exact hr.h j hj h0,hr.hk⟩
theorem WX.BX3(h:WX W k p)(hi:i<3)(hu:(p.s i).up=true){x:Ps}(hx:x=⟨(p.s i).up,(p.s i).e,(p.s i).m,(p.s i).a,(p.s i).q,(p.s i).dn,x.ws⟩)(hv:IE W v x.ws):WX (W.setCell ⟨k,1+10*i+9,FZ⟩ v) k ⟨p.n,LW p.s i x,p.r,p.c,p.D,p.H,p.h⟩:=by
 obtain⟨f,hb,hr⟩:=h;refine⟨_,hb.set (j:=1+10*i+9) (by omega) _,WdR.touch (W:=W) ?_ (JJ _ _ _ _)⟩;refine⟨by rw[GI _ _ (by omega)];exact hr.n,fun j hj=>?_,fun j hj=>by rw[GI _ _ (by omega)];exact hr.r j hj,fun j hj=>(hr.c j hj).congr fun q hq=>by rw[GI _ _ (by omega)],by rw[GI _ _ (by omega)];exact hr.d,fun j hj h0=>by
  rw[GI _ _ (by omega)];refine hr.h j hj ?_;by_cases e:j=i
  .subst e;simp only[IK]at h0;rw[IZ (by rw[hx];exact hu)]at h0;rw[IZ hu];rw[hx]at h0;exact h0
  .simp only[GI _ _ e]at h0;exact h0,hr.hk⟩
 by_cases e:j=i
 .subst e;simp only[IK];have hs:=hr.s j hj;have e1:svP j x=⟨(svP j (p.s j)).up,(svP j (p.s j)).fs,(svP j (p.s j)).id,(svP j (p.s j)).ep,(svP j (p.s j)).ts,(svP j (p.s j)).dn,(svP j (p.s j)).tr,x.ws⟩:=by
   rw[IZ hu,IZ (by rw[hx];exact hu),hx]
  rw[e1];have g:∀q,q<9->LW f (1+10*j+9) v (1+10*j+q)=f (1+10*j+q):=fun q hq=>GI _ _ (by omega);exact⟨by rw[g 0 (by omega)];exact hs.up,by rw[g 1 (by omega)];exact hs.d,by rw[g 2 (by omega)];exact hs.id,by rw[g 3 (by omega)];exact hs.ep,by rw[g 4 (by omega)];exact hs.l,by rw[g 5 (by omega)];exact hs.dn,by rw[g 6 (by omega)];exact hs.z,by rw[g 7 (by omega)];exact hs.n,by rw[g 8 (by omega)];exact hs.i,by rw[IK];exact V7 hv (hr.fJ hb)⟩
 .simp only[GI _ _ e];exact(hr.s j hj).congr fun q hq=>by rw[GI _ _ (by omega)]
end
structure Srv(W:FV)(k o:Nat)(up:Bool)(id ep dn z:Int)(vd vl vn vs vw:FW):Prop where
 c0:W.cell? ⟨k,o,FZ⟩=G5 (.bool up)
 c1:W.cell? ⟨k,o+1,FZ⟩=G5 vd
 c2:W.cell? ⟨k,o+2,FZ⟩=G5 (I0 id)
 c3:W.cell? ⟨k,o+3,FZ⟩=G5 (I0 ep)
 c4:W.cell? ⟨k,o+4,FZ⟩=G5 vl
 c5:W.cell? ⟨k,o+5,FZ⟩=G5 (I0 dn)
 c6:W.cell? ⟨k,o+6,FZ⟩=G5 (I0 z)
 c7:W.cell? ⟨k,o+7,FZ⟩=G5 vn
 c8:W.cell? ⟨k,o+8,FZ⟩=G5 vs
 c9:W.cell? ⟨k,o+9,FZ⟩=G5 vw
theorem Srv.next{up:Bool}{id ep dn z:Int}{vd vl vn vs vw:FW}(h:Srv W k o up id ep dn z vd vl vn vs vw)(hk:k<W.heap.size)(hV:B0 W V):Srv V k o up id ep dn z vd vl vn vs vw:=by
 have e:∀j,V.cell? ⟨k,j,FZ⟩=W.cell? ⟨k,j,FZ⟩:=fun j=>by rw[AV,AV,hV.block k hk]
 exact⟨(e _).trans h.c0,(e _).trans h.c1,(e _).trans h.c2,(e _).trans h.c3,(e _).trans h.c4,(e _).trans h.c5,(e _).trans h.c6,(e _).trans h.c7,(e _).trans h.c8,(e _).trans h.c9⟩
theorem WX.srv(h:WX W k p)(hi:i<3)(hs:svP i (p.s i)=s):∃ad nd cd al cl an cn ai ci aw cw,
  Srv W k (1+10*i) s.up s.id s.ep s.dn s.tr.z (FT ad nd cd) (FT al s.ts.length cl) (FT an s.tr.ns.length cn) (FT ai s.tr.ss.length ci) (FT aw s.ws.length cw)/\
  SvV W (.agg #[.bool s.up,FT ad nd cd,I0 s.id,I0 s.ep,FT al s.ts.length cl,I0 s.dn,I0 s.tr.z,FT an s.tr.ns.length cn,FT ai s.tr.ss.length ci,FT aw s.ws.length cw]) s/\(s.tr.ss≠[]->UF (FT ai s.tr.ss.length ci) k):=by
 obtain⟨f,hb,hr⟩:=h;have h:=hr.s i hi;rw[hs]at h;obtain⟨ad,cd,e1⟩:=h.d.slice;obtain⟨al,cl,e4⟩:=h.l.slice;obtain⟨an,cn,e7⟩:=h.n.slice;obtain⟨ai,ci,e8⟩:=h.i.slice;obtain⟨aw,cw,e9⟩:=h.w.slice;have hv:=h.val;have hw:=h.i.2;rw[e8]at hw;rw[h.up,e1,h.id,h.ep,e4,h.dn,h.z,e7,e8,e9]at hv;refine⟨ad,_,cd,al,cl,an,cn,ai,ci,aw,cw,⟨?_,?_,?_,?_,?_,?_,?_,?_,?_,?_⟩,hv,hw⟩
 .rw[hb.cell (j:=1+10*i) (by omega)];exact congrArg G5 h.up
 .rw[hb.cell (by omega)];exact congrArg G5 e1
 .rw[hb.cell (by omega)];exact congrArg G5 h.id
 .rw[hb.cell (by omega)];exact congrArg G5 h.ep
 .rw[hb.cell (by omega)];exact congrArg G5 e4
 .rw[hb.cell (by omega)];exact congrArg G5 h.dn
 .rw[hb.cell (by omega)];exact congrArg G5 h.z
 .rw[hb.cell (by omega)];exact congrArg G5 e7
 .rw[hb.cell (by omega)];exact congrArg G5 e8
 .rw[hb.cell (by omega)];exact congrArg G5 e9
theorem WX.role(h:WX W k p)(hi:i<3):W.cell? ⟨k,31+i,FZ⟩=G5 (I0 (p.r i)):=by
 obtain⟨f,hb,hr⟩:=h;rw[hb.cell (by omega),hr.r i hi]
theorem WX.count(h:WX W k p):W.cell? ⟨k,0,FZ⟩=G5 (I0 p.n):=by
 obtain⟨f,hb,hr⟩:=h;rw[hb.cell (by omega),hr.n]
theorem WX.GX(h:WX W k p)(j:Nat):W.frozen? ⟨k,j,FZ⟩=false:=by
 obtain⟨f,hb,hr⟩:=h;exact hb.GX j
theorem WX.cl(h:WX W k p)(hi:i<16):∃a c,W.cell? ⟨k,34+3*i,FZ⟩=G5 (I0 (p.c i).s)/\W.cell? ⟨k,34+3*i+1,FZ⟩=G5 (I0 (p.c i).z)/\W.cell? ⟨k,34+3*i+2,FZ⟩=G5 (FT a (p.c i).es.length c)/\IE W (FT a (p.c i).es.length c) (p.c i).es:=by
 obtain⟨f,hb,hr⟩:=h;have h:=hr.c i hi;obtain⟨a,c,e⟩:=h.e.slice;have hv:=h.e.1;rw[e]at hv;refine⟨a,c,?_,?_,?_,hv⟩
 .rw[hb.cell (j:=34+3*i) (by omega)];exact congrArg G5 h.s
 .rw[hb.cell (by omega)];exact congrArg G5 h.z
 .rw[hb.cell (by omega)];exact congrArg G5 e
theorem WX.ack(h:WX W k p):∃a c,W.cell? ⟨k,82,FZ⟩=G5 (FT a p.D.length c)/\IE W (FT a p.D.length c) p.D:=by
 obtain⟨f,hb,hr⟩:=h;obtain⟨a,c,e⟩:=hr.d.slice;have hv:=hr.d.1;rw[e]at hv;exact⟨a,c,by rw[hb.cell (by omega),e],hv⟩
def RpB(W:FV)(g:Nat):Prop:=W.heap[g]?=G5 (FU #[I0 0,I0 0,.string ⟨#[]⟩,.string ⟨#[]⟩,I0 0,I0 0,I0 0,I0 0,I0 0,I0 0,I0 0,N0] 34 (0,0))
theorem RpB.new(w:FV):RpB (w.alloc (FU #[I0 0,I0 0,.string ⟨#[]⟩,.string ⟨#[]⟩,I0 0,I0 0,I0 0,I0 0,I0 0,I0 0,I0 0,N0] 34)) w.heap.size:=heap_alloc_new w _
theorem RpB.lt(h:RpB W g):g<W.heap.size:=(AB.1 h).1
theorem RpB.touch(h:RpB W g)(ht:Touch F W V)(hg:¬F g):RpB V g:=(ht.block g h.lt hg).trans h
theorem RpB.next(h:RpB W g)(hb:B0 W V):RpB V g:=(hb.block g h.lt).trans h
theorem RpB.cells(h:RpB W g):(W.cell? ⟨g,0,FZ⟩=G5 (I0 0)/\W.cell? ⟨g,1,FZ⟩=G5 (I0 0)/\W.cell? ⟨g,2,FZ⟩=G5 (.string ⟨#[]⟩)/\W.cell? ⟨g,3,FZ⟩=G5 (.string ⟨#[]⟩)/\W.cell? ⟨g,4,FZ⟩=G5 (I0 0)/\W.cell? ⟨g,5,FZ⟩=G5 (I0 0))/\(W.cell? ⟨g,6,FZ⟩=G5 (I0 0)/\W.cell? ⟨g,7,FZ⟩=G5 (I0 0)/\W.cell? ⟨g,8,FZ⟩=G5 (I0 0)/\W.cell? ⟨g,9,FZ⟩=G5 (I0 0)/\W.cell? ⟨g,10,FZ⟩=G5 (I0 0)/\W.cell? ⟨g,11,FZ⟩=G5 (N0)):=by
 unfold RpB at h;refine⟨⟨?_,?_,?_,?_,?_,?_⟩,?_,?_,?_,?_,?_,?_⟩<;>simp[AV,h]
theorem RpB.GX(h:RpB W g)(j:Nat):W.frozen? ⟨g,j,FZ⟩=false:=by
 unfold RpB at h;simp[F8,h]
def fK(W:FV)(g:Nat)(x0 x1 x2 x3 x4 x5 x6 x7 x8 x9 x10 x11:FW):FV:=
 (((((((((((W.setCell ⟨g,0,FZ⟩ x0).setCell ⟨g,1,FZ⟩ x1).setCell ⟨g,2,FZ⟩ x2).setCell ⟨g,3,FZ⟩ x3).setCell ⟨g,4,FZ⟩ x4).setCell ⟨g,5,FZ⟩ x5).setCell ⟨g,6,FZ⟩ x6).setCell ⟨g,7,FZ⟩ x7).setCell ⟨g,8,FZ⟩ x8).setCell ⟨g,9,FZ⟩ x9).setCell ⟨g,10,FZ⟩ x10).setCell ⟨g,11,FZ⟩ x11
theorem Touch.new(h:Touch F w W)(hg:w.heap.size<=g)(v:FW):Touch F w (W.setCell ⟨g,j,FZ⟩ v):=
 ⟨h.os,h.tape,h.output,by simpa [World.setCell]using h.size,fun k hk hf=>(Below.heap_setCell W ⟨g,j,FZ⟩ v k (by show k≠g;omega)).trans (h.block k hk hf)⟩
theorem KD(h:Touch F w W)(hg:w.heap.size<=g)(x0 x1 x2 x3 x4 x5 x6 x7 x8 x9 x10 x11:FW):Touch F w (fK W g x0 x1 x2 x3 x4 x5 x6 x7 x8 x9 x10 x11):=
 (((((((((((h.new hg x0).new hg x1).new hg x2).new hg x3).new hg x4).new hg x5).new hg x6).new hg x7).new hg x8).new hg x9).new hg x10).new hg x11
theorem kT(w:FV)(o p:Obj):((w.alloc o).alloc p).heap[w.heap.size+1]?=G5 p:=by
 have h:=heap_alloc_new (w.alloc o) p;simpa using h
def UC(E:Int):FW:=.agg #[I0 E,I0 0,.string ⟨#[]⟩,.string ⟨#[]⟩,I0 0,I0 0,I0 0,I0 0,I0 0,I0 0,I0 0,N0]
theorem KP(E:Int)(w:FV):FX prog 21 #[I0 E] w (R0 w (UC E)):=by
 unfold UC;go_enter func21,ntmps21;go_wp2_with fail;refine bodyPost_ret (v:=.agg #[I0 E,I0 0,.string ⟨#[]⟩,.string ⟨#[]⟩,I0 0,I0 0,I0 0,I0 0,I0 0,I0 0,I0 0,N0]) (by simp[results,results21,go_sem]) rfl ⟨rfl,?_⟩
 first|exact Below.refl _ _|exact G8 _ _|exact G9 (G8 _ _) (by assumption)|exact(by assumption)
def wP(k:Nat):FW:=P0 k
theorem xG(i m:Int)(w:FV):FX prog 25 #[I0 i,I0 m] w fun e w'=>e=.returned (.bool (qR i m))/\w'=w:=by
 by_cases h:0<=i
 .by_cases h2:i<m
  .rw[show qR i m=true by simp[qR];omega];go_enter func25,ntmps25;go_wp2_with fail;go_ret;exact⟨rfl,rfl⟩
  .rw[show qR i m=false by simp[qR];omega];go_enter func25,ntmps25;go_wp2_with fail;go_ret;exact⟨rfl,rfl⟩
 .rw[show qR i m=false by simp[qR];omega];go_enter func25,ntmps25;go_wp2_with fail;go_ret;exact⟨rfl,rfl⟩
def TN(k E:Int):Bool:=decide (E=0)||decide (E=16)||(decide (E=7)&&decide (k=2))
theorem A34(k E:Int)(w:FV):FX prog 24 #[I0 k,I0 E] w fun e w'=>e=.returned (.bool (TN k E))/\w'=w:=by
 unfold TN;by_cases h0:E=0
 .subst h0;go_enter func24,ntmps24;go_wp2_with fail;go_ret;exact⟨by simp,rfl⟩
 .by_cases h1:E=16
  .subst h1;go_enter func24,ntmps24;go_wp2_with fail;go_ret;exact⟨by simp,rfl⟩
  .by_cases h2:E=7
   .subst h2;by_cases h3:k=2
    .subst h3;go_enter func24,ntmps24;go_wp2_with fail;go_ret;exact⟨by simp,rfl⟩
    .go_enter func24,ntmps24;go_wp2_with fail;go_ret;exact⟨by simp[h3],rfl⟩
   .go_enter func24,ntmps24;go_wp2_with fail;go_ret;exact⟨by simp[h0,h1,h2],rfl⟩
theorem rD(e:Int):(Y8 e).s.length+(Y8 e).t.length<=1048576:=by
 have:=ZX (KY e 0);simp only[Y8,EU];omega
theorem ZC{s t:List UInt8}(h:s.length+t.length<=1048576):LP (epD e++[⟨NU,s,t⟩]):=by
 unfold epD
 split
 .exact aS h
 .exact TG (rD e) h
theorem gX(e:Int)(s t:List UInt8):There (epD e++[⟨NU,s,t⟩]) (epD e) ⟨NU,s,t⟩ [] NU:=by
 unfold epD
 split
 .exact⟨rfl,rfl,by simp,by simp⟩
 .exact kG _ _ _ _
theorem BP6(e:Int)(s t:List UInt8)(k:Nat):(epD e++[(⟨NU,s,t⟩:DF)]).map (WJ k)=epD e++[⟨NU,s++t.take k,[]⟩]:=by
 unfold epD
 split
 .simp[WJ]
 .simp[WJ,Y8]
theorem BP7{s t:List UInt8}(he:zIn e=true)(h:s.length+t.length<=1048576):YH (epD e++[⟨NU,s,t⟩])=e:=by
 by_cases h0:e=0
 .subst h0;rw[AC2,List.nil_append];unfold YH;rw[jI (aS h) (dM s t)];show IY (fH [])=0;rw[uK,UQ]
 .rw[A30 h0];have h1:=PK.1 he;have hm:KY e 0=e*2147483648:=by rw[(TP he (by decide)).1];omega
  have hz:KL (KY e 0)=true:=by rw[hm];exact LY.2 ⟨by omega,by omega⟩
  unfold YH;show IY (fH (VJ [⟨JG,QJ (KY e 0),[]⟩,⟨NU,s,t⟩] JG).1)=e;rw[UR (TG (by have:=ZX (KY e 0);simp;omega) h) (aU _ _ _ _)];simp only[List.append_nil];rw[(AX4 hz).1,LZ hz,hm];omega
section
variable {i:Nat} {q:Ps}
theorem MN.small(ok:MN 300 q):(IB q.m).length<=146100/\q.m.length<=300:=by
 have:=ok.len;exact⟨qU ok.log (by omega),by omega⟩
theorem UD(m:List GK)(a:Nat):(IB (m.take a)).length+(IB (m.drop a)).length=(IB m).length:=by
 conv=>rhs;rw[<-DU a m,LH,AO]
theorem XD{x:GK}(h:gdE x=0):x.p.length<=200/\x.d.length<=256:=⟨BU7 (fO h).2.2.2,(fO h).2.2.1⟩
theorem MN.zin(ok:MN 300 q):zIn q.e=true:=PK.2 ⟨ok.e0,by have:=ok.e1;omega⟩
theorem MN.fits(ok:MN 300 q)(hu:q.up=true):BV9 (svP i q):=by
 obtain⟨h1,h2⟩:=ok.small;have h3:=UD q.m q.a;have g:=ok.play.good ok.dn;have gd:LP (epD q.e++[⟨NU,IB (q.m.take q.a),IB (q.m.drop q.a)⟩]):=ZC (by omega);have hw:=ok.wl;rw[IZ hu];refine⟨?_,JQ gd,by show q.m.length*72<=_;omega,fun x hx=>?_,by show (RZ q.m q.dn).ns.length*88<=_;have:=g.nod.few;omega,g.wf.CI7,UO g.ses,by show q.ws.length*32<=_;omega,fun x hx=>?_⟩
 .simp only[epD]
  split<;>simp
 .have:=XD (ok.log.good x hx);omega
 .have:=MP (ok.wk x hx).2.2.2;omega
theorem xH(hu:q.up=true)(k:Nat):svP i (O8 q k)=⟨false,((svP i q).fs).map (WJ k),(svP i q).id,0,[],0,QI,[]⟩:=by
 rw[IZ hu,TI (p:=O8 q k) rfl];simp only[BP6];rw[wU,<-BR,<-LH];have e:q.m.take (q.a+whole (q.m.drop q.a) k)=q.m.take q.a++(q.m.drop q.a).take (whole (q.m.drop q.a) k):=by rw[List.take_add]
 simp only[O8,e]
theorem BP8(ok:MN 300 q)(hu:q.up=true){ke:Int}(hk:0<=ke)(v:FW)(w:FV)(hv:SvV w v (svP i q)):FX prog 58 #[v,I0 ke] w (aG w (svP i (O8 q ke.toNat)) 0):=by
 obtain⟨h1,h2⟩:=ok.small;have h3:=UD q.m q.a;have gd:LP (svP i q).fs:=by rw[IZ hu];exact ZC (by omega)
 have G:NC 96 (fun x=>#[x,I0 ke]) (svP i q).fs ((svP i q).fs.map (WJ ke.toNat)) 0:=by
  have:=MR (f:=96) (args:=fun x=>#[x,I0 ((ke.toNat:Nat):Int)]) fun v W hv=>AY7 v (svP i q).fs ke.toNat W hv (JQ gd) gd;rwa[Int.toNat_of_nonneg hk]at this
 rw[xH hu];exact B38 (svP i q) v _ ke w hv G
theorem A35(ok:MN 300 q)(hu:q.up=true){ke:Int}(hk:ke<0)(v:FW)(w:FV)(hv:SvV w v (svP i q)):FX prog 58 #[v,I0 ke] w (aG w sv0 3):=by
 obtain⟨h1,h2⟩:=ok.small;have h3:=UD q.m q.a;have gd:LP (svP i q).fs:=by rw[IZ hu];exact ZC (by omega)
 exact AM9 (svP i q) v [] ke 3 w hv (by decide) (uU fun v W hv=>BH5 v (svP i q).fs ke W hv (JQ gd) (.inr hk))
theorem C85(ok:MN 300 q)(hu:q.up=false)(hi:i<3)(v:FW)(w:FV)(hv:IQ w v (svP i q).fs):FX prog 19 #[I0 i,.agg #[v]] w (aG w (svP i (upP q)) 0):=by
 obtain⟨h1,h2⟩:=ok.small;obtain⟨_,_,_,hs,hq⟩:=ok.down hu;have hl:(IB q.m++q.q).length+([]:List UInt8).length<=1048576:=by simp;omega
 rw[TI hu]at hv;have gd:LP (epD q.e++[⟨NU,IB q.m++q.q,[]⟩]):=ZC hl;have R:YI (epD q.e++[⟨NU,IB q.m++q.q,[]⟩]) q.m (epD q.e) []:=⟨gd,ok.log,.inr ⟨_,q.q,gX _ _ _,by simpa using hs⟩⟩;have:=AB4 v _ _ q.m i w hv (JQ gd) (by omega) (by omega) (kE R);rw[BP7 ok.zin hl]at this;rw[IZ (p:=upP q) rfl];simpa [upP,OU,WZ,show IB []=[]from rfl]using this
theorem C86{x:GK}(sure:Bool)(ok:MN 299 q)(hu:q.up=true)(hg:gdE x=0)(hz:J3 q.m<x.z)(v:FW)(w:FV)(hv:SvV w v (svP i q)):FX prog 83 #[v,J7 x,.bool sure] w fun e w'=>dK w (svP i (SX x sure q)) 0 e w'/\FrT w e:=by
 have ok':=ok.more (show (299:Int)<=300 by omega);obtain⟨h1,h2⟩:=ok'.small;have h3:=UD q.m q.a;have hr:=iO hg;have hx:=XD hg;have ha:=ok.a;have g0:LP (epD q.e++[⟨NU,IB (q.m.take q.a),IB (q.m.drop q.a)⟩]):=ZC (by omega);have g1:LP (epD q.e++[⟨NU,IB (q.m.take q.a),IB (q.m.drop q.a)++QO x⟩]):=ZC (by simp;omega);have W1:∀v W,IQ W v (epD q.e++[⟨NU,IB (q.m.take q.a),IB (q.m.drop q.a)⟩])->FX prog 43 #[.agg #[v],S0 NU,S0 (QO x)] W fun e w'=>∃v',e=.returned (.tuple #[.agg #[v'],I0 0])/\XO w' W.heap.size v' (epD q.e++[⟨NU,IB (q.m.take q.a),IB (q.m.drop q.a)++QO x⟩])/\B0 W w':=fun v W hv=>
  jG v _ (epD q.e) [] _ NU (QO x) W hv (JQ g0) g0 (gX _ _ _) (by simp only;omega)
 have S1:∀v W,IQ W v (epD q.e++[⟨NU,IB (q.m.take q.a),IB (q.m.drop q.a)++QO x⟩])->FX prog 145 #[.agg #[v],S0 NU] W fun e w'=>∃v',e=.returned (.tuple #[.agg #[v'],I0 0])/\XO w' W.heap.size v' (epD q.e++[⟨NU,IB (q.m.take q.a)++(IB (q.m.drop q.a)++QO x),[]⟩])/\B0 W w':=fun v W hv=>
  XQ v _ (epD q.e) [] _ NU W hv (JQ g1) g1 (gX _ _ _)
 have T:CU2 (svP i q) x sure 0 (svP i (SX x sure q)):=by
  rw[IZ hu];refine .inr (.inr ⟨by show ¬x.z<=J3 q.m;omega,rfl,?_⟩)
  cases sure with
  |true=>
   refine⟨_,?_,nS _ _ _ x 0 hg (MR W1) (dJ S1)⟩;rw[IZ (p:=SX x true q) hu];simp only[SX,if_true,gK q.m x ok.dn];rw[BM (by simp),List.drop_of_length_le (by simp),<-BR,<-LH,DU,<-PL];rfl
  |false=>
   refine⟨_,?_,AN0 _ _ x hg (dJ W1)⟩;rw[IZ (p:=SX x false q) hu];simp only[SX,Bool.false_eq_true,if_false,gK q.m x ok.dn];rw[List.take_append_of_le_length ha,List.drop_append_of_le_length ha,PL]
 exact A18 (svP i q) _ v x sure 0 w hv (ok'.fits hu) T (by omega) (by omega) (by rw[IZ hu];show q.m.length<=_;omega)
theorem BX4(ok:MN 300 q)(hu:q.up=true):Chn (svP i q) (q.m.drop q.dn) (q.m.length-q.dn):=by
 have e:∀j,(csP (svP i q) (q.m.drop q.dn) j).1.tr=RZ q.m (q.dn+j):=fun j=>by
  unfold csP RZ;rw[B47,IZ hu,List.take_add,List.foldl_append];rfl
 refine⟨by simp,fun j x hj hx=>?_,fun x hx=>?_⟩
 .rw[e];rw[List.getElem?_drop]at hx;exact ok.play _ x hx
 .have:=(AU.1 hx).1;simp at this
theorem B70(ok:MN 300 q)(hu:q.up=true):BL9 (svP i q) (q.m.drop q.dn):=by
 have hw:=ok.wl;rw[IZ hu];refine⟨(ok.play.good ok.dn).wf,fun x hx=>?_,by show q.ws.length*32<=_;omega,fun x hx=>?_,fun x hx=>?_⟩
 .have:=MP (ok.wk x hx).2.2.2;omega
 .have:=XD (ok.log.good x (List.mem_of_mem_drop hx));omega
 .have:=XD (ok.log.good x (List.mem_of_mem_drop hx));omega
theorem C87(ok:MN 300 q)(hu:q.up=true):(bM i q).1.up=true/\(bM i q).1.fs=(svP i q).fs/\(bM i q).1.id=i/\(bM i q).1.ep=q.e/\(bM i q).1.ts=q.m/\(bM i q).1.tr=RZ q.m q.m.length:=by
 obtain⟨_,b1,b2,b3,b4,b5,_⟩:=BW1 (B70 (i:=i) ok hu) (BX4 ok hu) _ (A8 _);have hd:=ok.dn;refine⟨?_,b2,?_,?_,?_,?_⟩
 .show (csP _ _ _).1.up=true;rw[b1,IZ hu]
 .show (csP _ _ _).1.id=_;rw[b3,IZ hu]
 .show (csP _ _ _).1.ep=_;rw[b4,IZ hu]
 .show (csP _ _ _).1.ts=_;rw[b5,IZ hu]
 .show (csP _ _ _).1.tr=_;unfold csP;rw[B47,IZ hu];show (List.take _ _).foldl iR (RZ q.m q.dn)=_;unfold RZ;rw[<-List.foldl_append,<-List.take_add,show q.dn+(q.m.length-q.dn)=q.m.length by omega]
theorem B71(ok:MN 300 q)(hu:q.up=true)(v:FW)(w:FV)(hv:SvV w v (svP i q)):FX prog 84 #[v,I0 q.m.length] w fun e w'=>kD w (svP i (gQ i q)) (bM i q).2 0 e w'/\FrS w e:=by
 have hd:=ok.dn;obtain⟨c1,c2,c3,c4,c5,c6⟩:=C87 (i:=i) ok hu;refine(wC (svP i q) v q.dn q.m.length (q.m.length-q.dn) (q.m.drop q.dn) w hv (ok.fits hu) (by rw[IZ hu]) hd (by rw[IZ hu];exact A8 _) (by rw[IZ hu];show _=List.take _ (List.drop q.dn q.m);rw[BM (by simp)]) (BX4 ok hu) (B70 ok hu)).mono fun e w' H=>?_;have:=H.1 (by simp);have e:svP i (gQ i q)=⟨(csP (svP i q) (q.m.drop q.dn) (q.m.length-q.dn)).1.up,(csP (svP i q) (q.m.drop q.dn) (q.m.length-q.dn)).1.fs,(csP (svP i q) (q.m.drop q.dn) (q.m.length-q.dn)).1.id,(csP (svP i q) (q.m.drop q.dn) (q.m.length-q.dn)).1.ep,(csP (svP i q) (q.m.drop q.dn) (q.m.length-q.dn)).1.ts,(q.m.length:Int),(csP (svP i q) (q.m.drop q.dn) (q.m.length-q.dn)).1.tr,(csP (svP i q) (q.m.drop q.dn) (q.m.length-q.dn)).1.ws⟩:=by
  show _=(⟨(bM i q).1.up,(bM i q).1.fs,(bM i q).1.id,(bM i q).1.ep,(bM i q).1.ts,(q.m.length:Int),(bM i q).1.tr,(bM i q).1.ws⟩:Sv);rw[c1,c2,c3,c4,c5,c6,IZ (p:=gQ i q) hu,IZ hu];rfl
 rw[e];exact this
end
def rpV(r:Rp)(v:FW):FW:=.agg #[I0 r.E,I0 r.z,S0 r.p,S0 r.d,I0 r.t.c,I0 r.t.m,I0 r.t.q,I0 r.t.v,I0 r.t.k,I0 r.t.o,I0 r.t.n,v]
def Did(W:FV)(k:Nat)(kd:Int)(x:Rp×Pw)(e:Ending)(w':FV):Prop:=
 ∃v,e=.returned (rpV x.1 v)/\H7 w' W.heap.size v x.1.ns/\Touch (· =k) W w'/\(TN kd x.1.E=true->WX w' k x.2)
theorem VA{kd:Int}{e:Ending}(he:e=.returned (UC E))(ht:Touch (· =k) W w')(hl:TN kd E=false):Did W k kd (SV E,p) e w':=
 ⟨N0,he,.inl ⟨rfl,rfl⟩,ht,fun h=>by rw[show (SV E,p).1.E=E from rfl,hl]at h;cases h⟩
theorem ZE(p:Pw)(k:Nat)(W:FV)(hx:WX W k p):FX prog 51 #[wP k] W fun e w'=>e=.returned (.tuple #[])/\WX w' k ⟨p.n,p.s,fun _=>0,p.c,p.D,p.H,p.h⟩/\Touch (· =k) W w':=by
 have X:=G7 hx.clear;have T:=G7 (SI W k 31 (I0 0) (I0 0) (I0 0));have r0:=hx.role (i:=0) (by omega);have r1:=hx.role (i:=1) (by omega);have r2:=hx.role (i:=2) (by omega);have f0:=hx.GX 31;have f1:=hx.GX 32;have f2:=hx.GX 33;simp only[Nat.reduceAdd]at r0 r1 r2;unfold wP;clear hx;go_enter func51,ntmps51;go_wp2_with fail;exact bodyPost_end (v:=.tuple #[]) (by simp[results,results51,go_sem]) rfl ⟨rfl,G6 X,G6 T⟩
theorem SK(W:FV)(n:Nat):B0 W (W.drewN n):=⟨rfl,rfl,rfl,A8 _,fun _ _=>rfl⟩
structure DB(w W:FV)(d:Dd):Prop where
 b:B0 w W
 r:RpB W (w.heap.size+1)
 d:JM W w.heap.size d
theorem DB.start(w:FV)(d:Dd):DB w ((w.alloc (FU #[I0 d.k,I0 d.c,I0 d.s,I0 d.q.o,I0 d.q.s,S0 d.q.p,S0 d.q.d,I0 d.q.v,I0 d.q.f,I0 d.lo,I0 d.sl,I0 d.ke,.bool d.wt] 43)).alloc (FU #[I0 0,I0 0,.string ⟨#[]⟩,.string ⟨#[]⟩,I0 0,I0 0,I0 0,I0 0,I0 0,I0 0,I0 0,N0] 34)) d:=by
 refine⟨G9 (G8 _ _) (G8 _ _),kT _ _ _,?_⟩;exact JM.ZA (heap_alloc_new w _:JM (w.alloc _) w.heap.size d) (G8 _ _) (by simp)
theorem DB.next(h:DB w W d)(hb:B0 W V):DB w V d:=⟨G9 h.b hb,h.r.next hb,h.d.ZA hb h.d.ltz⟩
theorem DB.cells(h:DB w W d):(W.cell? ⟨w.heap.size,0,FZ⟩=G5 (I0 d.k)/\W.cell? ⟨w.heap.size,1,FZ⟩=G5 (I0 d.c)/\W.cell? ⟨w.heap.size,2,FZ⟩=G5 (I0 d.s)/\W.cell? ⟨w.heap.size,3,FZ⟩=G5 (I0 d.q.o)/\W.cell? ⟨w.heap.size,4,FZ⟩=G5 (I0 d.q.s)/\W.cell? ⟨w.heap.size,5,FZ⟩=G5 (S0 d.q.p)/\W.cell? ⟨w.heap.size,6,FZ⟩=G5 (S0 d.q.d))/\W.cell? ⟨w.heap.size,7,FZ⟩=G5 (I0 d.q.v)/\W.cell? ⟨w.heap.size,8,FZ⟩=G5 (I0 d.q.f)/\W.cell? ⟨w.heap.size,9,FZ⟩=G5 (I0 d.lo)/\W.cell? ⟨w.heap.size,10,FZ⟩=G5 (I0 d.sl)/\W.cell? ⟨w.heap.size,11,FZ⟩=G5 (I0 d.ke)/\W.cell? ⟨w.heap.size,12,FZ⟩=G5 (.bool d.wt):=by
 have r:=h.d.row;simp only[BI]at r;exact⟨⟨r 0 _ rfl,r 1 _ rfl,r 2 _ rfl,r 3 _ rfl,r 4 _ rfl,r 5 _ rfl,r 6 _ rfl⟩,r 7 _ rfl,r 8 _ rfl,r 9 _ rfl,r 10 _ rfl,r 11 _ rfl,r 12 _ rfl⟩
theorem AO2(p:Pw)(d:Dd)(k:Nat)(W:FV)(hx:WX W k p)(hi:0<=d.s/\d.s<3)(hu:(p.s d.s.toNat).up=false):FX prog 39 #[wP k,ddV d] W (Did W k 3 (SV 14,p)):=by
 have C:=G7 (fun W=>KP 14 W);have D0:=G7 (DB.start W d);obtain⟨i,hi3,hdi⟩:∃i:Nat,i<3/\d.s=i:=⟨d.s.toNat,by omega,by omega⟩;rw[hdi,Int.toNat_natCast]at hu;obtain⟨ad,nd,cd,al,cl,an,cn,ai,ci,aw,cw,S,_,_⟩:=hx.srv hi3 rfl;have S0:∀V,B0 W V->V.cell? ⟨k,1+10*i,FZ⟩=G5 (.bool false):=fun V hV=>by
  have:=S.c0;rw[TI hu]at this;rw[AV,hV.block k hx.lt];exact this
 obtain⟨dk,dc,ds,⟨o,s,pp,dd,v,f⟩,lo,sl,ke,wt⟩:=d;simp only at hdi;subst hdi;unfold wP ddV;unfold UC at C;clear S hx hu hi;have hX:∀w1,DB W w1 ⟨dk,dc,(i:Int),⟨o,s,pp,dd,v,f⟩,lo,sl,ke,wt⟩->Did W k 3 (SV 14,p) (.returned (UC 14)) (fK w1 (W.heap.size+1) (I0 14) (I0 0) (.string ⟨#[]⟩) (.string ⟨#[]⟩) (I0 0) (I0 0) (I0 0) (I0 0) (I0 0) (I0 0) (I0 0) (N0)):=fun w1 h=>VA rfl (KD (Touch.of_below h.b) (by omega) _ _ _ _ _ _ _ _ _ _ _ _) (by decide);rcases(show i=0\/i=1\/i=2 by omega)with rfl|rfl|rfl
 all_goals
  simp only[Nat.reduceAdd,Nat.reduceMul]at S0;go_enter func39,ntmps39;go_upto_region 1 with fail;generalize ((W.alloc _).alloc _)=W0 at*;obtain⟨⟨e0,e1,e2,e3,e4,e5,e6⟩,e7,e8,e9,e10,e11,e12⟩:=(G6 D0).cells;have T0:=S0 W0 (G6 D0).b;simp only at e2
  go_quiet (fail)
  go_wp2_with fail;refine(G6 C _).mono ?_;rintro e w1 ⟨rfl,hb⟩;have D1:=(G6 D0).next (G9 (SK _ _) hb);obtain⟨⟨c0,c1,c2,c3,c4,c5⟩,c6,c7,c8,c9,c10,c11⟩:=D1.r.cells;have f0:=D1.r.GX;have X1:=G7 (hX w1 D1);clear hb D1 D0 C S0 hX;unfold UC at X1;go_wp2_with fail;exact bodyPost_ret (v:=.agg #[I0 14,I0 0,.string ⟨#[]⟩,.string ⟨#[]⟩,I0 0,I0 0,I0 0,I0 0,I0 0,I0 0,I0 0,N0]) (by simp[results,results39,go_sem,c0,c1,c2,c3,c4,c5,c6,c7,c8,c9,c10,c11]) rfl (G6 X1)
theorem CM2(hj:j<3)(h:r j=2)(hb:∀m,m<j->r m≠2):ldP r=j:=by
 unfold ldP;rcases(show j=0\/j=1\/j=2 by omega)with rfl|rfl|rfl
 .rw[if_pos h];rfl
 .rw[if_neg (hb 0 (by omega)),if_pos h];rfl
 .rw[if_neg (hb 0 (by omega)),if_neg (hb 1 (by omega)),if_pos h];rfl
theorem C88(hb:∀m,m<3->r m≠2):ldP r=-1:=by
 unfold ldP;rw[if_neg (hb 0 (by omega)),if_neg (hb 1 (by omega)),if_neg (hb 2 (by omega))]
theorem C89(r:Nat->Int)(k:Nat)(w:FV)(hc:∀i,i<3->w.cell? ⟨k,31+i,FZ⟩=G5 (I0 (r i))):
  FX prog 33 #[FT (G5 ⟨k,31,FZ⟩) 3 3,I0 2] w (R0 w (I0 (ldP r))):=by
 have HC:=G7 hc;clear hc;go_enter func33,ntmps33;go_wp2_with fail
 go_loopg [8] 3 (fun kx s8 wr=>∃j:Nat,s8=I0 j/\j<=3/\3-j<=kx/\Hid (∀m,m<j->r m≠2)/\Hid (B0 w wr/\∀i,i<3->wr.cell? ⟨k,31+i,FZ⟩=G5 (I0 (r i))))
 case atStart=>exact⟨0,rfl,by omega,A8 _,G7 (fun m hm=>by omega),G7 ⟨Below.refl _ _,G6 HC⟩⟩
 case round=>
  obtain⟨j,rfl,hj,hg,hh,hB⟩:=hrel;by_cases hlt:j<3
  .have d0:=(G6 hB).2 j hlt;have hjj:(j:Int)<3:=by omega
   by_cases h2:r j=2
   .rw[h2]at d0;have HE:=G7 (CM2 hlt h2 (G6 hh));clear h2;go_wp2_with fail
    try go_quiet (fail)
    go_wp2_with fail;go_ret;exact⟨by rw[G6 HE];rfl,(G6 hB).1⟩
   .have HN:=G7 (fun m (hm:m<j+1)=>(show r m≠2 by
     by_cases e:m=j
     .rw[e];exact h2
     .exact G6 hh m (by omega)))
    have h3:¬2=r j:=fun e=>h2 e.symm;go_wp2_with fail
    try go_quiet (fail)
    go_wp2_with fail
    go_roundg (3-(j+1))
    case measure=>omega
    case rel=>exact⟨j+1,rfl,by omega,A8 _,HN,hB⟩
  .obtain rfl:j=3:=by omega
   have HE:=G7 (C88 (G6 hh));go_wp2_with fail;go_ret;exact⟨by rw[G6 HE];rfl,(G6 hB).1⟩
theorem S9(p:Pw)(k:Nat)(W:FV)(hx:WX W k p):FX prog 18 #[wP k] W (R0 W (I0 (ldP p.r))):=by
 have C:=G7 (C89 p.r k W (fun i hi=>hx.role hi));unfold wP;clear hx;go_enter func18,ntmps18;go_wp2_with fail;refine(G6 C).mono ?_;rintro e w1 ⟨rfl,hb⟩;go_wp2_with fail;go_ret;exact⟨rfl,hb⟩
def B72(w:FV)(s:Sv)(E:Int)(e:Ending)(w':FV):Prop:=
 ∃ad nd cd al cl an cn ai ci aw cw,e=.returned (.tuple #[.agg #[.bool s.up,FT ad nd cd,I0 s.id,I0 s.ep,FT al s.ts.length cl,I0 s.dn,I0 s.tr.z,FT an s.tr.ns.length cn,FT ai s.tr.ss.length ci,FT aw s.ws.length cw],I0 E])/\
  Hid (SvV w' (.agg #[.bool s.up,FT ad nd cd,I0 s.id,I0 s.ep,FT al s.ts.length cl,I0 s.dn,I0 s.tr.z,FT an s.tr.ns.length cn,FT ai s.tr.ss.length ci,FT aw s.ws.length cw]) s/\(s.tr.ss≠[]->∀k,k<w.heap.size->UF (FT ai s.tr.ss.length ci) k))/\B0 w w'
theorem rE{e:Ending}(h:aG w s E e w')(hs:s.tr.ss=[]):B72 w s E e w':=by
 obtain⟨v,he,hv,hb⟩:=h;obtain⟨ad,nd,cd,al,cl,an,cn,ai,ci,aw,cw,rfl,_⟩:=hv.five;exact⟨ad,nd,cd,al,cl,an,cn,ai,ci,aw,cw,he,G7 ⟨hv,fun h=>absurd hs h⟩,hb⟩
theorem LG(h:O7 B v)(hk:k<B):UF v k:=fun b off n c e=>by have:=h b off n c e;omega
theorem BP9{e:Ending}(h:dK w s E e w'):B72 w s E e w':=by
 obtain⟨ad,nd,cd,al,nl,cl,an,nn,cn,ai,ni,ci,aw,nw,cw,he,hs,hb⟩:=h;obtain⟨hv,hf⟩:=G6 hs;obtain⟨ad',nd',cd',al',cl',an',cn',ai',ci',aw',cw',e5,_⟩:=hv.five;simp only[EM,F6,EG,AP,true_and,and_true]at e5;obtain⟨⟨rfl,rfl,rfl⟩,⟨rfl,rfl,rfl⟩,⟨rfl,rfl,rfl⟩,⟨rfl,rfl,rfl⟩,rfl,rfl,rfl⟩:=e5;exact⟨_,_,_,_,_,_,_,_,_,_,_,he,G7 ⟨hv,fun _ k hk=>LG hf hk⟩,hb⟩
structure SBX(w V:FV)(q:Nat)(s:Sv)(vd vl vn vs vw:FW):Prop where
 b:B0 w V
 le:w.heap.size<=q
 box:IJ V q s.up vd s.id s.ep vl s.dn s.tr.z vn vs vw
 v:SvV V (.agg #[.bool s.up,vd,I0 s.id,I0 s.ep,vl,I0 s.dn,I0 s.tr.z,vn,vs,vw]) s
 a:s.tr.ss≠[]->∀k,k<w.heap.size->UF vs k
section
variable {w w1 u:FV} {s:Sv} {ad al an ai aw:Option Addr} {nd cd nl cl nn cn ni ci nw cw:Nat}
theorem dO(hb:B0 w w1)(hv:SvV w1 (.agg #[.bool s.up,FT ad nd cd,I0 s.id,I0 s.ep,FT al nl cl,I0 s.dn,I0 s.tr.z,FT an nn cn,FT ai ni ci,FT aw nw cw]) s)(ha:s.tr.ss≠[]->∀k,k<u.heap.size->UF (FT ai ni ci) k)(hu:w.heap.size<=u.heap.size):
  SBX w (w1.alloc (FU #[.bool s.up,FT ad nd cd,I0 s.id,I0 s.ep,FT al nl cl,I0 s.dn,I0 s.tr.z,FT an nn cn,FT ai ni ci,FT aw nw cw] 61)) w1.heap.size s (FT ad nd cd) (FT al nl cl) (FT an nn cn) (FT ai ni ci) (FT aw nw cw):=
 ⟨G9 hb (G8 _ _),hb.size,IJ.new _ _ _ _ _ _ _ _ _ _ _,hv.alloc _,fun h k hk=>ha h k (by omega)⟩
theorem kU(hb:B0 w w1)(hq:w.heap.size<=q)(hz:IJ w1 q false (N0) 0 0 (N0) 0 0 (N0) (N0) (N0))(hv:SvV w1 (.agg #[.bool s.up,FT ad nd cd,I0 s.id,I0 s.ep,FT al nl cl,I0 s.dn,I0 s.tr.z,FT an nn cn,FT ai ni ci,FT aw nw cw]) s)(ha:s.tr.ss≠[]->∀k,k<u.heap.size->UF (FT ai ni ci) k)(hu:q<u.heap.size):
  SBX w (OZ w1 q (.bool s.up) (FT ad nd cd) (I0 s.id) (I0 s.ep) (FT al nl cl) (I0 s.dn) (I0 s.tr.z) (FT an nn cn) (FT ai ni ci) (FT aw nw cw)) q s (FT ad nd cd) (FT al nl cl) (FT an nn cn) (FT ai ni ci) (FT aw nw cw):=by
 refine⟨JU hb hq _ _ _ _ _ _ _ _ _ _,hq,kF hz _ _ _ _ _ _ _ _ _ _,?_,fun h k hk=>ha h k (by omega)⟩;by_cases h:s.tr.ss=[]
 .have hv2:=hv;obtain⟨vd,vl,vn,vs,vw,e,r1,r2,r3,r4,r5⟩:=hv2;simp only[EM,F6,EG,true_and,and_true]at e;obtain⟨rfl,rfl,rfl,rfl,rfl⟩:=e;have hd:=hz.fJ;have hx:SvV (OZ w1 q (.bool s.up) (FT ad nd cd) (I0 s.id) (I0 s.ep) (FT al nl cl) (I0 s.dn) (I0 s.tr.z) (FT an nn cn) (FT ai ni ci) (FT aw nw cw)) (.agg #[.bool s.up,FT ad nd cd,I0 s.id,I0 s.ep,FT al nl cl,I0 s.dn,I0 s.tr.z,FT an nn cn,N0,FT aw nw cw]) s:=
   qG hd (fun vd vl vn vs vw e=>by simp only[EM,F6,EG]at e;rw[<-e.2.2.2.2.2.2.2.2.1];exact vG _ _ _) ⟨_,_,_,_,_,rfl,r1,r2,r3,by rw[h];exact IE.nil _,r5⟩
  obtain⟨vd,vl,vn,vs,vw,e,q1,q2,q3,q4,q5⟩:=hx;simp only[EM,F6,EG,true_and,and_true]at e;obtain⟨rfl,rfl,rfl,rfl,rfl⟩:=e;refine⟨_,_,_,_,_,rfl,q1,q2,q3,?_,q5⟩;rw[h]at r4⊢;rcases r4 with h4|⟨_,_,_,_,_,_,_,h0,_⟩
  .exact .inl h4
  .exact absurd rfl h0
 .exact qG hz.fJ (fun vd vl vn vs vw e=>by simp only[EM,F6,EG]at e;rw[<-e.2.2.2.2.2.2.2.2.1];exact ha h q hu) hv
end
def AD6:List FW:=[I0 0,I0 0,.string ⟨#[]⟩,.string ⟨#[]⟩,I0 0,I0 0,I0 0,I0 0,I0 0,I0 0,I0 0,N0]
theorem RpB.at(h:RpB W g)(hv:W.cell? ⟨g,j,FZ⟩=G5 v):AD6[j]?=G5 v:=by
 unfold RpB at h;simpa [AV,h,AD6]using hv
theorem XE{s:ByteArray}(h:AD6[j]?=G5 (.string s)):j=2\/j=3:=by
 by_cases hj:j<12
 .rcases(show j=0\/j=1\/j=2\/j=3\/j=4\/j=5\/j=6\/j=7\/j=8\/j=9\/j=10\/j=11 by omega)with rfl|rfl|rfl|rfl|rfl|rfl|rfl|rfl|rfl|rfl|rfl|rfl<;>simp[AD6]at h⊢
 .rw[List.getElem?_eq_none (by simp[AD6];omega)]at h;cases h
theorem AO3{s:ByteArray}(h:AD6[j]?=G5 (.string s)):s=⟨#[]⟩:=by
 rcases XE h with rfl|rfl<;>simpa [AD6]using h.symm
theorem AD7{n:Int}(h:AD6[j]?=G5 (I0 n)):n=0:=by
 by_cases hj:j<12
 .rcases(show j=0\/j=1\/j=2\/j=3\/j=4\/j=5\/j=6\/j=7\/j=8\/j=9\/j=10\/j=11 by omega)with rfl|rfl|rfl|rfl|rfl|rfl|rfl|rfl|rfl|rfl|rfl|rfl<;>simp[AD6]at h<;>omega
 .rw[List.getElem?_eq_none (by simp[AD6];omega)]at h;cases h
theorem B73{b:Bool}:AD6[j]? ≠G5 (.bool b):=by
 intro h;by_cases hj:j<12
 .rcases(show j=0\/j=1\/j=2\/j=3\/j=4\/j=5\/j=6\/j=7\/j=8\/j=9\/j=10\/j=11 by omega)with rfl|rfl|rfl|rfl|rfl|rfl|rfl|rfl|rfl|rfl|rfl|rfl<;>simp[AD6]at h
 .rw[List.getElem?_eq_none (by simp[AD6];omega)]at h;cases h
theorem Y0[Lay α]{xs:List α}(hg:RpB W g)(hv:IE W v xs)(hno:∀x∈xs,∀off,¬ ∀ (j:Nat) u,j<Lay.k α->(Lay.cs x)[j]?=G5 u->AD6[off+j]?=G5 u)(h0:xs≠[]):UF v g:=by
 intro b off n c e;rcases hv with⟨a,cap,_,e0,_⟩|⟨b',off',cap,rfl,_,_,h3,_,h4⟩
 .exact absurd e0 h0
 .simp only[AP,BD,Addr.mk.injEq]at e;rintro rfl;obtain⟨x,r,rfl⟩:=List.exists_cons_of_ne_nil h0;refine hno x (by simp) off' fun j u hj hu=>hg.at ?_;have:=h4 (0*Lay.k α+j) _ ((GV (x::r) 0 x rfl j hj).trans hu);rw[Nat.zero_mul,BI]at this;rw[<-e.1.1];exact this
section
variable {W:FV} {k g:Nat} {v:FW}
theorem BQ0{xs:List DF}(hg:RpB W g)(h:IE W v xs)(h0:xs≠[]):UF v g:=Y0 hg h (fun x _ off H=>by
 have a:=XE (H 0 _ (by decide) rfl);have c:=XE (H 2 _ (by decide) rfl);omega) h0
theorem B74{xs:List GK}(hg:RpB W g)(h:IE W v xs)(h0:xs≠[]):UF v g:=Y0 hg h (fun x _ off H=>by
 have a:=XE (H 3 _ (by decide) rfl);have c:=XE (H 4 _ (by decide) rfl);omega) h0
theorem B75{xs:List En}(hg:RpB W g)(h:IE W v xs)(h0:xs≠[]):UF v g:=Y0 hg h (fun x _ off H=>B73 (H 2 _ (by decide) rfl)) h0
theorem A36{xs:List Wa}(hg:RpB W g)(h:IE W v xs)(hs:∀x∈xs,1<=x.s)(h0:xs≠[]):UF v g:=Y0 hg h (fun x hx off H=>by
 have a:=AD7 (H 0 _ (by decide) rfl);have:=hs x hx;omega) h0
theorem BQ1{xs:List Int}(hg:RpB W g)(h:IE W v xs)(hs:∀x∈xs,1<=x)(h0:xs≠[]):UF v g:=Y0 hg h (fun x hx off H=>by
 have a:=AD7 (H 0 _ (by decide) rfl);have:=hs x hx;omega) h0
theorem B76{xs:List Nd}(hg:RpB W g)(h:IE W v xs)(hs:∀x∈xs,x.p≠[])(h0:xs≠[]):UF v g:=Y0 hg h (fun x hx off H=>by
 have a:=AO3 (H 0 _ (by decide) rfl);have:x.p=[]:=by simpa using a
 exact hs x hx this) h0
theorem Row.far[Lay α]{xs:List α}(h:Row W k v xs)(ht:Touch (· =g) W V)(ha:xs≠[]->UF v g):Row V k v xs:=by
 refine⟨?_,h.2⟩;exact(Row.touch (k:=g) ⟨h.1,ha⟩ ht).1
end
theorem C90{t:Tr}(h:QZ t):∀x∈t.ns,x.p≠[]:=fun x hx e=>by
 have:=(h.nod.ok x hx).path;rw[e]at this;exact absurd this (by decide)
theorem BQ2{N:Int}{q:Ps}(ok:MN N q):QZ (svP i q).tr/\∀x∈(svP i q).ws,1<=x.s:=by
 cases hu:q.up with
 |true=>rw[IZ hu];exact⟨ok.play.good ok.dn,fun x hx=>(ok.wk x hx).1⟩
 |false=>rw[TI hu];exact⟨aO,by simp⟩
theorem WX.reply(h:WX W k p)(hp:∀i,i<3->MN 300 (p.s i))(hg:RpB W g)(hk:k≠g)(ht:Touch (· =g) W V):WX V k p:=by
 obtain⟨f,hb,hr⟩:=h;refine⟨f,hb.touch ht hk,hr.n,fun i hi=>?_,hr.r,fun i hi=>⟨(hr.c i hi).s,(hr.c i hi).z,(hr.c i hi).e.far ht (B75 hg (hr.c i hi).e.1)⟩,hr.d.far ht (B74 hg hr.d.1),hr.h,hr.hk⟩;obtain⟨gt,gw⟩:=BQ2 (i:=i) (hp i hi);have s:=hr.s i hi;exact⟨s.up,s.d.far ht (BQ0 hg s.d.1),s.id,s.ep,s.l.far ht (B74 hg s.l.1),s.dn,s.z,s.n.far ht (B76 hg s.n.1 (C90 gt)),s.i.far ht (BQ1 hg s.i.1 fun x hx=>(gt.ses.2 x hx).1),s.w.far ht (A36 hg s.w.1 gw)⟩
theorem aY(W:FV)(g:Nat)(x0 x1 x2 x3 x4 x5 x6 x7 x8 x9 x10 x11:FW):Touch (· =g) W (fK W g x0 x1 x2 x3 x4 x5 x6 x7 x8 x9 x10 x11):=
 (((((((((((JJ _ _ _ _).trans (JJ _ _ _ _)).trans (JJ _ _ _ _)).trans (JJ _ _ _ _)).trans (JJ _ _ _ _)).trans (JJ _ _ _ _)).trans (JJ _ _ _ _)).trans (JJ _ _ _ _)).trans (JJ _ _ _ _)).trans (JJ _ _ _ _)).trans (JJ _ _ _ _)).trans (JJ _ _ _ _)
structure DT(k:Nat)(w W:FV)(d:Dd):Prop where
 t:Touch (· =k) w W
 r:RpB W (w.heap.size+1)
 d:JM W w.heap.size d
section
variable {k:Nat} {w W V:FV} {d:Dd}
theorem DB.dt(h:DB w W d)(k:Nat):DT k w W d:=⟨Touch.of_below h.b,h.r,h.d⟩
theorem DT.touch(h:DT k w W d)(hk:k<w.heap.size)(ht:Touch (· =k) W V):DT k w V d:=
 ⟨h.t.trans ht,h.r.touch ht (by omega),(ht.block _ h.d.ltz (by omega)).trans h.d⟩
theorem DT.next(h:DT k w W d)(hk:k<w.heap.size)(hb:B0 W V):DT k w V d:=h.touch hk (Touch.of_below hb)
theorem DT.cells(h:DT k w W d):(W.cell? ⟨w.heap.size,0,FZ⟩=G5 (I0 d.k)/\W.cell? ⟨w.heap.size,1,FZ⟩=G5 (I0 d.c)/\W.cell? ⟨w.heap.size,2,FZ⟩=G5 (I0 d.s)/\W.cell? ⟨w.heap.size,3,FZ⟩=G5 (I0 d.q.o)/\W.cell? ⟨w.heap.size,4,FZ⟩=G5 (I0 d.q.s)/\W.cell? ⟨w.heap.size,5,FZ⟩=G5 (S0 d.q.p)/\W.cell? ⟨w.heap.size,6,FZ⟩=G5 (S0 d.q.d))/\W.cell? ⟨w.heap.size,7,FZ⟩=G5 (I0 d.q.v)/\W.cell? ⟨w.heap.size,8,FZ⟩=G5 (I0 d.q.f)/\W.cell? ⟨w.heap.size,9,FZ⟩=G5 (I0 d.lo)/\W.cell? ⟨w.heap.size,10,FZ⟩=G5 (I0 d.sl)/\W.cell? ⟨w.heap.size,11,FZ⟩=G5 (I0 d.ke)/\W.cell? ⟨w.heap.size,12,FZ⟩=G5 (.bool d.wt):=by
 have r:=h.d.row;simp only[BI]at r;exact⟨⟨r 0 _ rfl,r 1 _ rfl,r 2 _ rfl,r 3 _ rfl,r 4 _ rfl,r 5 _ rfl,r 6 _ rfl⟩,r 7 _ rfl,r 8 _ rfl,r 9 _ rfl,r 10 _ rfl,r 11 _ rfl,r 12 _ rfl⟩
end
theorem rF{kd:Int}(hk:k<W.heap.size)(h:DT k W V d)(hx:WX V k p)(hp:∀i,i<3->MN 300 (p.s i)):
  Did W k kd (SV 0,p) (.returned (UC 0)) (fK V (W.heap.size+1) (I0 0) (I0 0) (.string ⟨#[]⟩) (.string ⟨#[]⟩) (I0 0) (I0 0) (I0 0) (I0 0) (I0 0) (I0 0) (I0 0) (N0)):=
 ⟨N0,rfl,.inl ⟨rfl,rfl⟩,KD h.t (by omega) _ _ _ _ _ _ _ _ _ _ _ _,fun _=>hx.reply hp h.r (by omega) (aY _ _ _ _ _ _ _ _ _ _ _ _ _ _)⟩
structure Sl where
 ad:Option Addr
 nd:Nat
 cd:Nat
 al:Option Addr
 cl:Nat
 an:Option Addr
 cn:Nat
 ai:Option Addr
 ci:Nat
 aw:Option Addr
 cw:Nat
def xI(s:Sv)(t:Sl):List FW:=[.bool s.up,FT t.ad t.nd t.cd,I0 s.id,I0 s.ep,FT t.al s.ts.length t.cl,I0 s.dn,I0 s.tr.z,FT t.an s.tr.ns.length t.cn,FT t.ai s.tr.ss.length t.ci,FT t.aw s.ws.length t.cw]
def xJ(s:Nat->Sv)(t:Nat->Sl):Array FW:=(xI (s 0) (t 0)++(xI (s 1) (t 1)++xI (s 2) (t 2))).toArray
theorem WX.sl(h:WX W k p):∃t:Nat->Sl,∀i,i<3->∀q v,(xI (svP i (p.s i)) (t i))[q]?=G5 v->W.cell? ⟨k,1+10*i+q,FZ⟩=G5 v:=by
 have e:∀i,∃t:Sl,i<3->∀q v,(xI (svP i (p.s i)) t)[q]?=G5 v->W.cell? ⟨k,1+10*i+q,FZ⟩=G5 v:=fun i=>by
  by_cases hi:i<3
  .obtain⟨ad,nd,cd,al,cl,an,cn,ai,ci,aw,cw,S,_,_⟩:=h.srv hi rfl;refine⟨⟨ad,nd,cd,al,cl,an,cn,ai,ci,aw,cw⟩,fun _ q v hq=>?_⟩;have hq10:q<10:=(AU.1 hq).1;rcases(show q=0\/q=1\/q=2\/q=3\/q=4\/q=5\/q=6\/q=7\/q=8\/q=9 by omega)with rfl|rfl|rfl|rfl|rfl|rfl|rfl|rfl|rfl|rfl
   .exact S.c0.trans hq
   .exact S.c1.trans hq
   .exact S.c2.trans hq
   .exact S.c3.trans hq
   .exact S.c4.trans hq
   .exact S.c5.trans hq
   .exact S.c6.trans hq
   .exact S.c7.trans hq
   .exact S.c8.trans hq
   .exact S.c9.trans hq
  .exact⟨⟨FZ,0,0,FZ,0,FZ,0,FZ,0,FZ,0⟩,fun h=>absurd h hi⟩
 exact⟨fun i=>(e i).choose,fun i hi=>(e i).choose_spec hi⟩
theorem CV3(s:Nat->Sv)(t:Nat->Sl):∀u:FV,(Instr.index 85 (.agg (xJ s t)) (I0 0)).run prog u=.ok (.agg (xI (s 0) (t 0)).toArray) u:=fun _=>by kernel_rfl
theorem CV4(s:Nat->Sv)(t:Nat->Sl):∀u:FV,(Instr.index 85 (.agg (xJ s t)) (I0 1)).run prog u=.ok (.agg (xI (s 1) (t 1)).toArray) u:=fun _=>by kernel_rfl
theorem CV5(s:Nat->Sv)(t:Nat->Sl):∀u:FV,(Instr.index 85 (.agg (xJ s t)) (I0 2)).run prog u=.ok (.agg (xI (s 2) (t 2)).toArray) u:=fun _=>by kernel_rfl
theorem C91(s:Nat->Sv)(t:Nat->Sl)(m:Nat)(hm:m<3)(u:FV):(Instr.index 85 (.agg (xJ s t)) (I0 m)).run prog u=.ok (.agg (xI (s m) (t m)).toArray) u:=by
 rcases(show m=0\/m=1\/m=2 by omega)with rfl|rfl|rfl
 .exact CV3 s t u
 .exact CV4 s t u
 .exact CV5 s t u
theorem AO4(w:FV)(k:Nat)(s:Nat->Sv)(t:Nat->Sl)(hc:∀i,i<3->∀q v,(xI (s i) (t i))[q]?=G5 v->w.cell? ⟨k,1+10*i+q,FZ⟩=G5 v):
  (Instr.loadAt 85 (.pointer (G5 ⟨k,1,FZ⟩))).run prog w=.ok (.agg (xJ s t)) w:=by
 have hl:=run_loadCells_list (P:=prog) (w:=w) ⟨k,1,FZ⟩ (xJ s t).toList (fun j v hj=>by
  rw[Addr.add_lit];show w.cell? ⟨k,1+j,FZ⟩=G5 v;have hj':(xI (s 0) (t 0)++(xI (s 1) (t 1)++xI (s 2) (t 2)))[j]?=G5 v:=hj;have l0:(xI (s 0) (t 0)).length=10:=rfl;have l1:(xI (s 1) (t 1)).length=10:=rfl;by_cases h0:j<10
  .rw[BK (by omega)]at hj';exact hc 0 (by omega) j v hj'
  .rw[BA (by omega),l0]at hj';by_cases h1:j<20
   .rw[BK (by omega)]at hj';have:=hc 1 (by omega) (j-10) v hj';rwa[show 1+10*1+(j-10)=1+j by omega]at this
   .rw[BA (by omega),l1]at hj';have:=hc 2 (by omega) (j-10-10) v hj';rwa[show 1+10*2+(j-10-10)=1+j by omega]at this)
 have h30:(xJ s t).toList.length=30:=rfl;rw[h30]at hl;simp only[Instr.loadAt,Instr.sureAddr,Sem.run_bind,Sem.run_pure,Result.andThen];unfold loadVar;simp only[Sem.run_bind,isAgg85,sizeOf85,Result.andThen,if_true];rw[hl];rfl
theorem rG{w:FV}{ops:Array Oper}{rest:List Oper}{o:Oper}{a:Act}{Q:Exit->Act->FV->Prop}(hgd:o.guard=FZ)(x:Operand)(ho:o.op=.load 85 x)(k:Nat)(s:Nat->Sv)(t:Nat->Sl)
  (hx:a.eval x=.pointer (G5 ⟨k,1,FZ⟩)) (hc:∀i,i<3->∀q v,(xI (s i) (t i))[q]?=G5 v->w.cell? ⟨k,1+10*i+q,FZ⟩=G5 v)
  (h:wpList prog ops Q rest (a.put o.dst (.agg (xJ s t))) w):wpList prog ops Q (o::rest) a w:=by
 refine wpList_plain hgd fun K hK=>?_;have hr:=AO4 w k s t hc;unfold Oper.wp execOp;simp only[ho,Sem.run_bind,Sem.run_pure,Result.andThen_ok,hx,hr];exact hK _ _ h
def vot(s:Nat->Ps)(j:Nat):List Int:=(([0,1,2].take j).filter fun i=>(s i).up).map fun i:Nat=>(i:Int)
theorem C96{s:Nat->Ps}(hj:j<3)(h:(s j).up=true):vot s (j+1)=vot s j++[(j:Int)]:=by
 rcases(show j=0\/j=1\/j=2 by omega)with rfl|rfl|rfl<;>simp[vot,List.filter_cons,h]<;>(repeat' split)<;>simp
theorem CM7{s:Nat->Ps}(hj:j<3)(h:(s j).up=false):vot s (j+1)=vot s j:=by
 rcases(show j=0\/j=1\/j=2 by omega)with rfl|rfl|rfl<;>simp[vot,List.filter_cons,h]
theorem C97(s:Nat->Ps)(j:Nat):(vot s j).length<=3:=by
 rw[vot,EH];exact BN (List.length_filter_le _ _) (by simp;omega)
theorem C98(s:Nat->Ps):vot s 3=(JX s).map fun i:Nat=>(i:Int):=rfl
theorem BQ5(i:Nat)(q:Ps):(svP i q).up=q.up:=by
 cases h:q.up
 .rw[TI h]
 .rw[IZ h]
theorem kW{U:FV}(h:B0 W V)(hg:V.grownBy U v.ownBlock)(hn:∀g,v.ownBlock=G5 g->W.heap.size<=g):B0 W U:=
 ⟨hg.os.trans h.os,hg.tape.trans h.tape,hg.output.trans h.output,BN h.size hg.size,fun b hb=>(hg.block b (AX hb h.size) (fun e=>by have:=hn b e.symm;omega)).trans (h.block b hb)⟩
theorem B78[Lay α]{xs:List α}(h:H7 W B v xs):∀g,v.ownBlock=G5 g->B<=g:=fun g hg=>by
 rcases h with⟨rfl,_⟩|⟨g',cap,rfl,hB,_⟩
 .simp[DC]at hg
 .simp only[DC,BD]at hg;omega
theorem oD(p:Pw)(k:Nat)(W:FV)(hx:WX W k p):FX prog 59 #[wP k] W fun e w'=>∃v,e=.returned v/\H7 w' W.heap.size v ((JX p.s).map fun i:Nat=>(i:Int))/\B0 W w':=by
 obtain⟨t,ht⟩:=hx.sl;have HT:=G7 ht;have IX:=G7 (fun(m:Nat) (hm:m<3) (u:FV)=>C91 (fun i=>svP i (p.s i)) t m hm u);obtain⟨i0,hi0,hz0,hz1,hz2⟩:=zX;clear hx ht;unfold wP;go_enter func59,ntmps59;go_wp2_with (refine rG rfl _ rfl k (fun i=>svP i (p.s i)) t rfl (G6 HT) ?_);clear HT
 go_loopg [3,10] 3 (fun kx s3 s10 wr=>∃j:Nat,∃a c,s10=I0 j/\s3=FT a (vot p.s j).length c/\j<=3/\3-j<=kx/\Hid (H7 wr W.heap.size (FT a (vot p.s j).length c) (vot p.s j)/\B0 W wr))
 case atStart=>exact⟨0,FZ,0,rfl,rfl,by omega,A8 _,G7 ⟨.inl ⟨rfl,rfl⟩,Below.refl _ _⟩⟩
 case round=>
  obtain⟨j,a,c,rfl,rfl,hj,hg,HI⟩:=hrel;by_cases hlt:j<3
  .have IXm:=G6 IX j hlt;have hl:=C97 p.s j;have hjj:(j:Int)<3:=by omega
   have eu:=BQ5 j (p.s j);unfold xI at IXm;generalize svP j (p.s j)=s0 at*;generalize t j=tj at*;obtain⟨up,fs,id,ep,ts,dn,tr,ws⟩:=s0;simp only at eu IXm;subst eu;by_cases hu:(p.s j).up=true
   .have HS:=G7 (C96 hlt hu);rw[hu]at IXm;clear hu;go_upto_region 5 with fail;have B2:=G7 (G9 (G6 HI).2 (G8 wr (FU #[.bool true,FT tj.ad tj.nd tj.cd,I0 id,I0 ep,FT tj.al ts.length tj.cl,I0 dn,I0 tr.z,FT tj.an tr.ns.length tj.cn,FT tj.ai tr.ss.length tj.ci,FT tj.aw ws.length tj.cw] 61)));have O2:=G7 ((G6 HI).1.next (G8 wr (FU #[.bool true,FT tj.ad tj.nd tj.cd,I0 id,I0 ep,FT tj.al ts.length tj.cl,I0 dn,I0 tr.z,FT tj.an tr.ns.length tj.cn,FT tj.ai tr.ss.length tj.ci,FT tj.aw ws.length tj.cw] 61)));have E2:=(heap_alloc_new wr (FU #[.bool true,FT tj.ad tj.nd tj.cd,I0 id,I0 ep,FT tj.al ts.length tj.cl,I0 dn,I0 tr.z,FT tj.an tr.ns.length tj.cn,FT tj.ai tr.ss.length tj.ci,FT tj.aw ws.length tj.cw] 61));generalize wr.alloc _=W2 at*;have e0:W2.cell? ⟨wr.heap.size,0,FZ⟩=G5 (.bool true):=by simp[AV,E2]
    clear HI IXm IX E2;have O3:=G7 (fun O=>(G6 O2).next (G8 W2 O));have S3:=G7 (fun O=>BN (G6 B2).size (G8 W2 O).size);go_wp2_with (at_builtin;refine kV rfl _ _ 56 rfl i0 _ 8 underlying56 hi0 hz0 hz1 hz2 rfl (by decide) _ (vot p.s j) rfl W.heap.size (G6 O3 _) W2.heap.size rfl (j:Int) (qJ W2 j) (by omega) (by simp only[maxLen];omega) (G6 S3 _) ?_);intro a8 c8 w8 ho8 hg8;have HO:=G7 ho8;have HB:=G7 (kW (G9 (G6 B2) (G8 W2 _)) hg8 (B78 (G6 O2)));clear ho8 hg8 O3 S3 B2 O2;go_wp2_with fail
    go_roundg (3-(j+1))
    case measure=>omega
    case rel=>exact⟨j+1,a8,c8,by simp,by rw[G6 HS,AO];rfl,by omega,A8 _,G7 ⟨by rw[G6 HS,AO];exact G6 HO,G6 HB⟩⟩
   .have HS:=G7 (CM7 hlt (by simpa using hu));rw[show (p.s j).up=false by simpa using hu]at IXm;clear hu;go_upto_region 5 with fail;have B2:=G7 (G9 (G6 HI).2 (G8 wr (FU #[.bool false,FT tj.ad tj.nd tj.cd,I0 id,I0 ep,FT tj.al ts.length tj.cl,I0 dn,I0 tr.z,FT tj.an tr.ns.length tj.cn,FT tj.ai tr.ss.length tj.ci,FT tj.aw ws.length tj.cw] 61)));have O2:=G7 ((G6 HI).1.next (G8 wr (FU #[.bool false,FT tj.ad tj.nd tj.cd,I0 id,I0 ep,FT tj.al ts.length tj.cl,I0 dn,I0 tr.z,FT tj.an tr.ns.length tj.cn,FT tj.ai tr.ss.length tj.ci,FT tj.aw ws.length tj.cw] 61)));have E2:=(heap_alloc_new wr (FU #[.bool false,FT tj.ad tj.nd tj.cd,I0 id,I0 ep,FT tj.al ts.length tj.cl,I0 dn,I0 tr.z,FT tj.an tr.ns.length tj.cn,FT tj.ai tr.ss.length tj.ci,FT tj.aw ws.length tj.cw] 61));generalize wr.alloc _=W2 at*;have e0:W2.cell? ⟨wr.heap.size,0,FZ⟩=G5 (.bool false):=by simp[AV,E2]
    clear HI IXm IX E2;go_wp2_with fail
    go_roundg (3-(j+1))
    case measure=>omega
    case rel=>exact⟨j+1,a,c,by simp,by rw[G6 HS],by omega,A8 _,G7 ⟨by rw[G6 HS];exact G6 O2,G6 B2⟩⟩
  .obtain rfl:j=3:=by omega
   go_wp2_with fail;go_ret;exact⟨_,rfl,by rw[<-C98];exact(G6 HI).1,(G6 HI).2⟩
theorem WX.sl2(h:WX W k p):∃t:Nat->Sl,∀i,i<3->Srv W k (1+10*i) (svP i (p.s i)).up (svP i (p.s i)).id (svP i (p.s i)).ep (svP i (p.s i)).dn (svP i (p.s i)).tr.z (FT (t i).ad (t i).nd (t i).cd) (FT (t i).al (svP i (p.s i)).ts.length (t i).cl) (FT (t i).an (svP i (p.s i)).tr.ns.length (t i).cn) (FT (t i).ai (svP i (p.s i)).tr.ss.length (t i).ci) (FT (t i).aw (svP i (p.s i)).ws.length (t i).cw)/\NT W (FT (t i).al (svP i (p.s i)).ts.length (t i).cl) (svP i (p.s i)).ts:=by
 have e:∀i,∃t:Sl,i<3->Srv W k (1+10*i) (svP i (p.s i)).up (svP i (p.s i)).id (svP i (p.s i)).ep (svP i (p.s i)).dn (svP i (p.s i)).tr.z (FT t.ad t.nd t.cd) (FT t.al (svP i (p.s i)).ts.length t.cl) (FT t.an (svP i (p.s i)).tr.ns.length t.cn) (FT t.ai (svP i (p.s i)).tr.ss.length t.ci) (FT t.aw (svP i (p.s i)).ws.length t.cw)/\NT W (FT t.al (svP i (p.s i)).ts.length t.cl) (svP i (p.s i)).ts:=fun i=>by
  by_cases hi:i<3
  .obtain⟨ad,nd,cd,al,cl,an,cn,ai,ci,aw,cw,S,hv,_⟩:=h.srv hi rfl;obtain⟨vd,vl,vn,vs,vw,e,_,r2,_⟩:=hv;simp only[EM,F6,EG]at e;exact⟨⟨ad,nd,cd,al,cl,an,cn,ai,ci,aw,cw⟩,fun _=>⟨S,by rw[<-e.2.2.2.2.1]at r2;exact r2⟩⟩
  .exact⟨⟨FZ,0,0,FZ,0,FZ,0,FZ,0,FZ,0⟩,fun h=>absurd h hi⟩
 exact⟨fun i=>(e i).choose,fun i hi=>(e i).choose_spec hi⟩
noncomputable def peP(p:Pw)(t:Nat->Sl)(i:Nat):Pe:=⟨(svP i (p.s i)).id,(svP i (p.s i)).ep,(t i).al,(t i).cl,(svP i (p.s i)).ts,(svP i (p.s i)).dn⟩
theorem B79(w:FV)(i e:Int)(a:Option Addr)(c:Nat)(ts:List GK)(d:Int):JM (w.alloc (FU #[I0 i,I0 e,FT a ts.length c,I0 d] 54)) w.heap.size (⟨i,e,a,c,ts,d⟩:Pe):=heap_alloc_new w _
theorem CM8{t:Nat->Sl}(h:(p.s i).up=true):kk (peP p t i)=((i:Int),(p.s i).e,J3 (p.s i).m):=by
 simp only[kk,peP,IZ h]
theorem oG(p:Pw)(k:Nat)(W:FV)(v:FW)(l:List Nat)(hx:WX W k p)(hv:IE W v (l.map fun i:Nat=>(i:Int)))(hl:∀i∈l,i<3)(hln:l.length<=3):
  FX prog 61 #[wP k,v] W fun e w'=>∃u t,e=.returned u/\H7 w' W.heap.size u (l.map (peP p t))/\qP w' (l.map (peP p t))/\B0 W w':=by
 obtain⟨t,ht⟩:=hx.sl2;have HT:=G7 ht;have HV:=G7 hv;have HL:=G7 hl;have hkl:=hx.lt;obtain⟨i0,hi0,hz0,hz1,hz2⟩:=CU9;obtain⟨a,c,rfl⟩:=GL hv;rw[EH]at HV⊢;clear hx ht hv hl;unfold wP;go_enter func61,ntmps61;go_wp2_with fail
 go_loopg [5,10] l.length (fun kx s5 s10 wr=>∃j:Nat,∃a c,s10=I0 j/\s5=FT a j c/\j<=l.length/\l.length-j<=kx/\Hid (H7 wr W.heap.size (FT a j c) ((l.take j).map (peP p t))/\B0 W wr))
 case atStart=>exact⟨0,FZ,0,rfl,rfl,by omega,A8 _,G7 ⟨.inl ⟨rfl,rfl⟩,Below.refl _ _⟩⟩
 case round=>
  obtain⟨j,a2,c2,rfl,rfl,hj,hg,HI⟩:=hrel;by_cases hlt:j<l.length
  .obtain⟨i,hi⟩:∃i,l[j]?=G5 i:=⟨_,List.getElem?_eq_getElem hlt⟩;have hi3:=G6 HL i (AZ hi);have HS:=G7 (show (l.take (j+1)).map (peP p t)=(l.take j).map (peP p t)++[peP p t i] by rw[PX hi,List.map_append];rfl);have hlj:((l.take j).map (peP p t)).length=j:=by simp;omega
   obtain⟨b,off,cap,he,hb,hrow,_,_⟩:=N8 ((G6 HV).next (G6 HI).2) (by intro h0;rw[List.map_eq_nil_iff]at h0;rw[h0]at hlt;simp at hlt);simp only[EH,AP]at he;obtain⟨rfl,_,rfl⟩:=he;have d0:=hrow.i0 (i:=j) (x:=(i:Int)) (by rw[List.getElem?_map,hi];rfl);obtain⟨_,_,e2,e3,e4,e5,_⟩:=(G6 HT i hi3).1.next hkl (G6 HI).2;rw[Nat.mul_comm 10 i]at e2 e3 e4 e5;have hjj:(j:Int)<(l.length:Int):=by omega
   have hi4:(i:Int)<3:=by omega
   have B2:=G7 (G6 HI).2;have O2:=G7 (G6 HI).1;clear HI hrow hi HV;generalize hs0:svP i (p.s i)=s0 at*;have HP:Hid (peP p t i=⟨s0.id,s0.ep,(t i).al,(t i).cl,s0.ts,s0.dn⟩):=G7 (by rw[peP,hs0]);clear hs0;have O3:=G7 (fun O=>(G6 O2).next (G8 wr O));have S3:=G7 (fun O=>BN (G6 B2).size (G8 wr O).size);go_wp2_with (at_builtin;refine kV rfl _ _ 141 rfl i0 _ 48 underlying141 hi0 hz0 hz1 hz2 rfl (by decide) _ ((l.take j).map (peP p t)) rfl W.heap.size (G6 O3 _) wr.heap.size rfl (⟨s0.id,s0.ep,(t i).al,(t i).cl,s0.ts,s0.dn⟩:Pe) (B79 wr _ _ _ _ _ _) (by rw[hlj];omega) (by rw[hlj];simp only[maxLen];omega) (G6 S3 _) ?_);intro a8 c8 w8 ho8 hg8;have HO:=G7 ho8;have HB:=G7 (kW (G9 (G6 B2) (G8 wr _)) hg8 (B78 (G6 O2)));clear ho8 hg8 O3 S3 B2 O2;go_wp2_with fail
   go_roundg (l.length-(j+1))
   case measure=>omega
   case rel=>exact⟨j+1,a8,c8,by simp,rfl,by omega,A8 _,G7 ⟨by rw[G6 HS,G6 HP,List.map_take];exact G6 HO,G6 HB⟩⟩
  .obtain rfl:j=l.length:=by omega
   rw[DV]at HI;go_wp2_with fail;go_ret;exact⟨_,t,rfl,(G6 HI).1,fun q hq=>by
    obtain⟨i,hi,rfl⟩:=List.mem_map.1 hq;exact((G6 HT i (G6 HL i hi)).2).next (G6 HI).2,(G6 HI).2⟩
theorem BQ6{m:List GK}{t:GK}(e:Int)(h:Logs (m++[t]))(hl:m.length<=300):YJ 154 (fun x=>#[x,J7 t,.bool true]) [Y8 e,OU m] [Y8 e,OU (m++[t])] 0:=by
 have hg:=(Logs.at (a:=m) (b:=[]) h).1;have hx:=rD e;have h1:=qU h.left hl;have h2:=iO hg;have g0:LP [Y8 e,OU m]:=TG hx (by simp;omega);have g1:LP [Y8 e,⟨NU,IB m,QO t⟩]:=TG hx (by omega);refine nS [Y8 e,OU m] [Y8 e,⟨NU,IB m,QO t⟩] [Y8 e,OU (m++[t])] t 0 hg (MR fun v W hv=>?_) (dJ fun v W hv=>?_)
 .have:=jG v [Y8 e,OU m] [Y8 e] [] (OU m) NU (QO t) W hv (JQ g0) g0 (kG _ _ _ _) (by simp only[OU,EU];omega);simpa [OU]using this
 .have:=XQ v [Y8 e,⟨NU,IB m,QO t⟩] [Y8 e] [] ⟨NU,IB m,QO t⟩ NU W hv (JQ g1) g1 (kG _ _ _ _);simpa [OU,PL]using this
theorem CM9{m:List GK}{e0:Int}(he:zIn e=true)(hm:(IB m).length<=1048576):kC 102 (fun x=>#[x,I0 e]) (epD e0++[OU m]) [Y8 e,OU m] 0:=by
 by_cases h0:e0=0
 .subst h0;rw[AC2];exact C63 he hm
 .rw[A30 h0];have hx:=ZX (KY e 0);have g0:LP [Y8 e0,OU m]:=TG (rD e0) (by simpa using hm);have gl:LP [OU m]:=aS (by simpa using hm);have g1:LP [⟨JG,[],QJ (KY e 0)⟩,OU m]:=TG (by simp;omega) (by simpa using hm);refine A21 [Y8 e0,OU m] [OU m] [⟨JG,[],QJ (KY e 0)⟩,OU m] [Y8 e,OU m] e 0 (TP he (by decide)).2 (MR fun v W hv=>?_) (MR fun v W hv=>?_) (MR fun v W hv=>?_)
  .exact uP v [Y8 e0,OU m] [] [OU m] (Y8 e0) JG W hv (JQ g0) g0 (aU _ _ _ _)
  .exact aF v [OU m] [] [OU m] JG (QJ (KY e 0)) W hv (JQ gl) gl YT (by simp) (dM (IB m) []) (by omega)
  .have:=XQ v _ [] [OU m] ⟨JG,[],QJ (KY e 0)⟩ JG W hv (JQ g1) g1 (aU [] (QJ (KY e 0)) (IB m) []);simpa [Y8]using this
theorem B80{a b:List GK}(ha:Logs a)(hp:∀x∈a,0<x.z){z:Int}(hz:CU4 b (KW a b) z):SQ z a=a.take (KW a b):=by
 rcases hz with⟨h0,rfl⟩|⟨x,h0,hx,rfl⟩
 .rw[h0,List.take_zero]
  cases a with
  |nil=>rfl
  |cons t r=>
   have:=hp t (by simp);unfold SQ;rw[List.takeWhile_cons_of_neg (by simp;omega)]
 .obtain⟨x',y',h1,h2,h3⟩:=jS a b (KW a b-1) (by omega);rw[hx]at h2
  cases h2
  rw[<-h3,C64 ha h1,show KW a b-1+1=KW a b by omega]
theorem CN0(a b:List GK):∃z,CU4 b (KW a b) z:=by
 by_cases h0:KW a b=0
 .exact⟨-1,.inl ⟨h0,rfl⟩⟩
 .obtain⟨x,y,_,h2,_⟩:=jS a b (KW a b-1) (by omega);exact⟨y.z,.inr ⟨y,by omega,h2,rfl⟩⟩
theorem BQ7{a b:List GK}(h:∀x∈a,∀y∈b,x.z=y.z->x=y):a.take (KW a b)=b.take (KW a b):=by
 obtain⟨k1,k2⟩:=WT a b
 apply List.ext_getElem?
 intro i;by_cases hi:i<KW a b
 .obtain⟨x,y,h1,h2,h3⟩:=jS a b i hi;rw[List.getElem?_take_of_lt hi,List.getElem?_take_of_lt hi,h1,h2,h x (AZ h1) y (AZ h2) h3]
 .rw[List.getElem?_eq_none (by simp;omega),List.getElem?_eq_none (by simp;omega)]
theorem B81{q b:Ps}(ok:MN 300 q)(hu:q.up=true)(okb:MN 300 b)(he:1<=e/\e<=300)(hd:q.dn<=KW q.m b.m)(h1:∀x∈q.m,∀y∈b.m,x.z=y.z->x=y)(v vl:FW)(w:FV)(hv:SvV w v (svP i q))(hvl:NT w vl b.m)(ht:Z5 w):
  FX prog 62 #[v,vl,I0 e] w (dK w (svP i (wV e b.m q)) 0):=by
 obtain⟨r1,r2⟩:=ok.small;obtain⟨b1,b2⟩:=okb.small;have r3:=UD q.m q.a;obtain⟨z,hz⟩:=CN0 q.m b.m;have hzi:zIn e=true:=PK.2 ⟨by omega,by omega⟩;have hs:=BQ7 h1;obtain⟨k1,k2⟩:=WT q.m b.m;have hts:(svP i q).ts=q.m:=by rw[IZ hu]
 have G:NC 101 (fun g=>#[g,I0 z]) (svP i q).fs (epD q.e++[OU (q.m.take (KW q.m b.m))]) 0:=by
  have R:YI (epD q.e++[⟨NU,IB (q.m.take q.a),IB (q.m.drop q.a)⟩]) q.m (epD q.e) []:=⟨ZC (by omega),ok.log,.inr ⟨_,[],gX _ _ _,by
   have:=sU ok.log;rw[<-LH,DU];exact this⟩⟩
  have:=BN6 R z;rw[B80 ok.log ok.pos hz]at this;rw[IZ hu];exact this
 have hlk:Logs (q.m.take (KW q.m b.m)):=ok.log.take _;have hrk:(IB (q.m.take (KW q.m b.m))).length<=146100:=qU hlk (by simp;omega);have R:=CM9 (e0:=q.e) hzi (show (IB (q.m.take (KW q.m b.m))).length<=1048576 by omega);have gd:LP [Y8 e,OU (q.m.take (KW q.m b.m))]:=TG (rD e) (by simp;omega);have hbb:b.m=b.m.take (KW q.m b.m)++b.m.drop (KW q.m b.m):=(DU _ _).symm;have step:∀j x,(b.m.drop (KW q.m b.m))[j]?=G5 x->CK7 ⟨true,[Y8 e,OU (q.m.take (KW q.m b.m)++(b.m.drop (KW q.m b.m)).take j)],i,e,q.m.take (KW q.m b.m)++(b.m.drop (KW q.m b.m)).take j,q.dn,RZ q.m q.dn,q.ws⟩ x ⟨true,[Y8 e,OU (q.m.take (KW q.m b.m)++(b.m.drop (KW q.m b.m)).take (j+1))],i,e,q.m.take (KW q.m b.m)++(b.m.drop (KW q.m b.m)).take (j+1),q.dn,RZ q.m q.dn,q.ws⟩:=by
  intro j x hx;have e1:b.m=(q.m.take (KW q.m b.m)++(b.m.drop (KW q.m b.m)).take j)++x::(b.m.drop (KW q.m b.m)).drop (j+1):=by
   rw[hs,BR,<-BN7 hx];exact hbb
  have e2:q.m.take (KW q.m b.m)++(b.m.drop (KW q.m b.m)).take (j+1)=(q.m.take (KW q.m b.m)++(b.m.drop (KW q.m b.m)).take j)++[x]:=by rw[PO hx,BR]
  have hL:=okb.log;rw[e1]at hL;have hg:=hL.good x (by simp);have hL1:Logs ((q.m.take (KW q.m b.m)++(b.m.drop (KW q.m b.m)).take j)++[x]):=by
   have:Logs (((q.m.take (KW q.m b.m)++(b.m.drop (KW q.m b.m)).take j)++[x])++(b.m.drop (KW q.m b.m)).drop (j+1)):=by simpa using hL
   exact this.left
  have hx2:=XD hg;have hlen:(q.m.take (KW q.m b.m)++(b.m.drop (KW q.m b.m)).take j).length<=300:=by
   have:=congrArg List.length e1;rw[AO]at this;omega
  have hlast:¬x.z<=J3 (q.m.take (KW q.m b.m)++(b.m.drop (KW q.m b.m)).take j):=by
   intro hle;by_cases hn:q.m.take (KW q.m b.m)++(b.m.drop (KW q.m b.m)).take j=[]
   .rw[hn,VU]at hle;have:=okb.pos x (List.mem_of_mem_drop (AZ hx));omega
   .obtain⟨y,hy,hyz⟩:=ZL hn;have:=(List.pairwise_append.1 hL1.rise).2.2 y hy x (by simp);omega
  refine⟨hlast,by omega,by omega,BN hlen (by decide),[Y8 e,OU ((q.m.take (KW q.m b.m)++(b.m.drop (KW q.m b.m)).take j)++[x])],by rw[e2],BQ6 e hL1 hlen⟩
 have main:=B49 (svP i q) v vl b.m e w hv hvl (ok.fits hu) (by omega) ht (by rw[hts,IZ hu];show ¬ ((KW q.m b.m:Nat):Int)<(q.dn:Int);omega) z _ _ (by rw[hts];exact hz) G R gd (fun j=>⟨true,[Y8 e,OU (q.m.take (KW q.m b.m)++(b.m.drop (KW q.m b.m)).take j)],i,e,q.m.take (KW q.m b.m)++(b.m.drop (KW q.m b.m)).take j,q.dn,RZ q.m q.dn,q.ws⟩) (by rw[hts,IZ hu];simp) (by rw[hts];exact step);rw[hts]at main;have e3:svP i (wV e b.m q)=⟨true,[Y8 e,OU (q.m.take (KW q.m b.m)++(b.m.drop (KW q.m b.m)).take (b.m.drop (KW q.m b.m)).length)],i,e,q.m.take (KW q.m b.m)++(b.m.drop (KW q.m b.m)).take (b.m.drop (KW q.m b.m)).length,q.dn,RZ q.m q.dn,q.ws⟩:=by
  have et:RZ q.m q.dn=RZ b.m q.dn:=by
   rw[<-kL q.m hd,<-kL b.m hd,hs]
  rw[DV,hs,DU,et,IZ (p:=wV e b.m q) rfl];simp[wV,A30 (show e≠0 by omega),OU,IB]
 rw[e3];exact main
theorem xO{q b:Ps}(ok:MN 300 q)(hu:q.up=true)(okb:MN 300 b)(hd:KW q.m b.m<q.dn)(v vl:FW)(w:FV)(hv:SvV w v (svP i q))(hvl:NT w vl b.m):
  FX prog 62 #[v,vl,I0 e] w (nT w 13):=by
 obtain⟨b1,b2⟩:=okb.small;exact AN2 (svP i q) v vl b.m e w hv hvl (ok.fits hu) (by omega) (by rw[IZ hu];show ((KW q.m b.m:Nat):Int)<(q.dn:Int);omega)
