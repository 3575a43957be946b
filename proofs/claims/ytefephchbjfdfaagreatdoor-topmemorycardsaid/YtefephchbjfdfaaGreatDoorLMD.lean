/-
  Part.
-/
import Derived.Test.YtefephchbjfdfaaGreatDoorLMC
set_option maxRecDepth 20000
set_option maxHeartbeats 8000000
namespace Go.Proofs.YtefephchbjfdfaaGreatDoor
open Go.RowKit
def WW:List UInt8->Option (List UInt8×List UInt8)
 |[]=>none
 |c::l=>match WW l with
  |some (a,b)=>some (c::a,b)
  |none=>if c=47 then some ([],l)else none
theorem fH:∀b:List UInt8,47∉b->WW b=none
 |[],_=>rfl
 |c::l,h=>by
  have h1:c≠47:=by rintro rfl;simp at h
  rw[WW,fH l (by simp at h;exact h.2)];simp[h1]
theorem TV(b:List UInt8)(hb:47∉b):∀a:List UInt8,WW (a++47::b)=some (a,b)
 |[]=>by simp[WW,fH b hb]
 |c::a=>by simp[WW,TV b hb a]
def CG7(a:List UInt8):List UInt8:=if a=[]then [47]else a
def IL(p:List UInt8):List UInt8:=if J8 p=true/\p≠[47]then(match WW p with
 |some (a,_)=>CG7 a
 |none=>[])else []
def OD(p:List UInt8):List UInt8:=if J8 p=true/\p≠[47]then(match WW p with
 |some (_,b)=>b
 |none=>[])else []
def AS1(p:List UInt8):Int:=if J8 p=true then(if p=[47]then 7 else 0)else 2
theorem jF{p:List UInt8}(h:J8 p=true):∃r,p=47::r:=by
 simp only[J8,Bool.and_eq_true]at h;have h1:=h.1.2
 cases p with
 |nil=>simp[Lib.hasPrefix,List.isPrefixOf]at h1
 |cons c r=>simp[Lib.hasPrefix,List.isPrefixOf]at h1;exact⟨r,by rw[h1]⟩
theorem AV0:J8 []=false:=by decide+kernel
theorem aK{p:List UInt8}(h:J8 p=true):∃a b,p=a++47::b/\47∉b:=by
 obtain⟨r,rfl⟩:=jF h;exact nI _ (by simp)
theorem aO{a b:List UInt8}(h:J8 (a++47::b)=true)(hn:a++47::b≠[47])(hb:47∉b):IL (a++47::b)=CG7 a:=by
 rw[IL,if_pos ⟨h,hn⟩,TV b hb a]
theorem AH0{a b:List UInt8}(h:J8 (a++47::b)=true)(hn:a++47::b≠[47])(hb:47∉b):OD (a++47::b)=b:=by
 rw[OD,if_pos ⟨h,hn⟩,TV b hb a]
theorem aP{p:List UInt8}(h:J8 p=false):IL p=[]:=by rw[IL,if_neg (by simp[h])]
theorem AH1{p:List UInt8}(h:J8 p=false):OD p=[]:=by rw[OD,if_neg (by simp[h])]
theorem UJ:IL [47]=[]:=by rw[IL,if_neg (by simp)]
theorem zN:OD [47]=[]:=by rw[OD,if_neg (by simp)]
theorem A80{p:List UInt8}(h:J8 p=false):AS1 p=2:=by rw[AS1,if_neg (by simp[h])]
theorem uS:AS1 [47]=7:=by rw[AS1,if_pos dR,if_pos rfl]
theorem AV1{p:List UInt8}(h:J8 p=true)(hn:p≠[47]):AS1 p=0:=by rw[AS1,if_pos h,if_neg hn]
theorem qH{p:List UInt8}(h:J8 p=true)(hn:p≠[47]):IL p≠p/\IL p≠[]:=by
 obtain⟨a,b,rfl,hb⟩:=aK h;rw[aO h hn hb,CG7]
 split
 .rename_i h0;subst h0
  exact⟨fun e=>hn (by simpa using e.symm),by simp⟩
 .rename_i h0
  refine⟨fun e=>?_,h0⟩;have:=congrArg List.length e;simp at this
structure Nd where
 p:List UInt8
 d:List UInt8
 c:Int
 m:Int
 q:Int
 v:Int
 k:Int
 o:Int
 n:Int
instance:Inhabited Nd:=⟨⟨[],[],0,0,0,0,0,0,0⟩⟩
structure Tr where
 z:Int
 ns:List Nd
 ss:List Int
def tr0:Tr:=⟨0,[],[]⟩
def zO:Nd:=⟨[47],[],0,0,0,0,0,0,0⟩
def QW:Tr:=⟨0,[zO],[]⟩
def uD(ns:List Nd):Prop:=ns.Pairwise fun a b=>bl a.p b.p=true
def OG(ns:List Nd)(p:List UInt8):Nat:=ns.countP fun x=>decide (IL x.p=p)
structure NOk(z:Int)(ns:List Nd)(ss:List Int)(n:Nd):Prop where
 data:n.d.length<=256
 path:J8 n.p=true
 up:n.p≠[47]->∃u∈ns,u.p=IL n.p
 c0:0<=n.c
 cm:n.c<=n.m
 cq:n.c<=n.q
 mz:n.m<=z
 qz:n.q<=z
 v0:0<=n.v
 v1:n.v<=2147483647
 k0:0<=n.k
 kids:n.n=OG ns n.p
 own:n.o=0\/n.o∈ss/\n.n=0
structure PZ(z:Int)(ns:List Nd)(ss:List Int):Prop where
 few:ns.length<=400
 root:∃r rest,ns=r::rest/\r.p=[47]/\r.o=0
 asc:uD ns
 ok:∀n∈ns,NOk z ns ss n
def qI(ss:List Int):Prop:=ss.Pairwise (· < ·)/\∀s∈ss,1<=s/\s<=2147483647
structure RX(t:Tr):Prop where
 zx:KP t.z=true
 ses:qI t.ss
 nod:PZ t.z t.ns t.ss
 cap:∀n∈t.ns,n.k<=2147483647
noncomputable def UK(t:Tr):Bool:= @decide (RX t) (Classical.propDecidable _)
theorem SV{t:Tr}:UK t=true↔RX t:=by unfold UK;exact @decide_eq_true_iff _ (Classical.propDecidable _)
theorem ZI{t:Tr}:UK t=false↔¬RX t:=by unfold UK;exact @decide_eq_false_iff_not _ (Classical.propDecidable _)
theorem UL{ns:List Nd}(h:uD ns){a b:Nd}(ha:a∈ns)(hb:b∈ns)(e:a.p=b.p):a=b:=by
 obtain⟨i,hi,rfl⟩:=List.getElem_of_mem ha;obtain⟨j,hj,rfl⟩:=List.getElem_of_mem hb;have h:=List.pairwise_iff_getElem.1 h;by_cases h1:i<j
 .exact absurd e (WT (h i j hi hj h1))
 .by_cases h2:j<i
  .exact absurd e.symm (WT (h j i hj hi h2))
  .obtain rfl:i=j:=by omega
   rfl
structure KL(ns A:List Nd)(n:Nd)(B:List Nd)(p:List UInt8):Prop where
 eq:ns=A++n::B
 nm:n.p=p
 lo:∀a∈A,bl a.p p=true
 hi:∀b∈B,bl p b.p=true
structure nJ(ns A B:List Nd)(p:List UInt8):Prop where
 eq:ns=A++B
 lo:∀a∈A,bl a.p p=true
 hi:∀b∈B,bl p b.p=true
theorem YU(p:List UInt8):∀ns:List Nd,uD ns->(∃A n B,KL ns A n B p)\/∃A B,nJ ns A B p
 |[],_=>.inr ⟨[],[],rfl,by simp,by simp⟩
 |x::r,h=>by
  obtain⟨hx,hr⟩:=List.pairwise_cons.1 h
  cases h1:bl x.p p with
  |true=>
   rcases YU p r hr with⟨A,f,B,T⟩|⟨A,B,G⟩
   .exact .inl ⟨x::A,f,B,by rw[T.eq];rfl,T.nm,by simp[h1];exact T.lo,T.hi⟩
   .exact .inr ⟨x::A,B,by rw[G.eq];rfl,by simp[h1];exact G.lo,G.hi⟩
  |false=>
   cases h2:bl p x.p with
   |true=>exact .inr ⟨[],x::r,rfl,by simp,by simp[h2];exact fun b hb=>RU _ _ _ h2 (hx b hb)⟩
   |false=>
    have e:=TU _ _ h1 h2;exact .inl ⟨[],x,r,rfl,e,by simp,fun b hb=>by rw[<-e];exact hx b hb⟩
def LW(ns:List Nd)(p:List UInt8):Option Nd:=ns.find? fun n=>decide (n.p=p)
theorem KL.look{ns A B:List Nd}{n:Nd}{p:List UInt8}(T:KL ns A n B p):LW ns p=some n:=by
 rw[LW,T.eq,List.find?_append,List.find?_eq_none.2 (fun a ha=>by simp[WT (T.lo a ha)])];simp[T.nm]
theorem nJ.no{ns A B:List Nd}{p:List UInt8}(G:nJ ns A B p):∀n∈ns,n.p≠p:=by
 intro n hn;rw[G.eq]at hn;rcases List.mem_append.1 hn with h|h
 .exact WT (G.lo n h)
 .exact(WT (G.hi n h)).symm
theorem nJ.look{ns A B:List Nd}{p:List UInt8}(G:nJ ns A B p):LW ns p=none:=by
 rw[LW,List.find?_eq_none];intro n hn;simp[G.no n hn]
theorem YE{ns:List Nd}{p:List UInt8}{n:Nd}(h:LW ns p=some n):n∈ns/\n.p=p:=by
 refine⟨List.mem_of_find?_eq_some h,?_⟩;have:=List.find?_some h;simpa using this
theorem aQ{ns:List Nd}(h:uD ns){n:Nd}(hn:n∈ns):LW ns n.p=some n:=by
 rcases YU n.p ns h with⟨A,m,B,T⟩|⟨A,B,G⟩
 .rw[T.look,UL h (by rw[T.eq];simp) hn T.nm]
 .exact absurd rfl (G.no n hn)
theorem RY{ns:List Nd}(h:uD ns){p:List UInt8}{n:Nd}(hn:LW ns p=some n):∃A B,KL ns A n B p:=by
 rcases YU p ns h with⟨A,m,B,T⟩|⟨A,B,G⟩
 .rw[T.look]at hn;cases hn;exact⟨A,B,T⟩
 .rw[G.look]at hn;cases hn
theorem zQ{ns:List Nd}(h:uD ns){p:List UInt8}(hn:LW ns p=none):∃A B,nJ ns A B p:=by
 rcases YU p ns h with⟨A,m,B,T⟩|⟨A,B,G⟩
 .rw[T.look]at hn;cases hn
 .exact⟨A,B,G⟩
def zS(ns:List Nd)(p:List UInt8):List Nd:=ns.filter fun n=>decide (n.p≠p)
def CR8(ns:List Nd)(x:Nd):List Nd:=(ns.filter fun n=>bl n.p x.p)++x::(ns.filter fun n=>bl x.p n.p)
def bump(z more:Int)(n:Nd):Nd:=⟨n.p,n.d,n.c,n.m,z,n.v,n.k+1,n.o,n.n+more⟩
def OL(p:List UInt8)(z more:Int)(ns:List Nd):List Nd:=ns.map fun n=>if n.p=p then bump z more n else n
def AV2(p d:List UInt8)(v z:Int)(ns:List Nd):List Nd:=ns.map fun n=>if n.p=p then⟨n.p,d,n.c,z,n.q,v,n.k,n.o,n.n⟩else n
theorem OY{α:Type}(f:α->Bool)(l:List α)(h:∀x∈l,f x=true):l.filter f=l:=List.filter_eq_self.2 h
theorem aS{α:Type}(f:α->Bool)(l:List α)(h:∀x∈l,f x=false):l.filter f=[]:=List.filter_eq_nil_iff.2 (fun x hx=>by simp[h x hx])
theorem A81{α:Type}(f:α->α)(l:List α)(h:∀x∈l,f x=x):l.map f=l:=by
 induction l with
 |nil=>rfl
 |cons x r ih=>rw[List.map_cons,h x (by simp),ih (fun y hy=>h y (by simp[hy]))]
theorem KL.drop{ns A B:List Nd}{n:Nd}{p:List UInt8}(T:KL ns A n B p):zS ns p=A++B:=by
 rw[zS,T.eq,List.filter_append,List.filter_cons,OY _ A (fun a ha=>by simp[WT (T.lo a ha)]),OY _ B (fun a ha=>by simp[(WT (T.hi a ha)).symm])];simp[T.nm]
theorem nJ.ins{ns A B:List Nd}{x:Nd}(G:nJ ns A B x.p):CR8 ns x=A++x::B:=by
 rw[CR8,G.eq,List.filter_append,List.filter_append,OY _ A (fun a ha=>G.lo a ha),aS _ B (fun a ha=>OT (G.hi a ha)),aS _ A (fun a ha=>OT (G.lo a ha)),OY _ B (fun a ha=>G.hi a ha)];simp
theorem KL.CG8{ns A B:List Nd}{n:Nd}{p:List UInt8}(T:KL ns A n B p)(g:Nd->Nd):(ns.map fun x=>if x.p=p then g x else x)=A++g n::B:=by
 rw[T.eq,List.map_append,List.map_cons,A81 _ A (fun a ha=>by simp[WT (T.lo a ha)]),A81 _ B (fun a ha=>by simp[(WT (T.hi a ha)).symm])];simp[T.nm]
theorem KL.bump{ns A B:List Nd}{n:Nd}{p:List UInt8}(T:KL ns A n B p)(z more:Int):OL p z more ns=A++bump z more n::B:=T.CG8 _
theorem KL.put{ns A B:List Nd}{n:Nd}{p:List UInt8}(T:KL ns A n B p)(d:List UInt8)(v z:Int):AV2 p d v z ns=A++⟨n.p,d,n.c,z,n.q,v,n.k,n.o,n.n⟩::B:=T.CG8 _
theorem YV(p:List UInt8)(z more:Int)(n:Nd):(if n.p=p then bump z more n else n).p=n.p:=by split<;>rfl
theorem WY(p:List UInt8)(z more:Int)(ns:List Nd):(OL p z more ns).map Nd.p=ns.map Nd.p:=by
 rw[OL,List.map_map]
 apply List.map_congr_left
 intro n _;exact YV p z more n
theorem OZ(ns:List Nd):uD ns↔(ns.map Nd.p).Pairwise fun a b=>bl a b=true:=by rw[List.pairwise_map];rfl
theorem QD(ns:List Nd)(p:List UInt8):OG ns p=(ns.map Nd.p).countP fun x=>decide (IL x=p):=by rw[List.countP_map];rfl
def C09(ss:List Int)(s:Int):List Int:=(ss.filter fun x=>decide (x<s))++s::(ss.filter fun x=>decide (s<x))
def AH2(ss:List Int)(s:Int):List Int:=ss.filter fun x=>decide (x≠s)
structure jG(ss A B:List Int)(s:Int):Prop where
 eq:ss=A++s::B
 lo:∀a∈A,a<s
 hi:∀b∈B,s<b
structure C11(ss A B:List Int)(s:Int):Prop where
 eq:ss=A++B
 lo:∀a∈A,a<s
 hi:∀b∈B,s<b
theorem uT(s:Int):∀ss:List Int,ss.Pairwise (· < ·)->(∃A B,jG ss A B s)\/∃A B,C11 ss A B s
 |[],_=>.inr ⟨[],[],rfl,by simp,by simp⟩
 |x::r,h=>by
  obtain⟨hx,hr⟩:=List.pairwise_cons.1 h;by_cases h1:x<s
  .rcases uT s r hr with⟨A,B,T⟩|⟨A,B,G⟩
   .exact .inl ⟨x::A,B,by rw[T.eq];rfl,by simp[h1];exact T.lo,T.hi⟩
   .exact .inr ⟨x::A,B,by rw[G.eq];rfl,by simp[h1];exact G.lo,G.hi⟩
  .by_cases h2:s<x
   .exact .inr ⟨[],x::r,rfl,by simp,by simp[h2];exact fun b hb=>Int.lt_trans h2 (hx b hb)⟩
   .obtain rfl:x=s:=by omega
    exact .inl ⟨[],r,rfl,by simp,hx⟩
theorem jG.mem{ss A B:List Int}{s:Int}(T:jG ss A B s):s∈ss:=by rw[T.eq];simp
theorem C11.not{ss A B:List Int}{s:Int}(G:C11 ss A B s):s∉ss:=by
 intro h;rw[G.eq]at h;rcases List.mem_append.1 h with h|h
 .exact absurd (G.lo s h) (by omega)
 .exact absurd (G.hi s h) (by omega)
theorem C11.ins{ss A B:List Int}{s:Int}(G:C11 ss A B s):C09 ss s=A++s::B:=by
 rw[C09,G.eq,List.filter_append,List.filter_append,OY _ A (fun a ha=>by simpa using G.lo a ha),aS _ B (fun a ha=>by have:=G.hi a ha;simp;omega),aS _ A (fun a ha=>by have:=G.lo a ha;simp;omega),OY _ B (fun a ha=>by simpa using G.hi a ha)];simp
theorem jG.drop{ss A B:List Int}{s:Int}(T:jG ss A B s):AH2 ss s=A++B:=by
 rw[AH2,T.eq,List.filter_append,List.filter_cons,OY _ A (fun a ha=>by have:=T.lo a ha;simp;omega),OY _ B (fun a ha=>by have:=T.hi a ha;simp;omega)];simp
theorem nK(M:Int):∀ (ss:List Int) (lo:Int),ss.Pairwise (· < ·)->(∀s∈ss,lo<s/\s<=M)->lo<=M->(ss.length:Int)<=M-lo
 |[],lo,_,_,h=>by simp;omega
 |x::r,lo,hp,hb,_=>by
  obtain⟨hx,hr⟩:=List.pairwise_cons.1 hp;have h1:=hb x (by simp);have:=nK M r x hr (fun s hs=>⟨hx s hs,(hb s (by simp[hs])).2⟩) h1.2;simp;omega
theorem TW{ss:List Int}(h:qI ss):ss.length<=2147483647:=by
 have:=nK 2147483647 ss 0 h.1 (fun s hs=>by have:=h.2 s hs;omega) (by omega);omega
theorem A82{ss:List Int}{s:Int}(h:qI ss)(hs:1<=s/\s<=2147483647)(hn:s∉ss):qI (C09 ss s):=by
 rcases uT s ss h.1 with⟨A,B,T⟩|⟨A,B,G⟩
 .exact absurd T.mem hn
 .rw[G.ins];have h1:=h.1;have h2:=h.2;rw[G.eq]at h1 h2;rw[List.pairwise_append]at h1;refine⟨?_,?_⟩
  .rw[List.pairwise_append,List.pairwise_cons];refine⟨h1.1,⟨G.hi,h1.2.1⟩,fun a ha b hb=>?_⟩;rcases List.mem_cons.1 hb with rfl|hb
   .exact G.lo a ha
   .exact h1.2.2 a ha b hb
  .intro x hx;rcases List.mem_append.1 hx with h|h
   .exact h2 x (by simp[h])
   .rcases List.mem_cons.1 h with rfl|h
    .exact hs
    .exact h2 x (by simp[h])
theorem AV3{ss:List Int}(s:Int)(h:qI ss):qI (AH2 ss s):=⟨h.1.filter _,fun x hx=>h.2 x (List.mem_filter.1 hx).1⟩
theorem BF8{ss:List Int}{s x:Int}(hx:x∈ss):x∈C09 ss s:=by
 rw[C09];by_cases h1:x<s
 .exact List.mem_append_left _ (List.mem_filter.2 ⟨hx,by simpa using h1⟩)
 .by_cases h2:s<x
  .exact List.mem_append_right _ (List.mem_cons_of_mem _ (List.mem_filter.2 ⟨hx,by simpa using h2⟩))
  .obtain rfl:x=s:=by omega
   exact List.mem_append_right _ (by simp)
end Go.Proofs.YtefephchbjfdfaaGreatDoor
namespace Go.Proofs.YtefephchbjfdfaaGreatDoor
structure Wa where
 s:Int
 k:Int
 p:List UInt8
structure Nt where
 s:Int
 k:Int
 p:List UInt8
def yU(w:Wa)(e:Ev):Bool:=decide (w.p=e.p)&&(if w.k=2 then decide (e.k=4)||decide (e.k=2)else decide (e.k=1)||decide (e.k=2)||decide (e.k=3))
def AX6(e:Ev)(w:Wa):Nt:=⟨w.s,e.k,e.p⟩
def U7(ws:List Wa)(e:Ev):List Nt:=(ws.filter (fun w=>yU w e)).map (AX6 e)
def mJ(ws:List Wa)(e:Ev):List Wa:=ws.filter (fun w=> !yU w e)
def PI:List Wa->List Ev->List Nt
 |_,[]=>[]
 |ws,e::r=>U7 ws e++PI (mJ ws e) r
def LG:List Wa->List Ev->List Wa
 |ws,[]=>ws
 |ws,e::r=>LG (mJ ws e) r
def mM(ws:List Wa)(s:Int):List Wa:=ws.filter (fun w=> !decide (w.s=s))
theorem BI0(ws:List Wa)(f:Wa->Bool):(ws.filter f).length+(ws.filter (fun w=> !f w)).length=ws.length:=by
 induction ws with
 |nil=>rfl
 |cons w r ih=>
  cases h:f w
  .simp[h];omega
  .simp[h];omega
theorem qN(ws:List Wa)(e:Ev):(U7 ws e).length+(mJ ws e).length=ws.length:=by
 simp only[U7,mJ,List.length_map];exact BI0 ws (fun w=>yU w e)
theorem iE(es:List Ev):∀ws:List Wa,(PI ws es).length+(LG ws es).length=ws.length:=by
 induction es with
 |nil=>intro ws;simp[PI,LG]
 |cons e r ih=>
  intro ws;have h1:=qN ws e;have h2:=ih (mJ ws e);simp only[PI,LG,List.length_append];omega
theorem AX7(a b:List Ev):∀ws:List Wa,PI ws (a++b)=PI ws a++PI (LG ws a) b:=by
 induction a with
 |nil=>intro ws;simp[PI,LG]
 |cons e r ih=>intro ws;simp[PI,LG,ih]
theorem AX8(a b:List Ev):∀ws:List Wa,LG ws (a++b)=LG (LG ws a) b:=by
 induction a with
 |nil=>intro ws;simp[LG]
 |cons e r ih=>intro ws;simp[LG,ih]
theorem jK(es:List Ev):∀ (ws:List Wa) (w:Wa),w∈LG ws es->w∈ws/\∀e∈es,yU w e=false:=by
 induction es with
 |nil=>intro ws w h;exact⟨h,by simp⟩
 |cons e r ih=>
  intro ws w h;obtain⟨h1,h2⟩:=ih (mJ ws e) w h;simp only[mJ,List.mem_filter]at h1;refine⟨h1.1,fun x hx=>?_⟩;rcases List.mem_cons.1 hx with rfl|hx
  .simpa using h1.2
  .exact h2 x hx
theorem AX9(ws:List Wa)(es:List Ev)(w:Wa)(h:w∈LG ws es):w∈ws:=(jK es ws w h).1
end Go.Proofs.YtefephchbjfdfaaGreatDoor
namespace Go.Proofs.YtefephchbjfdfaaGreatDoor
open Go.RowKit
structure En where
 p:List UInt8
 d:List UInt8
 t:Bool
def B60(es:List En):Prop:=es.Pairwise fun a b=>bl a.p b.p=true
def J3(x:En):En:=if x.t=true then x else⟨x.p,[],false⟩
def WI(es:List En)(x:En):List En:=es.filter (fun e=>bl e.p x.p)++J3 x::es.filter (fun e=>bl x.p e.p)
def noneE:En:=⟨[],[],false⟩
def CM1(s:Int)(l:List Nt)(p:List UInt8):Bool:=l.any fun n=>decide (n.s=s)&& !decide (n.k=4)&&decide (n.p=p)
def UW(s:Int)(l:List Nt)(es:List En):List En:=es.filter fun e=> !CM1 s l e.p
theorem A43(x:En):(J3 x).p=x.p:=by unfold J3;split<;>rfl
theorem B61{x:En}(h:x.t=true):J3 x=x:=by unfold J3;rw[if_pos h]
theorem BP0{x:En}(h:x.t=false):J3 x=⟨x.p,[],x.t⟩:=by unfold J3;rw[h];rfl
structure AD0(es A:List En)(f:En)(B:List En)(p:List UInt8):Prop where
 eq:es=A++f::B
 nm:f.p=p
 lo:∀a∈A,bl a.p p=true
 hi:∀b∈B,bl p b.p=true
structure CT3(es A B:List En)(p:List UInt8):Prop where
 eq:es=A++B
 lo:∀a∈A,bl a.p p=true
 hi:∀b∈B,bl p b.p=true
theorem AD1(p:List UInt8):∀es:List En,B60 es->(∃A f B,AD0 es A f B p)\/∃A B,CT3 es A B p
 |[],_=>.inr ⟨[],[],rfl,by simp,by simp⟩
 |x::r,h=>by
  obtain⟨hx,hr⟩:=List.pairwise_cons.1 h
  cases h1:bl x.p p with
  |true=>
   rcases AD1 p r hr with⟨A,f,B,T⟩|⟨A,B,G⟩
   .exact .inl ⟨x::A,f,B,by rw[T.eq];rfl,T.nm,by simp[h1];exact T.lo,T.hi⟩
   .exact .inr ⟨x::A,B,by rw[G.eq];rfl,by simp[h1];exact G.lo,G.hi⟩
  |false=>
   cases h2:bl p x.p with
   |true=>exact .inr ⟨[],x::r,rfl,by simp,by simp[h2];exact fun b hb=>RU _ _ _ h2 (hx b hb)⟩
   |false=>
    have e:=TU _ _ h1 h2;exact .inl ⟨[],x,r,rfl,e,by simp,fun b hb=>by rw[<-e];exact hx b hb⟩
theorem B62{A:List En}{p:List UInt8}(h:∀a∈A,bl a.p p=true):A.filter (fun e=>bl e.p p)=A/\A.filter (fun e=>bl p e.p)=[]:=
 ⟨List.filter_eq_self.2 h,List.filter_eq_nil_iff.2 fun a ha=>by rw[OT (h a ha)];simp⟩
theorem B63{A:List En}{p:List UInt8}(h:∀a∈A,bl p a.p=true):A.filter (fun e=>bl e.p p)=[]/\A.filter (fun e=>bl p e.p)=A:=
 ⟨List.filter_eq_nil_iff.2 fun a ha=>by rw[OT (h a ha)];simp,List.filter_eq_self.2 h⟩
theorem AD0.keep{es A B:List En}{f x:En}(T:AD0 es A f B x.p):WI es x=A++J3 x::B:=by
 have h1:=B62 T.lo;have h2:=B63 T.hi;have e:=T.nm;unfold WI;rw[T.eq,List.filter_append,List.filter_append,List.filter_cons,List.filter_cons,h1.1,h1.2,h2.1,h2.2,e,QT];simp
theorem CT3.keep{es A B:List En}{x:En}(G:CT3 es A B x.p):WI es x=A++J3 x::B:=by
 have h1:=B62 G.lo;have h2:=B63 G.hi;unfold WI;rw[G.eq,List.filter_append,List.filter_append,h1.1,h1.2,h2.1,h2.2];simp
theorem BP1{es:List En}(h:B60 es)(x:En):B60 (WI es x):=by
 have go:∀A B,B60 (A++B)->(∀a∈A,bl a.p x.p=true)->(∀b∈B,bl x.p b.p=true)->B60 (A++J3 x::B):=fun A B h lo hi=>by
  unfold B60 at h⊢;rw[List.pairwise_append]at h;rw[List.pairwise_append,List.pairwise_cons];refine⟨h.1,⟨fun b hb=>by rw[A43];exact hi b hb,h.2.1⟩,fun a ha b hb=>?_⟩;rcases List.mem_cons.1 hb with rfl|hb
  .rw[A43];exact lo a ha
  .exact h.2.2 a ha b hb
 rcases AD1 x.p es h with⟨A,f,B,T⟩|⟨A,B,G⟩
 .rw[T.keep];refine go A B ?_ T.lo T.hi;have h':=h;rw[T.eq]at h';exact h'.sublist (List.Sublist.append (List.Sublist.refl A) (List.sublist_cons_self f B))
 .rw[G.keep];exact go A B (by rw[<-G.eq];exact h) G.lo G.hi
theorem BP2(es:List En)(h:B60 es)(x:En):(WI es x).length<=es.length+1:=by
 rcases AD1 x.p es h with⟨A,f,B,T⟩|⟨A,B,G⟩
 .rw[T.keep,T.eq];simp
 .rw[G.keep,G.eq];simp;omega
theorem BP3{es:List En}{x e:En}(h:e∈WI es x):e∈es\/e=J3 x:=by
 rcases List.mem_append.1 h with h|h
 .exact .inl (List.mem_filter.1 h).1
 .rcases List.mem_cons.1 h with h|h
  .exact .inr h
  .exact .inl (List.mem_filter.1 h).1
theorem BP4{s:Int}{l:List Nt}{es:List En}(h:B60 es):B60 (UW s l es):=List.Pairwise.sublist List.filter_sublist h
def xW(es:List En):Prop:=∀x∈es,x.p.length<=140737488355328/\x.d.length<=140737488355328
theorem oV{x:En}(h:x.p.length<=140737488355328/\x.d.length<=140737488355328):(J3 x).p.length<=140737488355328/\(J3 x).d.length<=140737488355328:=by
 unfold J3
 split
 .exact h
 .exact⟨h.1,by simp⟩
end Go.Proofs.YtefephchbjfdfaaGreatDoor
