/-
  Part.
-/
import Derived.Test.YthcncjimjclfpaaGreatDoorLSB
set_option maxRecDepth 20000
set_option maxHeartbeats 8000000
namespace Go.Proofs.YthcncjimjclfpaaGreatDoor
open Go.RowKit
def WV:List UInt8->Option (List UInt8×List UInt8)
 |[]=>none
 |c::l=>match WV l with
  |some (a,b)=>some (c::a,b)
  |none=>if c=47 then some ([],l)else none
theorem fK:∀b:List UInt8,47∉b->WV b=none
 |[],_=>rfl
 |c::l,h=>by
  have h1:c≠47:=by rintro rfl;simp at h
  rw[WV,fK l (by simp at h;exact h.2)];simp[h1]
theorem OJ(b:List UInt8)(hb:47∉b):∀a:List UInt8,WV (a++47::b)=some (a,b)
 |[]=>by simp[WV,fK b hb]
 |c::a=>by simp[WV,OJ b hb a]
def CH3(a:List UInt8):List UInt8:=if a=[]then [47]else a
def IB(p:List UInt8):List UInt8:=if II p=true/\p≠[47]then(match WV p with
 |some (a,_)=>CH3 a
 |none=>[])else []
def LC(p:List UInt8):List UInt8:=if II p=true/\p≠[47]then(match WV p with
 |some (_,b)=>b
 |none=>[])else []
def AT0(p:List UInt8):Int:=if II p=true then(if p=[47]then 7 else 0)else 2
theorem jH{p:List UInt8}(h:II p=true):∃r,p=47::r:=by
 simp only[II,Bool.and_eq_true]at h;have h1:=h.1.2
 cases p with
 |nil=>simp[Lib.hasPrefix,List.isPrefixOf]at h1
 |cons c r=>simp[Lib.hasPrefix,List.isPrefixOf]at h1;exact⟨r,by rw[h1]⟩
theorem AV6:II []=false:=by decide+kernel
theorem YI{p:List UInt8}(h:II p=true):∃a b,p=a++47::b/\47∉b:=by
 obtain⟨r,rfl⟩:=jH h;exact dU _ (by simp)
theorem U9{a b:List UInt8}(h:II (a++47::b)=true)(hn:a++47::b≠[47])(hb:47∉b):IB (a++47::b)=CH3 a:=by
 rw[IB,if_pos ⟨h,hn⟩,OJ b hb a]
theorem nX{a b:List UInt8}(h:II (a++47::b)=true)(hn:a++47::b≠[47])(hb:47∉b):LC (a++47::b)=b:=by
 rw[LC,if_pos ⟨h,hn⟩,OJ b hb a]
theorem aQ{p:List UInt8}(h:II p=false):IB p=[]:=by rw[IB,if_neg (by simp[h])]
theorem AJ1{p:List UInt8}(h:II p=false):LC p=[]:=by rw[LC,if_neg (by simp[h])]
theorem UA:IB [47]=[]:=by rw[IB,if_neg (by simp)]
theorem A01:LC [47]=[]:=by rw[LC,if_neg (by simp)]
theorem A94{p:List UInt8}(h:II p=false):AT0 p=2:=by rw[AT0,if_neg (by simp[h])]
theorem vC:AT0 [47]=7:=by rw[AT0,if_pos YH,if_pos rfl]
theorem AV7{p:List UInt8}(h:II p=true)(hn:p≠[47]):AT0 p=0:=by rw[AT0,if_pos h,if_neg hn]
theorem qQ{p:List UInt8}(h:II p=true)(hn:p≠[47]):IB p≠p/\IB p≠[]:=by
 obtain⟨a,b,rfl,hb⟩:=YI h;rw[U9 h hn hb,CH3]
 split
 .rename_i h0;subst h0
  exact⟨fun e=>hn (by simpa using e.symm),by simp⟩
 .rename_i h0
  refine⟨fun e=>?_,h0⟩;have:=congrArg List.length e;simp at this
structure Nd where
 p:List UInt8
 d:List UInt8
 c:Int
 m:Int
 q:Int
 v:Int
 k:Int
 o:Int
 n:Int
instance:Inhabited Nd:=⟨⟨[],[],0,0,0,0,0,0,0⟩⟩
structure Tr where
 z:Int
 ns:List Nd
 ss:List Int
def tr0:Tr:=⟨0,[],[]⟩
def gU:Nd:=⟨[47],[],0,0,0,0,0,0,0⟩
def RP:Tr:=⟨0,[gU],[]⟩
def uH(ns:List Nd):Prop:=ns.Pairwise fun a b=>bl a.p b.p=true
def NY(ns:List Nd)(p:List UInt8):Nat:=ns.countP fun x=>decide (IB x.p=p)
structure NOk(z:Int)(ns:List Nd)(ss:List Int)(n:Nd):Prop where
 data:n.d.length<=256
 path:II n.p=true
 up:n.p≠[47]->∃u∈ns,u.p=IB n.p
 c0:0<=n.c
 cm:n.c<=n.m
 cq:n.c<=n.q
 mz:n.m<=z
 qz:n.q<=z
 v0:0<=n.v
 v1:n.v<=2147483647
 k0:0<=n.k
 kids:n.n=NY ns n.p
 own:n.o=0\/n.o∈ss/\n.n=0
structure PV(z:Int)(ns:List Nd)(ss:List Int):Prop where
 few:ns.length<=400
 root:∃r rest,ns=r::rest/\r.p=[47]/\r.o=0
 asc:uH ns
 ok:∀n∈ns,NOk z ns ss n
def qR(ss:List Int):Prop:=ss.Pairwise (· < ·)/\∀s∈ss,1<=s/\s<=2147483647
structure QA(t:Tr):Prop where
 zx:KD t.z=true
 ses:qR t.ss
 nod:PV t.z t.ns t.ss
 cap:∀n∈t.ns,n.k<=2147483647
noncomputable def UC(t:Tr):Bool:= @decide (QA t) (Classical.propDecidable _)
theorem OL{t:Tr}:UC t=true↔QA t:=by unfold UC;exact @decide_eq_true_iff _ (Classical.propDecidable _)
theorem ZL{t:Tr}:UC t=false↔¬QA t:=by unfold UC;exact @decide_eq_false_iff_not _ (Classical.propDecidable _)
theorem UD{ns:List Nd}(h:uH ns){a b:Nd}(ha:a∈ns)(hb:b∈ns)(e:a.p=b.p):a=b:=by
 obtain⟨i,hi,rfl⟩:=List.getElem_of_mem ha;obtain⟨j,hj,rfl⟩:=List.getElem_of_mem hb;have h:=List.pairwise_iff_getElem.1 h;by_cases h1:i<j
 .exact absurd e (WS (h i j hi hj h1))
 .by_cases h2:j<i
  .exact absurd e.symm (WS (h j i hj hi h2))
  .obtain rfl:i=j:=by omega
   rfl
structure KF(ns A:List Nd)(n:Nd)(B:List Nd)(p:List UInt8):Prop where
 eq:ns=A++n::B
 nm:n.p=p
 lo:∀a∈A,bl a.p p=true
 hi:∀b∈B,bl p b.p=true
structure mX(ns A B:List Nd)(p:List UInt8):Prop where
 eq:ns=A++B
 lo:∀a∈A,bl a.p p=true
 hi:∀b∈B,bl p b.p=true
theorem Z4(p:List UInt8):∀ns:List Nd,uH ns->(∃A n B,KF ns A n B p)\/∃A B,mX ns A B p
 |[],_=>.inr ⟨[],[],rfl,by simp,by simp⟩
 |x::r,h=>by
  obtain⟨hx,hr⟩:=List.pairwise_cons.1 h
  cases h1:bl x.p p with
  |true=>
   rcases Z4 p r hr with⟨A,f,B,T⟩|⟨A,B,G⟩
   .exact .inl ⟨x::A,f,B,by rw[T.eq];rfl,T.nm,by simp[h1];exact T.lo,T.hi⟩
   .exact .inr ⟨x::A,B,by rw[G.eq];rfl,by simp[h1];exact G.lo,G.hi⟩
  |false=>
   cases h2:bl p x.p with
   |true=>exact .inr ⟨[],x::r,rfl,by simp,by simp[h2];exact fun b hb=>QH _ _ _ h2 (hx b hb)⟩
   |false=>
    have e:=TL _ _ h1 h2;exact .inl ⟨[],x,r,rfl,e,by simp,fun b hb=>by rw[<-e];exact hx b hb⟩
def KJ(ns:List Nd)(p:List UInt8):Option Nd:=ns.find? fun n=>decide (n.p=p)
theorem KF.look{ns A B:List Nd}{n:Nd}{p:List UInt8}(T:KF ns A n B p):KJ ns p=some n:=by
 rw[KJ,T.eq,List.find?_append,List.find?_eq_none.2 (fun a ha=>by simp[WS (T.lo a ha)])];simp[T.nm]
theorem mX.no{ns A B:List Nd}{p:List UInt8}(G:mX ns A B p):∀n∈ns,n.p≠p:=by
 intro n hn;rw[G.eq]at hn;rcases List.mem_append.1 hn with h|h
 .exact WS (G.lo n h)
 .exact(WS (G.hi n h)).symm
theorem mX.look{ns A B:List Nd}{p:List UInt8}(G:mX ns A B p):KJ ns p=none:=by
 rw[KJ,List.find?_eq_none];intro n hn;simp[G.no n hn]
theorem SC{ns:List Nd}{p:List UInt8}{n:Nd}(h:KJ ns p=some n):n∈ns/\n.p=p:=by
 refine⟨List.mem_of_find?_eq_some h,?_⟩;have:=List.find?_some h;simpa using this
theorem VE{ns:List Nd}(h:uH ns){n:Nd}(hn:n∈ns):KJ ns n.p=some n:=by
 rcases Z4 n.p ns h with⟨A,m,B,T⟩|⟨A,B,G⟩
 .rw[T.look,UD h (by rw[T.eq];simp) hn T.nm]
 .exact absurd rfl (G.no n hn)
theorem RQ{ns:List Nd}(h:uH ns){p:List UInt8}{n:Nd}(hn:KJ ns p=some n):∃A B,KF ns A n B p:=by
 rcases Z4 p ns h with⟨A,m,B,T⟩|⟨A,B,G⟩
 .rw[T.look]at hn;cases hn;exact⟨A,B,T⟩
 .rw[G.look]at hn;cases hn
theorem jI{ns:List Nd}(h:uH ns){p:List UInt8}(hn:KJ ns p=none):∃A B,mX ns A B p:=by
 rcases Z4 p ns h with⟨A,m,B,T⟩|⟨A,B,G⟩
 .rw[T.look]at hn;cases hn
 .exact⟨A,B,G⟩
def A02(ns:List Nd)(p:List UInt8):List Nd:=ns.filter fun n=>decide (n.p≠p)
def CF5(ns:List Nd)(x:Nd):List Nd:=(ns.filter fun n=>bl n.p x.p)++x::(ns.filter fun n=>bl x.p n.p)
def bump(z more:Int)(n:Nd):Nd:=⟨n.p,n.d,n.c,n.m,z,n.v,n.k+1,n.o,n.n+more⟩
def NG(p:List UInt8)(z more:Int)(ns:List Nd):List Nd:=ns.map fun n=>if n.p=p then bump z more n else n
def AV8(p d:List UInt8)(v z:Int)(ns:List Nd):List Nd:=ns.map fun n=>if n.p=p then⟨n.p,d,n.c,z,n.q,v,n.k,n.o,n.n⟩else n
theorem OM{α:Type}(f:α->Bool)(l:List α)(h:∀x∈l,f x=true):l.filter f=l:=List.filter_eq_self.2 h
theorem aS{α:Type}(f:α->Bool)(l:List α)(h:∀x∈l,f x=false):l.filter f=[]:=List.filter_eq_nil_iff.2 (fun x hx=>by simp[h x hx])
theorem A95{α:Type}(f:α->α)(l:List α)(h:∀x∈l,f x=x):l.map f=l:=by
 induction l with
 |nil=>rfl
 |cons x r ih=>rw[List.map_cons,h x (by simp),ih (fun y hy=>h y (by simp[hy]))]
theorem KF.drop{ns A B:List Nd}{n:Nd}{p:List UInt8}(T:KF ns A n B p):A02 ns p=A++B:=by
 rw[A02,T.eq,List.filter_append,List.filter_cons,OM _ A (fun a ha=>by simp[WS (T.lo a ha)]),OM _ B (fun a ha=>by simp[(WS (T.hi a ha)).symm])];simp[T.nm]
theorem mX.ins{ns A B:List Nd}{x:Nd}(G:mX ns A B x.p):CF5 ns x=A++x::B:=by
 rw[CF5,G.eq,List.filter_append,List.filter_append,OM _ A (fun a ha=>G.lo a ha),aS _ B (fun a ha=>OD (G.hi a ha)),aS _ A (fun a ha=>OD (G.lo a ha)),OM _ B (fun a ha=>G.hi a ha)];simp
theorem KF.CH4{ns A B:List Nd}{n:Nd}{p:List UInt8}(T:KF ns A n B p)(g:Nd->Nd):(ns.map fun x=>if x.p=p then g x else x)=A++g n::B:=by
 rw[T.eq,List.map_append,List.map_cons,A95 _ A (fun a ha=>by simp[WS (T.lo a ha)]),A95 _ B (fun a ha=>by simp[(WS (T.hi a ha)).symm])];simp[T.nm]
theorem KF.bump{ns A B:List Nd}{n:Nd}{p:List UInt8}(T:KF ns A n B p)(z more:Int):NG p z more ns=A++bump z more n::B:=T.CH4 _
theorem KF.put{ns A B:List Nd}{n:Nd}{p:List UInt8}(T:KF ns A n B p)(d:List UInt8)(v z:Int):AV8 p d v z ns=A++⟨n.p,d,n.c,z,n.q,v,n.k,n.o,n.n⟩::B:=T.CH4 _
theorem Z5(p:List UInt8)(z more:Int)(n:Nd):(if n.p=p then bump z more n else n).p=n.p:=by split<;>rfl
theorem WW(p:List UInt8)(z more:Int)(ns:List Nd):(NG p z more ns).map Nd.p=ns.map Nd.p:=by
 rw[NG,List.map_map]
 apply List.map_congr_left
 intro n _;exact Z5 p z more n
theorem OO(ns:List Nd):uH ns↔(ns.map Nd.p).Pairwise fun a b=>bl a b=true:=by rw[List.pairwise_map];rfl
theorem QB(ns:List Nd)(p:List UInt8):NY ns p=(ns.map Nd.p).countP fun x=>decide (IB x=p):=by rw[List.countP_map];rfl
def BE7(ss:List Int)(s:Int):List Int:=(ss.filter fun x=>decide (x<s))++s::(ss.filter fun x=>decide (s<x))
def AJ2(ss:List Int)(s:Int):List Int:=ss.filter fun x=>decide (x≠s)
structure jJ(ss A B:List Int)(s:Int):Prop where
 eq:ss=A++s::B
 lo:∀a∈A,a<s
 hi:∀b∈B,s<b
structure C25(ss A B:List Int)(s:Int):Prop where
 eq:ss=A++B
 lo:∀a∈A,a<s
 hi:∀b∈B,s<b
theorem vF(s:Int):∀ss:List Int,ss.Pairwise (· < ·)->(∃A B,jJ ss A B s)\/∃A B,C25 ss A B s
 |[],_=>.inr ⟨[],[],rfl,by simp,by simp⟩
 |x::r,h=>by
  obtain⟨hx,hr⟩:=List.pairwise_cons.1 h;by_cases h1:x<s
  .rcases vF s r hr with⟨A,B,T⟩|⟨A,B,G⟩
   .exact .inl ⟨x::A,B,by rw[T.eq];rfl,by simp[h1];exact T.lo,T.hi⟩
   .exact .inr ⟨x::A,B,by rw[G.eq];rfl,by simp[h1];exact G.lo,G.hi⟩
  .by_cases h2:s<x
   .exact .inr ⟨[],x::r,rfl,by simp,by simp[h2];exact fun b hb=>Int.lt_trans h2 (hx b hb)⟩
   .obtain rfl:x=s:=by omega
    exact .inl ⟨[],r,rfl,by simp,hx⟩
theorem jJ.mem{ss A B:List Int}{s:Int}(T:jJ ss A B s):s∈ss:=by rw[T.eq];simp
theorem C25.not{ss A B:List Int}{s:Int}(G:C25 ss A B s):s∉ss:=by
 intro h;rw[G.eq]at h;rcases List.mem_append.1 h with h|h
 .exact absurd (G.lo s h) (by omega)
 .exact absurd (G.hi s h) (by omega)
theorem C25.ins{ss A B:List Int}{s:Int}(G:C25 ss A B s):BE7 ss s=A++s::B:=by
 rw[BE7,G.eq,List.filter_append,List.filter_append,OM _ A (fun a ha=>by simpa using G.lo a ha),aS _ B (fun a ha=>by have:=G.hi a ha;simp;omega),aS _ A (fun a ha=>by have:=G.lo a ha;simp;omega),OM _ B (fun a ha=>by simpa using G.hi a ha)];simp
theorem jJ.drop{ss A B:List Int}{s:Int}(T:jJ ss A B s):AJ2 ss s=A++B:=by
 rw[AJ2,T.eq,List.filter_append,List.filter_cons,OM _ A (fun a ha=>by have:=T.lo a ha;simp;omega),OM _ B (fun a ha=>by have:=T.hi a ha;simp;omega)];simp
theorem nY(M:Int):∀ (ss:List Int) (lo:Int),ss.Pairwise (· < ·)->(∀s∈ss,lo<s/\s<=M)->lo<=M->(ss.length:Int)<=M-lo
 |[],lo,_,_,h=>by simp;omega
 |x::r,lo,hp,hb,_=>by
  obtain⟨hx,hr⟩:=List.pairwise_cons.1 hp;have h1:=hb x (by simp);have:=nY M r x hr (fun s hs=>⟨hx s hs,(hb s (by simp[hs])).2⟩) h1.2;simp;omega
theorem VF{ss:List Int}(h:qR ss):ss.length<=2147483647:=by
 have:=nY 2147483647 ss 0 h.1 (fun s hs=>by have:=h.2 s hs;omega) (by omega);omega
theorem A96{ss:List Int}{s:Int}(h:qR ss)(hs:1<=s/\s<=2147483647)(hn:s∉ss):qR (BE7 ss s):=by
 rcases vF s ss h.1 with⟨A,B,T⟩|⟨A,B,G⟩
 .exact absurd T.mem hn
 .rw[G.ins];have h1:=h.1;have h2:=h.2;rw[G.eq]at h1 h2;rw[List.pairwise_append]at h1;refine⟨?_,?_⟩
  .rw[List.pairwise_append,List.pairwise_cons];refine⟨h1.1,⟨G.hi,h1.2.1⟩,fun a ha b hb=>?_⟩;rcases List.mem_cons.1 hb with rfl|hb
   .exact G.lo a ha
   .exact h1.2.2 a ha b hb
  .intro x hx;rcases List.mem_append.1 hx with h|h
   .exact h2 x (by simp[h])
   .rcases List.mem_cons.1 h with rfl|h
    .exact hs
    .exact h2 x (by simp[h])
theorem AV9{ss:List Int}(s:Int)(h:qR ss):qR (AJ2 ss s):=⟨h.1.filter _,fun x hx=>h.2 x (List.mem_filter.1 hx).1⟩
theorem BG9{ss:List Int}{s x:Int}(hx:x∈ss):x∈BE7 ss s:=by
 rw[BE7];by_cases h1:x<s
 .exact List.mem_append_left _ (List.mem_filter.2 ⟨hx,by simpa using h1⟩)
 .by_cases h2:s<x
  .exact List.mem_append_right _ (List.mem_cons_of_mem _ (List.mem_filter.2 ⟨hx,by simpa using h2⟩))
  .obtain rfl:x=s:=by omega
   exact List.mem_append_right _ (by simp)
end Go.Proofs.YthcncjimjclfpaaGreatDoor
namespace Go.Proofs.YthcncjimjclfpaaGreatDoor
structure Wa where
 s:Int
 k:Int
 p:List UInt8
structure Nt where
 s:Int
 k:Int
 p:List UInt8
def zJ(w:Wa)(e:Ev):Bool:=decide (w.p=e.p)&&(if w.k=2 then decide (e.k=4)||decide (e.k=2)else decide (e.k=1)||decide (e.k=2)||decide (e.k=3))
def AY2(e:Ev)(w:Wa):Nt:=⟨w.s,e.k,e.p⟩
def TW(ws:List Wa)(e:Ev):List Nt:=(ws.filter (fun w=>zJ w e)).map (AY2 e)
def nD(ws:List Wa)(e:Ev):List Wa:=ws.filter (fun w=> !zJ w e)
def OX:List Wa->List Ev->List Nt
 |_,[]=>[]
 |ws,e::r=>TW ws e++OX (nD ws e) r
def LG:List Wa->List Ev->List Wa
 |ws,[]=>ws
 |ws,e::r=>LG (nD ws e) r
def nG(ws:List Wa)(s:Int):List Wa:=ws.filter (fun w=> !decide (w.s=s))
theorem BI8(ws:List Wa)(f:Wa->Bool):(ws.filter f).length+(ws.filter (fun w=> !f w)).length=ws.length:=by
 induction ws with
 |nil=>rfl
 |cons w r ih=>
  cases h:f w
  .simp[h];omega
  .simp[h];omega
theorem qX(ws:List Wa)(e:Ev):(TW ws e).length+(nD ws e).length=ws.length:=by
 simp only[TW,nD,List.length_map];exact BI8 ws (fun w=>zJ w e)
theorem iI(es:List Ev):∀ws:List Wa,(OX ws es).length+(LG ws es).length=ws.length:=by
 induction es with
 |nil=>intro ws;simp[OX,LG]
 |cons e r ih=>
  intro ws;have h1:=qX ws e;have h2:=ih (nD ws e);simp only[OX,LG,List.length_append];omega
theorem AY3(a b:List Ev):∀ws:List Wa,OX ws (a++b)=OX ws a++OX (LG ws a) b:=by
 induction a with
 |nil=>intro ws;simp[OX,LG]
 |cons e r ih=>intro ws;simp[OX,LG,ih]
theorem AY4(a b:List Ev):∀ws:List Wa,LG ws (a++b)=LG (LG ws a) b:=by
 induction a with
 |nil=>intro ws;simp[LG]
 |cons e r ih=>intro ws;simp[LG,ih]
theorem jU(es:List Ev):∀ (ws:List Wa) (w:Wa),w∈LG ws es->w∈ws/\∀e∈es,zJ w e=false:=by
 induction es with
 |nil=>intro ws w h;exact⟨h,by simp⟩
 |cons e r ih=>
  intro ws w h;obtain⟨h1,h2⟩:=ih (nD ws e) w h;simp only[nD,List.mem_filter]at h1;refine⟨h1.1,fun x hx=>?_⟩;rcases List.mem_cons.1 hx with rfl|hx
  .simpa using h1.2
  .exact h2 x hx
theorem AY5(ws:List Wa)(es:List Ev)(w:Wa)(h:w∈LG ws es):w∈ws:=(jU es ws w h).1
end Go.Proofs.YthcncjimjclfpaaGreatDoor
namespace Go.Proofs.YthcncjimjclfpaaGreatDoor
open Go.RowKit
structure En where
 p:List UInt8
 d:List UInt8
 t:Bool
def B66(es:List En):Prop:=es.Pairwise fun a b=>bl a.p b.p=true
def IV(x:En):En:=if x.t=true then x else⟨x.p,[],false⟩
def WJ(es:List En)(x:En):List En:=es.filter (fun e=>bl e.p x.p)++IV x::es.filter (fun e=>bl x.p e.p)
def noneE:En:=⟨[],[],false⟩
def CM4(s:Int)(l:List Nt)(p:List UInt8):Bool:=l.any fun n=>decide (n.s=s)&& !decide (n.k=4)&&decide (n.p=p)
def UN(s:Int)(l:List Nt)(es:List En):List En:=es.filter fun e=> !CM4 s l e.p
theorem A56(x:En):(IV x).p=x.p:=by unfold IV;split<;>rfl
theorem B67{x:En}(h:x.t=true):IV x=x:=by unfold IV;rw[if_pos h]
theorem BP8{x:En}(h:x.t=false):IV x=⟨x.p,[],x.t⟩:=by unfold IV;rw[h];rfl
structure AE9(es A:List En)(f:En)(B:List En)(p:List UInt8):Prop where
 eq:es=A++f::B
 nm:f.p=p
 lo:∀a∈A,bl a.p p=true
 hi:∀b∈B,bl p b.p=true
structure CS9(es A B:List En)(p:List UInt8):Prop where
 eq:es=A++B
 lo:∀a∈A,bl a.p p=true
 hi:∀b∈B,bl p b.p=true
theorem AF0(p:List UInt8):∀es:List En,B66 es->(∃A f B,AE9 es A f B p)\/∃A B,CS9 es A B p
 |[],_=>.inr ⟨[],[],rfl,by simp,by simp⟩
 |x::r,h=>by
  obtain⟨hx,hr⟩:=List.pairwise_cons.1 h
  cases h1:bl x.p p with
  |true=>
   rcases AF0 p r hr with⟨A,f,B,T⟩|⟨A,B,G⟩
   .exact .inl ⟨x::A,f,B,by rw[T.eq];rfl,T.nm,by simp[h1];exact T.lo,T.hi⟩
   .exact .inr ⟨x::A,B,by rw[G.eq];rfl,by simp[h1];exact G.lo,G.hi⟩
  |false=>
   cases h2:bl p x.p with
   |true=>exact .inr ⟨[],x::r,rfl,by simp,by simp[h2];exact fun b hb=>QH _ _ _ h2 (hx b hb)⟩
   |false=>
    have e:=TL _ _ h1 h2;exact .inl ⟨[],x,r,rfl,e,by simp,fun b hb=>by rw[<-e];exact hx b hb⟩
theorem B68{A:List En}{p:List UInt8}(h:∀a∈A,bl a.p p=true):A.filter (fun e=>bl e.p p)=A/\A.filter (fun e=>bl p e.p)=[]:=
 ⟨List.filter_eq_self.2 h,List.filter_eq_nil_iff.2 fun a ha=>by rw[OD (h a ha)];simp⟩
theorem B69{A:List En}{p:List UInt8}(h:∀a∈A,bl p a.p=true):A.filter (fun e=>bl e.p p)=[]/\A.filter (fun e=>bl p e.p)=A:=
 ⟨List.filter_eq_nil_iff.2 fun a ha=>by rw[OD (h a ha)];simp,List.filter_eq_self.2 h⟩
theorem AE9.keep{es A B:List En}{f x:En}(T:AE9 es A f B x.p):WJ es x=A++IV x::B:=by
 have h1:=B68 T.lo;have h2:=B69 T.hi;have e:=T.nm;unfold WJ;rw[T.eq,List.filter_append,List.filter_append,List.filter_cons,List.filter_cons,h1.1,h1.2,h2.1,h2.2,e,O9];simp
theorem CS9.keep{es A B:List En}{x:En}(G:CS9 es A B x.p):WJ es x=A++IV x::B:=by
 have h1:=B68 G.lo;have h2:=B69 G.hi;unfold WJ;rw[G.eq,List.filter_append,List.filter_append,h1.1,h1.2,h2.1,h2.2];simp
theorem BP9{es:List En}(h:B66 es)(x:En):B66 (WJ es x):=by
 have go:∀A B,B66 (A++B)->(∀a∈A,bl a.p x.p=true)->(∀b∈B,bl x.p b.p=true)->B66 (A++IV x::B):=fun A B h lo hi=>by
  unfold B66 at h⊢;rw[List.pairwise_append]at h;rw[List.pairwise_append,List.pairwise_cons];refine⟨h.1,⟨fun b hb=>by rw[A56];exact hi b hb,h.2.1⟩,fun a ha b hb=>?_⟩;rcases List.mem_cons.1 hb with rfl|hb
  .rw[A56];exact lo a ha
  .exact h.2.2 a ha b hb
 rcases AF0 x.p es h with⟨A,f,B,T⟩|⟨A,B,G⟩
 .rw[T.keep];refine go A B ?_ T.lo T.hi;have h':=h;rw[T.eq]at h';exact h'.sublist (List.Sublist.append (List.Sublist.refl A) (List.sublist_cons_self f B))
 .rw[G.keep];exact go A B (by rw[<-G.eq];exact h) G.lo G.hi
theorem BQ0(es:List En)(h:B66 es)(x:En):(WJ es x).length<=es.length+1:=by
 rcases AF0 x.p es h with⟨A,f,B,T⟩|⟨A,B,G⟩
 .rw[T.keep,T.eq];simp
 .rw[G.keep,G.eq];simp;omega
theorem BQ1{es:List En}{x e:En}(h:e∈WJ es x):e∈es\/e=IV x:=by
 rcases List.mem_append.1 h with h|h
 .exact .inl (List.mem_filter.1 h).1
 .rcases List.mem_cons.1 h with h|h
  .exact .inr h
  .exact .inl (List.mem_filter.1 h).1
theorem BQ2{s:Int}{l:List Nt}{es:List En}(h:B66 es):B66 (UN s l es):=List.Pairwise.sublist List.filter_sublist h
def yD(es:List En):Prop:=∀x∈es,x.p.length<=140737488355328/\x.d.length<=140737488355328
theorem pO{x:En}(h:x.p.length<=140737488355328/\x.d.length<=140737488355328):(IV x).p.length<=140737488355328/\(IV x).d.length<=140737488355328:=by
 unfold IV
 split
 .exact h
 .exact⟨h.1,by simp⟩
end Go.Proofs.YthcncjimjclfpaaGreatDoor
