/-
  Part.
-/
import Derived.Test.YthcncjimjclfpaaGreatDoorLOB
set_option maxRecDepth 20000
set_option maxHeartbeats 8000000
namespace Go.Proofs.YthcncjimjclfpaaGreatDoor
open Go.RowKit
def WJ:List UInt8->Option (List UInt8×List UInt8)
 |[]=>none
 |c::l=>match WJ l with
  |some (a,b)=>some (c::a,b)
  |none=>if c=47 then some ([],l)else none
theorem fJ:∀b:List UInt8,47∉b->WJ b=none
 |[],_=>rfl
 |c::l,h=>by
  have h1:c≠47:=by rintro rfl;simp at h
  rw[WJ,fJ l (by simp at h;exact h.2)];simp[h1]
theorem TF(b:List UInt8)(hb:47∉b):∀a:List UInt8,WJ (a++47::b)=some (a,b)
 |[]=>by simp[WJ,fJ b hb]
 |c::a=>by simp[WJ,TF b hb a]
def CH7(a:List UInt8):List UInt8:=if a=[]then [47]else a
def IE(p:List UInt8):List UInt8:=if J4 p=true/\p≠[47]then(match WJ p with
 |some (a,_)=>CH7 a
 |none=>[])else []
def NU(p:List UInt8):List UInt8:=if J4 p=true/\p≠[47]then(match WJ p with
 |some (_,b)=>b
 |none=>[])else []
def AS7(p:List UInt8):Int:=if J4 p=true then(if p=[47]then 7 else 0)else 2
theorem jC{p:List UInt8}(h:J4 p=true):∃r,p=47::r:=by
 simp only[J4,Bool.and_eq_true]at h;have h1:=h.1.2
 cases p with
 |nil=>simp[Lib.hasPrefix,List.isPrefixOf]at h1
 |cons c r=>simp[Lib.hasPrefix,List.isPrefixOf]at h1;exact⟨r,by rw[h1]⟩
theorem AV7:J4 []=false:=by decide+kernel
theorem ZX{p:List UInt8}(h:J4 p=true):∃a b,p=a++47::b/\47∉b:=by
 obtain⟨r,rfl⟩:=jC h;exact nM _ (by simp)
theorem ZY{a b:List UInt8}(h:J4 (a++47::b)=true)(hn:a++47::b≠[47])(hb:47∉b):IE (a++47::b)=CH7 a:=by
 rw[IE,if_pos ⟨h,hn⟩,TF b hb a]
theorem AH8{a b:List UInt8}(h:J4 (a++47::b)=true)(hn:a++47::b≠[47])(hb:47∉b):NU (a++47::b)=b:=by
 rw[NU,if_pos ⟨h,hn⟩,TF b hb a]
theorem aA{p:List UInt8}(h:J4 p=false):IE p=[]:=by rw[IE,if_neg (by simp[h])]
theorem AH9{p:List UInt8}(h:J4 p=false):NU p=[]:=by rw[NU,if_neg (by simp[h])]
theorem U9:IE [47]=[]:=by rw[IE,if_neg (by simp)]
theorem zN:NU [47]=[]:=by rw[NU,if_neg (by simp)]
theorem A82{p:List UInt8}(h:J4 p=false):AS7 p=2:=by rw[AS7,if_neg (by simp[h])]
theorem uQ:AS7 [47]=7:=by rw[AS7,if_pos dP,if_pos rfl]
theorem AV8{p:List UInt8}(h:J4 p=true)(hn:p≠[47]):AS7 p=0:=by rw[AS7,if_pos h,if_neg hn]
theorem qI{p:List UInt8}(h:J4 p=true)(hn:p≠[47]):IE p≠p/\IE p≠[]:=by
 obtain⟨a,b,rfl,hb⟩:=ZX h;rw[ZY h hn hb,CH7]
 split
 .rename_i h0;subst h0
  exact⟨fun e=>hn (by simpa using e.symm),by simp⟩
 .rename_i h0
  refine⟨fun e=>?_,h0⟩;have:=congrArg List.length e;simp at this
structure Nd where
 p:List UInt8
 d:List UInt8
 c:Int
 m:Int
 q:Int
 v:Int
 k:Int
 o:Int
 n:Int
instance:Inhabited Nd:=⟨⟨[],[],0,0,0,0,0,0,0⟩⟩
structure Tr where
 z:Int
 ns:List Nd
 ss:List Int
def tr0:Tr:=⟨0,[],[]⟩
def zO:Nd:=⟨[47],[],0,0,0,0,0,0,0⟩
def QH:Tr:=⟨0,[zO],[]⟩
def nO(ns:List Nd):Prop:=ns.Pairwise fun a b=>bl a.p b.p=true
def NY(ns:List Nd)(p:List UInt8):Nat:=ns.countP fun x=>decide (IE x.p=p)
structure NOk(z:Int)(ns:List Nd)(ss:List Int)(n:Nd):Prop where
 data:n.d.length<=256
 path:J4 n.p=true
 up:n.p≠[47]->∃u∈ns,u.p=IE n.p
 c0:0<=n.c
 cm:n.c<=n.m
 cq:n.c<=n.q
 mz:n.m<=z
 qz:n.q<=z
 v0:0<=n.v
 v1:n.v<=2147483647
 k0:0<=n.k
 kids:n.n=NY ns n.p
 own:n.o=0\/n.o∈ss/\n.n=0
structure PG(z:Int)(ns:List Nd)(ss:List Int):Prop where
 few:ns.length<=400
 root:∃r rest,ns=r::rest/\r.p=[47]/\r.o=0
 asc:nO ns
 ok:∀n∈ns,NOk z ns ss n
def qJ(ss:List Int):Prop:=ss.Pairwise (· < ·)/\∀s∈ss,1<=s/\s<=2147483647
structure QI(t:Tr):Prop where
 zx:KL t.z=true
 ses:qJ t.ss
 nod:PG t.z t.ns t.ss
 cap:∀n∈t.ns,n.k<=2147483647
noncomputable def UA(t:Tr):Bool:= @decide (QI t) (Classical.propDecidable _)
theorem S9{t:Tr}:UA t=true↔QI t:=by unfold UA;exact @decide_eq_true_iff _ (Classical.propDecidable _)
theorem Z5{t:Tr}:UA t=false↔¬QI t:=by unfold UA;exact @decide_eq_false_iff_not _ (Classical.propDecidable _)
theorem UC{ns:List Nd}(h:nO ns){a b:Nd}(ha:a∈ns)(hb:b∈ns)(e:a.p=b.p):a=b:=by
 obtain⟨i,hi,rfl⟩:=List.getElem_of_mem ha;obtain⟨j,hj,rfl⟩:=List.getElem_of_mem hb;have h:=List.pairwise_iff_getElem.1 h;by_cases h1:i<j
 .exact absurd e (U6 (h i j hi hj h1))
 .by_cases h2:j<i
  .exact absurd e.symm (U6 (h j i hj hi h2))
  .obtain rfl:i=j:=by omega
   rfl
structure KF(ns A:List Nd)(n:Nd)(B:List Nd)(p:List UInt8):Prop where
 eq:ns=A++n::B
 nm:n.p=p
 lo:∀a∈A,bl a.p p=true
 hi:∀b∈B,bl p b.p=true
structure mM(ns A B:List Nd)(p:List UInt8):Prop where
 eq:ns=A++B
 lo:∀a∈A,bl a.p p=true
 hi:∀b∈B,bl p b.p=true
theorem YN(p:List UInt8):∀ns:List Nd,nO ns->(∃A n B,KF ns A n B p)\/∃A B,mM ns A B p
 |[],_=>.inr ⟨[],[],rfl,by simp,by simp⟩
 |x::r,h=>by
  obtain⟨hx,hr⟩:=List.pairwise_cons.1 h
  cases h1:bl x.p p with
  |true=>
   rcases YN p r hr with⟨A,f,B,T⟩|⟨A,B,G⟩
   .exact .inl ⟨x::A,f,B,by rw[T.eq];rfl,T.nm,by simp[h1];exact T.lo,T.hi⟩
   .exact .inr ⟨x::A,B,by rw[G.eq];rfl,by simp[h1];exact G.lo,G.hi⟩
  |false=>
   cases h2:bl p x.p with
   |true=>exact .inr ⟨[],x::r,rfl,by simp,by simp[h2];exact fun b hb=>RG _ _ _ h2 (hx b hb)⟩
   |false=>
    have e:=RH _ _ h1 h2;exact .inl ⟨[],x,r,rfl,e,by simp,fun b hb=>by rw[<-e];exact hx b hb⟩
def JD(ns:List Nd)(p:List UInt8):Option Nd:=ns.find? fun n=>decide (n.p=p)
theorem KF.look{ns A B:List Nd}{n:Nd}{p:List UInt8}(T:KF ns A n B p):JD ns p=some n:=by
 rw[JD,T.eq,List.find?_append,List.find?_eq_none.2 (fun a ha=>by simp[U6 (T.lo a ha)])];simp[T.nm]
theorem mM.no{ns A B:List Nd}{p:List UInt8}(G:mM ns A B p):∀n∈ns,n.p≠p:=by
 intro n hn;rw[G.eq]at hn;rcases List.mem_append.1 hn with h|h
 .exact U6 (G.lo n h)
 .exact(U6 (G.hi n h)).symm
theorem mM.look{ns A B:List Nd}{p:List UInt8}(G:mM ns A B p):JD ns p=none:=by
 rw[JD,List.find?_eq_none];intro n hn;simp[G.no n hn]
theorem PS{ns:List Nd}{p:List UInt8}{n:Nd}(h:JD ns p=some n):n∈ns/\n.p=p:=by
 refine⟨List.mem_of_find?_eq_some h,?_⟩;have:=List.find?_some h;simpa using this
theorem V6{ns:List Nd}(h:nO ns){n:Nd}(hn:n∈ns):JD ns n.p=some n:=by
 rcases YN n.p ns h with⟨A,m,B,T⟩|⟨A,B,G⟩
 .rw[T.look,UC h (by rw[T.eq];simp) hn T.nm]
 .exact absurd rfl (G.no n hn)
theorem RJ{ns:List Nd}(h:nO ns){p:List UInt8}{n:Nd}(hn:JD ns p=some n):∃A B,KF ns A n B p:=by
 rcases YN p ns h with⟨A,m,B,T⟩|⟨A,B,G⟩
 .rw[T.look]at hn;cases hn;exact⟨A,B,T⟩
 .rw[G.look]at hn;cases hn
theorem jD{ns:List Nd}(h:nO ns){p:List UInt8}(hn:JD ns p=none):∃A B,mM ns A B p:=by
 rcases YN p ns h with⟨A,m,B,T⟩|⟨A,B,G⟩
 .rw[T.look]at hn;cases hn
 .exact⟨A,B,G⟩
def zQ(ns:List Nd)(p:List UInt8):List Nd:=ns.filter fun n=>decide (n.p≠p)
def CF6(ns:List Nd)(x:Nd):List Nd:=(ns.filter fun n=>bl n.p x.p)++x::(ns.filter fun n=>bl x.p n.p)
def bump(z more:Int)(n:Nd):Nd:=⟨n.p,n.d,n.c,n.m,z,n.v,n.k+1,n.o,n.n+more⟩
def MV(p:List UInt8)(z more:Int)(ns:List Nd):List Nd:=ns.map fun n=>if n.p=p then bump z more n else n
def uS(p d:List UInt8)(v z:Int)(ns:List Nd):List Nd:=ns.map fun n=>if n.p=p then⟨n.p,d,n.c,z,n.q,v,n.k,n.o,n.n⟩else n
theorem OJ{α:Type}(f:α->Bool)(l:List α)(h:∀x∈l,f x=true):l.filter f=l:=List.filter_eq_self.2 h
theorem aB{α:Type}(f:α->Bool)(l:List α)(h:∀x∈l,f x=false):l.filter f=[]:=List.filter_eq_nil_iff.2 (fun x hx=>by simp[h x hx])
theorem A83{α:Type}(f:α->α)(l:List α)(h:∀x∈l,f x=x):l.map f=l:=by
 induction l with
 |nil=>rfl
 |cons x r ih=>rw[List.map_cons,h x (by simp),ih (fun y hy=>h y (by simp[hy]))]
theorem KF.drop{ns A B:List Nd}{n:Nd}{p:List UInt8}(T:KF ns A n B p):zQ ns p=A++B:=by
 rw[zQ,T.eq,List.filter_append,List.filter_cons,OJ _ A (fun a ha=>by simp[U6 (T.lo a ha)]),OJ _ B (fun a ha=>by simp[(U6 (T.hi a ha)).symm])];simp[T.nm]
theorem mM.ins{ns A B:List Nd}{x:Nd}(G:mM ns A B x.p):CF6 ns x=A++x::B:=by
 rw[CF6,G.eq,List.filter_append,List.filter_append,OJ _ A (fun a ha=>G.lo a ha),aB _ B (fun a ha=>OC (G.hi a ha)),aB _ A (fun a ha=>OC (G.lo a ha)),OJ _ B (fun a ha=>G.hi a ha)];simp
theorem KF.CH8{ns A B:List Nd}{n:Nd}{p:List UInt8}(T:KF ns A n B p)(g:Nd->Nd):(ns.map fun x=>if x.p=p then g x else x)=A++g n::B:=by
 rw[T.eq,List.map_append,List.map_cons,A83 _ A (fun a ha=>by simp[U6 (T.lo a ha)]),A83 _ B (fun a ha=>by simp[(U6 (T.hi a ha)).symm])];simp[T.nm]
theorem KF.bump{ns A B:List Nd}{n:Nd}{p:List UInt8}(T:KF ns A n B p)(z more:Int):MV p z more ns=A++bump z more n::B:=T.CH8 _
theorem KF.put{ns A B:List Nd}{n:Nd}{p:List UInt8}(T:KF ns A n B p)(d:List UInt8)(v z:Int):uS p d v z ns=A++⟨n.p,d,n.c,z,n.q,v,n.k,n.o,n.n⟩::B:=T.CH8 _
theorem TG(p:List UInt8)(z more:Int)(n:Nd):(if n.p=p then bump z more n else n).p=n.p:=by split<;>rfl
theorem WL(p:List UInt8)(z more:Int)(ns:List Nd):(MV p z more ns).map Nd.p=ns.map Nd.p:=by
 rw[MV,List.map_map]
 apply List.map_congr_left
 intro n _;exact TG p z more n
theorem OL(ns:List Nd):nO ns↔(ns.map Nd.p).Pairwise fun a b=>bl a b=true:=by rw[List.pairwise_map];rfl
theorem PU(ns:List Nd)(p:List UInt8):NY ns p=(ns.map Nd.p).countP fun x=>decide (IE x=p):=by rw[List.countP_map];rfl
def C23(ss:List Int)(s:Int):List Int:=(ss.filter fun x=>decide (x<s))++s::(ss.filter fun x=>decide (s<x))
def AI0(ss:List Int)(s:Int):List Int:=ss.filter fun x=>decide (x≠s)
structure jE(ss A B:List Int)(s:Int):Prop where
 eq:ss=A++s::B
 lo:∀a∈A,a<s
 hi:∀b∈B,s<b
structure C24(ss A B:List Int)(s:Int):Prop where
 eq:ss=A++B
 lo:∀a∈A,a<s
 hi:∀b∈B,s<b
theorem uT(s:Int):∀ss:List Int,ss.Pairwise (· < ·)->(∃A B,jE ss A B s)\/∃A B,C24 ss A B s
 |[],_=>.inr ⟨[],[],rfl,by simp,by simp⟩
 |x::r,h=>by
  obtain⟨hx,hr⟩:=List.pairwise_cons.1 h;by_cases h1:x<s
  .rcases uT s r hr with⟨A,B,T⟩|⟨A,B,G⟩
   .exact .inl ⟨x::A,B,by rw[T.eq];rfl,by simp[h1];exact T.lo,T.hi⟩
   .exact .inr ⟨x::A,B,by rw[G.eq];rfl,by simp[h1];exact G.lo,G.hi⟩
  .by_cases h2:s<x
   .exact .inr ⟨[],x::r,rfl,by simp,by simp[h2];exact fun b hb=>Int.lt_trans h2 (hx b hb)⟩
   .obtain rfl:x=s:=by omega
    exact .inl ⟨[],r,rfl,by simp,hx⟩
theorem jE.mem{ss A B:List Int}{s:Int}(T:jE ss A B s):s∈ss:=by rw[T.eq];simp
theorem C24.not{ss A B:List Int}{s:Int}(G:C24 ss A B s):s∉ss:=by
 intro h;rw[G.eq]at h;rcases List.mem_append.1 h with h|h
 .exact absurd (G.lo s h) (by omega)
 .exact absurd (G.hi s h) (by omega)
theorem C24.ins{ss A B:List Int}{s:Int}(G:C24 ss A B s):C23 ss s=A++s::B:=by
 rw[C23,G.eq,List.filter_append,List.filter_append,OJ _ A (fun a ha=>by simpa using G.lo a ha),aB _ B (fun a ha=>by have:=G.hi a ha;simp;omega),aB _ A (fun a ha=>by have:=G.lo a ha;simp;omega),OJ _ B (fun a ha=>by simpa using G.hi a ha)];simp
theorem jE.drop{ss A B:List Int}{s:Int}(T:jE ss A B s):AI0 ss s=A++B:=by
 rw[AI0,T.eq,List.filter_append,List.filter_cons,OJ _ A (fun a ha=>by have:=T.lo a ha;simp;omega),OJ _ B (fun a ha=>by have:=T.hi a ha;simp;omega)];simp
theorem nP(M:Int):∀ (ss:List Int) (lo:Int),ss.Pairwise (· < ·)->(∀s∈ss,lo<s/\s<=M)->lo<=M->(ss.length:Int)<=M-lo
 |[],lo,_,_,h=>by simp;omega
 |x::r,lo,hp,hb,_=>by
  obtain⟨hx,hr⟩:=List.pairwise_cons.1 hp;have h1:=hb x (by simp);have:=nP M r x hr (fun s hs=>⟨hx s hs,(hb s (by simp[hs])).2⟩) h1.2;simp;omega
theorem TI{ss:List Int}(h:qJ ss):ss.length<=2147483647:=by
 have:=nP 2147483647 ss 0 h.1 (fun s hs=>by have:=h.2 s hs;omega) (by omega);omega
theorem A84{ss:List Int}{s:Int}(h:qJ ss)(hs:1<=s/\s<=2147483647)(hn:s∉ss):qJ (C23 ss s):=by
 rcases uT s ss h.1 with⟨A,B,T⟩|⟨A,B,G⟩
 .exact absurd T.mem hn
 .rw[G.ins];have h1:=h.1;have h2:=h.2;rw[G.eq]at h1 h2;rw[List.pairwise_append]at h1;refine⟨?_,?_⟩
  .rw[List.pairwise_append,List.pairwise_cons];refine⟨h1.1,⟨G.hi,h1.2.1⟩,fun a ha b hb=>?_⟩;rcases List.mem_cons.1 hb with rfl|hb
   .exact G.lo a ha
   .exact h1.2.2 a ha b hb
  .intro x hx;rcases List.mem_append.1 hx with h|h
   .exact h2 x (by simp[h])
   .rcases List.mem_cons.1 h with rfl|h
    .exact hs
    .exact h2 x (by simp[h])
theorem AV9{ss:List Int}(s:Int)(h:qJ ss):qJ (AI0 ss s):=⟨h.1.filter _,fun x hx=>h.2 x (List.mem_filter.1 hx).1⟩
theorem BH0{ss:List Int}{s x:Int}(hx:x∈ss):x∈C23 ss s:=by
 rw[C23];by_cases h1:x<s
 .exact List.mem_append_left _ (List.mem_filter.2 ⟨hx,by simpa using h1⟩)
 .by_cases h2:s<x
  .exact List.mem_append_right _ (List.mem_cons_of_mem _ (List.mem_filter.2 ⟨hx,by simpa using h2⟩))
  .obtain rfl:x=s:=by omega
   exact List.mem_append_right _ (by simp)
end Go.Proofs.YthcncjimjclfpaaGreatDoor
namespace Go.Proofs.YthcncjimjclfpaaGreatDoor
structure Wa where
 s:Int
 k:Int
 p:List UInt8
structure Nt where
 s:Int
 k:Int
 p:List UInt8
def iE(w:Wa)(e:Ev):Bool:=decide (w.p=e.p)&&(if w.k=2 then decide (e.k=4)||decide (e.k=2)else decide (e.k=1)||decide (e.k=2)||decide (e.k=3))
def A99(e:Ev)(w:Wa):Nt:=⟨w.s,e.k,e.p⟩
def TT(ws:List Wa)(e:Ev):List Nt:=(ws.filter (fun w=>iE w e)).map (A99 e)
def jK(ws:List Wa)(e:Ev):List Wa:=ws.filter (fun w=> !iE w e)
def O9:List Wa->List Ev->List Nt
 |_,[]=>[]
 |ws,e::r=>TT ws e++O9 (jK ws e) r
def LC:List Wa->List Ev->List Wa
 |ws,[]=>ws
 |ws,e::r=>LC (jK ws e) r
def mQ(ws:List Wa)(s:Int):List Wa:=ws.filter (fun w=> !decide (w.s=s))
theorem BJ1(ws:List Wa)(f:Wa->Bool):(ws.filter f).length+(ws.filter (fun w=> !f w)).length=ws.length:=by
 induction ws with
 |nil=>rfl
 |cons w r ih=>
  cases h:f w
  .simp[h];omega
  .simp[h];omega
theorem qL(ws:List Wa)(e:Ev):(TT ws e).length+(jK ws e).length=ws.length:=by
 simp only[TT,jK,List.length_map];exact BJ1 ws (fun w=>iE w e)
theorem iF(es:List Ev):∀ws:List Wa,(O9 ws es).length+(LC ws es).length=ws.length:=by
 induction es with
 |nil=>intro ws;simp[O9,LC]
 |cons e r ih=>
  intro ws;have h1:=qL ws e;have h2:=ih (jK ws e);simp only[O9,LC,List.length_append];omega
theorem AY2(a b:List Ev):∀ws:List Wa,O9 ws (a++b)=O9 ws a++O9 (LC ws a) b:=by
 induction a with
 |nil=>intro ws;simp[O9,LC]
 |cons e r ih=>intro ws;simp[O9,LC,ih]
theorem AY3(a b:List Ev):∀ws:List Wa,LC ws (a++b)=LC (LC ws a) b:=by
 induction a with
 |nil=>intro ws;simp[LC]
 |cons e r ih=>intro ws;simp[LC,ih]
theorem jL(es:List Ev):∀ (ws:List Wa) (w:Wa),w∈LC ws es->w∈ws/\∀e∈es,iE w e=false:=by
 induction es with
 |nil=>intro ws w h;exact⟨h,by simp⟩
 |cons e r ih=>
  intro ws w h;obtain⟨h1,h2⟩:=ih (jK ws e) w h;simp only[jK,List.mem_filter]at h1;refine⟨h1.1,fun x hx=>?_⟩;rcases List.mem_cons.1 hx with rfl|hx
  .simpa using h1.2
  .exact h2 x hx
theorem AY4(ws:List Wa)(es:List Ev)(w:Wa)(h:w∈LC ws es):w∈ws:=(jL es ws w h).1
end Go.Proofs.YthcncjimjclfpaaGreatDoor
namespace Go.Proofs.YthcncjimjclfpaaGreatDoor
open Go.RowKit
structure En where
 p:List UInt8
 d:List UInt8
 t:Bool
def yX(es:List En):Prop:=es.Pairwise fun a b=>bl a.p b.p=true
def IL(x:En):En:=if x.t=true then x else⟨x.p,[],false⟩
def QM(es:List En)(x:En):List En:=es.filter (fun e=>bl e.p x.p)++IL x::es.filter (fun e=>bl x.p e.p)
def OV(es:List En)(p:List UInt8):Option En:=es.find? fun e=>decide (e.p=p)
def noneE:En:=⟨[],[],false⟩
def B68(s:Int)(l:List Nt)(p:List UInt8):Bool:=l.any fun n=>decide (n.s=s)&& !decide (n.k=4)&&decide (n.p=p)
def QX(s:Int)(l:List Nt)(es:List En):List En:=es.filter fun e=> !B68 s l e.p
theorem kZ(x:En):(IL x).p=x.p:=by unfold IL;split<;>rfl
theorem B69{x:En}(h:x.t=true):IL x=x:=by unfold IL;rw[if_pos h]
theorem BQ0{x:En}(h:x.t=false):IL x=⟨x.p,[],x.t⟩:=by unfold IL;rw[h];rfl
structure l7(es A:List En)(f:En)(B:List En)(p:List UInt8):Prop where
 eq:es=A++f::B
 nm:f.p=p
 lo:∀a∈A,bl a.p p=true
 hi:∀b∈B,bl p b.p=true
structure CG2(es A B:List En)(p:List UInt8):Prop where
 eq:es=A++B
 lo:∀a∈A,bl a.p p=true
 hi:∀b∈B,bl p b.p=true
theorem xP(p:List UInt8):∀es:List En,yX es->(∃A f B,l7 es A f B p)\/∃A B,CG2 es A B p
 |[],_=>.inr ⟨[],[],rfl,by simp,by simp⟩
 |x::r,h=>by
  obtain⟨hx,hr⟩:=List.pairwise_cons.1 h
  cases h1:bl x.p p with
  |true=>
   rcases xP p r hr with⟨A,f,B,T⟩|⟨A,B,G⟩
   .exact .inl ⟨x::A,f,B,by rw[T.eq];rfl,T.nm,by simp[h1];exact T.lo,T.hi⟩
   .exact .inr ⟨x::A,B,by rw[G.eq];rfl,by simp[h1];exact G.lo,G.hi⟩
  |false=>
   cases h2:bl p x.p with
   |true=>exact .inr ⟨[],x::r,rfl,by simp,by simp[h2];exact fun b hb=>RG _ _ _ h2 (hx b hb)⟩
   |false=>
    have e:=RH _ _ h1 h2;exact .inl ⟨[],x,r,rfl,e,by simp,fun b hb=>by rw[<-e];exact hx b hb⟩
theorem B70{A:List En}{p:List UInt8}(h:∀a∈A,bl a.p p=true):A.filter (fun e=>bl e.p p)=A/\A.filter (fun e=>bl p e.p)=[]:=
 ⟨List.filter_eq_self.2 h,List.filter_eq_nil_iff.2 fun a ha=>by rw[OC (h a ha)];simp⟩
theorem B71{A:List En}{p:List UInt8}(h:∀a∈A,bl p a.p=true):A.filter (fun e=>bl e.p p)=[]/\A.filter (fun e=>bl p e.p)=A:=
 ⟨List.filter_eq_nil_iff.2 fun a ha=>by rw[OC (h a ha)];simp,List.filter_eq_self.2 h⟩
theorem l7.keep{es A B:List En}{f x:En}(T:l7 es A f B x.p):QM es x=A++IL x::B:=by
 have h1:=B70 T.lo;have h2:=B71 T.hi;have e:=T.nm;unfold QM;rw[T.eq,List.filter_append,List.filter_append,List.filter_cons,List.filter_cons,h1.1,h1.2,h2.1,h2.2,e,QE];simp
theorem CG2.keep{es A B:List En}{x:En}(G:CG2 es A B x.p):QM es x=A++IL x::B:=by
 have h1:=B70 G.lo;have h2:=B71 G.hi;unfold QM;rw[G.eq,List.filter_append,List.filter_append,h1.1,h1.2,h2.1,h2.2];simp
theorem l7.look{es A B:List En}{f:En}{p:List UInt8}(T:l7 es A f B p):OV es p=some f:=by
 rw[OV,T.eq,List.find?_append,List.find?_eq_none.2 (fun a ha=>by simp[U6 (T.lo a ha)])];simp[T.nm]
theorem CG2.look{es A B:List En}{p:List UInt8}(G:CG2 es A B p):OV es p=none:=by
 rw[OV,G.eq,List.find?_append,List.find?_eq_none.2 (fun a ha=>by simp[U6 (G.lo a ha)]),List.find?_eq_none.2 (fun b hb=>by simp[(U6 (G.hi b hb)).symm])];rfl
theorem rQ{es:List En}(h:yX es)(x:En):yX (QM es x):=by
 have go:∀A B,yX (A++B)->(∀a∈A,bl a.p x.p=true)->(∀b∈B,bl x.p b.p=true)->yX (A++IL x::B):=fun A B h lo hi=>by
  unfold yX at h⊢;rw[List.pairwise_append]at h;rw[List.pairwise_append,List.pairwise_cons];refine⟨h.1,⟨fun b hb=>by rw[kZ];exact hi b hb,h.2.1⟩,fun a ha b hb=>?_⟩;rcases List.mem_cons.1 hb with rfl|hb
  .rw[kZ];exact lo a ha
  .exact h.2.2 a ha b hb
 rcases xP x.p es h with⟨A,f,B,T⟩|⟨A,B,G⟩
 .rw[T.keep];refine go A B ?_ T.lo T.hi;have h':=h;rw[T.eq]at h';exact h'.sublist (List.Sublist.append (List.Sublist.refl A) (List.sublist_cons_self f B))
 .rw[G.keep];exact go A B (by rw[<-G.eq];exact h) G.lo G.hi
theorem BQ1(es:List En)(h:yX es)(x:En):(QM es x).length<=es.length+1:=by
 rcases xP x.p es h with⟨A,f,B,T⟩|⟨A,B,G⟩
 .rw[T.keep,T.eq];simp
 .rw[G.keep,G.eq];simp;omega
theorem AD6{es:List En}{x e:En}(h:e∈QM es x):e∈es\/e=IL x:=by
 rcases List.mem_append.1 h with h|h
 .exact .inl (List.mem_filter.1 h).1
 .rcases List.mem_cons.1 h with h|h
  .exact .inr h
  .exact .inl (List.mem_filter.1 h).1
theorem xQ{es:List En}{p:List UInt8}{e:En}(h:OV es p=some e):e∈es/\e.p=p:=
 ⟨List.mem_of_find?_eq_some h,by simpa using List.find?_some h⟩
theorem A43{es:List En}(ha:yX es){e:En}(h:e∈es):OV es e.p=some e:=by
 obtain⟨A,B,rfl⟩:=List.append_of_mem h;unfold yX at ha;rw[List.pairwise_append,List.pairwise_cons]at ha;exact(show l7 (A++e::B) A e B e.p from⟨rfl,rfl,fun a h=>ha.2.2 a h e (by simp),fun b h=>ha.2.1.1 b h⟩).look
theorem B72{es:List En}(h:yX es)(x:En):OV (QM es x) x.p=some (IL x):=by
 have:=A43 (rQ h x) (e:=IL x) (by unfold QM;simp);rwa[kZ]at this
theorem AP2{es:List En}(h:yX es)(x:En){p:List UInt8}(hp:p≠x.p):OV (QM es x) p=OV es p:=by
 cases hl:OV es p with
 |some e=>
  obtain⟨h1,h2⟩:=xQ hl;have:e∈QM es x:=by
   unfold QM
   cases hb:bl e.p x.p with
   |true=>exact List.mem_append.2 (.inl (List.mem_filter.2 ⟨h1,hb⟩))
   |false=>
    cases hb2:bl x.p e.p with
    |true=>exact List.mem_append.2 (.inr (List.mem_cons_of_mem _ (List.mem_filter.2 ⟨h1,hb2⟩)))
    |false=>exact absurd ((RH _ _ hb hb2).symm.trans h2) hp.symm
  have:=A43 (rQ h x) this;rwa[h2]at this
 |none=>
  cases hk:OV (QM es x) p with
  |none=>rfl
  |some e=>
   obtain⟨h1,h2⟩:=xQ hk;rcases AD6 h1 with h3|h3
   .have:=A43 h h3;rw[h2,hl]at this
    cases this
   .rw[h3,kZ]at h2;exact absurd h2.symm hp
theorem B73(s:Int)(l:List Nt)(es:List En)(p:List UInt8):OV (QX s l es) p=if B68 s l p=true then none else OV es p:=by
 unfold OV QX;rw[List.find?_filter];by_cases h:B68 s l p=true
 .rw[if_pos h];refine List.find?_eq_none.2 fun e _ he=>?_;simp only[Bool.not_eq_true',decide_eq_true_eq]at he;rw[he.2,h]at he
  cases he.1
 .rw[if_neg h]
  congr 1
  funext e
  by_cases hp:e.p=p
  .simp only[hp,decide_true];simpa using h
  .simp[hp]
theorem BQ2{s:Int}{l:List Nt}{es:List En}(h:yX es):yX (QX s l es):=List.Pairwise.sublist List.filter_sublist h
def oV(es:List En):Prop:=∀x∈es,x.p.length<=140737488355328/\x.d.length<=140737488355328
theorem oW{x:En}(h:x.p.length<=140737488355328/\x.d.length<=140737488355328):(IL x).p.length<=140737488355328/\(IL x).d.length<=140737488355328:=by
 unfold IL
 split
 .exact h
 .exact⟨h.1,by simp⟩
def CU4:Option En->En
 |some e=>e
 |none=>noneE
end Go.Proofs.YthcncjimjclfpaaGreatDoor
