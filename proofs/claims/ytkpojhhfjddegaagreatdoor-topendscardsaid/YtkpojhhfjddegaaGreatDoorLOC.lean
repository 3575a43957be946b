/-
  Part.
-/
import Derived.Test.YtkpojhhfjddegaaGreatDoorLOB
set_option maxRecDepth 20000
set_option maxHeartbeats 8000000
namespace Go.Proofs.YtkpojhhfjddegaaGreatDoor
open Go.RowKit
def XI:List UInt8->Option (List UInt8×List UInt8)
 |[]=>none
 |c::l=>match XI l with
  |some (a,b)=>some (c::a,b)
  |none=>if c=47 then some ([],l)else none
theorem gU:∀b:List UInt8,47∉b->XI b=none
 |[],_=>rfl
 |c::l,h=>by
  have h1:c≠47:=by rintro rfl;simp at h
  rw[XI,gU l (by simp at h;exact h.2)];simp[h1]
theorem UE(b:List UInt8)(hb:47∉b):∀a:List UInt8,XI (a++47::b)=some (a,b)
 |[]=>by simp[XI,gU b hb]
 |c::a=>by simp[XI,UE b hb a]
def CK2(a:List UInt8):List UInt8:=if a=[]then [47]else a
def IQ(p:List UInt8):List UInt8:=if J7 p=true/\p≠[47]then(match XI p with
 |some (a,_)=>CK2 a
 |none=>[])else []
def O8(p:List UInt8):List UInt8:=if J7 p=true/\p≠[47]then(match XI p with
 |some (_,b)=>b
 |none=>[])else []
def AU7(p:List UInt8):Int:=if J7 p=true then(if p=[47]then 7 else 0)else 2
theorem jX{p:List UInt8}(h:J7 p=true):∃r,p=47::r:=by
 simp only[J7,Bool.and_eq_true]at h;have h1:=h.1.2
 cases p with
 |nil=>simp[Lib.hasPrefix,List.isPrefixOf]at h1
 |cons c r=>simp[Lib.hasPrefix,List.isPrefixOf]at h1;exact⟨r,by rw[h1]⟩
theorem AY2:J7 []=false:=by decide+kernel
theorem aX{p:List UInt8}(h:J7 p=true):∃a b,p=a++47::b/\47∉b:=by
 obtain⟨r,rfl⟩:=jX h;exact oH _ (by simp)
theorem aY{a b:List UInt8}(h:J7 (a++47::b)=true)(hn:a++47::b≠[47])(hb:47∉b):IQ (a++47::b)=CK2 a:=by
 rw[IQ,if_pos ⟨h,hn⟩,UE b hb a]
theorem AK3{a b:List UInt8}(h:J7 (a++47::b)=true)(hn:a++47::b≠[47])(hb:47∉b):O8 (a++47::b)=b:=by
 rw[O8,if_pos ⟨h,hn⟩,UE b hb a]
theorem bC{p:List UInt8}(h:J7 p=false):IQ p=[]:=by rw[IQ,if_neg (by simp[h])]
theorem AK4{p:List UInt8}(h:J7 p=false):O8 p=[]:=by rw[O8,if_neg (by simp[h])]
theorem V6:IQ [47]=[]:=by rw[IQ,if_neg (by simp)]
theorem A13:O8 [47]=[]:=by rw[O8,if_neg (by simp)]
theorem AA6{p:List UInt8}(h:J7 p=false):AU7 p=2:=by rw[AU7,if_neg (by simp[h])]
theorem vO:AU7 [47]=7:=by rw[AU7,if_pos eX,if_pos rfl]
theorem AY3{p:List UInt8}(h:J7 p=true)(hn:p≠[47]):AU7 p=0:=by rw[AU7,if_pos h,if_neg hn]
theorem rC{p:List UInt8}(h:J7 p=true)(hn:p≠[47]):IQ p≠p/\IQ p≠[]:=by
 obtain⟨a,b,rfl,hb⟩:=aX h;rw[aY h hn hb,CK2]
 split
 .rename_i h0;subst h0
  exact⟨fun e=>hn (by simpa using e.symm),by simp⟩
 .rename_i h0
  refine⟨fun e=>?_,h0⟩;have:=congrArg List.length e;simp at this
structure Nd where
 p:List UInt8
 d:List UInt8
 c:Int
 m:Int
 q:Int
 v:Int
 k:Int
 o:Int
 n:Int
instance:Inhabited Nd:=⟨⟨[],[],0,0,0,0,0,0,0⟩⟩
structure Tr where
 z:Int
 ns:List Nd
 ss:List Int
def tr0:Tr:=⟨0,[],[]⟩
def A14:Nd:=⟨[47],[],0,0,0,0,0,0,0⟩
def RH:Tr:=⟨0,[A14],[]⟩
def uX(ns:List Nd):Prop:=ns.Pairwise fun a b=>bl a.p b.p=true
def OA(ns:List Nd)(p:List UInt8):Nat:=ns.countP fun x=>decide (IQ x.p=p)
structure NOk(z:Int)(ns:List Nd)(ss:List Int)(n:Nd):Prop where
 data:n.d.length<=256
 path:J7 n.p=true
 up:n.p≠[47]->∃u∈ns,u.p=IQ n.p
 c0:0<=n.c
 cm:n.c<=n.m
 cq:n.c<=n.q
 mz:n.m<=z
 qz:n.q<=z
 v0:0<=n.v
 v1:n.v<=2147483647
 k0:0<=n.k
 kids:n.n=OA ns n.p
 own:n.o=0\/n.o∈ss/\n.n=0
structure QC(z:Int)(ns:List Nd)(ss:List Int):Prop where
 few:ns.length<=400
 root:∃r rest,ns=r::rest/\r.p=[47]/\r.o=0
 asc:uX ns
 ok:∀n∈ns,NOk z ns ss n
def rD(ss:List Int):Prop:=ss.Pairwise (· < ·)/\∀s∈ss,1<=s/\s<=2147483647
structure SN(t:Tr):Prop where
 zx:KP t.z=true
 ses:rD t.ss
 nod:QC t.z t.ns t.ss
 cap:∀n∈t.ns,n.k<=2147483647
noncomputable def V7(t:Tr):Bool:= @decide (SN t) (Classical.propDecidable _)
theorem TK{t:Tr}:V7 t=true↔SN t:=by unfold V7;exact @decide_eq_true_iff _ (Classical.propDecidable _)
theorem ZR{t:Tr}:V7 t=false↔¬SN t:=by unfold V7;exact @decide_eq_false_iff_not _ (Classical.propDecidable _)
theorem V9{ns:List Nd}(h:uX ns){a b:Nd}(ha:a∈ns)(hb:b∈ns)(e:a.p=b.p):a=b:=by
 obtain⟨i,hi,rfl⟩:=List.getElem_of_mem ha;obtain⟨j,hj,rfl⟩:=List.getElem_of_mem hb;have h:=List.pairwise_iff_getElem.1 h;by_cases h1:i<j
 .exact absurd e (XF (h i j hi hj h1))
 .by_cases h2:j<i
  .exact absurd e.symm (XF (h j i hj hi h2))
  .obtain rfl:i=j:=by omega
   rfl
structure KL(ns A:List Nd)(n:Nd)(B:List Nd)(p:List UInt8):Prop where
 eq:ns=A++n::B
 nm:n.p=p
 lo:∀a∈A,bl a.p p=true
 hi:∀b∈B,bl p b.p=true
structure oI(ns A B:List Nd)(p:List UInt8):Prop where
 eq:ns=A++B
 lo:∀a∈A,bl a.p p=true
 hi:∀b∈B,bl p b.p=true
theorem ZB(p:List UInt8):∀ns:List Nd,uX ns->(∃A n B,KL ns A n B p)\/∃A B,oI ns A B p
 |[],_=>.inr ⟨[],[],rfl,by simp,by simp⟩
 |x::r,h=>by
  obtain⟨hx,hr⟩:=List.pairwise_cons.1 h
  cases h1:bl x.p p with
  |true=>
   rcases ZB p r hr with⟨A,f,B,T⟩|⟨A,B,G⟩
   .exact .inl ⟨x::A,f,B,by rw[T.eq];rfl,T.nm,by simp[h1];exact T.lo,T.hi⟩
   .exact .inr ⟨x::A,B,by rw[G.eq];rfl,by simp[h1];exact G.lo,G.hi⟩
  |false=>
   cases h2:bl p x.p with
   |true=>exact .inr ⟨[],x::r,rfl,by simp,by simp[h2];exact fun b hb=>SI _ _ _ h2 (hx b hb)⟩
   |false=>
    have e:=UD _ _ h1 h2;exact .inl ⟨[],x,r,rfl,e,by simp,fun b hb=>by rw[<-e];exact hx b hb⟩
def LW(ns:List Nd)(p:List UInt8):Option Nd:=ns.find? fun n=>decide (n.p=p)
theorem KL.look{ns A B:List Nd}{n:Nd}{p:List UInt8}(T:KL ns A n B p):LW ns p=some n:=by
 rw[LW,T.eq,List.find?_append,List.find?_eq_none.2 (fun a ha=>by simp[XF (T.lo a ha)])];simp[T.nm]
theorem oI.no{ns A B:List Nd}{p:List UInt8}(G:oI ns A B p):∀n∈ns,n.p≠p:=by
 intro n hn;rw[G.eq]at hn;rcases List.mem_append.1 hn with h|h
 .exact XF (G.lo n h)
 .exact(XF (G.hi n h)).symm
theorem oI.look{ns A B:List Nd}{p:List UInt8}(G:oI ns A B p):LW ns p=none:=by
 rw[LW,List.find?_eq_none];intro n hn;simp[G.no n hn]
theorem YO{ns:List Nd}{p:List UInt8}{n:Nd}(h:LW ns p=some n):n∈ns/\n.p=p:=by
 refine⟨List.mem_of_find?_eq_some h,?_⟩;have:=List.find?_some h;simpa using this
theorem bD{ns:List Nd}(h:uX ns){n:Nd}(hn:n∈ns):LW ns n.p=some n:=by
 rcases ZB n.p ns h with⟨A,m,B,T⟩|⟨A,B,G⟩
 .rw[T.look,V9 h (by rw[T.eq];simp) hn T.nm]
 .exact absurd rfl (G.no n hn)
theorem SQ{ns:List Nd}(h:uX ns){p:List UInt8}{n:Nd}(hn:LW ns p=some n):∃A B,KL ns A n B p:=by
 rcases ZB p ns h with⟨A,m,B,T⟩|⟨A,B,G⟩
 .rw[T.look]at hn;cases hn;exact⟨A,B,T⟩
 .rw[G.look]at hn;cases hn
theorem A15{ns:List Nd}(h:uX ns){p:List UInt8}(hn:LW ns p=none):∃A B,oI ns A B p:=by
 rcases ZB p ns h with⟨A,m,B,T⟩|⟨A,B,G⟩
 .rw[T.look]at hn;cases hn
 .exact⟨A,B,G⟩
def A16(ns:List Nd)(p:List UInt8):List Nd:=ns.filter fun n=>decide (n.p≠p)
def CV3(ns:List Nd)(x:Nd):List Nd:=(ns.filter fun n=>bl n.p x.p)++x::(ns.filter fun n=>bl x.p n.p)
def bump(z more:Int)(n:Nd):Nd:=⟨n.p,n.d,n.c,n.m,z,n.v,n.k+1,n.o,n.n+more⟩
def OE(p:List UInt8)(z more:Int)(ns:List Nd):List Nd:=ns.map fun n=>if n.p=p then bump z more n else n
def AY4(p d:List UInt8)(v z:Int)(ns:List Nd):List Nd:=ns.map fun n=>if n.p=p then⟨n.p,d,n.c,z,n.q,v,n.k,n.o,n.n⟩else n
theorem OW{α:Type}(f:α->Bool)(l:List α)(h:∀x∈l,f x=true):l.filter f=l:=List.filter_eq_self.2 h
theorem bF{α:Type}(f:α->Bool)(l:List α)(h:∀x∈l,f x=false):l.filter f=[]:=List.filter_eq_nil_iff.2 (fun x hx=>by simp[h x hx])
theorem AA7{α:Type}(f:α->α)(l:List α)(h:∀x∈l,f x=x):l.map f=l:=by
 induction l with
 |nil=>rfl
 |cons x r ih=>rw[List.map_cons,h x (by simp),ih (fun y hy=>h y (by simp[hy]))]
theorem KL.drop{ns A B:List Nd}{n:Nd}{p:List UInt8}(T:KL ns A n B p):A16 ns p=A++B:=by
 rw[A16,T.eq,List.filter_append,List.filter_cons,OW _ A (fun a ha=>by simp[XF (T.lo a ha)]),OW _ B (fun a ha=>by simp[(XF (T.hi a ha)).symm])];simp[T.nm]
theorem oI.ins{ns A B:List Nd}{x:Nd}(G:oI ns A B x.p):CV3 ns x=A++x::B:=by
 rw[CV3,G.eq,List.filter_append,List.filter_append,OW _ A (fun a ha=>G.lo a ha),bF _ B (fun a ha=>OO (G.hi a ha)),bF _ A (fun a ha=>OO (G.lo a ha)),OW _ B (fun a ha=>G.hi a ha)];simp
theorem KL.CK3{ns A B:List Nd}{n:Nd}{p:List UInt8}(T:KL ns A n B p)(g:Nd->Nd):(ns.map fun x=>if x.p=p then g x else x)=A++g n::B:=by
 rw[T.eq,List.map_append,List.map_cons,AA7 _ A (fun a ha=>by simp[XF (T.lo a ha)]),AA7 _ B (fun a ha=>by simp[(XF (T.hi a ha)).symm])];simp[T.nm]
theorem KL.bump{ns A B:List Nd}{n:Nd}{p:List UInt8}(T:KL ns A n B p)(z more:Int):OE p z more ns=A++bump z more n::B:=T.CK3 _
theorem KL.put{ns A B:List Nd}{n:Nd}{p:List UInt8}(T:KL ns A n B p)(d:List UInt8)(v z:Int):AY4 p d v z ns=A++⟨n.p,d,n.c,z,n.q,v,n.k,n.o,n.n⟩::B:=T.CK3 _
theorem ZC(p:List UInt8)(z more:Int)(n:Nd):(if n.p=p then bump z more n else n).p=n.p:=by split<;>rfl
theorem XJ(p:List UInt8)(z more:Int)(ns:List Nd):(OE p z more ns).map Nd.p=ns.map Nd.p:=by
 rw[OE,List.map_map]
 apply List.map_congr_left
 intro n _;exact ZC p z more n
theorem OX(ns:List Nd):uX ns↔(ns.map Nd.p).Pairwise fun a b=>bl a b=true:=by rw[List.pairwise_map];rfl
theorem QJ(ns:List Nd)(p:List UInt8):OA ns p=(ns.map Nd.p).countP fun x=>decide (IQ x=p):=by rw[List.countP_map];rfl
def C44(ss:List Int)(s:Int):List Int:=(ss.filter fun x=>decide (x<s))++s::(ss.filter fun x=>decide (s<x))
def AK5(ss:List Int)(s:Int):List Int:=ss.filter fun x=>decide (x≠s)
structure jY(ss A B:List Int)(s:Int):Prop where
 eq:ss=A++s::B
 lo:∀a∈A,a<s
 hi:∀b∈B,s<b
structure C45(ss A B:List Int)(s:Int):Prop where
 eq:ss=A++B
 lo:∀a∈A,a<s
 hi:∀b∈B,s<b
theorem vP(s:Int):∀ss:List Int,ss.Pairwise (· < ·)->(∃A B,jY ss A B s)\/∃A B,C45 ss A B s
 |[],_=>.inr ⟨[],[],rfl,by simp,by simp⟩
 |x::r,h=>by
  obtain⟨hx,hr⟩:=List.pairwise_cons.1 h;by_cases h1:x<s
  .rcases vP s r hr with⟨A,B,T⟩|⟨A,B,G⟩
   .exact .inl ⟨x::A,B,by rw[T.eq];rfl,by simp[h1];exact T.lo,T.hi⟩
   .exact .inr ⟨x::A,B,by rw[G.eq];rfl,by simp[h1];exact G.lo,G.hi⟩
  .by_cases h2:s<x
   .exact .inr ⟨[],x::r,rfl,by simp,by simp[h2];exact fun b hb=>Int.lt_trans h2 (hx b hb)⟩
   .obtain rfl:x=s:=by omega
    exact .inl ⟨[],r,rfl,by simp,hx⟩
theorem jY.mem{ss A B:List Int}{s:Int}(T:jY ss A B s):s∈ss:=by rw[T.eq];simp
theorem C45.not{ss A B:List Int}{s:Int}(G:C45 ss A B s):s∉ss:=by
 intro h;rw[G.eq]at h;rcases List.mem_append.1 h with h|h
 .exact absurd (G.lo s h) (by omega)
 .exact absurd (G.hi s h) (by omega)
theorem C45.ins{ss A B:List Int}{s:Int}(G:C45 ss A B s):C44 ss s=A++s::B:=by
 rw[C44,G.eq,List.filter_append,List.filter_append,OW _ A (fun a ha=>by simpa using G.lo a ha),bF _ B (fun a ha=>by have:=G.hi a ha;simp;omega),bF _ A (fun a ha=>by have:=G.lo a ha;simp;omega),OW _ B (fun a ha=>by simpa using G.hi a ha)];simp
theorem jY.drop{ss A B:List Int}{s:Int}(T:jY ss A B s):AK5 ss s=A++B:=by
 rw[AK5,T.eq,List.filter_append,List.filter_cons,OW _ A (fun a ha=>by have:=T.lo a ha;simp;omega),OW _ B (fun a ha=>by have:=T.hi a ha;simp;omega)];simp
theorem oJ(M:Int):∀ (ss:List Int) (lo:Int),ss.Pairwise (· < ·)->(∀s∈ss,lo<s/\s<=M)->lo<=M->(ss.length:Int)<=M-lo
 |[],lo,_,_,h=>by simp;omega
 |x::r,lo,hp,hb,_=>by
  obtain⟨hx,hr⟩:=List.pairwise_cons.1 hp;have h1:=hb x (by simp);have:=oJ M r x hr (fun s hs=>⟨hx s hs,(hb s (by simp[hs])).2⟩) h1.2;simp;omega
theorem UF{ss:List Int}(h:rD ss):ss.length<=2147483647:=by
 have:=oJ 2147483647 ss 0 h.1 (fun s hs=>by have:=h.2 s hs;omega) (by omega);omega
theorem AA8{ss:List Int}{s:Int}(h:rD ss)(hs:1<=s/\s<=2147483647)(hn:s∉ss):rD (C44 ss s):=by
 rcases vP s ss h.1 with⟨A,B,T⟩|⟨A,B,G⟩
 .exact absurd T.mem hn
 .rw[G.ins];have h1:=h.1;have h2:=h.2;rw[G.eq]at h1 h2;rw[List.pairwise_append]at h1;refine⟨?_,?_⟩
  .rw[List.pairwise_append,List.pairwise_cons];refine⟨h1.1,⟨G.hi,h1.2.1⟩,fun a ha b hb=>?_⟩;rcases List.mem_cons.1 hb with rfl|hb
   .exact G.lo a ha
   .exact h1.2.2 a ha b hb
  .intro x hx;rcases List.mem_append.1 hx with h|h
   .exact h2 x (by simp[h])
   .rcases List.mem_cons.1 h with rfl|h
    .exact hs
    .exact h2 x (by simp[h])
theorem AY5{ss:List Int}(s:Int)(h:rD ss):rD (AK5 ss s):=⟨h.1.filter _,fun x hx=>h.2 x (List.mem_filter.1 hx).1⟩
theorem BI9{ss:List Int}{s x:Int}(hx:x∈ss):x∈C44 ss s:=by
 rw[C44];by_cases h1:x<s
 .exact List.mem_append_left _ (List.mem_filter.2 ⟨hx,by simpa using h1⟩)
 .by_cases h2:s<x
  .exact List.mem_append_right _ (List.mem_cons_of_mem _ (List.mem_filter.2 ⟨hx,by simpa using h2⟩))
  .obtain rfl:x=s:=by omega
   exact List.mem_append_right _ (by simp)
end Go.Proofs.YtkpojhhfjddegaaGreatDoor
namespace Go.Proofs.YtkpojhhfjddegaaGreatDoor
structure Wa where
 s:Int
 k:Int
 p:List UInt8
structure Nt where
 s:Int
 k:Int
 p:List UInt8
def zY(w:Wa)(e:Ev):Bool:=decide (w.p=e.p)&&(if w.k=2 then decide (e.k=4)||decide (e.k=2)else decide (e.k=1)||decide (e.k=2)||decide (e.k=3))
def B04(e:Ev)(w:Wa):Nt:=⟨w.s,e.k,e.p⟩
def UN(ws:List Wa)(e:Ev):List Nt:=(ws.filter (fun w=>zY w e)).map (B04 e)
def nP(ws:List Wa)(e:Ev):List Wa:=ws.filter (fun w=> !zY w e)
def PK:List Wa->List Ev->List Nt
 |_,[]=>[]
 |ws,e::r=>UN ws e++PK (nP ws e) r
def LD:List Wa->List Ev->List Wa
 |ws,[]=>ws
 |ws,e::r=>LD (nP ws e) r
def nR(ws:List Wa)(s:Int):List Wa:=ws.filter (fun w=> !decide (w.s=s))
theorem BL1(ws:List Wa)(f:Wa->Bool):(ws.filter f).length+(ws.filter (fun w=> !f w)).length=ws.length:=by
 induction ws with
 |nil=>rfl
 |cons w r ih=>
  cases h:f w
  .simp[h];omega
  .simp[h];omega
theorem rJ(ws:List Wa)(e:Ev):(UN ws e).length+(nP ws e).length=ws.length:=by
 simp only[UN,nP,List.length_map];exact BL1 ws (fun w=>zY w e)
theorem iW(es:List Ev):∀ws:List Wa,(PK ws es).length+(LD ws es).length=ws.length:=by
 induction es with
 |nil=>intro ws;simp[PK,LD]
 |cons e r ih=>
  intro ws;have h1:=rJ ws e;have h2:=ih (nP ws e);simp only[PK,LD,List.length_append];omega
theorem B05(a b:List Ev):∀ws:List Wa,PK ws (a++b)=PK ws a++PK (LD ws a) b:=by
 induction a with
 |nil=>intro ws;simp[PK,LD]
 |cons e r ih=>intro ws;simp[PK,LD,ih]
theorem B06(a b:List Ev):∀ws:List Wa,LD ws (a++b)=LD (LD ws a) b:=by
 induction a with
 |nil=>intro ws;simp[LD]
 |cons e r ih=>intro ws;simp[LD,ih]
theorem kE(es:List Ev):∀ (ws:List Wa) (w:Wa),w∈LD ws es->w∈ws/\∀e∈es,zY w e=false:=by
 induction es with
 |nil=>intro ws w h;exact⟨h,by simp⟩
 |cons e r ih=>
  intro ws w h;obtain⟨h1,h2⟩:=ih (nP ws e) w h;simp only[nP,List.mem_filter]at h1;refine⟨h1.1,fun x hx=>?_⟩;rcases List.mem_cons.1 hx with rfl|hx
  .simpa using h1.2
  .exact h2 x hx
theorem B07(ws:List Wa)(es:List Ev)(w:Wa)(h:w∈LD ws es):w∈ws:=(kE es ws w h).1
end Go.Proofs.YtkpojhhfjddegaaGreatDoor
namespace Go.Proofs.YtkpojhhfjddegaaGreatDoor
open Go.RowKit
structure En where
 p:List UInt8
 d:List UInt8
 t:Bool
def B90(es:List En):Prop:=es.Pairwise fun a b=>bl a.p b.p=true
def IZ(x:En):En:=if x.t=true then x else⟨x.p,[],false⟩
def WV(es:List En)(x:En):List En:=es.filter (fun e=>bl e.p x.p)++IZ x::es.filter (fun e=>bl x.p e.p)
def noneE:En:=⟨[],[],false⟩
def CP1(s:Int)(l:List Nt)(p:List UInt8):Bool:=l.any fun n=>decide (n.s=s)&& !decide (n.k=4)&&decide (n.p=p)
def VH(s:Int)(l:List Nt)(es:List En):List En:=es.filter fun e=> !CP1 s l e.p
theorem A68(x:En):(IZ x).p=x.p:=by unfold IZ;split<;>rfl
theorem B91{x:En}(h:x.t=true):IZ x=x:=by unfold IZ;rw[if_pos h]
theorem BS1{x:En}(h:x.t=false):IZ x=⟨x.p,[],x.t⟩:=by unfold IZ;rw[h];rfl
structure AF6(es A:List En)(f:En)(B:List En)(p:List UInt8):Prop where
 eq:es=A++f::B
 nm:f.p=p
 lo:∀a∈A,bl a.p p=true
 hi:∀b∈B,bl p b.p=true
structure CW6(es A B:List En)(p:List UInt8):Prop where
 eq:es=A++B
 lo:∀a∈A,bl a.p p=true
 hi:∀b∈B,bl p b.p=true
theorem AF7(p:List UInt8):∀es:List En,B90 es->(∃A f B,AF6 es A f B p)\/∃A B,CW6 es A B p
 |[],_=>.inr ⟨[],[],rfl,by simp,by simp⟩
 |x::r,h=>by
  obtain⟨hx,hr⟩:=List.pairwise_cons.1 h
  cases h1:bl x.p p with
  |true=>
   rcases AF7 p r hr with⟨A,f,B,T⟩|⟨A,B,G⟩
   .exact .inl ⟨x::A,f,B,by rw[T.eq];rfl,T.nm,by simp[h1];exact T.lo,T.hi⟩
   .exact .inr ⟨x::A,B,by rw[G.eq];rfl,by simp[h1];exact G.lo,G.hi⟩
  |false=>
   cases h2:bl p x.p with
   |true=>exact .inr ⟨[],x::r,rfl,by simp,by simp[h2];exact fun b hb=>SI _ _ _ h2 (hx b hb)⟩
   |false=>
    have e:=UD _ _ h1 h2;exact .inl ⟨[],x,r,rfl,e,by simp,fun b hb=>by rw[<-e];exact hx b hb⟩
theorem B92{A:List En}{p:List UInt8}(h:∀a∈A,bl a.p p=true):A.filter (fun e=>bl e.p p)=A/\A.filter (fun e=>bl p e.p)=[]:=
 ⟨List.filter_eq_self.2 h,List.filter_eq_nil_iff.2 fun a ha=>by rw[OO (h a ha)];simp⟩
theorem B93{A:List En}{p:List UInt8}(h:∀a∈A,bl p a.p=true):A.filter (fun e=>bl e.p p)=[]/\A.filter (fun e=>bl p e.p)=A:=
 ⟨List.filter_eq_nil_iff.2 fun a ha=>by rw[OO (h a ha)];simp,List.filter_eq_self.2 h⟩
theorem AF6.keep{es A B:List En}{f x:En}(T:AF6 es A f B x.p):WV es x=A++IZ x::B:=by
 have h1:=B92 T.lo;have h2:=B93 T.hi;have e:=T.nm;unfold WV;rw[T.eq,List.filter_append,List.filter_append,List.filter_cons,List.filter_cons,h1.1,h1.2,h2.1,h2.2,e,QZ];simp
theorem CW6.keep{es A B:List En}{x:En}(G:CW6 es A B x.p):WV es x=A++IZ x::B:=by
 have h1:=B92 G.lo;have h2:=B93 G.hi;unfold WV;rw[G.eq,List.filter_append,List.filter_append,h1.1,h1.2,h2.1,h2.2];simp
theorem BS2{es:List En}(h:B90 es)(x:En):B90 (WV es x):=by
 have go:∀A B,B90 (A++B)->(∀a∈A,bl a.p x.p=true)->(∀b∈B,bl x.p b.p=true)->B90 (A++IZ x::B):=fun A B h lo hi=>by
  unfold B90 at h⊢;rw[List.pairwise_append]at h;rw[List.pairwise_append,List.pairwise_cons];refine⟨h.1,⟨fun b hb=>by rw[A68];exact hi b hb,h.2.1⟩,fun a ha b hb=>?_⟩;rcases List.mem_cons.1 hb with rfl|hb
  .rw[A68];exact lo a ha
  .exact h.2.2 a ha b hb
 rcases AF7 x.p es h with⟨A,f,B,T⟩|⟨A,B,G⟩
 .rw[T.keep];refine go A B ?_ T.lo T.hi;have h':=h;rw[T.eq]at h';exact h'.sublist (List.Sublist.append (List.Sublist.refl A) (List.sublist_cons_self f B))
 .rw[G.keep];exact go A B (by rw[<-G.eq];exact h) G.lo G.hi
theorem BS3(es:List En)(h:B90 es)(x:En):(WV es x).length<=es.length+1:=by
 rcases AF7 x.p es h with⟨A,f,B,T⟩|⟨A,B,G⟩
 .rw[T.keep,T.eq];simp
 .rw[G.keep,G.eq];simp;omega
theorem BS4{es:List En}{x e:En}(h:e∈WV es x):e∈es\/e=IZ x:=by
 rcases List.mem_append.1 h with h|h
 .exact .inl (List.mem_filter.1 h).1
 .rcases List.mem_cons.1 h with h|h
  .exact .inr h
  .exact .inl (List.mem_filter.1 h).1
theorem BS5{s:Int}{l:List Nt}{es:List En}(h:B90 es):B90 (VH s l es):=List.Pairwise.sublist List.filter_sublist h
def yK(es:List En):Prop:=∀x∈es,x.p.length<=140737488355328/\x.d.length<=140737488355328
theorem qC{x:En}(h:x.p.length<=140737488355328/\x.d.length<=140737488355328):(IZ x).p.length<=140737488355328/\(IZ x).d.length<=140737488355328:=by
 unfold IZ
 split
 .exact h
 .exact⟨h.1,by simp⟩
end Go.Proofs.YtkpojhhfjddegaaGreatDoor
