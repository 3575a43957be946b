/-
  Part.
-/
import Derived.Test.YtenkgjfahcgppaaGreatDoorLOC
set_option maxRecDepth 20000
set_option maxHeartbeats 8000000
namespace Go.Proofs.YtenkgjfahcgppaaGreatDoor
open Go.RowKit
def TB:List UInt8->Option (List UInt8×List UInt8)
 |[]=>none
 |c::l=>match TB l with
  |some (a,b)=>some (c::a,b)
  |none=>if c=47 then some ([],l)else none
theorem ZU:∀b:List UInt8,47∉b->TB b=none
 |[],_=>rfl
 |c::l,h=>by
  have h1:c≠47:=by rintro rfl;simp at h
  rw[TB,ZU l (by simp at h;exact h.2)];simp[h1]
theorem P8(b:List UInt8)(hb:47∉b):∀a:List UInt8,TB (a++47::b)=some (a,b)
 |[]=>by simp[TB,ZU b hb]
 |c::a=>by simp[TB,P8 b hb a]
def C91(a:List UInt8):List UInt8:=if a=[]then [47]else a
def BU(p:List UInt8):List UInt8:=if DN p=true/\p≠[47]then(match TB p with
 |some (a,_)=>C91 a
 |none=>[])else []
def JH(p:List UInt8):List UInt8:=if DN p=true/\p≠[47]then(match TB p with
 |some (_,b)=>b
 |none=>[])else []
def AK4(p:List UInt8):Int:=if DN p=true then(if p=[47]then 7 else 0)else 2
theorem dH{p:List UInt8}(h:DN p=true):∃r,p=47::r:=by
 simp only[DN,Bool.and_eq_true]at h;have h1:=h.1.2
 cases p with
 |nil=>simp[Lib.hasPrefix,List.isPrefixOf]at h1
 |cons c r=>simp[Lib.hasPrefix,List.isPrefixOf]at h1;exact⟨r,by rw[h1]⟩
theorem AN4:DN []=false:=by decide+kernel
theorem XE{p:List UInt8}(h:DN p=true):∃a b,p=a++47::b/\47∉b:=by
 obtain⟨r,rfl⟩:=dH h;exact jD _ (by simp)
theorem XF{a b:List UInt8}(h:DN (a++47::b)=true)(hn:a++47::b≠[47])(hb:47∉b):BU (a++47::b)=C91 a:=by
 rw[BU,if_pos ⟨h,hn⟩,P8 b hb a]
theorem A97{a b:List UInt8}(h:DN (a++47::b)=true)(hn:a++47::b≠[47])(hb:47∉b):JH (a++47::b)=b:=by
 rw[JH,if_pos ⟨h,hn⟩,P8 b hb a]
theorem XG{p:List UInt8}(h:DN p=false):BU p=[]:=by rw[BU,if_neg (by simp[h])]
theorem A98{p:List UInt8}(h:DN p=false):JH p=[]:=by rw[JH,if_neg (by simp[h])]
theorem QB:BU [47]=[]:=by rw[BU,if_neg (by simp)]
theorem vV:JH [47]=[]:=by rw[JH,if_neg (by simp)]
theorem A08{p:List UInt8}(h:DN p=false):AK4 p=2:=by rw[AK4,if_neg (by simp[h])]
theorem pU:AK4 [47]=7:=by rw[AK4,if_pos YU,if_pos rfl]
theorem AN5{p:List UInt8}(h:DN p=true)(hn:p≠[47]):AK4 p=0:=by rw[AK4,if_pos h,if_neg hn]
theorem lJ{p:List UInt8}(h:DN p=true)(hn:p≠[47]):BU p≠p/\BU p≠[]:=by
 obtain⟨a,b,rfl,hb⟩:=XE h;rw[XF h hn hb,C91]
 split
 .rename_i h0;subst h0
  exact⟨fun e=>hn (by simpa using e.symm),by simp⟩
 .rename_i h0
  refine⟨fun e=>?_,h0⟩;have:=congrArg List.length e;simp at this
structure Nd where
 p:List UInt8
 d:List UInt8
 c:Int
 m:Int
 q:Int
 v:Int
 k:Int
 o:Int
 n:Int
instance:Inhabited Nd:=⟨⟨[],[],0,0,0,0,0,0,0⟩⟩
structure Tr where
 z:Int
 ns:List Nd
 ss:List Int
def tr0:Tr:=⟨0,[],[]⟩
def vW:Nd:=⟨[47],[],0,0,0,0,0,0,0⟩
def JK:Tr:=⟨0,[vW],[]⟩
def oQ(ns:List Nd):Prop:=ns.Pairwise fun a b=>bl a.p b.p=true
def JL(ns:List Nd)(p:List UInt8):Nat:=ns.countP fun x=>decide (BU x.p=p)
structure NOk(z:Int)(ns:List Nd)(ss:List Int)(n:Nd):Prop where
 data:n.d.length<=256
 path:DN n.p=true
 up:n.p≠[47]->∃u∈ns,u.p=BU n.p
 c0:0<=n.c
 cm:n.c<=n.m
 cq:n.c<=n.q
 mz:n.m<=z
 qz:n.q<=z
 v0:0<=n.v
 v1:n.v<=2147483647
 k0:0<=n.k
 kids:n.n=JL ns n.p
 own:n.o=0\/n.o∈ss/\n.n=0
structure LJ(z:Int)(ns:List Nd)(ss:List Int):Prop where
 few:ns.length<=400
 root:∃r rest,ns=r::rest/\r.p=[47]/\r.o=0
 asc:oQ ns
 ok:∀n∈ns,NOk z ns ss n
def lK(ss:List Int):Prop:=ss.Pairwise (· < ·)/\∀s∈ss,1<=s/\s<=2147483647
structure NI(t:Tr):Prop where
 zx:FU t.z=true
 ses:lK t.ss
 nod:LJ t.z t.ns t.ss
 cap:∀n∈t.ns,n.k<=2147483647
noncomputable def QC(t:Tr):Bool:= @decide (NI t) (Classical.propDecidable _)
theorem LW{t:Tr}:QC t=true↔NI t:=by unfold QC;exact @decide_eq_true_iff _ (Classical.propDecidable _)
theorem VZ{t:Tr}:QC t=false↔¬NI t:=by unfold QC;exact @decide_eq_false_iff_not _ (Classical.propDecidable _)
theorem QD{ns:List Nd}(h:oQ ns){a b:Nd}(ha:a∈ns)(hb:b∈ns)(e:a.p=b.p):a=b:=by
 obtain⟨i,hi,rfl⟩:=List.getElem_of_mem ha;obtain⟨j,hj,rfl⟩:=List.getElem_of_mem hb;have h:=List.pairwise_iff_getElem.1 h;by_cases h1:i<j
 .exact absurd e (PZ (h i j hi hj h1))
 .by_cases h2:j<i
  .exact absurd e.symm (PZ (h j i hj hi h2))
  .obtain rfl:i=j:=by omega
   rfl
structure FQ(ns A:List Nd)(n:Nd)(B:List Nd)(p:List UInt8):Prop where
 eq:ns=A++n::B
 nm:n.p=p
 lo:∀a∈A,bl a.p p=true
 hi:∀b∈B,bl p b.p=true
structure jE(ns A B:List Nd)(p:List UInt8):Prop where
 eq:ns=A++B
 lo:∀a∈A,bl a.p p=true
 hi:∀b∈B,bl p b.p=true
theorem VF(p:List UInt8):∀ns:List Nd,oQ ns->(∃A n B,FQ ns A n B p)\/∃A B,jE ns A B p
 |[],_=>.inr ⟨[],[],rfl,by simp,by simp⟩
 |x::r,h=>by
  obtain⟨hx,hr⟩:=List.pairwise_cons.1 h
  cases h1:bl x.p p with
  |true=>
   rcases VF p r hr with⟨A,f,B,T⟩|⟨A,B,G⟩
   .exact .inl ⟨x::A,f,B,by rw[T.eq];rfl,T.nm,by simp[h1];exact T.lo,T.hi⟩
   .exact .inr ⟨x::A,B,by rw[G.eq];rfl,by simp[h1];exact G.lo,G.hi⟩
  |false=>
   cases h2:bl p x.p with
   |true=>exact .inr ⟨[],x::r,rfl,by simp,by simp[h2];exact fun b hb=>NV _ _ _ h2 (hx b hb)⟩
   |false=>
    have e:=P6 _ _ h1 h2;exact .inl ⟨[],x,r,rfl,e,by simp,fun b hb=>by rw[<-e];exact hx b hb⟩
def H7(ns:List Nd)(p:List UInt8):Option Nd:=ns.find? fun n=>decide (n.p=p)
theorem FQ.look{ns A B:List Nd}{n:Nd}{p:List UInt8}(T:FQ ns A n B p):H7 ns p=some n:=by
 rw[H7,T.eq,List.find?_append,List.find?_eq_none.2 (fun a ha=>by simp[PZ (T.lo a ha)])];simp[T.nm]
theorem jE.no{ns A B:List Nd}{p:List UInt8}(G:jE ns A B p):∀n∈ns,n.p≠p:=by
 intro n hn;rw[G.eq]at hn;rcases List.mem_append.1 hn with h|h
 .exact PZ (G.lo n h)
 .exact(PZ (G.hi n h)).symm
theorem jE.look{ns A B:List Nd}{p:List UInt8}(G:jE ns A B p):H7 ns p=none:=by
 rw[H7,List.find?_eq_none];intro n hn;simp[G.no n hn]
theorem UK{ns:List Nd}{p:List UInt8}{n:Nd}(h:H7 ns p=some n):n∈ns/\n.p=p:=by
 refine⟨List.mem_of_find?_eq_some h,?_⟩;have:=List.find?_some h;simpa using this
theorem XH{ns:List Nd}(h:oQ ns){n:Nd}(hn:n∈ns):H7 ns n.p=some n:=by
 rcases VF n.p ns h with⟨A,m,B,T⟩|⟨A,B,G⟩
 .rw[T.look,QD h (by rw[T.eq];simp) hn T.nm]
 .exact absurd rfl (G.no n hn)
theorem NY{ns:List Nd}(h:oQ ns){p:List UInt8}{n:Nd}(hn:H7 ns p=some n):∃A B,FQ ns A n B p:=by
 rcases VF p ns h with⟨A,m,B,T⟩|⟨A,B,G⟩
 .rw[T.look]at hn;cases hn;exact⟨A,B,T⟩
 .rw[G.look]at hn;cases hn
theorem vX{ns:List Nd}(h:oQ ns){p:List UInt8}(hn:H7 ns p=none):∃A B,jE ns A B p:=by
 rcases VF p ns h with⟨A,m,B,T⟩|⟨A,B,G⟩
 .rw[T.look]at hn;cases hn
 .exact⟨A,B,G⟩
def vY(ns:List Nd)(p:List UInt8):List Nd:=ns.filter fun n=>decide (n.p≠p)
def CL2(ns:List Nd)(x:Nd):List Nd:=(ns.filter fun n=>bl n.p x.p)++x::(ns.filter fun n=>bl x.p n.p)
def bump(z more:Int)(n:Nd):Nd:=⟨n.p,n.d,n.c,n.m,z,n.v,n.k+1,n.o,n.n+more⟩
def JR(p:List UInt8)(z more:Int)(ns:List Nd):List Nd:=ns.map fun n=>if n.p=p then bump z more n else n
def AN6(p d:List UInt8)(v z:Int)(ns:List Nd):List Nd:=ns.map fun n=>if n.p=p then⟨n.p,d,n.c,z,n.q,v,n.k,n.o,n.n⟩else n
theorem KC{α:Type}(f:α->Bool)(l:List α)(h:∀x∈l,f x=true):l.filter f=l:=List.filter_eq_self.2 h
theorem XI{α:Type}(f:α->Bool)(l:List α)(h:∀x∈l,f x=false):l.filter f=[]:=List.filter_eq_nil_iff.2 (fun x hx=>by simp[h x hx])
theorem A09{α:Type}(f:α->α)(l:List α)(h:∀x∈l,f x=x):l.map f=l:=by
 induction l with
 |nil=>rfl
 |cons x r ih=>rw[List.map_cons,h x (by simp),ih (fun y hy=>h y (by simp[hy]))]
theorem FQ.drop{ns A B:List Nd}{n:Nd}{p:List UInt8}(T:FQ ns A n B p):vY ns p=A++B:=by
 rw[vY,T.eq,List.filter_append,List.filter_cons,KC _ A (fun a ha=>by simp[PZ (T.lo a ha)]),KC _ B (fun a ha=>by simp[(PZ (T.hi a ha)).symm])];simp[T.nm]
theorem jE.ins{ns A B:List Nd}{x:Nd}(G:jE ns A B x.p):CL2 ns x=A++x::B:=by
 rw[CL2,G.eq,List.filter_append,List.filter_append,KC _ A (fun a ha=>G.lo a ha),XI _ B (fun a ha=>JW (G.hi a ha)),XI _ A (fun a ha=>JW (G.lo a ha)),KC _ B (fun a ha=>G.hi a ha)];simp
theorem FQ.C92{ns A B:List Nd}{n:Nd}{p:List UInt8}(T:FQ ns A n B p)(g:Nd->Nd):(ns.map fun x=>if x.p=p then g x else x)=A++g n::B:=by
 rw[T.eq,List.map_append,List.map_cons,A09 _ A (fun a ha=>by simp[PZ (T.lo a ha)]),A09 _ B (fun a ha=>by simp[(PZ (T.hi a ha)).symm])];simp[T.nm]
theorem FQ.bump{ns A B:List Nd}{n:Nd}{p:List UInt8}(T:FQ ns A n B p)(z more:Int):JR p z more ns=A++bump z more n::B:=T.C92 _
theorem FQ.put{ns A B:List Nd}{n:Nd}{p:List UInt8}(T:FQ ns A n B p)(d:List UInt8)(v z:Int):AN6 p d v z ns=A++⟨n.p,d,n.c,z,n.q,v,n.k,n.o,n.n⟩::B:=T.C92 _
theorem VG(p:List UInt8)(z more:Int)(n:Nd):(if n.p=p then bump z more n else n).p=n.p:=by split<;>rfl
theorem TD(p:List UInt8)(z more:Int)(ns:List Nd):(JR p z more ns).map Nd.p=ns.map Nd.p:=by
 rw[JR,List.map_map]
 apply List.map_congr_left
 intro n _;exact VG p z more n
theorem KD(ns:List Nd):oQ ns↔(ns.map Nd.p).Pairwise fun a b=>bl a b=true:=by rw[List.pairwise_map];rfl
theorem LX(ns:List Nd)(p:List UInt8):JL ns p=(ns.map Nd.p).countP fun x=>decide (BU x=p):=by rw[List.countP_map];rfl
def BU1(ss:List Int)(s:Int):List Int:=(ss.filter fun x=>decide (x<s))++s::(ss.filter fun x=>decide (s<x))
def A99(ss:List Int)(s:Int):List Int:=ss.filter fun x=>decide (x≠s)
structure dI(ss A B:List Int)(s:Int):Prop where
 eq:ss=A++s::B
 lo:∀a∈A,a<s
 hi:∀b∈B,s<b
structure BU2(ss A B:List Int)(s:Int):Prop where
 eq:ss=A++B
 lo:∀a∈A,a<s
 hi:∀b∈B,s<b
theorem pV(s:Int):∀ss:List Int,ss.Pairwise (· < ·)->(∃A B,dI ss A B s)\/∃A B,BU2 ss A B s
 |[],_=>.inr ⟨[],[],rfl,by simp,by simp⟩
 |x::r,h=>by
  obtain⟨hx,hr⟩:=List.pairwise_cons.1 h;by_cases h1:x<s
  .rcases pV s r hr with⟨A,B,T⟩|⟨A,B,G⟩
   .exact .inl ⟨x::A,B,by rw[T.eq];rfl,by simp[h1];exact T.lo,T.hi⟩
   .exact .inr ⟨x::A,B,by rw[G.eq];rfl,by simp[h1];exact G.lo,G.hi⟩
  .by_cases h2:s<x
   .exact .inr ⟨[],x::r,rfl,by simp,by simp[h2];exact fun b hb=>Int.lt_trans h2 (hx b hb)⟩
   .obtain rfl:x=s:=by omega
    exact .inl ⟨[],r,rfl,by simp,hx⟩
theorem dI.mem{ss A B:List Int}{s:Int}(T:dI ss A B s):s∈ss:=by rw[T.eq];simp
theorem BU2.not{ss A B:List Int}{s:Int}(G:BU2 ss A B s):s∉ss:=by
 intro h;rw[G.eq]at h;rcases List.mem_append.1 h with h|h
 .exact absurd (G.lo s h) (by omega)
 .exact absurd (G.hi s h) (by omega)
theorem BU2.ins{ss A B:List Int}{s:Int}(G:BU2 ss A B s):BU1 ss s=A++s::B:=by
 rw[BU1,G.eq,List.filter_append,List.filter_append,KC _ A (fun a ha=>by simpa using G.lo a ha),XI _ B (fun a ha=>by have:=G.hi a ha;simp;omega),XI _ A (fun a ha=>by have:=G.lo a ha;simp;omega),KC _ B (fun a ha=>by simpa using G.hi a ha)];simp
theorem dI.drop{ss A B:List Int}{s:Int}(T:dI ss A B s):A99 ss s=A++B:=by
 rw[A99,T.eq,List.filter_append,List.filter_cons,KC _ A (fun a ha=>by have:=T.lo a ha;simp;omega),KC _ B (fun a ha=>by have:=T.hi a ha;simp;omega)];simp
theorem jF(M:Int):∀ (ss:List Int) (lo:Int),ss.Pairwise (· < ·)->(∀s∈ss,lo<s/\s<=M)->lo<=M->(ss.length:Int)<=M-lo
 |[],lo,_,_,h=>by simp;omega
 |x::r,lo,hp,hb,_=>by
  obtain⟨hx,hr⟩:=List.pairwise_cons.1 hp;have h1:=hb x (by simp);have:=jF M r x hr (fun s hs=>⟨hx s hs,(hb s (by simp[hs])).2⟩) h1.2;simp;omega
theorem NZ{ss:List Int}(h:lK ss):ss.length<=2147483647:=by
 have:=jF 2147483647 ss 0 h.1 (fun s hs=>by have:=h.2 s hs;omega) (by omega);omega
theorem A10{ss:List Int}{s:Int}(h:lK ss)(hs:1<=s/\s<=2147483647)(hn:s∉ss):lK (BU1 ss s):=by
 rcases pV s ss h.1 with⟨A,B,T⟩|⟨A,B,G⟩
 .exact absurd T.mem hn
 .rw[G.ins];have h1:=h.1;have h2:=h.2;rw[G.eq]at h1 h2;rw[List.pairwise_append]at h1;refine⟨?_,?_⟩
  .rw[List.pairwise_append,List.pairwise_cons];refine⟨h1.1,⟨G.hi,h1.2.1⟩,fun a ha b hb=>?_⟩;rcases List.mem_cons.1 hb with rfl|hb
   .exact G.lo a ha
   .exact h1.2.2 a ha b hb
  .intro x hx;rcases List.mem_append.1 hx with h|h
   .exact h2 x (by simp[h])
   .rcases List.mem_cons.1 h with rfl|h
    .exact hs
    .exact h2 x (by simp[h])
theorem AN7{ss:List Int}(s:Int)(h:lK ss):lK (A99 ss s):=⟨h.1.filter _,fun x hx=>h.2 x (List.mem_filter.1 hx).1⟩
theorem B86{ss:List Int}{s x:Int}(hx:x∈ss):x∈BU1 ss s:=by
 rw[BU1];by_cases h1:x<s
 .exact List.mem_append_left _ (List.mem_filter.2 ⟨hx,by simpa using h1⟩)
 .by_cases h2:s<x
  .exact List.mem_append_right _ (List.mem_cons_of_mem _ (List.mem_filter.2 ⟨hx,by simpa using h2⟩))
  .obtain rfl:x=s:=by omega
   exact List.mem_append_right _ (by simp)
end Go.Proofs.YtenkgjfahcgppaaGreatDoor
namespace Go.Proofs.YtenkgjfahcgppaaGreatDoor
structure Wa where
 s:Int
 k:Int
 p:List UInt8
structure Nt where
 s:Int
 k:Int
 p:List UInt8
def uV(w:Wa)(e:Ev):Bool:=decide (w.p=e.p)&&(if w.k=2 then decide (e.k=4)||decide (e.k=2)else decide (e.k=1)||decide (e.k=2)||decide (e.k=3))
def AP6(e:Ev)(w:Wa):Nt:=⟨w.s,e.k,e.p⟩
def PO(ws:List Wa)(e:Ev):List Nt:=(ws.filter (fun w=>uV w e)).map (AP6 e)
def iM(ws:List Wa)(e:Ev):List Wa:=ws.filter (fun w=> !uV w e)
def KP:List Wa->List Ev->List Nt
 |_,[]=>[]
 |ws,e::r=>PO ws e++KP (iM ws e) r
def G9:List Wa->List Ev->List Wa
 |ws,[]=>ws
 |ws,e::r=>G9 (iM ws e) r
def iO(ws:List Wa)(s:Int):List Wa:=ws.filter (fun w=> !decide (w.s=s))
theorem BA8(ws:List Wa)(f:Wa->Bool):(ws.filter f).length+(ws.filter (fun w=> !f w)).length=ws.length:=by
 induction ws with
 |nil=>rfl
 |cons w r ih=>
  cases h:f w
  .simp[h];omega
  .simp[h];omega
theorem lT(ws:List Wa)(e:Ev):(PO ws e).length+(iM ws e).length=ws.length:=by
 simp only[PO,iM,List.length_map];exact BA8 ws (fun w=>uV w e)
theorem bC(es:List Ev):∀ws:List Wa,(KP ws es).length+(G9 ws es).length=ws.length:=by
 induction es with
 |nil=>intro ws;simp[KP,G9]
 |cons e r ih=>
  intro ws;have h1:=lT ws e;have h2:=ih (iM ws e);simp only[KP,G9,List.length_append];omega
theorem AP7(a b:List Ev):∀ws:List Wa,KP ws (a++b)=KP ws a++KP (G9 ws a) b:=by
 induction a with
 |nil=>intro ws;simp[KP,G9]
 |cons e r ih=>intro ws;simp[KP,G9,ih]
theorem AP8(a b:List Ev):∀ws:List Wa,G9 ws (a++b)=G9 (G9 ws a) b:=by
 induction a with
 |nil=>intro ws;simp[G9]
 |cons e r ih=>intro ws;simp[G9,ih]
theorem dL(es:List Ev):∀ (ws:List Wa) (w:Wa),w∈G9 ws es->w∈ws/\∀e∈es,uV w e=false:=by
 induction es with
 |nil=>intro ws w h;exact⟨h,by simp⟩
 |cons e r ih=>
  intro ws w h;obtain⟨h1,h2⟩:=ih (iM ws e) w h;simp only[iM,List.mem_filter]at h1;refine⟨h1.1,fun x hx=>?_⟩;rcases List.mem_cons.1 hx with rfl|hx
  .simpa using h1.2
  .exact h2 x hx
theorem AP9(ws:List Wa)(es:List Ev)(w:Wa)(h:w∈G9 ws es):w∈ws:=(dL es ws w h).1
end Go.Proofs.YtenkgjfahcgppaaGreatDoor
namespace Go.Proofs.YtenkgjfahcgppaaGreatDoor
open Go.RowKit
structure En where
 p:List UInt8
 d:List UInt8
 t:Bool
def AK7(es:List En):Prop:=es.Pairwise fun a b=>bl a.p b.p=true
def DJ(x:En):En:=if x.t=true then x else⟨x.p,[],false⟩
def SE(es:List En)(x:En):List En:=es.filter (fun e=>bl e.p x.p)++DJ x::es.filter (fun e=>bl x.p e.p)
def aQ(es:List En)(p:List UInt8):Option En:=es.find? fun e=>decide (e.p=p)
def noneE:En:=⟨[],[],false⟩
def BH8(s:Int)(l:List Nt)(p:List UInt8):Bool:=l.any fun n=>decide (n.s=s)&& !decide (n.k=4)&&decide (n.p=p)
def OU(s:Int)(l:List Nt)(es:List En):List En:=es.filter fun e=> !BH8 s l e.p
theorem yP(x:En):(DJ x).p=x.p:=by unfold DJ;split<;>rfl
theorem AY5{x:En}(h:x.t=true):DJ x=x:=by unfold DJ;rw[if_pos h]
theorem BH9{x:En}(h:x.t=false):DJ x=⟨x.p,[],x.t⟩:=by unfold DJ;rw[h];rfl
structure kJ(es A:List En)(f:En)(B:List En)(p:List UInt8):Prop where
 eq:es=A++f::B
 nm:f.p=p
 lo:∀a∈A,bl a.p p=true
 hi:∀b∈B,bl p b.p=true
structure C77(es A B:List En)(p:List UInt8):Prop where
 eq:es=A++B
 lo:∀a∈A,bl a.p p=true
 hi:∀b∈B,bl p b.p=true
theorem sO(p:List UInt8):∀es:List En,AK7 es->(∃A f B,kJ es A f B p)\/∃A B,C77 es A B p
 |[],_=>.inr ⟨[],[],rfl,by simp,by simp⟩
 |x::r,h=>by
  obtain⟨hx,hr⟩:=List.pairwise_cons.1 h
  cases h1:bl x.p p with
  |true=>
   rcases sO p r hr with⟨A,f,B,T⟩|⟨A,B,G⟩
   .exact .inl ⟨x::A,f,B,by rw[T.eq];rfl,T.nm,by simp[h1];exact T.lo,T.hi⟩
   .exact .inr ⟨x::A,B,by rw[G.eq];rfl,by simp[h1];exact G.lo,G.hi⟩
  |false=>
   cases h2:bl p x.p with
   |true=>exact .inr ⟨[],x::r,rfl,by simp,by simp[h2];exact fun b hb=>NV _ _ _ h2 (hx b hb)⟩
   |false=>
    have e:=P6 _ _ h1 h2;exact .inl ⟨[],x,r,rfl,e,by simp,fun b hb=>by rw[<-e];exact hx b hb⟩
theorem AY6{A:List En}{p:List UInt8}(h:∀a∈A,bl a.p p=true):A.filter (fun e=>bl e.p p)=A/\A.filter (fun e=>bl p e.p)=[]:=
 ⟨List.filter_eq_self.2 h,List.filter_eq_nil_iff.2 fun a ha=>by rw[JW (h a ha)];simp⟩
theorem AY7{A:List En}{p:List UInt8}(h:∀a∈A,bl p a.p=true):A.filter (fun e=>bl e.p p)=[]/\A.filter (fun e=>bl p e.p)=A:=
 ⟨List.filter_eq_nil_iff.2 fun a ha=>by rw[JW (h a ha)];simp,List.filter_eq_self.2 h⟩
theorem kJ.keep{es A B:List En}{f x:En}(T:kJ es A f B x.p):SE es x=A++DJ x::B:=by
 have h1:=AY6 T.lo;have h2:=AY7 T.hi;have e:=T.nm;unfold SE;rw[T.eq,List.filter_append,List.filter_append,List.filter_cons,List.filter_cons,h1.1,h1.2,h2.1,h2.2,e,MQ];simp
theorem C77.keep{es A B:List En}{x:En}(G:C77 es A B x.p):SE es x=A++DJ x::B:=by
 have h1:=AY6 G.lo;have h2:=AY7 G.hi;unfold SE;rw[G.eq,List.filter_append,List.filter_append,h1.1,h1.2,h2.1,h2.2];simp
theorem kJ.look{es A B:List En}{f:En}{p:List UInt8}(T:kJ es A f B p):aQ es p=some f:=by
 rw[aQ,T.eq,List.find?_append,List.find?_eq_none.2 (fun a ha=>by simp[PZ (T.lo a ha)])];simp[T.nm]
theorem C77.look{es A B:List En}{p:List UInt8}(G:C77 es A B p):aQ es p=none:=by
 rw[aQ,G.eq,List.find?_append,List.find?_eq_none.2 (fun a ha=>by simp[PZ (G.lo a ha)]),List.find?_eq_none.2 (fun b hb=>by simp[(PZ (G.hi b hb)).symm])];rfl
theorem BI0{es:List En}(h:AK7 es)(x:En):AK7 (SE es x):=by
 have go:∀A B,AK7 (A++B)->(∀a∈A,bl a.p x.p=true)->(∀b∈B,bl x.p b.p=true)->AK7 (A++DJ x::B):=fun A B h lo hi=>by
  unfold AK7 at h⊢;rw[List.pairwise_append]at h;rw[List.pairwise_append,List.pairwise_cons];refine⟨h.1,⟨fun b hb=>by rw[yP];exact hi b hb,h.2.1⟩,fun a ha b hb=>?_⟩;rcases List.mem_cons.1 hb with rfl|hb
  .rw[yP];exact lo a ha
  .exact h.2.2 a ha b hb
 rcases sO x.p es h with⟨A,f,B,T⟩|⟨A,B,G⟩
 .rw[T.keep];refine go A B ?_ T.lo T.hi;have h':=h;rw[T.eq]at h';exact h'.sublist (List.Sublist.append (List.Sublist.refl A) (List.sublist_cons_self f B))
 .rw[G.keep];exact go A B (by rw[<-G.eq];exact h) G.lo G.hi
theorem BI1(es:List En)(h:AK7 es)(x:En):(SE es x).length<=es.length+1:=by
 rcases sO x.p es h with⟨A,f,B,T⟩|⟨A,B,G⟩
 .rw[T.keep,T.eq];simp
 .rw[G.keep,G.eq];simp;omega
theorem BI2{es:List En}{x e:En}(h:e∈SE es x):e∈es\/e=DJ x:=by
 rcases List.mem_append.1 h with h|h
 .exact .inl (List.mem_filter.1 h).1
 .rcases List.mem_cons.1 h with h|h
  .exact .inr h
  .exact .inl (List.mem_filter.1 h).1
theorem AY8(s:Int)(l:List Nt)(es:List En)(p:List UInt8):aQ (OU s l es) p=if BH8 s l p=true then none else aQ es p:=by
 unfold aQ OU;rw[List.find?_filter];by_cases h:BH8 s l p=true
 .rw[if_pos h];refine List.find?_eq_none.2 fun e _ he=>?_;simp only[Bool.not_eq_true',decide_eq_true_eq]at he;rw[he.2,h]at he
  cases he.1
 .rw[if_neg h]
  congr 1
  funext e
  by_cases hp:e.p=p
  .simp only[hp,decide_true];simpa using h
  .simp[hp]
theorem BI3{s:Int}{l:List Nt}{es:List En}(h:AK7 es):AK7 (OU s l es):=List.Pairwise.sublist List.filter_sublist h
def kK(es:List En):Prop:=∀x∈es,x.p.length<=140737488355328/\x.d.length<=140737488355328
theorem kL{x:En}(h:x.p.length<=140737488355328/\x.d.length<=140737488355328):(DJ x).p.length<=140737488355328/\(DJ x).d.length<=140737488355328:=by
 unfold DJ
 split
 .exact h
 .exact⟨h.1,by simp⟩
def CM5:Option En->En
 |some e=>e
 |none=>noneE
end Go.Proofs.YtenkgjfahcgppaaGreatDoor
