/-
  Part.
-/
import Derived.Test.YtbaacalmgfkojaaGreatDoorLOC
set_option maxRecDepth 20000
set_option maxHeartbeats 8000000
namespace Go.Proofs.YtbaacalmgfkojaaGreatDoor
open Go.RowKit
def VX:List UInt8->Option (List UInt8×List UInt8)
 |[]=>none
 |c::l=>match VX l with
  |some (a,b)=>some (c::a,b)
  |none=>if c=47 then some ([],l)else none
theorem dM:∀b:List UInt8,47∉b->VX b=none
 |[],_=>rfl
 |c::l,h=>by
  have h1:c≠47:=by rintro rfl;simp at h
  rw[VX,dM l (by simp at h;exact h.2)];simp[h1]
theorem SV(b:List UInt8)(hb:47∉b):∀a:List UInt8,VX (a++47::b)=some (a,b)
 |[]=>by simp[VX,dM b hb]
 |c::a=>by simp[VX,SV b hb a]
def CA1(a:List UInt8):List UInt8:=if a=[]then [47]else a
def IG(p:List UInt8):List UInt8:=if J4 p=true/\p≠[47]then(match VX p with
 |some (a,_)=>CA1 a
 |none=>[])else []
def NH(p:List UInt8):List UInt8:=if J4 p=true/\p≠[47]then(match VX p with
 |some (_,b)=>b
 |none=>[])else []
def AN9(p:List UInt8):Int:=if J4 p=true then(if p=[47]then 7 else 0)else 2
theorem iE{p:List UInt8}(h:J4 p=true):∃r,p=47::r:=by
 simp only[J4,Bool.and_eq_true]at h;have h1:=h.1.2
 cases p with
 |nil=>simp[Lib.hasPrefix,List.isPrefixOf]at h1
 |cons c r=>simp[Lib.hasPrefix,List.isPrefixOf]at h1;exact⟨r,by rw[h1]⟩
theorem AR0:J4 []=false:=by decide+kernel
theorem ZF{p:List UInt8}(h:J4 p=true):∃a b,p=a++47::b/\47∉b:=by
 obtain⟨r,rfl⟩:=iE h;exact lT _ (by simp)
theorem ZG{a b:List UInt8}(h:J4 (a++47::b)=true)(hn:a++47::b≠[47])(hb:47∉b):IG (a++47::b)=CA1 a:=by
 rw[IG,if_pos ⟨h,hn⟩,SV b hb a]
theorem AD7{a b:List UInt8}(h:J4 (a++47::b)=true)(hn:a++47::b≠[47])(hb:47∉b):NH (a++47::b)=b:=by
 rw[NH,if_pos ⟨h,hn⟩,SV b hb a]
theorem ZH{p:List UInt8}(h:J4 p=false):IG p=[]:=by rw[IG,if_neg (by simp[h])]
theorem AD8{p:List UInt8}(h:J4 p=false):NH p=[]:=by rw[NH,if_neg (by simp[h])]
theorem TY:IG [47]=[]:=by rw[IG,if_neg (by simp)]
theorem yJ:NH [47]=[]:=by rw[NH,if_neg (by simp)]
theorem A49{p:List UInt8}(h:J4 p=false):AN9 p=2:=by rw[AN9,if_neg (by simp[h])]
theorem sQ:AN9 [47]=7:=by rw[AN9,if_pos bJ,if_pos rfl]
theorem AR1{p:List UInt8}(h:J4 p=true)(hn:p≠[47]):AN9 p=0:=by rw[AN9,if_pos h,if_neg hn]
theorem oO{p:List UInt8}(h:J4 p=true)(hn:p≠[47]):IG p≠p/\IG p≠[]:=by
 obtain⟨a,b,rfl,hb⟩:=ZF h;rw[ZG h hn hb,CA1]
 split
 .rename_i h0;subst h0
  exact⟨fun e=>hn (by simpa using e.symm),by simp⟩
 .rename_i h0
  refine⟨fun e=>?_,h0⟩;have:=congrArg List.length e;simp at this
structure Nd where
 p:List UInt8
 d:List UInt8
 c:Int
 m:Int
 q:Int
 v:Int
 k:Int
 o:Int
 n:Int
instance:Inhabited Nd:=⟨⟨[],[],0,0,0,0,0,0,0⟩⟩
structure Tr where
 z:Int
 ns:List Nd
 ss:List Int
def tr0:Tr:=⟨0,[],[]⟩
def yK:Nd:=⟨[47],[],0,0,0,0,0,0,0⟩
def QE:Tr:=⟨0,[yK],[]⟩
def rW(ns:List Nd):Prop:=ns.Pairwise fun a b=>bl a.p b.p=true
def NQ(ns:List Nd)(p:List UInt8):Nat:=ns.countP fun x=>decide (IG x.p=p)
structure NOk(z:Int)(ns:List Nd)(ss:List Int)(n:Nd):Prop where
 data:n.d.length<=256
 path:J4 n.p=true
 up:n.p≠[47]->∃u∈ns,u.p=IG n.p
 c0:0<=n.c
 cm:n.c<=n.m
 cq:n.c<=n.q
 mz:n.m<=z
 qz:n.q<=z
 v0:0<=n.v
 v1:n.v<=2147483647
 k0:0<=n.k
 kids:n.n=NQ ns n.p
 own:n.o=0\/n.o∈ss/\n.n=0
structure P8(z:Int)(ns:List Nd)(ss:List Int):Prop where
 few:ns.length<=400
 root:∃r rest,ns=r::rest/\r.p=[47]/\r.o=0
 asc:rW ns
 ok:∀n∈ns,NOk z ns ss n
def oP(ss:List Int):Prop:=ss.Pairwise (· < ·)/\∀s∈ss,1<=s/\s<=2147483647
structure QV(t:Tr):Prop where
 zx:KH t.z=true
 ses:oP t.ss
 nod:P8 t.z t.ns t.ss
 cap:∀n∈t.ns,n.k<=2147483647
noncomputable def U0(t:Tr):Bool:= @decide (QV t) (Classical.propDecidable _)
theorem RP{t:Tr}:U0 t=true↔QV t:=by unfold U0;exact @decide_eq_true_iff _ (Classical.propDecidable _)
theorem YL{t:Tr}:U0 t=false↔¬QV t:=by unfold U0;exact @decide_eq_false_iff_not _ (Classical.propDecidable _)
theorem U1{ns:List Nd}(h:rW ns){a b:Nd}(ha:a∈ns)(hb:b∈ns)(e:a.p=b.p):a=b:=by
 obtain⟨i,hi,rfl⟩:=List.getElem_of_mem ha;obtain⟨j,hj,rfl⟩:=List.getElem_of_mem hb;have h:=List.pairwise_iff_getElem.1 h;by_cases h1:i<j
 .exact absurd e (TU (h i j hi hj h1))
 .by_cases h2:j<i
  .exact absurd e.symm (TU (h j i hj hi h2))
  .obtain rfl:i=j:=by omega
   rfl
structure KD(ns A:List Nd)(n:Nd)(B:List Nd)(p:List UInt8):Prop where
 eq:ns=A++n::B
 nm:n.p=p
 lo:∀a∈A,bl a.p p=true
 hi:∀b∈B,bl p b.p=true
structure lU(ns A B:List Nd)(p:List UInt8):Prop where
 eq:ns=A++B
 lo:∀a∈A,bl a.p p=true
 hi:∀b∈B,bl p b.p=true
theorem Y7(p:List UInt8):∀ns:List Nd,rW ns->(∃A n B,KD ns A n B p)\/∃A B,lU ns A B p
 |[],_=>.inr ⟨[],[],rfl,by simp,by simp⟩
 |x::r,h=>by
  obtain⟨hx,hr⟩:=List.pairwise_cons.1 h
  cases h1:bl x.p p with
  |true=>
   rcases Y7 p r hr with⟨A,f,B,T⟩|⟨A,B,G⟩
   .exact .inl ⟨x::A,f,B,by rw[T.eq];rfl,T.nm,by simp[h1];exact T.lo,T.hi⟩
   .exact .inr ⟨x::A,B,by rw[G.eq];rfl,by simp[h1];exact G.lo,G.hi⟩
  |false=>
   cases h2:bl p x.p with
   |true=>exact .inr ⟨[],x::r,rfl,by simp,by simp[h2];exact fun b hb=>QT _ _ _ h2 (hx b hb)⟩
   |false=>
    have e:=SQ _ _ h1 h2;exact .inl ⟨[],x,r,rfl,e,by simp,fun b hb=>by rw[<-e];exact hx b hb⟩
def LM(ns:List Nd)(p:List UInt8):Option Nd:=ns.find? fun n=>decide (n.p=p)
theorem KD.look{ns A B:List Nd}{n:Nd}{p:List UInt8}(T:KD ns A n B p):LM ns p=some n:=by
 rw[LM,T.eq,List.find?_append,List.find?_eq_none.2 (fun a ha=>by simp[TU (T.lo a ha)])];simp[T.nm]
theorem lU.no{ns A B:List Nd}{p:List UInt8}(G:lU ns A B p):∀n∈ns,n.p≠p:=by
 intro n hn;rw[G.eq]at hn;rcases List.mem_append.1 hn with h|h
 .exact TU (G.lo n h)
 .exact(TU (G.hi n h)).symm
theorem lU.look{ns A B:List Nd}{p:List UInt8}(G:lU ns A B p):LM ns p=none:=by
 rw[LM,List.find?_eq_none];intro n hn;simp[G.no n hn]
theorem XI{ns:List Nd}{p:List UInt8}{n:Nd}(h:LM ns p=some n):n∈ns/\n.p=p:=by
 refine⟨List.mem_of_find?_eq_some h,?_⟩;have:=List.find?_some h;simpa using this
theorem ZI{ns:List Nd}(h:rW ns){n:Nd}(hn:n∈ns):LM ns n.p=some n:=by
 rcases Y7 n.p ns h with⟨A,m,B,T⟩|⟨A,B,G⟩
 .rw[T.look,U1 h (by rw[T.eq];simp) hn T.nm]
 .exact absurd rfl (G.no n hn)
theorem QW{ns:List Nd}(h:rW ns){p:List UInt8}{n:Nd}(hn:LM ns p=some n):∃A B,KD ns A n B p:=by
 rcases Y7 p ns h with⟨A,m,B,T⟩|⟨A,B,G⟩
 .rw[T.look]at hn;cases hn;exact⟨A,B,T⟩
 .rw[G.look]at hn;cases hn
theorem yL{ns:List Nd}(h:rW ns){p:List UInt8}(hn:LM ns p=none):∃A B,lU ns A B p:=by
 rcases Y7 p ns h with⟨A,m,B,T⟩|⟨A,B,G⟩
 .rw[T.look]at hn;cases hn
 .exact⟨A,B,G⟩
def yM(ns:List Nd)(p:List UInt8):List Nd:=ns.filter fun n=>decide (n.p≠p)
def CL5(ns:List Nd)(x:Nd):List Nd:=(ns.filter fun n=>bl n.p x.p)++x::(ns.filter fun n=>bl x.p n.p)
def bump(z more:Int)(n:Nd):Nd:=⟨n.p,n.d,n.c,n.m,z,n.v,n.k+1,n.o,n.n+more⟩
def NY(p:List UInt8)(z more:Int)(ns:List Nd):List Nd:=ns.map fun n=>if n.p=p then bump z more n else n
def AR2(p d:List UInt8)(v z:Int)(ns:List Nd):List Nd:=ns.map fun n=>if n.p=p then⟨n.p,d,n.c,z,n.q,v,n.k,n.o,n.n⟩else n
theorem OD{α:Type}(f:α->Bool)(l:List α)(h:∀x∈l,f x=true):l.filter f=l:=List.filter_eq_self.2 h
theorem ZJ{α:Type}(f:α->Bool)(l:List α)(h:∀x∈l,f x=false):l.filter f=[]:=List.filter_eq_nil_iff.2 (fun x hx=>by simp[h x hx])
theorem A50{α:Type}(f:α->α)(l:List α)(h:∀x∈l,f x=x):l.map f=l:=by
 induction l with
 |nil=>rfl
 |cons x r ih=>rw[List.map_cons,h x (by simp),ih (fun y hy=>h y (by simp[hy]))]
theorem KD.drop{ns A B:List Nd}{n:Nd}{p:List UInt8}(T:KD ns A n B p):yM ns p=A++B:=by
 rw[yM,T.eq,List.filter_append,List.filter_cons,OD _ A (fun a ha=>by simp[TU (T.lo a ha)]),OD _ B (fun a ha=>by simp[(TU (T.hi a ha)).symm])];simp[T.nm]
theorem lU.ins{ns A B:List Nd}{x:Nd}(G:lU ns A B x.p):CL5 ns x=A++x::B:=by
 rw[CL5,G.eq,List.filter_append,List.filter_append,OD _ A (fun a ha=>G.lo a ha),ZJ _ B (fun a ha=>O9 (G.hi a ha)),ZJ _ A (fun a ha=>O9 (G.lo a ha)),OD _ B (fun a ha=>G.hi a ha)];simp
theorem KD.CA2{ns A B:List Nd}{n:Nd}{p:List UInt8}(T:KD ns A n B p)(g:Nd->Nd):(ns.map fun x=>if x.p=p then g x else x)=A++g n::B:=by
 rw[T.eq,List.map_append,List.map_cons,A50 _ A (fun a ha=>by simp[TU (T.lo a ha)]),A50 _ B (fun a ha=>by simp[(TU (T.hi a ha)).symm])];simp[T.nm]
theorem KD.bump{ns A B:List Nd}{n:Nd}{p:List UInt8}(T:KD ns A n B p)(z more:Int):NY p z more ns=A++bump z more n::B:=T.CA2 _
theorem KD.put{ns A B:List Nd}{n:Nd}{p:List UInt8}(T:KD ns A n B p)(d:List UInt8)(v z:Int):AR2 p d v z ns=A++⟨n.p,d,n.c,z,n.q,v,n.k,n.o,n.n⟩::B:=T.CA2 _
theorem Y8(p:List UInt8)(z more:Int)(n:Nd):(if n.p=p then bump z more n else n).p=n.p:=by split<;>rfl
theorem VY(p:List UInt8)(z more:Int)(ns:List Nd):(NY p z more ns).map Nd.p=ns.map Nd.p:=by
 rw[NY,List.map_map]
 apply List.map_congr_left
 intro n _;exact Y8 p z more n
theorem OE(ns:List Nd):rW ns↔(ns.map Nd.p).Pairwise fun a b=>bl a b=true:=by rw[List.pairwise_map];rfl
theorem PK(ns:List Nd)(p:List UInt8):NQ ns p=(ns.map Nd.p).countP fun x=>decide (IG x=p):=by rw[List.countP_map];rfl
def BV4(ss:List Int)(s:Int):List Int:=(ss.filter fun x=>decide (x<s))++s::(ss.filter fun x=>decide (s<x))
def AD9(ss:List Int)(s:Int):List Int:=ss.filter fun x=>decide (x≠s)
structure iF(ss A B:List Int)(s:Int):Prop where
 eq:ss=A++s::B
 lo:∀a∈A,a<s
 hi:∀b∈B,s<b
structure BV5(ss A B:List Int)(s:Int):Prop where
 eq:ss=A++B
 lo:∀a∈A,a<s
 hi:∀b∈B,s<b
theorem sS(s:Int):∀ss:List Int,ss.Pairwise (· < ·)->(∃A B,iF ss A B s)\/∃A B,BV5 ss A B s
 |[],_=>.inr ⟨[],[],rfl,by simp,by simp⟩
 |x::r,h=>by
  obtain⟨hx,hr⟩:=List.pairwise_cons.1 h;by_cases h1:x<s
  .rcases sS s r hr with⟨A,B,T⟩|⟨A,B,G⟩
   .exact .inl ⟨x::A,B,by rw[T.eq];rfl,by simp[h1];exact T.lo,T.hi⟩
   .exact .inr ⟨x::A,B,by rw[G.eq];rfl,by simp[h1];exact G.lo,G.hi⟩
  .by_cases h2:s<x
   .exact .inr ⟨[],x::r,rfl,by simp,by simp[h2];exact fun b hb=>Int.lt_trans h2 (hx b hb)⟩
   .obtain rfl:x=s:=by omega
    exact .inl ⟨[],r,rfl,by simp,hx⟩
theorem iF.mem{ss A B:List Int}{s:Int}(T:iF ss A B s):s∈ss:=by rw[T.eq];simp
theorem BV5.not{ss A B:List Int}{s:Int}(G:BV5 ss A B s):s∉ss:=by
 intro h;rw[G.eq]at h;rcases List.mem_append.1 h with h|h
 .exact absurd (G.lo s h) (by omega)
 .exact absurd (G.hi s h) (by omega)
theorem BV5.ins{ss A B:List Int}{s:Int}(G:BV5 ss A B s):BV4 ss s=A++s::B:=by
 rw[BV4,G.eq,List.filter_append,List.filter_append,OD _ A (fun a ha=>by simpa using G.lo a ha),ZJ _ B (fun a ha=>by have:=G.hi a ha;simp;omega),ZJ _ A (fun a ha=>by have:=G.lo a ha;simp;omega),OD _ B (fun a ha=>by simpa using G.hi a ha)];simp
theorem iF.drop{ss A B:List Int}{s:Int}(T:iF ss A B s):AD9 ss s=A++B:=by
 rw[AD9,T.eq,List.filter_append,List.filter_cons,OD _ A (fun a ha=>by have:=T.lo a ha;simp;omega),OD _ B (fun a ha=>by have:=T.hi a ha;simp;omega)];simp
theorem lV(M:Int):∀ (ss:List Int) (lo:Int),ss.Pairwise (· < ·)->(∀s∈ss,lo<s/\s<=M)->lo<=M->(ss.length:Int)<=M-lo
 |[],lo,_,_,h=>by simp;omega
 |x::r,lo,hp,hb,_=>by
  obtain⟨hx,hr⟩:=List.pairwise_cons.1 hp;have h1:=hb x (by simp);have:=lV M r x hr (fun s hs=>⟨hx s hs,(hb s (by simp[hs])).2⟩) h1.2;simp;omega
theorem SX{ss:List Int}(h:oP ss):ss.length<=2147483647:=by
 have:=lV 2147483647 ss 0 h.1 (fun s hs=>by have:=h.2 s hs;omega) (by omega);omega
theorem A51{ss:List Int}{s:Int}(h:oP ss)(hs:1<=s/\s<=2147483647)(hn:s∉ss):oP (BV4 ss s):=by
 rcases sS s ss h.1 with⟨A,B,T⟩|⟨A,B,G⟩
 .exact absurd T.mem hn
 .rw[G.ins];have h1:=h.1;have h2:=h.2;rw[G.eq]at h1 h2;rw[List.pairwise_append]at h1;refine⟨?_,?_⟩
  .rw[List.pairwise_append,List.pairwise_cons];refine⟨h1.1,⟨G.hi,h1.2.1⟩,fun a ha b hb=>?_⟩;rcases List.mem_cons.1 hb with rfl|hb
   .exact G.lo a ha
   .exact h1.2.2 a ha b hb
  .intro x hx;rcases List.mem_append.1 hx with h|h
   .exact h2 x (by simp[h])
   .rcases List.mem_cons.1 h with rfl|h
    .exact hs
    .exact h2 x (by simp[h])
theorem AR3{ss:List Int}(s:Int)(h:oP ss):oP (AD9 ss s):=⟨h.1.filter _,fun x hx=>h.2 x (List.mem_filter.1 hx).1⟩
theorem BA9{ss:List Int}{s x:Int}(hx:x∈ss):x∈BV4 ss s:=by
 rw[BV4];by_cases h1:x<s
 .exact List.mem_append_left _ (List.mem_filter.2 ⟨hx,by simpa using h1⟩)
 .by_cases h2:s<x
  .exact List.mem_append_right _ (List.mem_cons_of_mem _ (List.mem_filter.2 ⟨hx,by simpa using h2⟩))
  .obtain rfl:x=s:=by omega
   exact List.mem_append_right _ (by simp)
end Go.Proofs.YtbaacalmgfkojaaGreatDoor
namespace Go.Proofs.YtbaacalmgfkojaaGreatDoor
structure Wa where
 s:Int
 k:Int
 p:List UInt8
structure Nt where
 s:Int
 k:Int
 p:List UInt8
def xQ(w:Wa)(e:Ev):Bool:=decide (w.p=e.p)&&(if w.k=2 then decide (e.k=4)||decide (e.k=2)else decide (e.k=1)||decide (e.k=2)||decide (e.k=3))
def AT2(e:Ev)(w:Wa):Nt:=⟨w.s,e.k,e.p⟩
def TL(ws:List Wa)(e:Ev):List Nt:=(ws.filter (fun w=>xQ w e)).map (AT2 e)
def kW(ws:List Wa)(e:Ev):List Wa:=ws.filter (fun w=> !xQ w e)
def OO:List Wa->List Ev->List Nt
 |_,[]=>[]
 |ws,e::r=>TL ws e++OO (kW ws e) r
def L6:List Wa->List Ev->List Wa
 |ws,[]=>ws
 |ws,e::r=>L6 (kW ws e) r
def kX(ws:List Wa)(s:Int):List Wa:=ws.filter (fun w=> !decide (w.s=s))
theorem BD1(ws:List Wa)(f:Wa->Bool):(ws.filter f).length+(ws.filter (fun w=> !f w)).length=ws.length:=by
 induction ws with
 |nil=>rfl
 |cons w r ih=>
  cases h:f w
  .simp[h];omega
  .simp[h];omega
theorem oZ(ws:List Wa)(e:Ev):(TL ws e).length+(kW ws e).length=ws.length:=by
 simp only[TL,kW,List.length_map];exact BD1 ws (fun w=>xQ w e)
theorem fJ(es:List Ev):∀ws:List Wa,(OO ws es).length+(L6 ws es).length=ws.length:=by
 induction es with
 |nil=>intro ws;simp[OO,L6]
 |cons e r ih=>
  intro ws;have h1:=oZ ws e;have h2:=ih (kW ws e);simp only[OO,L6,List.length_append];omega
theorem AT3(a b:List Ev):∀ws:List Wa,OO ws (a++b)=OO ws a++OO (L6 ws a) b:=by
 induction a with
 |nil=>intro ws;simp[OO,L6]
 |cons e r ih=>intro ws;simp[OO,L6,ih]
theorem AT4(a b:List Ev):∀ws:List Wa,L6 ws (a++b)=L6 (L6 ws a) b:=by
 induction a with
 |nil=>intro ws;simp[L6]
 |cons e r ih=>intro ws;simp[L6,ih]
theorem iJ(es:List Ev):∀ (ws:List Wa) (w:Wa),w∈L6 ws es->w∈ws/\∀e∈es,xQ w e=false:=by
 induction es with
 |nil=>intro ws w h;exact⟨h,by simp⟩
 |cons e r ih=>
  intro ws w h;obtain⟨h1,h2⟩:=ih (kW ws e) w h;simp only[kW,List.mem_filter]at h1;refine⟨h1.1,fun x hx=>?_⟩;rcases List.mem_cons.1 hx with rfl|hx
  .simpa using h1.2
  .exact h2 x hx
theorem AT5(ws:List Wa)(es:List Ev)(w:Wa)(h:w∈L6 ws es):w∈ws:=(iJ es ws w h).1
end Go.Proofs.YtbaacalmgfkojaaGreatDoor
namespace Go.Proofs.YtbaacalmgfkojaaGreatDoor
open Go.RowKit
structure En where
 p:List UInt8
 d:List UInt8
 t:Bool
def AO2(es:List En):Prop:=es.Pairwise fun a b=>bl a.p b.p=true
def IQ(x:En):En:=if x.t=true then x else⟨x.p,[],false⟩
def VK(es:List En)(x:En):List En:=es.filter (fun e=>bl e.p x.p)++IQ x::es.filter (fun e=>bl x.p e.p)
def qK(es:List En)(p:List UInt8):Option En:=es.find? fun e=>decide (e.p=p)
def noneE:En:=⟨[],[],false⟩
def BK1(s:Int)(l:List Nt)(p:List UInt8):Bool:=l.any fun n=>decide (n.s=s)&& !decide (n.k=4)&&decide (n.p=p)
def SK(s:Int)(l:List Nt)(es:List En):List En:=es.filter fun e=> !BK1 s l e.p
theorem A17(x:En):(IQ x).p=x.p:=by unfold IQ;split<;>rfl
theorem B24{x:En}(h:x.t=true):IQ x=x:=by unfold IQ;rw[if_pos h]
theorem BK2{x:En}(h:x.t=false):IQ x=⟨x.p,[],x.t⟩:=by unfold IQ;rw[h];rfl
structure nO(es A:List En)(f:En)(B:List En)(p:List UInt8):Prop where
 eq:es=A++f::B
 nm:f.p=p
 lo:∀a∈A,bl a.p p=true
 hi:∀b∈B,bl p b.p=true
structure C88(es A B:List En)(p:List UInt8):Prop where
 eq:es=A++B
 lo:∀a∈A,bl a.p p=true
 hi:∀b∈B,bl p b.p=true
theorem wF(p:List UInt8):∀es:List En,AO2 es->(∃A f B,nO es A f B p)\/∃A B,C88 es A B p
 |[],_=>.inr ⟨[],[],rfl,by simp,by simp⟩
 |x::r,h=>by
  obtain⟨hx,hr⟩:=List.pairwise_cons.1 h
  cases h1:bl x.p p with
  |true=>
   rcases wF p r hr with⟨A,f,B,T⟩|⟨A,B,G⟩
   .exact .inl ⟨x::A,f,B,by rw[T.eq];rfl,T.nm,by simp[h1];exact T.lo,T.hi⟩
   .exact .inr ⟨x::A,B,by rw[G.eq];rfl,by simp[h1];exact G.lo,G.hi⟩
  |false=>
   cases h2:bl p x.p with
   |true=>exact .inr ⟨[],x::r,rfl,by simp,by simp[h2];exact fun b hb=>QT _ _ _ h2 (hx b hb)⟩
   |false=>
    have e:=SQ _ _ h1 h2;exact .inl ⟨[],x,r,rfl,e,by simp,fun b hb=>by rw[<-e];exact hx b hb⟩
theorem B25{A:List En}{p:List UInt8}(h:∀a∈A,bl a.p p=true):A.filter (fun e=>bl e.p p)=A/\A.filter (fun e=>bl p e.p)=[]:=
 ⟨List.filter_eq_self.2 h,List.filter_eq_nil_iff.2 fun a ha=>by rw[O9 (h a ha)];simp⟩
theorem B26{A:List En}{p:List UInt8}(h:∀a∈A,bl p a.p=true):A.filter (fun e=>bl e.p p)=[]/\A.filter (fun e=>bl p e.p)=A:=
 ⟨List.filter_eq_nil_iff.2 fun a ha=>by rw[O9 (h a ha)];simp,List.filter_eq_self.2 h⟩
theorem nO.keep{es A B:List En}{f x:En}(T:nO es A f B x.p):VK es x=A++IQ x::B:=by
 have h1:=B25 T.lo;have h2:=B26 T.hi;have e:=T.nm;unfold VK;rw[T.eq,List.filter_append,List.filter_append,List.filter_cons,List.filter_cons,h1.1,h1.2,h2.1,h2.2,e,QB];simp
theorem C88.keep{es A B:List En}{x:En}(G:C88 es A B x.p):VK es x=A++IQ x::B:=by
 have h1:=B25 G.lo;have h2:=B26 G.hi;unfold VK;rw[G.eq,List.filter_append,List.filter_append,h1.1,h1.2,h2.1,h2.2];simp
theorem nO.look{es A B:List En}{f:En}{p:List UInt8}(T:nO es A f B p):qK es p=some f:=by
 rw[qK,T.eq,List.find?_append,List.find?_eq_none.2 (fun a ha=>by simp[TU (T.lo a ha)])];simp[T.nm]
theorem C88.look{es A B:List En}{p:List UInt8}(G:C88 es A B p):qK es p=none:=by
 rw[qK,G.eq,List.find?_append,List.find?_eq_none.2 (fun a ha=>by simp[TU (G.lo a ha)]),List.find?_eq_none.2 (fun b hb=>by simp[(TU (G.hi b hb)).symm])];rfl
theorem BK3{es:List En}(h:AO2 es)(x:En):AO2 (VK es x):=by
 have go:∀A B,AO2 (A++B)->(∀a∈A,bl a.p x.p=true)->(∀b∈B,bl x.p b.p=true)->AO2 (A++IQ x::B):=fun A B h lo hi=>by
  unfold AO2 at h⊢;rw[List.pairwise_append]at h;rw[List.pairwise_append,List.pairwise_cons];refine⟨h.1,⟨fun b hb=>by rw[A17];exact hi b hb,h.2.1⟩,fun a ha b hb=>?_⟩;rcases List.mem_cons.1 hb with rfl|hb
  .rw[A17];exact lo a ha
  .exact h.2.2 a ha b hb
 rcases wF x.p es h with⟨A,f,B,T⟩|⟨A,B,G⟩
 .rw[T.keep];refine go A B ?_ T.lo T.hi;have h':=h;rw[T.eq]at h';exact h'.sublist (List.Sublist.append (List.Sublist.refl A) (List.sublist_cons_self f B))
 .rw[G.keep];exact go A B (by rw[<-G.eq];exact h) G.lo G.hi
theorem BK4(es:List En)(h:AO2 es)(x:En):(VK es x).length<=es.length+1:=by
 rcases wF x.p es h with⟨A,f,B,T⟩|⟨A,B,G⟩
 .rw[T.keep,T.eq];simp
 .rw[G.keep,G.eq];simp;omega
theorem BK5{es:List En}{x e:En}(h:e∈VK es x):e∈es\/e=IQ x:=by
 rcases List.mem_append.1 h with h|h
 .exact .inl (List.mem_filter.1 h).1
 .rcases List.mem_cons.1 h with h|h
  .exact .inr h
  .exact .inl (List.mem_filter.1 h).1
theorem CF2(s:Int)(l:List Nt)(es:List En)(p:List UInt8):qK (SK s l es) p=if BK1 s l p=true then none else qK es p:=by
 unfold qK SK;rw[List.find?_filter];by_cases h:BK1 s l p=true
 .rw[if_pos h];refine List.find?_eq_none.2 fun e _ he=>?_;simp only[Bool.not_eq_true',decide_eq_true_eq]at he;rw[he.2,h]at he
  cases he.1
 .rw[if_neg h]
  congr 1
  funext e
  by_cases hp:e.p=p
  .simp only[hp,decide_true];simpa using h
  .simp[hp]
theorem BK6{s:Int}{l:List Nt}{es:List En}(h:AO2 es):AO2 (SK s l es):=List.Pairwise.sublist List.filter_sublist h
def nP(es:List En):Prop:=∀x∈es,x.p.length<=140737488355328/\x.d.length<=140737488355328
theorem nR{x:En}(h:x.p.length<=140737488355328/\x.d.length<=140737488355328):(IQ x).p.length<=140737488355328/\(IQ x).d.length<=140737488355328:=by
 unfold IQ
 split
 .exact h
 .exact⟨h.1,by simp⟩
def CP4:Option En->En
 |some e=>e
 |none=>noneE
end Go.Proofs.YtbaacalmgfkojaaGreatDoor
