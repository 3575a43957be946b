/-
  Part.
-/
import Derived.Test.YtnlikdglijgjpaaGreatDoorLOB
set_option maxRecDepth 20000
set_option maxHeartbeats 8000000
namespace Go.Proofs.YtnlikdglijgjpaaGreatDoor
open Go.RowKit
def VZ:List UInt8->Option (List UInt8×List UInt8)
 |[]=>none
 |c::l=>match VZ l with
  |some (a,b)=>some (c::a,b)
  |none=>if c=47 then some ([],l)else none
theorem dW:∀b:List UInt8,47∉b->VZ b=none
 |[],_=>rfl
 |c::l,h=>by
  have h1:c≠47:=by rintro rfl;simp at h
  rw[VZ,dW l (by simp at h;exact h.2)];simp[h1]
theorem TB(b:List UInt8)(hb:47∉b):∀a:List UInt8,VZ (a++47::b)=some (a,b)
 |[]=>by simp[VZ,dW b hb]
 |c::a=>by simp[VZ,TB b hb a]
def CF6(a:List UInt8):List UInt8:=if a=[]then [47]else a
def II(p:List UInt8):List UInt8:=if J4 p=true/\p≠[47]then(match VZ p with
 |some (a,_)=>CF6 a
 |none=>[])else []
def NQ(p:List UInt8):List UInt8:=if J4 p=true/\p≠[47]then(match VZ p with
 |some (_,b)=>b
 |none=>[])else []
def AR2(p:List UInt8):Int:=if J4 p=true then(if p=[47]then 7 else 0)else 2
theorem YQ{p:List UInt8}(h:J4 p=true):∃r,p=47::r:=by
 simp only[J4,Bool.and_eq_true]at h;have h1:=h.1.2
 cases p with
 |nil=>simp[Lib.hasPrefix,List.isPrefixOf]at h1
 |cons c r=>simp[Lib.hasPrefix,List.isPrefixOf]at h1;exact⟨r,by rw[h1]⟩
theorem AU1:J4 []=false:=by decide+kernel
theorem ZN{p:List UInt8}(h:J4 p=true):∃a b,p=a++47::b/\47∉b:=by
 obtain⟨r,rfl⟩:=YQ h;exact mD _ (by simp)
theorem ZO{a b:List UInt8}(h:J4 (a++47::b)=true)(hn:a++47::b≠[47])(hb:47∉b):II (a++47::b)=CF6 a:=by
 rw[II,if_pos ⟨h,hn⟩,TB b hb a]
theorem AG2{a b:List UInt8}(h:J4 (a++47::b)=true)(hn:a++47::b≠[47])(hb:47∉b):NQ (a++47::b)=b:=by
 rw[NQ,if_pos ⟨h,hn⟩,TB b hb a]
theorem ZP{p:List UInt8}(h:J4 p=false):II p=[]:=by rw[II,if_neg (by simp[h])]
theorem AG3{p:List UInt8}(h:J4 p=false):NQ p=[]:=by rw[NQ,if_neg (by simp[h])]
theorem TV:II [47]=[]:=by rw[II,if_neg (by simp)]
theorem yU:NQ [47]=[]:=by rw[NQ,if_neg (by simp)]
theorem A69{p:List UInt8}(h:J4 p=false):AR2 p=2:=by rw[AR2,if_neg (by simp[h])]
theorem sZ:AR2 [47]=7:=by rw[AR2,if_pos bY,if_pos rfl]
theorem AU2{p:List UInt8}(h:J4 p=true)(hn:p≠[47]):AR2 p=0:=by rw[AR2,if_pos h,if_neg hn]
theorem oZ{p:List UInt8}(h:J4 p=true)(hn:p≠[47]):II p≠p/\II p≠[]:=by
 obtain⟨a,b,rfl,hb⟩:=ZN h;rw[ZO h hn hb,CF6]
 split
 .rename_i h0;subst h0
  exact⟨fun e=>hn (by simpa using e.symm),by simp⟩
 .rename_i h0
  refine⟨fun e=>?_,h0⟩;have:=congrArg List.length e;simp at this
structure Nd where
 p:List UInt8
 d:List UInt8
 c:Int
 m:Int
 q:Int
 v:Int
 k:Int
 o:Int
 n:Int
instance:Inhabited Nd:=⟨⟨[],[],0,0,0,0,0,0,0⟩⟩
structure Tr where
 z:Int
 ns:List Nd
 ss:List Int
def tr0:Tr:=⟨0,[],[]⟩
def tC:Nd:=⟨[47],[],0,0,0,0,0,0,0⟩
def QI:Tr:=⟨0,[tC],[]⟩
def sF(ns:List Nd):Prop:=ns.Pairwise fun a b=>bl a.p b.p=true
def NV(ns:List Nd)(p:List UInt8):Nat:=ns.countP fun x=>decide (II x.p=p)
structure NOk(z:Int)(ns:List Nd)(ss:List Int)(n:Nd):Prop where
 data:n.d.length<=256
 path:J4 n.p=true
 up:n.p≠[47]->∃u∈ns,u.p=II n.p
 c0:0<=n.c
 cm:n.c<=n.m
 cq:n.c<=n.q
 mz:n.m<=z
 qz:n.q<=z
 v0:0<=n.v
 v1:n.v<=2147483647
 k0:0<=n.k
 kids:n.n=NV ns n.p
 own:n.o=0\/n.o∈ss/\n.n=0
structure PD(z:Int)(ns:List Nd)(ss:List Int):Prop where
 few:ns.length<=400
 root:∃r rest,ns=r::rest/\r.p=[47]/\r.o=0
 asc:sF ns
 ok:∀n∈ns,NOk z ns ss n
def pF(ss:List Int):Prop:=ss.Pairwise (· < ·)/\∀s∈ss,1<=s/\s<=2147483647
structure QZ(t:Tr):Prop where
 zx:KL t.z=true
 ses:pF t.ss
 nod:PD t.z t.ns t.ss
 cap:∀n∈t.ns,n.k<=2147483647
noncomputable def TW(t:Tr):Bool:= @decide (QZ t) (Classical.propDecidable _)
theorem RV{t:Tr}:TW t=true↔QZ t:=by unfold TW;exact @decide_eq_true_iff _ (Classical.propDecidable _)
theorem YR{t:Tr}:TW t=false↔¬QZ t:=by unfold TW;exact @decide_eq_false_iff_not _ (Classical.propDecidable _)
theorem TY{ns:List Nd}(h:sF ns){a b:Nd}(ha:a∈ns)(hb:b∈ns)(e:a.p=b.p):a=b:=by
 obtain⟨i,hi,rfl⟩:=List.getElem_of_mem ha;obtain⟨j,hj,rfl⟩:=List.getElem_of_mem hb;have h:=List.pairwise_iff_getElem.1 h;by_cases h1:i<j
 .exact absurd e (VW (h i j hi hj h1))
 .by_cases h2:j<i
  .exact absurd e.symm (VW (h j i hj hi h2))
  .obtain rfl:i=j:=by omega
   rfl
structure KG(ns A:List Nd)(n:Nd)(B:List Nd)(p:List UInt8):Prop where
 eq:ns=A++n::B
 nm:n.p=p
 lo:∀a∈A,bl a.p p=true
 hi:∀b∈B,bl p b.p=true
structure mF(ns A B:List Nd)(p:List UInt8):Prop where
 eq:ns=A++B
 lo:∀a∈A,bl a.p p=true
 hi:∀b∈B,bl p b.p=true
theorem YB(p:List UInt8):∀ns:List Nd,sF ns->(∃A n B,KG ns A n B p)\/∃A B,mF ns A B p
 |[],_=>.inr ⟨[],[],rfl,by simp,by simp⟩
 |x::r,h=>by
  obtain⟨hx,hr⟩:=List.pairwise_cons.1 h
  cases h1:bl x.p p with
  |true=>
   rcases YB p r hr with⟨A,f,B,T⟩|⟨A,B,G⟩
   .exact .inl ⟨x::A,f,B,by rw[T.eq];rfl,T.nm,by simp[h1];exact T.lo,T.hi⟩
   .exact .inr ⟨x::A,B,by rw[G.eq];rfl,by simp[h1];exact G.lo,G.hi⟩
  |false=>
   cases h2:bl p x.p with
   |true=>exact .inr ⟨[],x::r,rfl,by simp,by simp[h2];exact fun b hb=>QX _ _ _ h2 (hx b hb)⟩
   |false=>
    have e:=TA _ _ h1 h2;exact .inl ⟨[],x,r,rfl,e,by simp,fun b hb=>by rw[<-e];exact hx b hb⟩
def LQ(ns:List Nd)(p:List UInt8):Option Nd:=ns.find? fun n=>decide (n.p=p)
theorem KG.look{ns A B:List Nd}{n:Nd}{p:List UInt8}(T:KG ns A n B p):LQ ns p=some n:=by
 rw[LQ,T.eq,List.find?_append,List.find?_eq_none.2 (fun a ha=>by simp[VW (T.lo a ha)])];simp[T.nm]
theorem mF.no{ns A B:List Nd}{p:List UInt8}(G:mF ns A B p):∀n∈ns,n.p≠p:=by
 intro n hn;rw[G.eq]at hn;rcases List.mem_append.1 hn with h|h
 .exact VW (G.lo n h)
 .exact(VW (G.hi n h)).symm
theorem mF.look{ns A B:List Nd}{p:List UInt8}(G:mF ns A B p):LQ ns p=none:=by
 rw[LQ,List.find?_eq_none];intro n hn;simp[G.no n hn]
theorem XK{ns:List Nd}{p:List UInt8}{n:Nd}(h:LQ ns p=some n):n∈ns/\n.p=p:=by
 refine⟨List.mem_of_find?_eq_some h,?_⟩;have:=List.find?_some h;simpa using this
theorem ZQ{ns:List Nd}(h:sF ns){n:Nd}(hn:n∈ns):LQ ns n.p=some n:=by
 rcases YB n.p ns h with⟨A,m,B,T⟩|⟨A,B,G⟩
 .rw[T.look,TY h (by rw[T.eq];simp) hn T.nm]
 .exact absurd rfl (G.no n hn)
theorem RD{ns:List Nd}(h:sF ns){p:List UInt8}{n:Nd}(hn:LQ ns p=some n):∃A B,KG ns A n B p:=by
 rcases YB p ns h with⟨A,m,B,T⟩|⟨A,B,G⟩
 .rw[T.look]at hn;cases hn;exact⟨A,B,T⟩
 .rw[G.look]at hn;cases hn
theorem yV{ns:List Nd}(h:sF ns){p:List UInt8}(hn:LQ ns p=none):∃A B,mF ns A B p:=by
 rcases YB p ns h with⟨A,m,B,T⟩|⟨A,B,G⟩
 .rw[T.look]at hn;cases hn
 .exact⟨A,B,G⟩
def yX(ns:List Nd)(p:List UInt8):List Nd:=ns.filter fun n=>decide (n.p≠p)
def CQ7(ns:List Nd)(x:Nd):List Nd:=(ns.filter fun n=>bl n.p x.p)++x::(ns.filter fun n=>bl x.p n.p)
def bump(z more:Int)(n:Nd):Nd:=⟨n.p,n.d,n.c,n.m,z,n.v,n.k+1,n.o,n.n+more⟩
def NZ(p:List UInt8)(z more:Int)(ns:List Nd):List Nd:=ns.map fun n=>if n.p=p then bump z more n else n
def AU3(p d:List UInt8)(v z:Int)(ns:List Nd):List Nd:=ns.map fun n=>if n.p=p then⟨n.p,d,n.c,z,n.q,v,n.k,n.o,n.n⟩else n
theorem OE{α:Type}(f:α->Bool)(l:List α)(h:∀x∈l,f x=true):l.filter f=l:=List.filter_eq_self.2 h
theorem ZR{α:Type}(f:α->Bool)(l:List α)(h:∀x∈l,f x=false):l.filter f=[]:=List.filter_eq_nil_iff.2 (fun x hx=>by simp[h x hx])
theorem A70{α:Type}(f:α->α)(l:List α)(h:∀x∈l,f x=x):l.map f=l:=by
 induction l with
 |nil=>rfl
 |cons x r ih=>rw[List.map_cons,h x (by simp),ih (fun y hy=>h y (by simp[hy]))]
theorem KG.drop{ns A B:List Nd}{n:Nd}{p:List UInt8}(T:KG ns A n B p):yX ns p=A++B:=by
 rw[yX,T.eq,List.filter_append,List.filter_cons,OE _ A (fun a ha=>by simp[VW (T.lo a ha)]),OE _ B (fun a ha=>by simp[(VW (T.hi a ha)).symm])];simp[T.nm]
theorem mF.ins{ns A B:List Nd}{x:Nd}(G:mF ns A B x.p):CQ7 ns x=A++x::B:=by
 rw[CQ7,G.eq,List.filter_append,List.filter_append,OE _ A (fun a ha=>G.lo a ha),ZR _ B (fun a ha=>OB (G.hi a ha)),ZR _ A (fun a ha=>OB (G.lo a ha)),OE _ B (fun a ha=>G.hi a ha)];simp
theorem KG.CF7{ns A B:List Nd}{n:Nd}{p:List UInt8}(T:KG ns A n B p)(g:Nd->Nd):(ns.map fun x=>if x.p=p then g x else x)=A++g n::B:=by
 rw[T.eq,List.map_append,List.map_cons,A70 _ A (fun a ha=>by simp[VW (T.lo a ha)]),A70 _ B (fun a ha=>by simp[(VW (T.hi a ha)).symm])];simp[T.nm]
theorem KG.bump{ns A B:List Nd}{n:Nd}{p:List UInt8}(T:KG ns A n B p)(z more:Int):NZ p z more ns=A++bump z more n::B:=T.CF7 _
theorem KG.put{ns A B:List Nd}{n:Nd}{p:List UInt8}(T:KG ns A n B p)(d:List UInt8)(v z:Int):AU3 p d v z ns=A++⟨n.p,d,n.c,z,n.q,v,n.k,n.o,n.n⟩::B:=T.CF7 _
theorem YC(p:List UInt8)(z more:Int)(n:Nd):(if n.p=p then bump z more n else n).p=n.p:=by split<;>rfl
theorem WA(p:List UInt8)(z more:Int)(ns:List Nd):(NZ p z more ns).map Nd.p=ns.map Nd.p:=by
 rw[NZ,List.map_map]
 apply List.map_congr_left
 intro n _;exact YC p z more n
theorem OG(ns:List Nd):sF ns↔(ns.map Nd.p).Pairwise fun a b=>bl a b=true:=by rw[List.pairwise_map];rfl
theorem PS(ns:List Nd)(p:List UInt8):NV ns p=(ns.map Nd.p).countP fun x=>decide (II x=p):=by rw[List.countP_map];rfl
def BZ7(ss:List Int)(s:Int):List Int:=(ss.filter fun x=>decide (x<s))++s::(ss.filter fun x=>decide (s<x))
def AG4(ss:List Int)(s:Int):List Int:=ss.filter fun x=>decide (x≠s)
structure iP(ss A B:List Int)(s:Int):Prop where
 eq:ss=A++s::B
 lo:∀a∈A,a<s
 hi:∀b∈B,s<b
structure BZ8(ss A B:List Int)(s:Int):Prop where
 eq:ss=A++B
 lo:∀a∈A,a<s
 hi:∀b∈B,s<b
theorem tH(s:Int):∀ss:List Int,ss.Pairwise (· < ·)->(∃A B,iP ss A B s)\/∃A B,BZ8 ss A B s
 |[],_=>.inr ⟨[],[],rfl,by simp,by simp⟩
 |x::r,h=>by
  obtain⟨hx,hr⟩:=List.pairwise_cons.1 h;by_cases h1:x<s
  .rcases tH s r hr with⟨A,B,T⟩|⟨A,B,G⟩
   .exact .inl ⟨x::A,B,by rw[T.eq];rfl,by simp[h1];exact T.lo,T.hi⟩
   .exact .inr ⟨x::A,B,by rw[G.eq];rfl,by simp[h1];exact G.lo,G.hi⟩
  .by_cases h2:s<x
   .exact .inr ⟨[],x::r,rfl,by simp,by simp[h2];exact fun b hb=>Int.lt_trans h2 (hx b hb)⟩
   .obtain rfl:x=s:=by omega
    exact .inl ⟨[],r,rfl,by simp,hx⟩
theorem iP.mem{ss A B:List Int}{s:Int}(T:iP ss A B s):s∈ss:=by rw[T.eq];simp
theorem BZ8.not{ss A B:List Int}{s:Int}(G:BZ8 ss A B s):s∉ss:=by
 intro h;rw[G.eq]at h;rcases List.mem_append.1 h with h|h
 .exact absurd (G.lo s h) (by omega)
 .exact absurd (G.hi s h) (by omega)
theorem BZ8.ins{ss A B:List Int}{s:Int}(G:BZ8 ss A B s):BZ7 ss s=A++s::B:=by
 rw[BZ7,G.eq,List.filter_append,List.filter_append,OE _ A (fun a ha=>by simpa using G.lo a ha),ZR _ B (fun a ha=>by have:=G.hi a ha;simp;omega),ZR _ A (fun a ha=>by have:=G.lo a ha;simp;omega),OE _ B (fun a ha=>by simpa using G.hi a ha)];simp
theorem iP.drop{ss A B:List Int}{s:Int}(T:iP ss A B s):AG4 ss s=A++B:=by
 rw[AG4,T.eq,List.filter_append,List.filter_cons,OE _ A (fun a ha=>by have:=T.lo a ha;simp;omega),OE _ B (fun a ha=>by have:=T.hi a ha;simp;omega)];simp
theorem mG(M:Int):∀ (ss:List Int) (lo:Int),ss.Pairwise (· < ·)->(∀s∈ss,lo<s/\s<=M)->lo<=M->(ss.length:Int)<=M-lo
 |[],lo,_,_,h=>by simp;omega
 |x::r,lo,hp,hb,_=>by
  obtain⟨hx,hr⟩:=List.pairwise_cons.1 hp;have h1:=hb x (by simp);have:=mG M r x hr (fun s hs=>⟨hx s hs,(hb s (by simp[hs])).2⟩) h1.2;simp;omega
theorem UO{ss:List Int}(h:pF ss):ss.length<=2147483647:=by
 have:=mG 2147483647 ss 0 h.1 (fun s hs=>by have:=h.2 s hs;omega) (by omega);omega
theorem A71{ss:List Int}{s:Int}(h:pF ss)(hs:1<=s/\s<=2147483647)(hn:s∉ss):pF (BZ7 ss s):=by
 rcases tH s ss h.1 with⟨A,B,T⟩|⟨A,B,G⟩
 .exact absurd T.mem hn
 .rw[G.ins];have h1:=h.1;have h2:=h.2;rw[G.eq]at h1 h2;rw[List.pairwise_append]at h1;refine⟨?_,?_⟩
  .rw[List.pairwise_append,List.pairwise_cons];refine⟨h1.1,⟨G.hi,h1.2.1⟩,fun a ha b hb=>?_⟩;rcases List.mem_cons.1 hb with rfl|hb
   .exact G.lo a ha
   .exact h1.2.2 a ha b hb
  .intro x hx;rcases List.mem_append.1 hx with h|h
   .exact h2 x (by simp[h])
   .rcases List.mem_cons.1 h with rfl|h
    .exact hs
    .exact h2 x (by simp[h])
theorem AU4{ss:List Int}(s:Int)(h:pF ss):pF (AG4 ss s):=⟨h.1.filter _,fun x hx=>h.2 x (List.mem_filter.1 hx).1⟩
theorem BE9{ss:List Int}{s x:Int}(hx:x∈ss):x∈BZ7 ss s:=by
 rw[BZ7];by_cases h1:x<s
 .exact List.mem_append_left _ (List.mem_filter.2 ⟨hx,by simpa using h1⟩)
 .by_cases h2:s<x
  .exact List.mem_append_right _ (List.mem_cons_of_mem _ (List.mem_filter.2 ⟨hx,by simpa using h2⟩))
  .obtain rfl:x=s:=by omega
   exact List.mem_append_right _ (by simp)
end Go.Proofs.YtnlikdglijgjpaaGreatDoor
namespace Go.Proofs.YtnlikdglijgjpaaGreatDoor
structure Wa where
 s:Int
 k:Int
 p:List UInt8
structure Nt where
 s:Int
 k:Int
 p:List UInt8
def yF(w:Wa)(e:Ev):Bool:=decide (w.p=e.p)&&(if w.k=2 then decide (e.k=4)||decide (e.k=2)else decide (e.k=1)||decide (e.k=2)||decide (e.k=3))
def AW7(e:Ev)(w:Wa):Nt:=⟨w.s,e.k,e.p⟩
def TL(ws:List Wa)(e:Ev):List Nt:=(ws.filter (fun w=>yF w e)).map (AW7 e)
def lJ(ws:List Wa)(e:Ev):List Wa:=ws.filter (fun w=> !yF w e)
def OQ:List Wa->List Ev->List Nt
 |_,[]=>[]
 |ws,e::r=>TL ws e++OQ (lJ ws e) r
def LC:List Wa->List Ev->List Wa
 |ws,[]=>ws
 |ws,e::r=>LC (lJ ws e) r
def lK(ws:List Wa)(s:Int):List Wa:=ws.filter (fun w=> !decide (w.s=s))
theorem BH1(ws:List Wa)(f:Wa->Bool):(ws.filter f).length+(ws.filter (fun w=> !f w)).length=ws.length:=by
 induction ws with
 |nil=>rfl
 |cons w r ih=>
  cases h:f w
  .simp[h];omega
  .simp[h];omega
theorem pO(ws:List Wa)(e:Ev):(TL ws e).length+(lJ ws e).length=ws.length:=by
 simp only[TL,lJ,List.length_map];exact BH1 ws (fun w=>yF w e)
theorem fV(es:List Ev):∀ws:List Wa,(OQ ws es).length+(LC ws es).length=ws.length:=by
 induction es with
 |nil=>intro ws;simp[OQ,LC]
 |cons e r ih=>
  intro ws;have h1:=pO ws e;have h2:=ih (lJ ws e);simp only[OQ,LC,List.length_append];omega
theorem AW8(a b:List Ev):∀ws:List Wa,OQ ws (a++b)=OQ ws a++OQ (LC ws a) b:=by
 induction a with
 |nil=>intro ws;simp[OQ,LC]
 |cons e r ih=>intro ws;simp[OQ,LC,ih]
theorem AW9(a b:List Ev):∀ws:List Wa,LC ws (a++b)=LC (LC ws a) b:=by
 induction a with
 |nil=>intro ws;simp[LC]
 |cons e r ih=>intro ws;simp[LC,ih]
theorem iU(es:List Ev):∀ (ws:List Wa) (w:Wa),w∈LC ws es->w∈ws/\∀e∈es,yF w e=false:=by
 induction es with
 |nil=>intro ws w h;exact⟨h,by simp⟩
 |cons e r ih=>
  intro ws w h;obtain⟨h1,h2⟩:=ih (lJ ws e) w h;simp only[lJ,List.mem_filter]at h1;refine⟨h1.1,fun x hx=>?_⟩;rcases List.mem_cons.1 hx with rfl|hx
  .simpa using h1.2
  .exact h2 x hx
theorem AX0(ws:List Wa)(es:List Ev)(w:Wa)(h:w∈LC ws es):w∈ws:=(iU es ws w h).1
end Go.Proofs.YtnlikdglijgjpaaGreatDoor
namespace Go.Proofs.YtnlikdglijgjpaaGreatDoor
open Go.RowKit
structure En where
 p:List UInt8
 d:List UInt8
 t:Bool
def B51(es:List En):Prop:=es.Pairwise fun a b=>bl a.p b.p=true
def IV(x:En):En:=if x.t=true then x else⟨x.p,[],false⟩
def VL(es:List En)(x:En):List En:=es.filter (fun e=>bl e.p x.p)++IV x::es.filter (fun e=>bl x.p e.p)
def noneE:En:=⟨[],[],false⟩
def CK9(s:Int)(l:List Nt)(p:List UInt8):Bool:=l.any fun n=>decide (n.s=s)&& !decide (n.k=4)&&decide (n.p=p)
def U8(s:Int)(l:List Nt)(es:List En):List En:=es.filter fun e=> !CK9 s l e.p
theorem A28(x:En):(IV x).p=x.p:=by unfold IV;split<;>rfl
theorem B52{x:En}(h:x.t=true):IV x=x:=by unfold IV;rw[if_pos h]
theorem BO1{x:En}(h:x.t=false):IV x=⟨x.p,[],x.t⟩:=by unfold IV;rw[h];rfl
structure AB9(es A:List En)(f:En)(B:List En)(p:List UInt8):Prop where
 eq:es=A++f::B
 nm:f.p=p
 lo:∀a∈A,bl a.p p=true
 hi:∀b∈B,bl p b.p=true
structure CS0(es A B:List En)(p:List UInt8):Prop where
 eq:es=A++B
 lo:∀a∈A,bl a.p p=true
 hi:∀b∈B,bl p b.p=true
theorem AC0(p:List UInt8):∀es:List En,B51 es->(∃A f B,AB9 es A f B p)\/∃A B,CS0 es A B p
 |[],_=>.inr ⟨[],[],rfl,by simp,by simp⟩
 |x::r,h=>by
  obtain⟨hx,hr⟩:=List.pairwise_cons.1 h
  cases h1:bl x.p p with
  |true=>
   rcases AC0 p r hr with⟨A,f,B,T⟩|⟨A,B,G⟩
   .exact .inl ⟨x::A,f,B,by rw[T.eq];rfl,T.nm,by simp[h1];exact T.lo,T.hi⟩
   .exact .inr ⟨x::A,B,by rw[G.eq];rfl,by simp[h1];exact G.lo,G.hi⟩
  |false=>
   cases h2:bl p x.p with
   |true=>exact .inr ⟨[],x::r,rfl,by simp,by simp[h2];exact fun b hb=>QX _ _ _ h2 (hx b hb)⟩
   |false=>
    have e:=TA _ _ h1 h2;exact .inl ⟨[],x,r,rfl,e,by simp,fun b hb=>by rw[<-e];exact hx b hb⟩
theorem B53{A:List En}{p:List UInt8}(h:∀a∈A,bl a.p p=true):A.filter (fun e=>bl e.p p)=A/\A.filter (fun e=>bl p e.p)=[]:=
 ⟨List.filter_eq_self.2 h,List.filter_eq_nil_iff.2 fun a ha=>by rw[OB (h a ha)];simp⟩
theorem B54{A:List En}{p:List UInt8}(h:∀a∈A,bl p a.p=true):A.filter (fun e=>bl e.p p)=[]/\A.filter (fun e=>bl p e.p)=A:=
 ⟨List.filter_eq_nil_iff.2 fun a ha=>by rw[OB (h a ha)];simp,List.filter_eq_self.2 h⟩
theorem AB9.keep{es A B:List En}{f x:En}(T:AB9 es A f B x.p):VL es x=A++IV x::B:=by
 have h1:=B53 T.lo;have h2:=B54 T.hi;have e:=T.nm;unfold VL;rw[T.eq,List.filter_append,List.filter_append,List.filter_cons,List.filter_cons,h1.1,h1.2,h2.1,h2.2,e,QF];simp
theorem CS0.keep{es A B:List En}{x:En}(G:CS0 es A B x.p):VL es x=A++IV x::B:=by
 have h1:=B53 G.lo;have h2:=B54 G.hi;unfold VL;rw[G.eq,List.filter_append,List.filter_append,h1.1,h1.2,h2.1,h2.2];simp
theorem BO2{es:List En}(h:B51 es)(x:En):B51 (VL es x):=by
 have go:∀A B,B51 (A++B)->(∀a∈A,bl a.p x.p=true)->(∀b∈B,bl x.p b.p=true)->B51 (A++IV x::B):=fun A B h lo hi=>by
  unfold B51 at h⊢;rw[List.pairwise_append]at h;rw[List.pairwise_append,List.pairwise_cons];refine⟨h.1,⟨fun b hb=>by rw[A28];exact hi b hb,h.2.1⟩,fun a ha b hb=>?_⟩;rcases List.mem_cons.1 hb with rfl|hb
  .rw[A28];exact lo a ha
  .exact h.2.2 a ha b hb
 rcases AC0 x.p es h with⟨A,f,B,T⟩|⟨A,B,G⟩
 .rw[T.keep];refine go A B ?_ T.lo T.hi;have h':=h;rw[T.eq]at h';exact h'.sublist (List.Sublist.append (List.Sublist.refl A) (List.sublist_cons_self f B))
 .rw[G.keep];exact go A B (by rw[<-G.eq];exact h) G.lo G.hi
theorem BO3(es:List En)(h:B51 es)(x:En):(VL es x).length<=es.length+1:=by
 rcases AC0 x.p es h with⟨A,f,B,T⟩|⟨A,B,G⟩
 .rw[T.keep,T.eq];simp
 .rw[G.keep,G.eq];simp;omega
theorem BO4{es:List En}{x e:En}(h:e∈VL es x):e∈es\/e=IV x:=by
 rcases List.mem_append.1 h with h|h
 .exact .inl (List.mem_filter.1 h).1
 .rcases List.mem_cons.1 h with h|h
  .exact .inr h
  .exact .inl (List.mem_filter.1 h).1
theorem BO5{s:Int}{l:List Nt}{es:List En}(h:B51 es):B51 (U8 s l es):=List.Pairwise.sublist List.filter_sublist h
def wM(es:List En):Prop:=∀x∈es,x.p.length<=140737488355328/\x.d.length<=140737488355328
theorem nZ{x:En}(h:x.p.length<=140737488355328/\x.d.length<=140737488355328):(IV x).p.length<=140737488355328/\(IV x).d.length<=140737488355328:=by
 unfold IV
 split
 .exact h
 .exact⟨h.1,by simp⟩
end Go.Proofs.YtnlikdglijgjpaaGreatDoor
