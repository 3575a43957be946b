/-
  Part.
-/
import Derived.Test.YtodnhndkghdinaaGreatDoorLOC
set_option maxRecDepth 20000
set_option maxHeartbeats 8000000
namespace Go.Proofs.YtodnhndkghdinaaGreatDoor
open Go.RowKit
def SN:List UInt8→Option (List UInt8×List UInt8)
 |[]=>none
 |c::l=>match SN l with
  |some (a,b)=>some (c::a,b)
  |none=>if c=47 then some ([],l)else none
theorem ZC:∀b:List UInt8,47∉b→SN b=none
 |[],_=>rfl
 |c::l,h=>by
  have h1:c≠47:=by rintro rfl;simp at h
  rw[SN,ZC l (by simp at h;exact h.2)];simp[h1]
theorem OU(b:List UInt8)(hb:47∉b):∀a:List UInt8,SN (a++47::b)=some (a,b)
 |[]=>by simp[SN,ZC b hb]
 |c::a=>by simp[SN,OU b hb a]
def C42(a:List UInt8):List UInt8:=if a=[]then [47]else a
def BP(p:List UInt8):List UInt8:=if DU p=true∧p≠[47]then(match SN p with
 |some (a,_)=>C42 a
 |none=>[])else []
def JE(p:List UInt8):List UInt8:=if DU p=true∧p≠[47]then(match SN p with
 |some (_,b)=>b
 |none=>[])else []
def AH8(p:List UInt8):Int:=if DU p=true then(if p=[47]then 7 else 0)else 2
theorem bP{p:List UInt8}(h:DU p=true):∃r,p=47::r:=by
 simp only[DU,Bool.and_eq_true]at h;have h1:=h.1.2
 cases p with
 |nil=>simp[Lib.hasPrefix,List.isPrefixOf]at h1
 |cons c r=>simp[Lib.hasPrefix,List.isPrefixOf]at h1;exact⟨r,by rw[h1]⟩
theorem AK8:DU []=false:=by decide+kernel
theorem WS{p:List UInt8}(h:DU p=true):∃a b,p=a++47::b∧47∉b:=by
 obtain⟨r,rfl⟩:=bP h;exact iL _ (by simp)
theorem WT{a b:List UInt8}(h:DU (a++47::b)=true)(hn:a++47::b≠[47])(hb:47∉b):BP (a++47::b)=C42 a:=by
 rw[BP,if_pos ⟨h,hn⟩,OU b hb a]
theorem A74{a b:List UInt8}(h:DU (a++47::b)=true)(hn:a++47::b≠[47])(hb:47∉b):JE (a++47::b)=b:=by
 rw[JE,if_pos ⟨h,hn⟩,OU b hb a]
theorem WU{p:List UInt8}(h:DU p=false):BP p=[]:=by rw[BP,if_neg (by simp[h])]
theorem A75{p:List UInt8}(h:DU p=false):JE p=[]:=by rw[JE,if_neg (by simp[h])]
theorem PV:BP [47]=[]:=by rw[BP,if_neg (by simp)]
theorem uO:JE [47]=[]:=by rw[JE,if_neg (by simp)]
theorem zC{p:List UInt8}(h:DU p=false):AH8 p=2:=by rw[AH8,if_neg (by simp[h])]
theorem oJ:AH8 [47]=7:=by rw[AH8,if_pos YJ,if_pos rfl]
theorem AK9{p:List UInt8}(h:DU p=true)(hn:p≠[47]):AH8 p=0:=by rw[AH8,if_pos h,if_neg hn]
theorem kQ{p:List UInt8}(h:DU p=true)(hn:p≠[47]):BP p≠p∧BP p≠[]:=by
 obtain⟨a,b,rfl,hb⟩:=WS h;rw[WT h hn hb,C42]
 split
 ·rename_i h0;subst h0
  exact⟨fun e=>hn (by simpa using e.symm),by simp⟩
 ·rename_i h0
  refine⟨fun e=>?_,h0⟩;have:=congrArg List.length e;simp at this
structure Nd where
 p:List UInt8
 d:List UInt8
 c:Int
 m:Int
 q:Int
 v:Int
 k:Int
 o:Int
 n:Int
instance:Inhabited Nd:=⟨⟨[],[],0,0,0,0,0,0,0⟩⟩
structure Tr where
 z:Int
 ns:List Nd
 ss:List Int
def tr0:Tr:=⟨0,[],[]⟩
def uP:Nd:=⟨[47],[],0,0,0,0,0,0,0⟩
def MI:Tr:=⟨0,[uP],[]⟩
def nX(ns:List Nd):Prop:=ns.Pairwise fun a b=>bl a.p b.p=true
def JF(ns:List Nd)(p:List UInt8):Nat:=ns.countP fun x=>decide (BP x.p=p)
structure NOk(z:Int)(ns:List Nd)(ss:List Int)(n:Nd):Prop where
 data:n.d.length≤256
 path:DU n.p=true
 up:n.p≠[47]→∃u∈ns,u.p=BP n.p
 c0:0≤n.c
 cm:n.c≤n.m
 cq:n.c≤n.q
 mz:n.m≤z
 qz:n.q≤z
 v0:0≤n.v
 v1:n.v≤2147483647
 k0:0≤n.k
 kids:n.n=JF ns n.p
 own:n.o=0∨n.o∈ss∧n.n=0
structure L9(z:Int)(ns:List Nd)(ss:List Int):Prop where
 few:ns.length≤400
 root:∃r rest,ns=r::rest∧r.p=[47]∧r.o=0
 asc:nX ns
 ok:∀n∈ns,NOk z ns ss n
def kR(ss:List Int):Prop:=ss.Pairwise (· < ·)∧∀s∈ss,1≤s∧s≤2147483647
structure MQ(t:Tr):Prop where
 zx:FT t.z=true
 ses:kR t.ss
 nod:L9 t.z t.ns t.ss
 cap:∀n∈t.ns,n.k≤2147483647
noncomputable def PW(t:Tr):Bool:= @decide (MQ t) (Classical.propDecidable _)
theorem NW{t:Tr}:PW t=true↔MQ t:=by unfold PW;exact @decide_eq_true_iff _ (Classical.propDecidable _)
theorem VL{t:Tr}:PW t=false↔¬MQ t:=by unfold PW;exact @decide_eq_false_iff_not _ (Classical.propDecidable _)
theorem PX{ns:List Nd}(h:nX ns){a b:Nd}(ha:a∈ns)(hb:b∈ns)(e:a.p=b.p):a=b:=by
 obtain⟨i,hi,rfl⟩:=List.getElem_of_mem ha;obtain⟨j,hj,rfl⟩:=List.getElem_of_mem hb;have h:=List.pairwise_iff_getElem.1 h;by_cases h1:i<j
 ·exact absurd e (SH (h i j hi hj h1))
 ·by_cases h2:j<i
  ·exact absurd e.symm (SH (h j i hj hi h2))
  ·obtain rfl:i=j:=by omega
   rfl
structure FP(ns A:List Nd)(n:Nd)(B:List Nd)(p:List UInt8):Prop where
 eq:ns=A++n::B
 nm:n.p=p
 lo:∀a∈A,bl a.p p=true
 hi:∀b∈B,bl p b.p=true
structure iM(ns A B:List Nd)(p:List UInt8):Prop where
 eq:ns=A++B
 lo:∀a∈A,bl a.p p=true
 hi:∀b∈B,bl p b.p=true
theorem V6(p:List UInt8):∀ns:List Nd,nX ns→(∃A n B,FP ns A n B p)∨∃A B,iM ns A B p
 |[],_=>.inr ⟨[],[],rfl,by simp,by simp⟩
 |x::r,h=>by
  obtain⟨hx,hr⟩:=List.pairwise_cons.1 h
  cases h1:bl x.p p with
  |true=>
   rcases V6 p r hr with⟨A,f,B,T⟩|⟨A,B,G⟩
   ·exact .inl ⟨x::A,f,B,by rw[T.eq];rfl,T.nm,by simp[h1];exact T.lo,T.hi⟩
   ·exact .inr ⟨x::A,B,by rw[G.eq];rfl,by simp[h1];exact G.lo,G.hi⟩
  |false=>
   cases h2:bl p x.p with
   |true=>exact .inr ⟨[],x::r,rfl,by simp,by simp[h2];exact fun b hb=>MX _ _ _ h2 (hx b hb)⟩
   |false=>
    have e:=OT _ _ h1 h2;exact .inl ⟨[],x,r,rfl,e,by simp,fun b hb=>by rw[←e];exact hx b hb⟩
def GX(ns:List Nd)(p:List UInt8):Option Nd:=ns.find? fun n=>decide (n.p=p)
theorem FP.look{ns A B:List Nd}{n:Nd}{p:List UInt8}(T:FP ns A n B p):GX ns p=some n:=by
 rw[GX,T.eq,List.find?_append,List.find?_eq_none.2 (fun a ha=>by simp[SH (T.lo a ha)])];simp[T.nm]
theorem iM.no{ns A B:List Nd}{p:List UInt8}(G:iM ns A B p):∀n∈ns,n.p≠p:=by
 intro n hn;rw[G.eq]at hn;rcases List.mem_append.1 hn with h|h
 ·exact SH (G.lo n h)
 ·exact(SH (G.hi n h)).symm
theorem iM.look{ns A B:List Nd}{p:List UInt8}(G:iM ns A B p):GX ns p=none:=by
 rw[GX,List.find?_eq_none];intro n hn;simp[G.no n hn]
theorem UD{ns:List Nd}{p:List UInt8}{n:Nd}(h:GX ns p=some n):n∈ns∧n.p=p:=by
 refine⟨List.mem_of_find?_eq_some h,?_⟩;have:=List.find?_some h;simpa using this
theorem WV{ns:List Nd}(h:nX ns){n:Nd}(hn:n∈ns):GX ns n.p=some n:=by
 rcases V6 n.p ns h with⟨A,m,B,T⟩|⟨A,B,G⟩
 ·rw[T.look,PX h (by rw[T.eq];simp) hn T.nm]
 ·exact absurd rfl (G.no n hn)
theorem N7{ns:List Nd}(h:nX ns){p:List UInt8}{n:Nd}(hn:GX ns p=some n):∃A B,FP ns A n B p:=by
 rcases V6 p ns h with⟨A,m,B,T⟩|⟨A,B,G⟩
 ·rw[T.look]at hn;cases hn;exact⟨A,B,T⟩
 ·rw[G.look]at hn;cases hn
theorem uQ{ns:List Nd}(h:nX ns){p:List UInt8}(hn:GX ns p=none):∃A B,iM ns A B p:=by
 rcases V6 p ns h with⟨A,m,B,T⟩|⟨A,B,G⟩
 ·rw[T.look]at hn;cases hn
 ·exact⟨A,B,G⟩
def uS(ns:List Nd)(p:List UInt8):List Nd:=ns.filter fun n=>decide (n.p≠p)
def CE6(ns:List Nd)(x:Nd):List Nd:=(ns.filter fun n=>bl n.p x.p)++x::(ns.filter fun n=>bl x.p n.p)
def bump(z more:Int)(n:Nd):Nd:=⟨n.p,n.d,n.c,n.m,z,n.v,n.k+1,n.o,n.n+more⟩
def JK(p:List UInt8)(z more:Int)(ns:List Nd):List Nd:=ns.map fun n=>if n.p=p then bump z more n else n
def AL0(p d:List UInt8)(v z:Int)(ns:List Nd):List Nd:=ns.map fun n=>if n.p=p then⟨n.p,d,n.c,z,n.q,v,n.k,n.o,n.n⟩else n
theorem JX{α:Type}(f:α→Bool)(l:List α)(h:∀x∈l,f x=true):l.filter f=l:=List.filter_eq_self.2 h
theorem WW{α:Type}(f:α→Bool)(l:List α)(h:∀x∈l,f x=false):l.filter f=[]:=List.filter_eq_nil_iff.2 (fun x hx=>by simp[h x hx])
theorem zF{α:Type}(f:α→α)(l:List α)(h:∀x∈l,f x=x):l.map f=l:=by
 induction l with
 |nil=>rfl
 |cons x r ih=>rw[List.map_cons,h x (by simp),ih (fun y hy=>h y (by simp[hy]))]
theorem FP.drop{ns A B:List Nd}{n:Nd}{p:List UInt8}(T:FP ns A n B p):uS ns p=A++B:=by
 rw[uS,T.eq,List.filter_append,List.filter_cons,JX _ A (fun a ha=>by simp[SH (T.lo a ha)]),JX _ B (fun a ha=>by simp[(SH (T.hi a ha)).symm])];simp[T.nm]
theorem iM.ins{ns A B:List Nd}{x:Nd}(G:iM ns A B x.p):CE6 ns x=A++x::B:=by
 rw[CE6,G.eq,List.filter_append,List.filter_append,JX _ A (fun a ha=>G.lo a ha),WW _ B (fun a ha=>JR (G.hi a ha)),WW _ A (fun a ha=>JR (G.lo a ha)),JX _ B (fun a ha=>G.hi a ha)];simp
theorem FP.C43{ns A B:List Nd}{n:Nd}{p:List UInt8}(T:FP ns A n B p)(g:Nd→Nd):(ns.map fun x=>if x.p=p then g x else x)=A++g n::B:=by
 rw[T.eq,List.map_append,List.map_cons,zF _ A (fun a ha=>by simp[SH (T.lo a ha)]),zF _ B (fun a ha=>by simp[(SH (T.hi a ha)).symm])];simp[T.nm]
theorem FP.bump{ns A B:List Nd}{n:Nd}{p:List UInt8}(T:FP ns A n B p)(z more:Int):JK p z more ns=A++bump z more n::B:=T.C43 _
theorem FP.put{ns A B:List Nd}{n:Nd}{p:List UInt8}(T:FP ns A n B p)(d:List UInt8)(v z:Int):AL0 p d v z ns=A++⟨n.p,d,n.c,z,n.q,v,n.k,n.o,n.n⟩::B:=T.C43 _
theorem V7(p:List UInt8)(z more:Int)(n:Nd):(if n.p=p then bump z more n else n).p=n.p:=by split<;>rfl
theorem SQ(p:List UInt8)(z more:Int)(ns:List Nd):(JK p z more ns).map Nd.p=ns.map Nd.p:=by
 rw[JK,List.map_map]
 apply List.map_congr_left
 intro n _;exact V7 p z more n
theorem JY(ns:List Nd):nX ns↔(ns.map Nd.p).Pairwise fun a b=>bl a b=true:=by rw[List.pairwise_map];rfl
theorem LJ(ns:List Nd)(p:List UInt8):JF ns p=(ns.map Nd.p).countP fun x=>decide (BP x=p):=by rw[List.countP_map];rfl
def BQ0(ss:List Int)(s:Int):List Int:=(ss.filter fun x=>decide (x<s))++s::(ss.filter fun x=>decide (s<x))
def A76(ss:List Int)(s:Int):List Int:=ss.filter fun x=>decide (x≠s)
structure bQ(ss A B:List Int)(s:Int):Prop where
 eq:ss=A++s::B
 lo:∀a∈A,a<s
 hi:∀b∈B,s<b
structure BQ1(ss A B:List Int)(s:Int):Prop where
 eq:ss=A++B
 lo:∀a∈A,a<s
 hi:∀b∈B,s<b
theorem oK(s:Int):∀ss:List Int,ss.Pairwise (· < ·)→(∃A B,bQ ss A B s)∨∃A B,BQ1 ss A B s
 |[],_=>.inr ⟨[],[],rfl,by simp,by simp⟩
 |x::r,h=>by
  obtain⟨hx,hr⟩:=List.pairwise_cons.1 h;by_cases h1:x<s
  ·rcases oK s r hr with⟨A,B,T⟩|⟨A,B,G⟩
   ·exact .inl ⟨x::A,B,by rw[T.eq];rfl,by simp[h1];exact T.lo,T.hi⟩
   ·exact .inr ⟨x::A,B,by rw[G.eq];rfl,by simp[h1];exact G.lo,G.hi⟩
  ·by_cases h2:s<x
   ·exact .inr ⟨[],x::r,rfl,by simp,by simp[h2];exact fun b hb=>Int.lt_trans h2 (hx b hb)⟩
   ·obtain rfl:x=s:=by omega
    exact .inl ⟨[],r,rfl,by simp,hx⟩
theorem bQ.mem{ss A B:List Int}{s:Int}(T:bQ ss A B s):s∈ss:=by rw[T.eq];simp
theorem BQ1.not{ss A B:List Int}{s:Int}(G:BQ1 ss A B s):s∉ss:=by
 intro h;rw[G.eq]at h;rcases List.mem_append.1 h with h|h
 ·exact absurd (G.lo s h) (by omega)
 ·exact absurd (G.hi s h) (by omega)
theorem BQ1.ins{ss A B:List Int}{s:Int}(G:BQ1 ss A B s):BQ0 ss s=A++s::B:=by
 rw[BQ0,G.eq,List.filter_append,List.filter_append,JX _ A (fun a ha=>by simpa using G.lo a ha),WW _ B (fun a ha=>by have:=G.hi a ha;simp;omega),WW _ A (fun a ha=>by have:=G.lo a ha;simp;omega),JX _ B (fun a ha=>by simpa using G.hi a ha)];simp
theorem bQ.drop{ss A B:List Int}{s:Int}(T:bQ ss A B s):A76 ss s=A++B:=by
 rw[A76,T.eq,List.filter_append,List.filter_cons,JX _ A (fun a ha=>by have:=T.lo a ha;simp;omega),JX _ B (fun a ha=>by have:=T.hi a ha;simp;omega)];simp
theorem iO(M:Int):∀ (ss:List Int) (lo:Int),ss.Pairwise (· < ·)→(∀s∈ss,lo<s∧s≤M)→lo≤M→(ss.length:Int)≤M-lo
 |[],lo,_,_,h=>by simp;omega
 |x::r,lo,hp,hb,_=>by
  obtain⟨hx,hr⟩:=List.pairwise_cons.1 hp;have h1:=hb x (by simp);have:=iO M r x hr (fun s hs=>⟨hx s hs,(hb s (by simp[hs])).2⟩) h1.2;simp;omega
theorem OV{ss:List Int}(h:kR ss):ss.length≤2147483647:=by
 have:=iO 2147483647 ss 0 h.1 (fun s hs=>by have:=h.2 s hs;omega) (by omega);omega
theorem zG{ss:List Int}{s:Int}(h:kR ss)(hs:1≤s∧s≤2147483647)(hn:s∉ss):kR (BQ0 ss s):=by
 rcases oK s ss h.1 with⟨A,B,T⟩|⟨A,B,G⟩
 ·exact absurd T.mem hn
 ·rw[G.ins];have h1:=h.1;have h2:=h.2;rw[G.eq]at h1 h2;rw[List.pairwise_append]at h1;refine⟨?_,?_⟩
  ·rw[List.pairwise_append,List.pairwise_cons];refine⟨h1.1,⟨G.hi,h1.2.1⟩,fun a ha b hb=>?_⟩;rcases List.mem_cons.1 hb with rfl|hb
   ·exact G.lo a ha
   ·exact h1.2.2 a ha b hb
  ·intro x hx;rcases List.mem_append.1 hx with h|h
   ·exact h2 x (by simp[h])
   ·rcases List.mem_cons.1 h with rfl|h
    ·exact hs
    ·exact h2 x (by simp[h])
theorem AL1{ss:List Int}(s:Int)(h:kR ss):kR (A76 ss s):=⟨h.1.filter _,fun x hx=>h.2 x (List.mem_filter.1 hx).1⟩
theorem B51{ss:List Int}{s x:Int}(hx:x∈ss):x∈BQ0 ss s:=by
 rw[BQ0];by_cases h1:x<s
 ·exact List.mem_append_left _ (List.mem_filter.2 ⟨hx,by simpa using h1⟩)
 ·by_cases h2:s<x
  ·exact List.mem_append_right _ (List.mem_cons_of_mem _ (List.mem_filter.2 ⟨hx,by simpa using h2⟩))
  ·obtain rfl:x=s:=by omega
   exact List.mem_append_right _ (by simp)
end Go.Proofs.YtodnhndkghdinaaGreatDoor
namespace Go.Proofs.YtodnhndkghdinaaGreatDoor
structure Wa where
 s:Int
 k:Int
 p:List UInt8
structure Nt where
 s:Int
 k:Int
 p:List UInt8
def tJ(w:Wa)(e:Ev):Bool:=decide (w.p=e.p)&&(if w.k=2 then decide (e.k=4)||decide (e.k=2)else decide (e.k=1)||decide (e.k=2)||decide (e.k=3))
def AN0(e:Ev)(w:Wa):Nt:=⟨w.s,e.k,e.p⟩
def P9(ws:List Wa)(e:Ev):List Nt:=(ws.filter (fun w=>tJ w e)).map (AN0 e)
def gV(ws:List Wa)(e:Ev):List Wa:=ws.filter (fun w=> !tJ w e)
def KH:List Wa→List Ev→List Nt
 |_,[]=>[]
 |ws,e::r=>P9 ws e++KH (gV ws e) r
def GH:List Wa→List Ev→List Wa
 |ws,[]=>ws
 |ws,e::r=>GH (gV ws e) r
def gW(ws:List Wa)(s:Int):List Wa:=ws.filter (fun w=> !decide (w.s=s))
theorem B73(ws:List Wa)(f:Wa→Bool):(ws.filter f).length+(ws.filter (fun w=> !f w)).length=ws.length:=by
 induction ws with
 |nil=>rfl
 |cons w r ih=>
  cases h:f w
  ·simp[h];omega
  ·simp[h];omega
theorem kW(ws:List Wa)(e:Ev):(P9 ws e).length+(gV ws e).length=ws.length:=by
 simp only[P9,gV,List.length_map];exact B73 ws (fun w=>tJ w e)
theorem aG(es:List Ev):∀ws:List Wa,(KH ws es).length+(GH ws es).length=ws.length:=by
 induction es with
 |nil=>intro ws;simp[KH,GH]
 |cons e r ih=>
  intro ws;have h1:=kW ws e;have h2:=ih (gV ws e);simp only[KH,GH,List.length_append];omega
theorem AN1(a b:List Ev):∀ws:List Wa,KH ws (a++b)=KH ws a++KH (GH ws a) b:=by
 induction a with
 |nil=>intro ws;simp[KH,GH]
 |cons e r ih=>intro ws;simp[KH,GH,ih]
theorem AN2(a b:List Ev):∀ws:List Wa,GH ws (a++b)=GH (GH ws a) b:=by
 induction a with
 |nil=>intro ws;simp[GH]
 |cons e r ih=>intro ws;simp[GH,ih]
theorem bY(es:List Ev):∀ (ws:List Wa) (w:Wa),w∈GH ws es→w∈ws∧∀e∈es,tJ w e=false:=by
 induction es with
 |nil=>intro ws w h;exact⟨h,by simp⟩
 |cons e r ih=>
  intro ws w h;obtain⟨h1,h2⟩:=ih (gV ws e) w h;simp only[gV,List.mem_filter]at h1;refine⟨h1.1,fun x hx=>?_⟩;rcases List.mem_cons.1 hx with rfl|hx
  ·simpa using h1.2
  ·exact h2 x hx
theorem AN3(ws:List Wa)(es:List Ev)(w:Wa)(h:w∈GH ws es):w∈ws:=(bY es ws w h).1
end Go.Proofs.YtodnhndkghdinaaGreatDoor
namespace Go.Proofs.YtodnhndkghdinaaGreatDoor
open Go.RowKit
structure En where
 p:List UInt8
 d:List UInt8
 t:Bool
def AV5(es:List En):Prop:=es.Pairwise fun a b=>bl a.p b.p=true
def D8(x:En):En:=if x.t=true then x else⟨x.p,[],false⟩
def RX(es:List En)(x:En):List En:=es.filter (fun e=>bl e.p x.p)++D8 x::es.filter (fun e=>bl x.p e.p)
def noneE:En:=⟨[],[],false⟩
def C91(s:Int)(l:List Nt)(p:List UInt8):Bool:=l.any fun n=>decide (n.s=s)&& !decide (n.k=4)&&decide (n.p=p)
def QC(s:Int)(l:List Nt)(es:List En):List En:=es.filter fun e=> !C91 s l e.p
theorem xO(x:En):(D8 x).p=x.p:=by unfold D8;split<;>rfl
theorem AV6{x:En}(h:x.t=true):D8 x=x:=by unfold D8;rw[if_pos h]
theorem BE3{x:En}(h:x.t=false):D8 x=⟨x.p,[],x.t⟩:=by unfold D8;rw[h];rfl
structure A31(es A:List En)(f:En)(B:List En)(p:List UInt8):Prop where
 eq:es=A++f::B
 nm:f.p=p
 lo:∀a∈A,bl a.p p=true
 hi:∀b∈B,bl p b.p=true
structure CF9(es A B:List En)(p:List UInt8):Prop where
 eq:es=A++B
 lo:∀a∈A,bl a.p p=true
 hi:∀b∈B,bl p b.p=true
theorem A32(p:List UInt8):∀es:List En,AV5 es→(∃A f B,A31 es A f B p)∨∃A B,CF9 es A B p
 |[],_=>.inr ⟨[],[],rfl,by simp,by simp⟩
 |x::r,h=>by
  obtain⟨hx,hr⟩:=List.pairwise_cons.1 h
  cases h1:bl x.p p with
  |true=>
   rcases A32 p r hr with⟨A,f,B,T⟩|⟨A,B,G⟩
   ·exact .inl ⟨x::A,f,B,by rw[T.eq];rfl,T.nm,by simp[h1];exact T.lo,T.hi⟩
   ·exact .inr ⟨x::A,B,by rw[G.eq];rfl,by simp[h1];exact G.lo,G.hi⟩
  |false=>
   cases h2:bl p x.p with
   |true=>exact .inr ⟨[],x::r,rfl,by simp,by simp[h2];exact fun b hb=>MX _ _ _ h2 (hx b hb)⟩
   |false=>
    have e:=OT _ _ h1 h2;exact .inl ⟨[],x,r,rfl,e,by simp,fun b hb=>by rw[←e];exact hx b hb⟩
theorem AV7{A:List En}{p:List UInt8}(h:∀a∈A,bl a.p p=true):A.filter (fun e=>bl e.p p)=A∧A.filter (fun e=>bl p e.p)=[]:=
 ⟨List.filter_eq_self.2 h,List.filter_eq_nil_iff.2 fun a ha=>by rw[JR (h a ha)];simp⟩
theorem AV8{A:List En}{p:List UInt8}(h:∀a∈A,bl p a.p=true):A.filter (fun e=>bl e.p p)=[]∧A.filter (fun e=>bl p e.p)=A:=
 ⟨List.filter_eq_nil_iff.2 fun a ha=>by rw[JR (h a ha)];simp,List.filter_eq_self.2 h⟩
theorem A31.keep{es A B:List En}{f x:En}(T:A31 es A f B x.p):RX es x=A++D8 x::B:=by
 have h1:=AV7 T.lo;have h2:=AV8 T.hi;have e:=T.nm;unfold RX;rw[T.eq,List.filter_append,List.filter_append,List.filter_cons,List.filter_cons,h1.1,h1.2,h2.1,h2.2,e,MF];simp
theorem CF9.keep{es A B:List En}{x:En}(G:CF9 es A B x.p):RX es x=A++D8 x::B:=by
 have h1:=AV7 G.lo;have h2:=AV8 G.hi;unfold RX;rw[G.eq,List.filter_append,List.filter_append,h1.1,h1.2,h2.1,h2.2];simp
theorem BE4{es:List En}(h:AV5 es)(x:En):AV5 (RX es x):=by
 have go:∀A B,AV5 (A++B)→(∀a∈A,bl a.p x.p=true)→(∀b∈B,bl x.p b.p=true)→AV5 (A++D8 x::B):=fun A B h lo hi=>by
  unfold AV5 at h⊢;rw[List.pairwise_append]at h;rw[List.pairwise_append,List.pairwise_cons];refine⟨h.1,⟨fun b hb=>by rw[xO];exact hi b hb,h.2.1⟩,fun a ha b hb=>?_⟩;rcases List.mem_cons.1 hb with rfl|hb
  ·rw[xO];exact lo a ha
  ·exact h.2.2 a ha b hb
 rcases A32 x.p es h with⟨A,f,B,T⟩|⟨A,B,G⟩
 ·rw[T.keep];refine go A B ?_ T.lo T.hi;have h':=h;rw[T.eq]at h';exact h'.sublist (List.Sublist.append (List.Sublist.refl A) (List.sublist_cons_self f B))
 ·rw[G.keep];exact go A B (by rw[←G.eq];exact h) G.lo G.hi
theorem BE5(es:List En)(h:AV5 es)(x:En):(RX es x).length≤es.length+1:=by
 rcases A32 x.p es h with⟨A,f,B,T⟩|⟨A,B,G⟩
 ·rw[T.keep,T.eq];simp
 ·rw[G.keep,G.eq];simp;omega
theorem BE6{es:List En}{x e:En}(h:e∈RX es x):e∈es∨e=D8 x:=by
 rcases List.mem_append.1 h with h|h
 ·exact .inl (List.mem_filter.1 h).1
 ·rcases List.mem_cons.1 h with h|h
  ·exact .inr h
  ·exact .inl (List.mem_filter.1 h).1
theorem BE7{s:Int}{l:List Nt}{es:List En}(h:AV5 es):AV5 (QC s l es):=List.Pairwise.sublist List.filter_sublist h
def rM(es:List En):Prop:=∀x∈es,x.p.length≤140737488355328∧x.d.length≤140737488355328
theorem jR{x:En}(h:x.p.length≤140737488355328∧x.d.length≤140737488355328):(D8 x).p.length≤140737488355328∧(D8 x).d.length≤140737488355328:=by
 unfold D8
 split
 ·exact h
 ·exact⟨h.1,by simp⟩
end Go.Proofs.YtodnhndkghdinaaGreatDoor
