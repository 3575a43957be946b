/-
  Part.
-/
import Derived.Test.YtnjehbehmkfngaaGreatDoorLOB
set_option maxRecDepth 20000
set_option maxHeartbeats 8000000
namespace Go.Proofs.YtnjehbehmkfngaaGreatDoor
open Go.RowKit
def SE:List UInt8→Option (List UInt8×List UInt8)
 |[]=>none
 |c::l=>match SE l with
  |some (a,b)=>some (c::a,b)
  |none=>if c=47 then some ([],l)else none
theorem YZ:∀b:List UInt8,47∉b→SE b=none
 |[],_=>rfl
 |c::l,h=>by
  have h1:c≠47:=by rintro rfl;simp at h
  rw[SE,YZ l (by simp at h;exact h.2)];simp[h1]
theorem OJ(b:List UInt8)(hb:47∉b):∀a:List UInt8,SE (a++47::b)=some (a,b)
 |[]=>by simp[SE,YZ b hb]
 |c::a=>by simp[SE,OJ b hb a]
def C21(a:List UInt8):List UInt8:=if a=[]then [47]else a
def BO(p:List UInt8):List UInt8:=if DN p=true∧p≠[47]then(match SE p with
 |some (a,_)=>C21 a
 |none=>[])else []
def JC(p:List UInt8):List UInt8:=if DN p=true∧p≠[47]then(match SE p with
 |some (_,b)=>b
 |none=>[])else []
def AG4(p:List UInt8):Int:=if DN p=true then(if p=[47]then 7 else 0)else 2
theorem bF{p:List UInt8}(h:DN p=true):∃r,p=47::r:=by
 simp only[DN,Bool.and_eq_true]at h;have h1:=h.1.2
 cases p with
 |nil=>simp[Lib.hasPrefix,List.isPrefixOf]at h1
 |cons c r=>simp[Lib.hasPrefix,List.isPrefixOf]at h1;exact⟨r,by rw[h1]⟩
theorem AJ5:DN []=false:=by decide+kernel
theorem WH{p:List UInt8}(h:DN p=true):∃a b,p=a++47::b∧47∉b:=by
 obtain⟨r,rfl⟩:=bF h;exact iF _ (by simp)
theorem WI{a b:List UInt8}(h:DN (a++47::b)=true)(hn:a++47::b≠[47])(hb:47∉b):BO (a++47::b)=C21 a:=by
 rw[BO,if_pos ⟨h,hn⟩,OJ b hb a]
theorem A62{a b:List UInt8}(h:DN (a++47::b)=true)(hn:a++47::b≠[47])(hb:47∉b):JC (a++47::b)=b:=by
 rw[JC,if_pos ⟨h,hn⟩,OJ b hb a]
theorem WJ{p:List UInt8}(h:DN p=false):BO p=[]:=by rw[BO,if_neg (by simp[h])]
theorem A63{p:List UInt8}(h:DN p=false):JC p=[]:=by rw[JC,if_neg (by simp[h])]
theorem PG:BO [47]=[]:=by rw[BO,if_neg (by simp)]
theorem tZ:JC [47]=[]:=by rw[JC,if_neg (by simp)]
theorem yQ{p:List UInt8}(h:DN p=false):AG4 p=2:=by rw[AG4,if_neg (by simp[h])]
theorem nY:AG4 [47]=7:=by rw[AG4,if_pos YD,if_pos rfl]
theorem AJ6{p:List UInt8}(h:DN p=true)(hn:p≠[47]):AG4 p=0:=by rw[AG4,if_pos h,if_neg hn]
theorem kG{p:List UInt8}(h:DN p=true)(hn:p≠[47]):BO p≠p∧BO p≠[]:=by
 obtain⟨a,b,rfl,hb⟩:=WH h;rw[WI h hn hb,C21]
 split
 ·rename_i h0;subst h0
  exact⟨fun e=>hn (by simpa using e.symm),by simp⟩
 ·rename_i h0
  refine⟨fun e=>?_,h0⟩;have:=congrArg List.length e;simp at this
structure Nd where
 p:List UInt8
 d:List UInt8
 c:Int
 m:Int
 q:Int
 v:Int
 k:Int
 o:Int
 n:Int
instance:Inhabited Nd:=⟨⟨[],[],0,0,0,0,0,0,0⟩⟩
structure Tr where
 z:Int
 ns:List Nd
 ss:List Int
def tr0:Tr:=⟨0,[],[]⟩
def uD:Nd:=⟨[47],[],0,0,0,0,0,0,0⟩
def MX:Tr:=⟨0,[uD],[]⟩
def nG(ns:List Nd):Prop:=ns.Pairwise fun a b=>bl a.p b.p=true
def JG(ns:List Nd)(p:List UInt8):Nat:=ns.countP fun x=>decide (BO x.p=p)
structure NOk(z:Int)(ns:List Nd)(ss:List Int)(n:Nd):Prop where
 data:n.d.length≤256
 path:DN n.p=true
 up:n.p≠[47]→∃u∈ns,u.p=BO n.p
 c0:0≤n.c
 cm:n.c≤n.m
 cq:n.c≤n.q
 mz:n.m≤z
 qz:n.q≤z
 v0:0≤n.v
 v1:n.v≤2147483647
 k0:0≤n.k
 kids:n.n=JG ns n.p
 own:n.o=0∨n.o∈ss∧n.n=0
structure L6(z:Int)(ns:List Nd)(ss:List Int):Prop where
 few:ns.length≤400
 root:∃r rest,ns=r::rest∧r.p=[47]∧r.o=0
 asc:nG ns
 ok:∀n∈ns,NOk z ns ss n
def kH(ss:List Int):Prop:=ss.Pairwise (· < ·)∧∀s∈ss,1≤s∧s≤2147483647
structure MZ(t:Tr):Prop where
 zx:FQ t.z=true
 ses:kH t.ss
 nod:L6 t.z t.ns t.ss
 cap:∀n∈t.ns,n.k≤2147483647
noncomputable def PI(t:Tr):Bool:= @decide (MZ t) (Classical.propDecidable _)
theorem NQ{t:Tr}:PI t=true↔MZ t:=by unfold PI;exact @decide_eq_true_iff _ (Classical.propDecidable _)
theorem VG{t:Tr}:PI t=false↔¬MZ t:=by unfold PI;exact @decide_eq_false_iff_not _ (Classical.propDecidable _)
theorem PK{ns:List Nd}(h:nG ns){a b:Nd}(ha:a∈ns)(hb:b∈ns)(e:a.p=b.p):a=b:=by
 obtain⟨i,hi,rfl⟩:=List.getElem_of_mem ha;obtain⟨j,hj,rfl⟩:=List.getElem_of_mem hb;have h:=List.pairwise_iff_getElem.1 h;by_cases h1:i<j
 ·exact absurd e (SA (h i j hi hj h1))
 ·by_cases h2:j<i
  ·exact absurd e.symm (SA (h j i hj hi h2))
  ·obtain rfl:i=j:=by omega
   rfl
structure FK(ns A:List Nd)(n:Nd)(B:List Nd)(p:List UInt8):Prop where
 eq:ns=A++n::B
 nm:n.p=p
 lo:∀a∈A,bl a.p p=true
 hi:∀b∈B,bl p b.p=true
structure iG(ns A B:List Nd)(p:List UInt8):Prop where
 eq:ns=A++B
 lo:∀a∈A,bl a.p p=true
 hi:∀b∈B,bl p b.p=true
theorem UR(p:List UInt8):∀ns:List Nd,nG ns→(∃A n B,FK ns A n B p)∨∃A B,iG ns A B p
 |[],_=>.inr ⟨[],[],rfl,by simp,by simp⟩
 |x::r,h=>by
  obtain⟨hx,hr⟩:=List.pairwise_cons.1 h
  cases h1:bl x.p p with
  |true=>
   rcases UR p r hr with⟨A,f,B,T⟩|⟨A,B,G⟩
   ·exact .inl ⟨x::A,f,B,by rw[T.eq];rfl,T.nm,by simp[h1];exact T.lo,T.hi⟩
   ·exact .inr ⟨x::A,B,by rw[G.eq];rfl,by simp[h1];exact G.lo,G.hi⟩
  |false=>
   cases h2:bl p x.p with
   |true=>exact .inr ⟨[],x::r,rfl,by simp,by simp[h2];exact fun b hb=>MV _ _ _ h2 (hx b hb)⟩
   |false=>
    have e:=OH _ _ h1 h2;exact .inl ⟨[],x,r,rfl,e,by simp,fun b hb=>by rw[←e];exact hx b hb⟩
def GV(ns:List Nd)(p:List UInt8):Option Nd:=ns.find? fun n=>decide (n.p=p)
theorem FK.look{ns A B:List Nd}{n:Nd}{p:List UInt8}(T:FK ns A n B p):GV ns p=some n:=by
 rw[GV,T.eq,List.find?_append,List.find?_eq_none.2 (fun a ha=>by simp[SA (T.lo a ha)])];simp[T.nm]
theorem iG.no{ns A B:List Nd}{p:List UInt8}(G:iG ns A B p):∀n∈ns,n.p≠p:=by
 intro n hn;rw[G.eq]at hn;rcases List.mem_append.1 hn with h|h
 ·exact SA (G.lo n h)
 ·exact(SA (G.hi n h)).symm
theorem iG.look{ns A B:List Nd}{p:List UInt8}(G:iG ns A B p):GV ns p=none:=by
 rw[GV,List.find?_eq_none];intro n hn;simp[G.no n hn]
theorem U7{ns:List Nd}{p:List UInt8}{n:Nd}(h:GV ns p=some n):n∈ns∧n.p=p:=by
 refine⟨List.mem_of_find?_eq_some h,?_⟩;have:=List.find?_some h;simpa using this
theorem WL{ns:List Nd}(h:nG ns){n:Nd}(hn:n∈ns):GV ns n.p=some n:=by
 rcases UR n.p ns h with⟨A,m,B,T⟩|⟨A,B,G⟩
 ·rw[T.look,PK h (by rw[T.eq];simp) hn T.nm]
 ·exact absurd rfl (G.no n hn)
theorem N7{ns:List Nd}(h:nG ns){p:List UInt8}{n:Nd}(hn:GV ns p=some n):∃A B,FK ns A n B p:=by
 rcases UR p ns h with⟨A,m,B,T⟩|⟨A,B,G⟩
 ·rw[T.look]at hn;cases hn;exact⟨A,B,T⟩
 ·rw[G.look]at hn;cases hn
theorem uF{ns:List Nd}(h:nG ns){p:List UInt8}(hn:GV ns p=none):∃A B,iG ns A B p:=by
 rcases UR p ns h with⟨A,m,B,T⟩|⟨A,B,G⟩
 ·rw[T.look]at hn;cases hn
 ·exact⟨A,B,G⟩
def uG(ns:List Nd)(p:List UInt8):List Nd:=ns.filter fun n=>decide (n.p≠p)
def CC9(ns:List Nd)(x:Nd):List Nd:=(ns.filter fun n=>bl n.p x.p)++x::(ns.filter fun n=>bl x.p n.p)
def bump(z more:Int)(n:Nd):Nd:=⟨n.p,n.d,n.c,n.m,z,n.v,n.k+1,n.o,n.n+more⟩
def JK(p:List UInt8)(z more:Int)(ns:List Nd):List Nd:=ns.map fun n=>if n.p=p then bump z more n else n
def AJ7(p d:List UInt8)(v z:Int)(ns:List Nd):List Nd:=ns.map fun n=>if n.p=p then⟨n.p,d,n.c,z,n.q,v,n.k,n.o,n.n⟩else n
theorem JV{α:Type}(f:α→Bool)(l:List α)(h:∀x∈l,f x=true):l.filter f=l:=List.filter_eq_self.2 h
theorem WM{α:Type}(f:α→Bool)(l:List α)(h:∀x∈l,f x=false):l.filter f=[]:=List.filter_eq_nil_iff.2 (fun x hx=>by simp[h x hx])
theorem yR{α:Type}(f:α→α)(l:List α)(h:∀x∈l,f x=x):l.map f=l:=by
 induction l with
 |nil=>rfl
 |cons x r ih=>rw[List.map_cons,h x (by simp),ih (fun y hy=>h y (by simp[hy]))]
theorem FK.drop{ns A B:List Nd}{n:Nd}{p:List UInt8}(T:FK ns A n B p):uG ns p=A++B:=by
 rw[uG,T.eq,List.filter_append,List.filter_cons,JV _ A (fun a ha=>by simp[SA (T.lo a ha)]),JV _ B (fun a ha=>by simp[(SA (T.hi a ha)).symm])];simp[T.nm]
theorem iG.ins{ns A B:List Nd}{x:Nd}(G:iG ns A B x.p):CC9 ns x=A++x::B:=by
 rw[CC9,G.eq,List.filter_append,List.filter_append,JV _ A (fun a ha=>G.lo a ha),WM _ B (fun a ha=>JQ (G.hi a ha)),WM _ A (fun a ha=>JQ (G.lo a ha)),JV _ B (fun a ha=>G.hi a ha)];simp
theorem FK.C22{ns A B:List Nd}{n:Nd}{p:List UInt8}(T:FK ns A n B p)(g:Nd→Nd):(ns.map fun x=>if x.p=p then g x else x)=A++g n::B:=by
 rw[T.eq,List.map_append,List.map_cons,yR _ A (fun a ha=>by simp[SA (T.lo a ha)]),yR _ B (fun a ha=>by simp[(SA (T.hi a ha)).symm])];simp[T.nm]
theorem FK.bump{ns A B:List Nd}{n:Nd}{p:List UInt8}(T:FK ns A n B p)(z more:Int):JK p z more ns=A++bump z more n::B:=T.C22 _
theorem FK.put{ns A B:List Nd}{n:Nd}{p:List UInt8}(T:FK ns A n B p)(d:List UInt8)(v z:Int):AJ7 p d v z ns=A++⟨n.p,d,n.c,z,n.q,v,n.k,n.o,n.n⟩::B:=T.C22 _
theorem UU(p:List UInt8)(z more:Int)(n:Nd):(if n.p=p then bump z more n else n).p=n.p:=by split<;>rfl
theorem SH(p:List UInt8)(z more:Int)(ns:List Nd):(JK p z more ns).map Nd.p=ns.map Nd.p:=by
 rw[JK,List.map_map]
 apply List.map_congr_left
 intro n _;exact UU p z more n
theorem JW(ns:List Nd):nG ns↔(ns.map Nd.p).Pairwise fun a b=>bl a b=true:=by rw[List.pairwise_map];rfl
theorem LH(ns:List Nd)(p:List UInt8):JG ns p=(ns.map Nd.p).countP fun x=>decide (BO x=p):=by rw[List.countP_map];rfl
def BN8(ss:List Int)(s:Int):List Int:=(ss.filter fun x=>decide (x<s))++s::(ss.filter fun x=>decide (s<x))
def A64(ss:List Int)(s:Int):List Int:=ss.filter fun x=>decide (x≠s)
structure bG(ss A B:List Int)(s:Int):Prop where
 eq:ss=A++s::B
 lo:∀a∈A,a<s
 hi:∀b∈B,s<b
structure BN9(ss A B:List Int)(s:Int):Prop where
 eq:ss=A++B
 lo:∀a∈A,a<s
 hi:∀b∈B,s<b
theorem nZ(s:Int):∀ss:List Int,ss.Pairwise (· < ·)→(∃A B,bG ss A B s)∨∃A B,BN9 ss A B s
 |[],_=>.inr ⟨[],[],rfl,by simp,by simp⟩
 |x::r,h=>by
  obtain⟨hx,hr⟩:=List.pairwise_cons.1 h;by_cases h1:x<s
  ·rcases nZ s r hr with⟨A,B,T⟩|⟨A,B,G⟩
   ·exact .inl ⟨x::A,B,by rw[T.eq];rfl,by simp[h1];exact T.lo,T.hi⟩
   ·exact .inr ⟨x::A,B,by rw[G.eq];rfl,by simp[h1];exact G.lo,G.hi⟩
  ·by_cases h2:s<x
   ·exact .inr ⟨[],x::r,rfl,by simp,by simp[h2];exact fun b hb=>Int.lt_trans h2 (hx b hb)⟩
   ·obtain rfl:x=s:=by omega
    exact .inl ⟨[],r,rfl,by simp,hx⟩
theorem bG.mem{ss A B:List Int}{s:Int}(T:bG ss A B s):s∈ss:=by rw[T.eq];simp
theorem BN9.not{ss A B:List Int}{s:Int}(G:BN9 ss A B s):s∉ss:=by
 intro h;rw[G.eq]at h;rcases List.mem_append.1 h with h|h
 ·exact absurd (G.lo s h) (by omega)
 ·exact absurd (G.hi s h) (by omega)
theorem BN9.ins{ss A B:List Int}{s:Int}(G:BN9 ss A B s):BN8 ss s=A++s::B:=by
 rw[BN8,G.eq,List.filter_append,List.filter_append,JV _ A (fun a ha=>by simpa using G.lo a ha),WM _ B (fun a ha=>by have:=G.hi a ha;simp;omega),WM _ A (fun a ha=>by have:=G.lo a ha;simp;omega),JV _ B (fun a ha=>by simpa using G.hi a ha)];simp
theorem bG.drop{ss A B:List Int}{s:Int}(T:bG ss A B s):A64 ss s=A++B:=by
 rw[A64,T.eq,List.filter_append,List.filter_cons,JV _ A (fun a ha=>by have:=T.lo a ha;simp;omega),JV _ B (fun a ha=>by have:=T.hi a ha;simp;omega)];simp
theorem iH(M:Int):∀ (ss:List Int) (lo:Int),ss.Pairwise (· < ·)→(∀s∈ss,lo<s∧s≤M)→lo≤M→(ss.length:Int)≤M-lo
 |[],lo,_,_,h=>by simp;omega
 |x::r,lo,hp,hb,_=>by
  obtain⟨hx,hr⟩:=List.pairwise_cons.1 hp;have h1:=hb x (by simp);have:=iH M r x hr (fun s hs=>⟨hx s hs,(hb s (by simp[hs])).2⟩) h1.2;simp;omega
theorem QK{ss:List Int}(h:kH ss):ss.length≤2147483647:=by
 have:=iH 2147483647 ss 0 h.1 (fun s hs=>by have:=h.2 s hs;omega) (by omega);omega
theorem yS{ss:List Int}{s:Int}(h:kH ss)(hs:1≤s∧s≤2147483647)(hn:s∉ss):kH (BN8 ss s):=by
 rcases nZ s ss h.1 with⟨A,B,T⟩|⟨A,B,G⟩
 ·exact absurd T.mem hn
 ·rw[G.ins];have h1:=h.1;have h2:=h.2;rw[G.eq]at h1 h2;rw[List.pairwise_append]at h1;refine⟨?_,?_⟩
  ·rw[List.pairwise_append,List.pairwise_cons];refine⟨h1.1,⟨G.hi,h1.2.1⟩,fun a ha b hb=>?_⟩;rcases List.mem_cons.1 hb with rfl|hb
   ·exact G.lo a ha
   ·exact h1.2.2 a ha b hb
  ·intro x hx;rcases List.mem_append.1 hx with h|h
   ·exact h2 x (by simp[h])
   ·rcases List.mem_cons.1 h with rfl|h
    ·exact hs
    ·exact h2 x (by simp[h])
theorem AJ8{ss:List Int}(s:Int)(h:kH ss):kH (A64 ss s):=⟨h.1.filter _,fun x hx=>h.2 x (List.mem_filter.1 hx).1⟩
theorem B36{ss:List Int}{s x:Int}(hx:x∈ss):x∈BN8 ss s:=by
 rw[BN8];by_cases h1:x<s
 ·exact List.mem_append_left _ (List.mem_filter.2 ⟨hx,by simpa using h1⟩)
 ·by_cases h2:s<x
  ·exact List.mem_append_right _ (List.mem_cons_of_mem _ (List.mem_filter.2 ⟨hx,by simpa using h2⟩))
  ·obtain rfl:x=s:=by omega
   exact List.mem_append_right _ (by simp)
end Go.Proofs.YtnjehbehmkfngaaGreatDoor
namespace Go.Proofs.YtnjehbehmkfngaaGreatDoor
structure Wa where
 s:Int
 k:Int
 p:List UInt8
structure Nt where
 s:Int
 k:Int
 p:List UInt8
def sO(w:Wa)(e:Ev):Bool:=decide (w.p=e.p)&&(if w.k=2 then decide (e.k=4)||decide (e.k=2)else decide (e.k=1)||decide (e.k=2)||decide (e.k=3))
def AL7(e:Ev)(w:Wa):Nt:=⟨w.s,e.k,e.p⟩
def OW(ws:List Wa)(e:Ev):List Nt:=(ws.filter (fun w=>sO w e)).map (AL7 e)
def gG(ws:List Wa)(e:Ev):List Wa:=ws.filter (fun w=> !sO w e)
def KF:List Wa→List Ev→List Nt
 |_,[]=>[]
 |ws,e::r=>OW ws e++KF (gG ws e) r
def G8:List Wa→List Ev→List Wa
 |ws,[]=>ws
 |ws,e::r=>G8 (gG ws e) r
def gI(ws:List Wa)(s:Int):List Wa:=ws.filter (fun w=> !decide (w.s=s))
theorem B58(ws:List Wa)(f:Wa→Bool):(ws.filter f).length+(ws.filter (fun w=> !f w)).length=ws.length:=by
 induction ws with
 |nil=>rfl
 |cons w r ih=>
  cases h:f w
  ·simp[h];omega
  ·simp[h];omega
theorem kN(ws:List Wa)(e:Ev):(OW ws e).length+(gG ws e).length=ws.length:=by
 simp only[OW,gG,List.length_map];exact B58 ws (fun w=>sO w e)
theorem ZW(es:List Ev):∀ws:List Wa,(KF ws es).length+(G8 ws es).length=ws.length:=by
 induction es with
 |nil=>intro ws;simp[KF,G8]
 |cons e r ih=>
  intro ws;have h1:=kN ws e;have h2:=ih (gG ws e);simp only[KF,G8,List.length_append];omega
theorem AL8(a b:List Ev):∀ws:List Wa,KF ws (a++b)=KF ws a++KF (G8 ws a) b:=by
 induction a with
 |nil=>intro ws;simp[KF,G8]
 |cons e r ih=>intro ws;simp[KF,G8,ih]
theorem AL9(a b:List Ev):∀ws:List Wa,G8 ws (a++b)=G8 (G8 ws a) b:=by
 induction a with
 |nil=>intro ws;simp[G8]
 |cons e r ih=>intro ws;simp[G8,ih]
theorem bK(es:List Ev):∀ (ws:List Wa) (w:Wa),w∈G8 ws es→w∈ws∧∀e∈es,sO w e=false:=by
 induction es with
 |nil=>intro ws w h;exact⟨h,by simp⟩
 |cons e r ih=>
  intro ws w h;obtain⟨h1,h2⟩:=ih (gG ws e) w h;simp only[gG,List.mem_filter]at h1;refine⟨h1.1,fun x hx=>?_⟩;rcases List.mem_cons.1 hx with rfl|hx
  ·simpa using h1.2
  ·exact h2 x hx
theorem AM0(ws:List Wa)(es:List Ev)(w:Wa)(h:w∈G8 ws es):w∈ws:=(bK es ws w h).1
end Go.Proofs.YtnjehbehmkfngaaGreatDoor
namespace Go.Proofs.YtnjehbehmkfngaaGreatDoor
open Go.RowKit
structure En where
 p:List UInt8
 d:List UInt8
 t:Bool
def AT9(es:List En):Prop:=es.Pairwise fun a b=>bl a.p b.p=true
def D8(x:En):En:=if x.t=true then x else⟨x.p,[],false⟩
def RQ(es:List En)(x:En):List En:=es.filter (fun e=>bl e.p x.p)++D8 x::es.filter (fun e=>bl x.p e.p)
def noneE:En:=⟨[],[],false⟩
def C71(s:Int)(l:List Nt)(p:List UInt8):Bool:=l.any fun n=>decide (n.s=s)&& !decide (n.k=4)&&decide (n.p=p)
def PX(s:Int)(l:List Nt)(es:List En):List En:=es.filter fun e=> !C71 s l e.p
theorem xB(x:En):(D8 x).p=x.p:=by unfold D8;split<;>rfl
theorem AU0{x:En}(h:x.t=true):D8 x=x:=by unfold D8;rw[if_pos h]
theorem BC8{x:En}(h:x.t=false):D8 x=⟨x.p,[],x.t⟩:=by unfold D8;rw[h];rfl
structure A21(es A:List En)(f:En)(B:List En)(p:List UInt8):Prop where
 eq:es=A++f::B
 nm:f.p=p
 lo:∀a∈A,bl a.p p=true
 hi:∀b∈B,bl p b.p=true
structure CE2(es A B:List En)(p:List UInt8):Prop where
 eq:es=A++B
 lo:∀a∈A,bl a.p p=true
 hi:∀b∈B,bl p b.p=true
theorem A22(p:List UInt8):∀es:List En,AT9 es→(∃A f B,A21 es A f B p)∨∃A B,CE2 es A B p
 |[],_=>.inr ⟨[],[],rfl,by simp,by simp⟩
 |x::r,h=>by
  obtain⟨hx,hr⟩:=List.pairwise_cons.1 h
  cases h1:bl x.p p with
  |true=>
   rcases A22 p r hr with⟨A,f,B,T⟩|⟨A,B,G⟩
   ·exact .inl ⟨x::A,f,B,by rw[T.eq];rfl,T.nm,by simp[h1];exact T.lo,T.hi⟩
   ·exact .inr ⟨x::A,B,by rw[G.eq];rfl,by simp[h1];exact G.lo,G.hi⟩
  |false=>
   cases h2:bl p x.p with
   |true=>exact .inr ⟨[],x::r,rfl,by simp,by simp[h2];exact fun b hb=>MV _ _ _ h2 (hx b hb)⟩
   |false=>
    have e:=OH _ _ h1 h2;exact .inl ⟨[],x,r,rfl,e,by simp,fun b hb=>by rw[←e];exact hx b hb⟩
theorem AU1{A:List En}{p:List UInt8}(h:∀a∈A,bl a.p p=true):A.filter (fun e=>bl e.p p)=A∧A.filter (fun e=>bl p e.p)=[]:=
 ⟨List.filter_eq_self.2 h,List.filter_eq_nil_iff.2 fun a ha=>by rw[JQ (h a ha)];simp⟩
theorem AU2{A:List En}{p:List UInt8}(h:∀a∈A,bl p a.p=true):A.filter (fun e=>bl e.p p)=[]∧A.filter (fun e=>bl p e.p)=A:=
 ⟨List.filter_eq_nil_iff.2 fun a ha=>by rw[JQ (h a ha)];simp,List.filter_eq_self.2 h⟩
theorem A21.keep{es A B:List En}{f x:En}(T:A21 es A f B x.p):RQ es x=A++D8 x::B:=by
 have h1:=AU1 T.lo;have h2:=AU2 T.hi;have e:=T.nm;unfold RQ;rw[T.eq,List.filter_append,List.filter_append,List.filter_cons,List.filter_cons,h1.1,h1.2,h2.1,h2.2,e,MC];simp
theorem CE2.keep{es A B:List En}{x:En}(G:CE2 es A B x.p):RQ es x=A++D8 x::B:=by
 have h1:=AU1 G.lo;have h2:=AU2 G.hi;unfold RQ;rw[G.eq,List.filter_append,List.filter_append,h1.1,h1.2,h2.1,h2.2];simp
theorem BC9{es:List En}(h:AT9 es)(x:En):AT9 (RQ es x):=by
 have go:∀A B,AT9 (A++B)→(∀a∈A,bl a.p x.p=true)→(∀b∈B,bl x.p b.p=true)→AT9 (A++D8 x::B):=fun A B h lo hi=>by
  unfold AT9 at h⊢;rw[List.pairwise_append]at h;rw[List.pairwise_append,List.pairwise_cons];refine⟨h.1,⟨fun b hb=>by rw[xB];exact hi b hb,h.2.1⟩,fun a ha b hb=>?_⟩;rcases List.mem_cons.1 hb with rfl|hb
  ·rw[xB];exact lo a ha
  ·exact h.2.2 a ha b hb
 rcases A22 x.p es h with⟨A,f,B,T⟩|⟨A,B,G⟩
 ·rw[T.keep];refine go A B ?_ T.lo T.hi;have h':=h;rw[T.eq]at h';exact h'.sublist (List.Sublist.append (List.Sublist.refl A) (List.sublist_cons_self f B))
 ·rw[G.keep];exact go A B (by rw[←G.eq];exact h) G.lo G.hi
theorem BD0(es:List En)(h:AT9 es)(x:En):(RQ es x).length≤es.length+1:=by
 rcases A22 x.p es h with⟨A,f,B,T⟩|⟨A,B,G⟩
 ·rw[T.keep,T.eq];simp
 ·rw[G.keep,G.eq];simp;omega
theorem BD1{es:List En}{x e:En}(h:e∈RQ es x):e∈es∨e=D8 x:=by
 rcases List.mem_append.1 h with h|h
 ·exact .inl (List.mem_filter.1 h).1
 ·rcases List.mem_cons.1 h with h|h
  ·exact .inr h
  ·exact .inl (List.mem_filter.1 h).1
theorem BD2{s:Int}{l:List Nt}{es:List En}(h:AT9 es):AT9 (PX s l es):=List.Pairwise.sublist List.filter_sublist h
def qX(es:List En):Prop:=∀x∈es,x.p.length≤140737488355328∧x.d.length≤140737488355328
theorem jL{x:En}(h:x.p.length≤140737488355328∧x.d.length≤140737488355328):(D8 x).p.length≤140737488355328∧(D8 x).d.length≤140737488355328:=by
 unfold D8
 split
 ·exact h
 ·exact⟨h.1,by simp⟩
end Go.Proofs.YtnjehbehmkfngaaGreatDoor
