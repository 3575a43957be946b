/-
  Part.
-/
import Derived.Test.YtmbmehcoidjiaaaGreatDoorLOB
set_option maxRecDepth 20000
set_option maxHeartbeats 8000000
namespace Go.Proofs.YtmbmehcoidjiaaaGreatDoor
open Go.RowKit
def SQ:List UInt8→Option (List UInt8×List UInt8)
 |[]=>none
 |c::l=>match SQ l with
  |some (a,b)=>some (c::a,b)
  |none=>if c=47 then some ([],l)else none
theorem ZG:∀b:List UInt8,47∉b→SQ b=none
 |[],_=>rfl
 |c::l,h=>by
  have h1:c≠47:=by rintro rfl;simp at h
  rw[SQ,ZG l (by simp at h;exact h.2)];simp[h1]
theorem OT(b:List UInt8)(hb:47∉b):∀a:List UInt8,SQ (a++47::b)=some (a,b)
 |[]=>by simp[SQ,ZG b hb]
 |c::a=>by simp[SQ,OT b hb a]
def C50(a:List UInt8):List UInt8:=if a=[]then [47]else a
def BQ(p:List UInt8):List UInt8:=if DU p=true∧p≠[47]then(match SQ p with
 |some (a,_)=>C50 a
 |none=>[])else []
def JE(p:List UInt8):List UInt8:=if DU p=true∧p≠[47]then(match SQ p with
 |some (_,b)=>b
 |none=>[])else []
def AI5(p:List UInt8):Int:=if DU p=true then(if p=[47]then 7 else 0)else 2
theorem bQ{p:List UInt8}(h:DU p=true):∃r,p=47::r:=by
 simp only[DU,Bool.and_eq_true]at h;have h1:=h.1.2
 cases p with
 |nil=>simp[Lib.hasPrefix,List.isPrefixOf]at h1
 |cons c r=>simp[Lib.hasPrefix,List.isPrefixOf]at h1;exact⟨r,by rw[h1]⟩
theorem AL5:DU []=false:=by decide+kernel
theorem WY{p:List UInt8}(h:DU p=true):∃a b,p=a++47::b∧47∉b:=by
 obtain⟨r,rfl⟩:=bQ h;exact iP _ (by simp)
theorem WZ{a b:List UInt8}(h:DU (a++47::b)=true)(hn:a++47::b≠[47])(hb:47∉b):BQ (a++47::b)=C50 a:=by
 rw[BQ,if_pos ⟨h,hn⟩,OT b hb a]
theorem A78{a b:List UInt8}(h:DU (a++47::b)=true)(hn:a++47::b≠[47])(hb:47∉b):JE (a++47::b)=b:=by
 rw[JE,if_pos ⟨h,hn⟩,OT b hb a]
theorem XA{p:List UInt8}(h:DU p=false):BQ p=[]:=by rw[BQ,if_neg (by simp[h])]
theorem A79{p:List UInt8}(h:DU p=false):JE p=[]:=by rw[JE,if_neg (by simp[h])]
theorem PV:BQ [47]=[]:=by rw[BQ,if_neg (by simp)]
theorem uP:JE [47]=[]:=by rw[JE,if_neg (by simp)]
theorem zI{p:List UInt8}(h:DU p=false):AI5 p=2:=by rw[AI5,if_neg (by simp[h])]
theorem oL:AI5 [47]=7:=by rw[AI5,if_pos YN,if_pos rfl]
theorem AL6{p:List UInt8}(h:DU p=true)(hn:p≠[47]):AI5 p=0:=by rw[AI5,if_pos h,if_neg hn]
theorem kS{p:List UInt8}(h:DU p=true)(hn:p≠[47]):BQ p≠p∧BQ p≠[]:=by
 obtain⟨a,b,rfl,hb⟩:=WY h;rw[WZ h hn hb,C50]
 split
 ·rename_i h0;subst h0
  exact⟨fun e=>hn (by simpa using e.symm),by simp⟩
 ·rename_i h0
  refine⟨fun e=>?_,h0⟩;have:=congrArg List.length e;simp at this
structure Nd where
 p:List UInt8
 d:List UInt8
 c:Int
 m:Int
 q:Int
 v:Int
 k:Int
 o:Int
 n:Int
instance:Inhabited Nd:=⟨⟨[],[],0,0,0,0,0,0,0⟩⟩
structure Tr where
 z:Int
 ns:List Nd
 ss:List Int
def tr0:Tr:=⟨0,[],[]⟩
def uQ:Nd:=⟨[47],[],0,0,0,0,0,0,0⟩
def MK:Tr:=⟨0,[uQ],[]⟩
def nY(ns:List Nd):Prop:=ns.Pairwise fun a b=>bl a.p b.p=true
def JH(ns:List Nd)(p:List UInt8):Nat:=ns.countP fun x=>decide (BQ x.p=p)
structure NOk(z:Int)(ns:List Nd)(ss:List Int)(n:Nd):Prop where
 data:n.d.length≤256
 path:DU n.p=true
 up:n.p≠[47]→∃u∈ns,u.p=BQ n.p
 c0:0≤n.c
 cm:n.c≤n.m
 cq:n.c≤n.q
 mz:n.m≤z
 qz:n.q≤z
 v0:0≤n.v
 v1:n.v≤2147483647
 k0:0≤n.k
 kids:n.n=JH ns n.p
 own:n.o=0∨n.o∈ss∧n.n=0
structure LD(z:Int)(ns:List Nd)(ss:List Int):Prop where
 few:ns.length≤400
 root:∃r rest,ns=r::rest∧r.p=[47]∧r.o=0
 asc:nY ns
 ok:∀n∈ns,NOk z ns ss n
def kT(ss:List Int):Prop:=ss.Pairwise (· < ·)∧∀s∈ss,1≤s∧s≤2147483647
structure ND(t:Tr):Prop where
 zx:FU t.z=true
 ses:kT t.ss
 nod:LD t.z t.ns t.ss
 cap:∀n∈t.ns,n.k≤2147483647
noncomputable def PW(t:Tr):Bool:= @decide (ND t) (Classical.propDecidable _)
theorem NZ{t:Tr}:PW t=true↔ND t:=by unfold PW;exact @decide_eq_true_iff _ (Classical.propDecidable _)
theorem VR{t:Tr}:PW t=false↔¬ND t:=by unfold PW;exact @decide_eq_false_iff_not _ (Classical.propDecidable _)
theorem PX{ns:List Nd}(h:nY ns){a b:Nd}(ha:a∈ns)(hb:b∈ns)(e:a.p=b.p):a=b:=by
 obtain⟨i,hi,rfl⟩:=List.getElem_of_mem ha;obtain⟨j,hj,rfl⟩:=List.getElem_of_mem hb;have h:=List.pairwise_iff_getElem.1 h;by_cases h1:i<j
 ·exact absurd e (SI (h i j hi hj h1))
 ·by_cases h2:j<i
  ·exact absurd e.symm (SI (h j i hj hi h2))
  ·obtain rfl:i=j:=by omega
   rfl
structure FP(ns A:List Nd)(n:Nd)(B:List Nd)(p:List UInt8):Prop where
 eq:ns=A++n::B
 nm:n.p=p
 lo:∀a∈A,bl a.p p=true
 hi:∀b∈B,bl p b.p=true
structure iQ(ns A B:List Nd)(p:List UInt8):Prop where
 eq:ns=A++B
 lo:∀a∈A,bl a.p p=true
 hi:∀b∈B,bl p b.p=true
theorem V9(p:List UInt8):∀ns:List Nd,nY ns→(∃A n B,FP ns A n B p)∨∃A B,iQ ns A B p
 |[],_=>.inr ⟨[],[],rfl,by simp,by simp⟩
 |x::r,h=>by
  obtain⟨hx,hr⟩:=List.pairwise_cons.1 h
  cases h1:bl x.p p with
  |true=>
   rcases V9 p r hr with⟨A,f,B,T⟩|⟨A,B,G⟩
   ·exact .inl ⟨x::A,f,B,by rw[T.eq];rfl,T.nm,by simp[h1];exact T.lo,T.hi⟩
   ·exact .inr ⟨x::A,B,by rw[G.eq];rfl,by simp[h1];exact G.lo,G.hi⟩
  |false=>
   cases h2:bl p x.p with
   |true=>exact .inr ⟨[],x::r,rfl,by simp,by simp[h2];exact fun b hb=>N8 _ _ _ h2 (hx b hb)⟩
   |false=>
    have e:=OQ _ _ h1 h2;exact .inl ⟨[],x,r,rfl,e,by simp,fun b hb=>by rw[←e];exact hx b hb⟩
def GV(ns:List Nd)(p:List UInt8):Option Nd:=ns.find? fun n=>decide (n.p=p)
theorem FP.look{ns A B:List Nd}{n:Nd}{p:List UInt8}(T:FP ns A n B p):GV ns p=some n:=by
 rw[GV,T.eq,List.find?_append,List.find?_eq_none.2 (fun a ha=>by simp[SI (T.lo a ha)])];simp[T.nm]
theorem iQ.no{ns A B:List Nd}{p:List UInt8}(G:iQ ns A B p):∀n∈ns,n.p≠p:=by
 intro n hn;rw[G.eq]at hn;rcases List.mem_append.1 hn with h|h
 ·exact SI (G.lo n h)
 ·exact(SI (G.hi n h)).symm
theorem iQ.look{ns A B:List Nd}{p:List UInt8}(G:iQ ns A B p):GV ns p=none:=by
 rw[GV,List.find?_eq_none];intro n hn;simp[G.no n hn]
theorem UF{ns:List Nd}{p:List UInt8}{n:Nd}(h:GV ns p=some n):n∈ns∧n.p=p:=by
 refine⟨List.mem_of_find?_eq_some h,?_⟩;have:=List.find?_some h;simpa using this
theorem XB{ns:List Nd}(h:nY ns){n:Nd}(hn:n∈ns):GV ns n.p=some n:=by
 rcases V9 n.p ns h with⟨A,m,B,T⟩|⟨A,B,G⟩
 ·rw[T.look,PX h (by rw[T.eq];simp) hn T.nm]
 ·exact absurd rfl (G.no n hn)
theorem NG{ns:List Nd}(h:nY ns){p:List UInt8}{n:Nd}(hn:GV ns p=some n):∃A B,FP ns A n B p:=by
 rcases V9 p ns h with⟨A,m,B,T⟩|⟨A,B,G⟩
 ·rw[T.look]at hn;cases hn;exact⟨A,B,T⟩
 ·rw[G.look]at hn;cases hn
theorem uS{ns:List Nd}(h:nY ns){p:List UInt8}(hn:GV ns p=none):∃A B,iQ ns A B p:=by
 rcases V9 p ns h with⟨A,m,B,T⟩|⟨A,B,G⟩
 ·rw[T.look]at hn;cases hn
 ·exact⟨A,B,G⟩
def uT(ns:List Nd)(p:List UInt8):List Nd:=ns.filter fun n=>decide (n.p≠p)
def CF3(ns:List Nd)(x:Nd):List Nd:=(ns.filter fun n=>bl n.p x.p)++x::(ns.filter fun n=>bl x.p n.p)
def bump(z more:Int)(n:Nd):Nd:=⟨n.p,n.d,n.c,n.m,z,n.v,n.k+1,n.o,n.n+more⟩
def JL(p:List UInt8)(z more:Int)(ns:List Nd):List Nd:=ns.map fun n=>if n.p=p then bump z more n else n
def AL7(p d:List UInt8)(v z:Int)(ns:List Nd):List Nd:=ns.map fun n=>if n.p=p then⟨n.p,d,n.c,z,n.q,v,n.k,n.o,n.n⟩else n
theorem JX{α:Type}(f:α→Bool)(l:List α)(h:∀x∈l,f x=true):l.filter f=l:=List.filter_eq_self.2 h
theorem XC{α:Type}(f:α→Bool)(l:List α)(h:∀x∈l,f x=false):l.filter f=[]:=List.filter_eq_nil_iff.2 (fun x hx=>by simp[h x hx])
theorem zJ{α:Type}(f:α→α)(l:List α)(h:∀x∈l,f x=x):l.map f=l:=by
 induction l with
 |nil=>rfl
 |cons x r ih=>rw[List.map_cons,h x (by simp),ih (fun y hy=>h y (by simp[hy]))]
theorem FP.drop{ns A B:List Nd}{n:Nd}{p:List UInt8}(T:FP ns A n B p):uT ns p=A++B:=by
 rw[uT,T.eq,List.filter_append,List.filter_cons,JX _ A (fun a ha=>by simp[SI (T.lo a ha)]),JX _ B (fun a ha=>by simp[(SI (T.hi a ha)).symm])];simp[T.nm]
theorem iQ.ins{ns A B:List Nd}{x:Nd}(G:iQ ns A B x.p):CF3 ns x=A++x::B:=by
 rw[CF3,G.eq,List.filter_append,List.filter_append,JX _ A (fun a ha=>G.lo a ha),XC _ B (fun a ha=>JU (G.hi a ha)),XC _ A (fun a ha=>JU (G.lo a ha)),JX _ B (fun a ha=>G.hi a ha)];simp
theorem FP.C51{ns A B:List Nd}{n:Nd}{p:List UInt8}(T:FP ns A n B p)(g:Nd→Nd):(ns.map fun x=>if x.p=p then g x else x)=A++g n::B:=by
 rw[T.eq,List.map_append,List.map_cons,zJ _ A (fun a ha=>by simp[SI (T.lo a ha)]),zJ _ B (fun a ha=>by simp[(SI (T.hi a ha)).symm])];simp[T.nm]
theorem FP.bump{ns A B:List Nd}{n:Nd}{p:List UInt8}(T:FP ns A n B p)(z more:Int):JL p z more ns=A++bump z more n::B:=T.C51 _
theorem FP.put{ns A B:List Nd}{n:Nd}{p:List UInt8}(T:FP ns A n B p)(d:List UInt8)(v z:Int):AL7 p d v z ns=A++⟨n.p,d,n.c,z,n.q,v,n.k,n.o,n.n⟩::B:=T.C51 _
theorem VA(p:List UInt8)(z more:Int)(n:Nd):(if n.p=p then bump z more n else n).p=n.p:=by split<;>rfl
theorem SV(p:List UInt8)(z more:Int)(ns:List Nd):(JL p z more ns).map Nd.p=ns.map Nd.p:=by
 rw[JL,List.map_map]
 apply List.map_congr_left
 intro n _;exact VA p z more n
theorem JY(ns:List Nd):nY ns↔(ns.map Nd.p).Pairwise fun a b=>bl a b=true:=by rw[List.pairwise_map];rfl
theorem LM(ns:List Nd)(p:List UInt8):JH ns p=(ns.map Nd.p).countP fun x=>decide (BQ x=p):=by rw[List.countP_map];rfl
def BQ8(ss:List Int)(s:Int):List Int:=(ss.filter fun x=>decide (x<s))++s::(ss.filter fun x=>decide (s<x))
def A80(ss:List Int)(s:Int):List Int:=ss.filter fun x=>decide (x≠s)
structure bT(ss A B:List Int)(s:Int):Prop where
 eq:ss=A++s::B
 lo:∀a∈A,a<s
 hi:∀b∈B,s<b
structure BQ9(ss A B:List Int)(s:Int):Prop where
 eq:ss=A++B
 lo:∀a∈A,a<s
 hi:∀b∈B,s<b
theorem oM(s:Int):∀ss:List Int,ss.Pairwise (· < ·)→(∃A B,bT ss A B s)∨∃A B,BQ9 ss A B s
 |[],_=>.inr ⟨[],[],rfl,by simp,by simp⟩
 |x::r,h=>by
  obtain⟨hx,hr⟩:=List.pairwise_cons.1 h;by_cases h1:x<s
  ·rcases oM s r hr with⟨A,B,T⟩|⟨A,B,G⟩
   ·exact .inl ⟨x::A,B,by rw[T.eq];rfl,by simp[h1];exact T.lo,T.hi⟩
   ·exact .inr ⟨x::A,B,by rw[G.eq];rfl,by simp[h1];exact G.lo,G.hi⟩
  ·by_cases h2:s<x
   ·exact .inr ⟨[],x::r,rfl,by simp,by simp[h2];exact fun b hb=>Int.lt_trans h2 (hx b hb)⟩
   ·obtain rfl:x=s:=by omega
    exact .inl ⟨[],r,rfl,by simp,hx⟩
theorem bT.mem{ss A B:List Int}{s:Int}(T:bT ss A B s):s∈ss:=by rw[T.eq];simp
theorem BQ9.not{ss A B:List Int}{s:Int}(G:BQ9 ss A B s):s∉ss:=by
 intro h;rw[G.eq]at h;rcases List.mem_append.1 h with h|h
 ·exact absurd (G.lo s h) (by omega)
 ·exact absurd (G.hi s h) (by omega)
theorem BQ9.ins{ss A B:List Int}{s:Int}(G:BQ9 ss A B s):BQ8 ss s=A++s::B:=by
 rw[BQ8,G.eq,List.filter_append,List.filter_append,JX _ A (fun a ha=>by simpa using G.lo a ha),XC _ B (fun a ha=>by have:=G.hi a ha;simp;omega),XC _ A (fun a ha=>by have:=G.lo a ha;simp;omega),JX _ B (fun a ha=>by simpa using G.hi a ha)];simp
theorem bT.drop{ss A B:List Int}{s:Int}(T:bT ss A B s):A80 ss s=A++B:=by
 rw[A80,T.eq,List.filter_append,List.filter_cons,JX _ A (fun a ha=>by have:=T.lo a ha;simp;omega),JX _ B (fun a ha=>by have:=T.hi a ha;simp;omega)];simp
theorem iR(M:Int):∀ (ss:List Int) (lo:Int),ss.Pairwise (· < ·)→(∀s∈ss,lo<s∧s≤M)→lo≤M→(ss.length:Int)≤M-lo
 |[],lo,_,_,h=>by simp;omega
 |x::r,lo,hp,hb,_=>by
  obtain⟨hx,hr⟩:=List.pairwise_cons.1 hp;have h1:=hb x (by simp);have:=iR M r x hr (fun s hs=>⟨hx s hs,(hb s (by simp[hs])).2⟩) h1.2;simp;omega
theorem OU{ss:List Int}(h:kT ss):ss.length≤2147483647:=by
 have:=iR 2147483647 ss 0 h.1 (fun s hs=>by have:=h.2 s hs;omega) (by omega);omega
theorem zK{ss:List Int}{s:Int}(h:kT ss)(hs:1≤s∧s≤2147483647)(hn:s∉ss):kT (BQ8 ss s):=by
 rcases oM s ss h.1 with⟨A,B,T⟩|⟨A,B,G⟩
 ·exact absurd T.mem hn
 ·rw[G.ins];have h1:=h.1;have h2:=h.2;rw[G.eq]at h1 h2;rw[List.pairwise_append]at h1;refine⟨?_,?_⟩
  ·rw[List.pairwise_append,List.pairwise_cons];refine⟨h1.1,⟨G.hi,h1.2.1⟩,fun a ha b hb=>?_⟩;rcases List.mem_cons.1 hb with rfl|hb
   ·exact G.lo a ha
   ·exact h1.2.2 a ha b hb
  ·intro x hx;rcases List.mem_append.1 hx with h|h
   ·exact h2 x (by simp[h])
   ·rcases List.mem_cons.1 h with rfl|h
    ·exact hs
    ·exact h2 x (by simp[h])
theorem AL8{ss:List Int}(s:Int)(h:kT ss):kT (A80 ss s):=⟨h.1.filter _,fun x hx=>h.2 x (List.mem_filter.1 hx).1⟩
theorem B54{ss:List Int}{s x:Int}(hx:x∈ss):x∈BQ8 ss s:=by
 rw[BQ8];by_cases h1:x<s
 ·exact List.mem_append_left _ (List.mem_filter.2 ⟨hx,by simpa using h1⟩)
 ·by_cases h2:s<x
  ·exact List.mem_append_right _ (List.mem_cons_of_mem _ (List.mem_filter.2 ⟨hx,by simpa using h2⟩))
  ·obtain rfl:x=s:=by omega
   exact List.mem_append_right _ (by simp)
end Go.Proofs.YtmbmehcoidjiaaaGreatDoor
namespace Go.Proofs.YtmbmehcoidjiaaaGreatDoor
structure Wa where
 s:Int
 k:Int
 p:List UInt8
structure Nt where
 s:Int
 k:Int
 p:List UInt8
def tK(w:Wa)(e:Ev):Bool:=decide (w.p=e.p)&&(if w.k=2 then decide (e.k=4)||decide (e.k=2)else decide (e.k=1)||decide (e.k=2)||decide (e.k=3))
def AN7(e:Ev)(w:Wa):Nt:=⟨w.s,e.k,e.p⟩
def PD(ws:List Wa)(e:Ev):List Nt:=(ws.filter (fun w=>tK w e)).map (AN7 e)
def gX(ws:List Wa)(e:Ev):List Wa:=ws.filter (fun w=> !tK w e)
def KJ:List Wa→List Ev→List Nt
 |_,[]=>[]
 |ws,e::r=>PD ws e++KJ (gX ws e) r
def G8:List Wa→List Ev→List Wa
 |ws,[]=>ws
 |ws,e::r=>G8 (gX ws e) r
def gY(ws:List Wa)(s:Int):List Wa:=ws.filter (fun w=> !decide (w.s=s))
theorem B76(ws:List Wa)(f:Wa→Bool):(ws.filter f).length+(ws.filter (fun w=> !f w)).length=ws.length:=by
 induction ws with
 |nil=>rfl
 |cons w r ih=>
  cases h:f w
  ·simp[h];omega
  ·simp[h];omega
theorem kY(ws:List Wa)(e:Ev):(PD ws e).length+(gX ws e).length=ws.length:=by
 simp only[PD,gX,List.length_map];exact B76 ws (fun w=>tK w e)
theorem aJ(es:List Ev):∀ws:List Wa,(KJ ws es).length+(G8 ws es).length=ws.length:=by
 induction es with
 |nil=>intro ws;simp[KJ,G8]
 |cons e r ih=>
  intro ws;have h1:=kY ws e;have h2:=ih (gX ws e);simp only[KJ,G8,List.length_append];omega
theorem AN8(a b:List Ev):∀ws:List Wa,KJ ws (a++b)=KJ ws a++KJ (G8 ws a) b:=by
 induction a with
 |nil=>intro ws;simp[KJ,G8]
 |cons e r ih=>intro ws;simp[KJ,G8,ih]
theorem AN9(a b:List Ev):∀ws:List Wa,G8 ws (a++b)=G8 (G8 ws a) b:=by
 induction a with
 |nil=>intro ws;simp[G8]
 |cons e r ih=>intro ws;simp[G8,ih]
theorem bZ(es:List Ev):∀ (ws:List Wa) (w:Wa),w∈G8 ws es→w∈ws∧∀e∈es,tK w e=false:=by
 induction es with
 |nil=>intro ws w h;exact⟨h,by simp⟩
 |cons e r ih=>
  intro ws w h;obtain⟨h1,h2⟩:=ih (gX ws e) w h;simp only[gX,List.mem_filter]at h1;refine⟨h1.1,fun x hx=>?_⟩;rcases List.mem_cons.1 hx with rfl|hx
  ·simpa using h1.2
  ·exact h2 x hx
theorem AO0(ws:List Wa)(es:List Ev)(w:Wa)(h:w∈G8 ws es):w∈ws:=(bZ es ws w h).1
end Go.Proofs.YtmbmehcoidjiaaaGreatDoor
namespace Go.Proofs.YtmbmehcoidjiaaaGreatDoor
open Go.RowKit
structure En where
 p:List UInt8
 d:List UInt8
 t:Bool
def AW4(es:List En):Prop:=es.Pairwise fun a b=>bl a.p b.p=true
def D8(x:En):En:=if x.t=true then x else⟨x.p,[],false⟩
def RY(es:List En)(x:En):List En:=es.filter (fun e=>bl e.p x.p)++D8 x::es.filter (fun e=>bl x.p e.p)
def noneE:En:=⟨[],[],false⟩
def CA0(s:Int)(l:List Nt)(p:List UInt8):Bool:=l.any fun n=>decide (n.s=s)&& !decide (n.k=4)&&decide (n.p=p)
def QD(s:Int)(l:List Nt)(es:List En):List En:=es.filter fun e=> !CA0 s l e.p
theorem xQ(x:En):(D8 x).p=x.p:=by unfold D8;split<;>rfl
theorem AW5{x:En}(h:x.t=true):D8 x=x:=by unfold D8;rw[if_pos h]
theorem BE6{x:En}(h:x.t=false):D8 x=⟨x.p,[],x.t⟩:=by unfold D8;rw[h];rfl
structure A35(es A:List En)(f:En)(B:List En)(p:List UInt8):Prop where
 eq:es=A++f::B
 nm:f.p=p
 lo:∀a∈A,bl a.p p=true
 hi:∀b∈B,bl p b.p=true
structure CG7(es A B:List En)(p:List UInt8):Prop where
 eq:es=A++B
 lo:∀a∈A,bl a.p p=true
 hi:∀b∈B,bl p b.p=true
theorem A36(p:List UInt8):∀es:List En,AW4 es→(∃A f B,A35 es A f B p)∨∃A B,CG7 es A B p
 |[],_=>.inr ⟨[],[],rfl,by simp,by simp⟩
 |x::r,h=>by
  obtain⟨hx,hr⟩:=List.pairwise_cons.1 h
  cases h1:bl x.p p with
  |true=>
   rcases A36 p r hr with⟨A,f,B,T⟩|⟨A,B,G⟩
   ·exact .inl ⟨x::A,f,B,by rw[T.eq];rfl,T.nm,by simp[h1];exact T.lo,T.hi⟩
   ·exact .inr ⟨x::A,B,by rw[G.eq];rfl,by simp[h1];exact G.lo,G.hi⟩
  |false=>
   cases h2:bl p x.p with
   |true=>exact .inr ⟨[],x::r,rfl,by simp,by simp[h2];exact fun b hb=>N8 _ _ _ h2 (hx b hb)⟩
   |false=>
    have e:=OQ _ _ h1 h2;exact .inl ⟨[],x,r,rfl,e,by simp,fun b hb=>by rw[←e];exact hx b hb⟩
theorem AW6{A:List En}{p:List UInt8}(h:∀a∈A,bl a.p p=true):A.filter (fun e=>bl e.p p)=A∧A.filter (fun e=>bl p e.p)=[]:=
 ⟨List.filter_eq_self.2 h,List.filter_eq_nil_iff.2 fun a ha=>by rw[JU (h a ha)];simp⟩
theorem AW7{A:List En}{p:List UInt8}(h:∀a∈A,bl p a.p=true):A.filter (fun e=>bl e.p p)=[]∧A.filter (fun e=>bl p e.p)=A:=
 ⟨List.filter_eq_nil_iff.2 fun a ha=>by rw[JU (h a ha)];simp,List.filter_eq_self.2 h⟩
theorem A35.keep{es A B:List En}{f x:En}(T:A35 es A f B x.p):RY es x=A++D8 x::B:=by
 have h1:=AW6 T.lo;have h2:=AW7 T.hi;have e:=T.nm;unfold RY;rw[T.eq,List.filter_append,List.filter_append,List.filter_cons,List.filter_cons,h1.1,h1.2,h2.1,h2.2,e,MH];simp
theorem CG7.keep{es A B:List En}{x:En}(G:CG7 es A B x.p):RY es x=A++D8 x::B:=by
 have h1:=AW6 G.lo;have h2:=AW7 G.hi;unfold RY;rw[G.eq,List.filter_append,List.filter_append,h1.1,h1.2,h2.1,h2.2];simp
theorem BE7{es:List En}(h:AW4 es)(x:En):AW4 (RY es x):=by
 have go:∀A B,AW4 (A++B)→(∀a∈A,bl a.p x.p=true)→(∀b∈B,bl x.p b.p=true)→AW4 (A++D8 x::B):=fun A B h lo hi=>by
  unfold AW4 at h⊢;rw[List.pairwise_append]at h;rw[List.pairwise_append,List.pairwise_cons];refine⟨h.1,⟨fun b hb=>by rw[xQ];exact hi b hb,h.2.1⟩,fun a ha b hb=>?_⟩;rcases List.mem_cons.1 hb with rfl|hb
  ·rw[xQ];exact lo a ha
  ·exact h.2.2 a ha b hb
 rcases A36 x.p es h with⟨A,f,B,T⟩|⟨A,B,G⟩
 ·rw[T.keep];refine go A B ?_ T.lo T.hi;have h':=h;rw[T.eq]at h';exact h'.sublist (List.Sublist.append (List.Sublist.refl A) (List.sublist_cons_self f B))
 ·rw[G.keep];exact go A B (by rw[←G.eq];exact h) G.lo G.hi
theorem BE8(es:List En)(h:AW4 es)(x:En):(RY es x).length≤es.length+1:=by
 rcases A36 x.p es h with⟨A,f,B,T⟩|⟨A,B,G⟩
 ·rw[T.keep,T.eq];simp
 ·rw[G.keep,G.eq];simp;omega
theorem BE9{es:List En}{x e:En}(h:e∈RY es x):e∈es∨e=D8 x:=by
 rcases List.mem_append.1 h with h|h
 ·exact .inl (List.mem_filter.1 h).1
 ·rcases List.mem_cons.1 h with h|h
  ·exact .inr h
  ·exact .inl (List.mem_filter.1 h).1
theorem BF0{s:Int}{l:List Nt}{es:List En}(h:AW4 es):AW4 (QD s l es):=List.Pairwise.sublist List.filter_sublist h
def rP(es:List En):Prop:=∀x∈es,x.p.length≤140737488355328∧x.d.length≤140737488355328
theorem jU{x:En}(h:x.p.length≤140737488355328∧x.d.length≤140737488355328):(D8 x).p.length≤140737488355328∧(D8 x).d.length≤140737488355328:=by
 unfold D8
 split
 ·exact h
 ·exact⟨h.1,by simp⟩
end Go.Proofs.YtmbmehcoidjiaaaGreatDoor
