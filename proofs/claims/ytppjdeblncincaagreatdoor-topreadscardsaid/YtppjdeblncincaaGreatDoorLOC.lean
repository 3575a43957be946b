/-
  Part.
-/
import Derived.Test.YtppjdeblncincaaGreatDoorLOB
set_option maxRecDepth 20000
set_option maxHeartbeats 8000000
namespace Go.Proofs.YtppjdeblncincaaGreatDoor
open Go.RowKit
def WV:List UInt8->Option (List UInt8×List UInt8)
 |[]=>none
 |c::l=>match WV l with
  |some (a,b)=>some (c::a,b)
  |none=>if c=47 then some ([],l)else none
theorem fG:∀b:List UInt8,47∉b->WV b=none
 |[],_=>rfl
 |c::l,h=>by
  have h1:c≠47:=by rintro rfl;simp at h
  rw[WV,fG l (by simp at h;exact h.2)];simp[h1]
theorem TM(b:List UInt8)(hb:47∉b):∀a:List UInt8,WV (a++47::b)=some (a,b)
 |[]=>by simp[WV,fG b hb]
 |c::a=>by simp[WV,TM b hb a]
def CG6(a:List UInt8):List UInt8:=if a=[]then [47]else a
def IK(p:List UInt8):List UInt8:=if J6 p=true/\p≠[47]then(match WV p with
 |some (a,_)=>CG6 a
 |none=>[])else []
def NU(p:List UInt8):List UInt8:=if J6 p=true/\p≠[47]then(match WV p with
 |some (_,b)=>b
 |none=>[])else []
def AR6(p:List UInt8):Int:=if J6 p=true then(if p=[47]then 7 else 0)else 2
theorem jF{p:List UInt8}(h:J6 p=true):∃r,p=47::r:=by
 simp only[J6,Bool.and_eq_true]at h;have h1:=h.1.2
 cases p with
 |nil=>simp[Lib.hasPrefix,List.isPrefixOf]at h1
 |cons c r=>simp[Lib.hasPrefix,List.isPrefixOf]at h1;exact⟨r,by rw[h1]⟩
theorem AU7:J6 []=false:=by decide+kernel
theorem aJ{p:List UInt8}(h:J6 p=true):∃a b,p=a++47::b/\47∉b:=by
 obtain⟨r,rfl⟩:=jF h;exact nK _ (by simp)
theorem aK{a b:List UInt8}(h:J6 (a++47::b)=true)(hn:a++47::b≠[47])(hb:47∉b):IK (a++47::b)=CG6 a:=by
 rw[IK,if_pos ⟨h,hn⟩,TM b hb a]
theorem AG9{a b:List UInt8}(h:J6 (a++47::b)=true)(hn:a++47::b≠[47])(hb:47∉b):NU (a++47::b)=b:=by
 rw[NU,if_pos ⟨h,hn⟩,TM b hb a]
theorem aO{p:List UInt8}(h:J6 p=false):IK p=[]:=by rw[IK,if_neg (by simp[h])]
theorem AH0{p:List UInt8}(h:J6 p=false):NU p=[]:=by rw[NU,if_neg (by simp[h])]
theorem UF:IK [47]=[]:=by rw[IK,if_neg (by simp)]
theorem zK:NU [47]=[]:=by rw[NU,if_neg (by simp)]
theorem A76{p:List UInt8}(h:J6 p=false):AR6 p=2:=by rw[AR6,if_neg (by simp[h])]
theorem uK:AR6 [47]=7:=by rw[AR6,if_pos dP,if_pos rfl]
theorem AU8{p:List UInt8}(h:J6 p=true)(hn:p≠[47]):AR6 p=0:=by rw[AR6,if_pos h,if_neg hn]
theorem qF{p:List UInt8}(h:J6 p=true)(hn:p≠[47]):IK p≠p/\IK p≠[]:=by
 obtain⟨a,b,rfl,hb⟩:=aJ h;rw[aK h hn hb,CG6]
 split
 .rename_i h0;subst h0
  exact⟨fun e=>hn (by simpa using e.symm),by simp⟩
 .rename_i h0
  refine⟨fun e=>?_,h0⟩;have:=congrArg List.length e;simp at this
structure Nd where
 p:List UInt8
 d:List UInt8
 c:Int
 m:Int
 q:Int
 v:Int
 k:Int
 o:Int
 n:Int
instance:Inhabited Nd:=⟨⟨[],[],0,0,0,0,0,0,0⟩⟩
structure Tr where
 z:Int
 ns:List Nd
 ss:List Int
def tr0:Tr:=⟨0,[],[]⟩
def zL:Nd:=⟨[47],[],0,0,0,0,0,0,0⟩
def QL:Tr:=⟨0,[zL],[]⟩
def tK(ns:List Nd):Prop:=ns.Pairwise fun a b=>bl a.p b.p=true
def NW(ns:List Nd)(p:List UInt8):Nat:=ns.countP fun x=>decide (IK x.p=p)
structure NOk(z:Int)(ns:List Nd)(ss:List Int)(n:Nd):Prop where
 data:n.d.length<=256
 path:J6 n.p=true
 up:n.p≠[47]->∃u∈ns,u.p=IK n.p
 c0:0<=n.c
 cm:n.c<=n.m
 cq:n.c<=n.q
 mz:n.m<=z
 qz:n.q<=z
 v0:0<=n.v
 v1:n.v<=2147483647
 k0:0<=n.k
 kids:n.n=NW ns n.p
 own:n.o=0\/n.o∈ss/\n.n=0
structure PL(z:Int)(ns:List Nd)(ss:List Int):Prop where
 few:ns.length<=400
 root:∃r rest,ns=r::rest/\r.p=[47]/\r.o=0
 asc:tK ns
 ok:∀n∈ns,NOk z ns ss n
def qG(ss:List Int):Prop:=ss.Pairwise (· < ·)/\∀s∈ss,1<=s/\s<=2147483647
structure QW(t:Tr):Prop where
 zx:KN t.z=true
 ses:qG t.ss
 nod:PL t.z t.ns t.ss
 cap:∀n∈t.ns,n.k<=2147483647
noncomputable def UG(t:Tr):Bool:= @decide (QW t) (Classical.propDecidable _)
theorem SC{t:Tr}:UG t=true↔QW t:=by unfold UG;exact @decide_eq_true_iff _ (Classical.propDecidable _)
theorem ZH{t:Tr}:UG t=false↔¬QW t:=by unfold UG;exact @decide_eq_false_iff_not _ (Classical.propDecidable _)
theorem UH{ns:List Nd}(h:tK ns){a b:Nd}(ha:a∈ns)(hb:b∈ns)(e:a.p=b.p):a=b:=by
 obtain⟨i,hi,rfl⟩:=List.getElem_of_mem ha;obtain⟨j,hj,rfl⟩:=List.getElem_of_mem hb;have h:=List.pairwise_iff_getElem.1 h;by_cases h1:i<j
 .exact absurd e (WS (h i j hi hj h1))
 .by_cases h2:j<i
  .exact absurd e.symm (WS (h j i hj hi h2))
  .obtain rfl:i=j:=by omega
   rfl
structure KJ(ns A:List Nd)(n:Nd)(B:List Nd)(p:List UInt8):Prop where
 eq:ns=A++n::B
 nm:n.p=p
 lo:∀a∈A,bl a.p p=true
 hi:∀b∈B,bl p b.p=true
structure nM(ns A B:List Nd)(p:List UInt8):Prop where
 eq:ns=A++B
 lo:∀a∈A,bl a.p p=true
 hi:∀b∈B,bl p b.p=true
theorem YV(p:List UInt8):∀ns:List Nd,tK ns->(∃A n B,KJ ns A n B p)\/∃A B,nM ns A B p
 |[],_=>.inr ⟨[],[],rfl,by simp,by simp⟩
 |x::r,h=>by
  obtain⟨hx,hr⟩:=List.pairwise_cons.1 h
  cases h1:bl x.p p with
  |true=>
   rcases YV p r hr with⟨A,f,B,T⟩|⟨A,B,G⟩
   .exact .inl ⟨x::A,f,B,by rw[T.eq];rfl,T.nm,by simp[h1];exact T.lo,T.hi⟩
   .exact .inr ⟨x::A,B,by rw[G.eq];rfl,by simp[h1];exact G.lo,G.hi⟩
  |false=>
   cases h2:bl p x.p with
   |true=>exact .inr ⟨[],x::r,rfl,by simp,by simp[h2];exact fun b hb=>RI _ _ _ h2 (hx b hb)⟩
   |false=>
    have e:=TL _ _ h1 h2;exact .inl ⟨[],x,r,rfl,e,by simp,fun b hb=>by rw[<-e];exact hx b hb⟩
def LU(ns:List Nd)(p:List UInt8):Option Nd:=ns.find? fun n=>decide (n.p=p)
theorem KJ.look{ns A B:List Nd}{n:Nd}{p:List UInt8}(T:KJ ns A n B p):LU ns p=some n:=by
 rw[LU,T.eq,List.find?_append,List.find?_eq_none.2 (fun a ha=>by simp[WS (T.lo a ha)])];simp[T.nm]
theorem nM.no{ns A B:List Nd}{p:List UInt8}(G:nM ns A B p):∀n∈ns,n.p≠p:=by
 intro n hn;rw[G.eq]at hn;rcases List.mem_append.1 hn with h|h
 .exact WS (G.lo n h)
 .exact(WS (G.hi n h)).symm
theorem nM.look{ns A B:List Nd}{p:List UInt8}(G:nM ns A B p):LU ns p=none:=by
 rw[LU,List.find?_eq_none];intro n hn;simp[G.no n hn]
theorem YD{ns:List Nd}{p:List UInt8}{n:Nd}(h:LU ns p=some n):n∈ns/\n.p=p:=by
 refine⟨List.mem_of_find?_eq_some h,?_⟩;have:=List.find?_some h;simpa using this
theorem aP{ns:List Nd}(h:tK ns){n:Nd}(hn:n∈ns):LU ns n.p=some n:=by
 rcases YV n.p ns h with⟨A,m,B,T⟩|⟨A,B,G⟩
 .rw[T.look,UH h (by rw[T.eq];simp) hn T.nm]
 .exact absurd rfl (G.no n hn)
theorem RN{ns:List Nd}(h:tK ns){p:List UInt8}{n:Nd}(hn:LU ns p=some n):∃A B,KJ ns A n B p:=by
 rcases YV p ns h with⟨A,m,B,T⟩|⟨A,B,G⟩
 .rw[T.look]at hn;cases hn;exact⟨A,B,T⟩
 .rw[G.look]at hn;cases hn
theorem zM{ns:List Nd}(h:tK ns){p:List UInt8}(hn:LU ns p=none):∃A B,nM ns A B p:=by
 rcases YV p ns h with⟨A,m,B,T⟩|⟨A,B,G⟩
 .rw[T.look]at hn;cases hn
 .exact⟨A,B,G⟩
def zN(ns:List Nd)(p:List UInt8):List Nd:=ns.filter fun n=>decide (n.p≠p)
def CR9(ns:List Nd)(x:Nd):List Nd:=(ns.filter fun n=>bl n.p x.p)++x::(ns.filter fun n=>bl x.p n.p)
def bump(z more:Int)(n:Nd):Nd:=⟨n.p,n.d,n.c,n.m,z,n.v,n.k+1,n.o,n.n+more⟩
def O9(p:List UInt8)(z more:Int)(ns:List Nd):List Nd:=ns.map fun n=>if n.p=p then bump z more n else n
def AU9(p d:List UInt8)(v z:Int)(ns:List Nd):List Nd:=ns.map fun n=>if n.p=p then⟨n.p,d,n.c,z,n.q,v,n.k,n.o,n.n⟩else n
theorem OJ{α:Type}(f:α->Bool)(l:List α)(h:∀x∈l,f x=true):l.filter f=l:=List.filter_eq_self.2 h
theorem aQ{α:Type}(f:α->Bool)(l:List α)(h:∀x∈l,f x=false):l.filter f=[]:=List.filter_eq_nil_iff.2 (fun x hx=>by simp[h x hx])
theorem A77{α:Type}(f:α->α)(l:List α)(h:∀x∈l,f x=x):l.map f=l:=by
 induction l with
 |nil=>rfl
 |cons x r ih=>rw[List.map_cons,h x (by simp),ih (fun y hy=>h y (by simp[hy]))]
theorem KJ.drop{ns A B:List Nd}{n:Nd}{p:List UInt8}(T:KJ ns A n B p):zN ns p=A++B:=by
 rw[zN,T.eq,List.filter_append,List.filter_cons,OJ _ A (fun a ha=>by simp[WS (T.lo a ha)]),OJ _ B (fun a ha=>by simp[(WS (T.hi a ha)).symm])];simp[T.nm]
theorem nM.ins{ns A B:List Nd}{x:Nd}(G:nM ns A B x.p):CR9 ns x=A++x::B:=by
 rw[CR9,G.eq,List.filter_append,List.filter_append,OJ _ A (fun a ha=>G.lo a ha),aQ _ B (fun a ha=>OD (G.hi a ha)),aQ _ A (fun a ha=>OD (G.lo a ha)),OJ _ B (fun a ha=>G.hi a ha)];simp
theorem KJ.CG7{ns A B:List Nd}{n:Nd}{p:List UInt8}(T:KJ ns A n B p)(g:Nd->Nd):(ns.map fun x=>if x.p=p then g x else x)=A++g n::B:=by
 rw[T.eq,List.map_append,List.map_cons,A77 _ A (fun a ha=>by simp[WS (T.lo a ha)]),A77 _ B (fun a ha=>by simp[(WS (T.hi a ha)).symm])];simp[T.nm]
theorem KJ.bump{ns A B:List Nd}{n:Nd}{p:List UInt8}(T:KJ ns A n B p)(z more:Int):O9 p z more ns=A++bump z more n::B:=T.CG7 _
theorem KJ.put{ns A B:List Nd}{n:Nd}{p:List UInt8}(T:KJ ns A n B p)(d:List UInt8)(v z:Int):AU9 p d v z ns=A++⟨n.p,d,n.c,z,n.q,v,n.k,n.o,n.n⟩::B:=T.CG7 _
theorem YW(p:List UInt8)(z more:Int)(n:Nd):(if n.p=p then bump z more n else n).p=n.p:=by split<;>rfl
theorem WW(p:List UInt8)(z more:Int)(ns:List Nd):(O9 p z more ns).map Nd.p=ns.map Nd.p:=by
 rw[O9,List.map_map]
 apply List.map_congr_left
 intro n _;exact YW p z more n
theorem OL(ns:List Nd):tK ns↔(ns.map Nd.p).Pairwise fun a b=>bl a b=true:=by rw[List.pairwise_map];rfl
theorem PW(ns:List Nd)(p:List UInt8):NW ns p=(ns.map Nd.p).countP fun x=>decide (IK x=p):=by rw[List.countP_map];rfl
def C17(ss:List Int)(s:Int):List Int:=(ss.filter fun x=>decide (x<s))++s::(ss.filter fun x=>decide (s<x))
def AH1(ss:List Int)(s:Int):List Int:=ss.filter fun x=>decide (x≠s)
structure jG(ss A B:List Int)(s:Int):Prop where
 eq:ss=A++s::B
 lo:∀a∈A,a<s
 hi:∀b∈B,s<b
structure C18(ss A B:List Int)(s:Int):Prop where
 eq:ss=A++B
 lo:∀a∈A,a<s
 hi:∀b∈B,s<b
theorem uM(s:Int):∀ss:List Int,ss.Pairwise (· < ·)->(∃A B,jG ss A B s)\/∃A B,C18 ss A B s
 |[],_=>.inr ⟨[],[],rfl,by simp,by simp⟩
 |x::r,h=>by
  obtain⟨hx,hr⟩:=List.pairwise_cons.1 h;by_cases h1:x<s
  .rcases uM s r hr with⟨A,B,T⟩|⟨A,B,G⟩
   .exact .inl ⟨x::A,B,by rw[T.eq];rfl,by simp[h1];exact T.lo,T.hi⟩
   .exact .inr ⟨x::A,B,by rw[G.eq];rfl,by simp[h1];exact G.lo,G.hi⟩
  .by_cases h2:s<x
   .exact .inr ⟨[],x::r,rfl,by simp,by simp[h2];exact fun b hb=>Int.lt_trans h2 (hx b hb)⟩
   .obtain rfl:x=s:=by omega
    exact .inl ⟨[],r,rfl,by simp,hx⟩
theorem jG.mem{ss A B:List Int}{s:Int}(T:jG ss A B s):s∈ss:=by rw[T.eq];simp
theorem C18.not{ss A B:List Int}{s:Int}(G:C18 ss A B s):s∉ss:=by
 intro h;rw[G.eq]at h;rcases List.mem_append.1 h with h|h
 .exact absurd (G.lo s h) (by omega)
 .exact absurd (G.hi s h) (by omega)
theorem C18.ins{ss A B:List Int}{s:Int}(G:C18 ss A B s):C17 ss s=A++s::B:=by
 rw[C17,G.eq,List.filter_append,List.filter_append,OJ _ A (fun a ha=>by simpa using G.lo a ha),aQ _ B (fun a ha=>by have:=G.hi a ha;simp;omega),aQ _ A (fun a ha=>by have:=G.lo a ha;simp;omega),OJ _ B (fun a ha=>by simpa using G.hi a ha)];simp
theorem jG.drop{ss A B:List Int}{s:Int}(T:jG ss A B s):AH1 ss s=A++B:=by
 rw[AH1,T.eq,List.filter_append,List.filter_cons,OJ _ A (fun a ha=>by have:=T.lo a ha;simp;omega),OJ _ B (fun a ha=>by have:=T.hi a ha;simp;omega)];simp
theorem nO(M:Int):∀ (ss:List Int) (lo:Int),ss.Pairwise (· < ·)->(∀s∈ss,lo<s/\s<=M)->lo<=M->(ss.length:Int)<=M-lo
 |[],lo,_,_,h=>by simp;omega
 |x::r,lo,hp,hb,_=>by
  obtain⟨hx,hr⟩:=List.pairwise_cons.1 hp;have h1:=hb x (by simp);have:=nO M r x hr (fun s hs=>⟨hx s hs,(hb s (by simp[hs])).2⟩) h1.2;simp;omega
theorem TN{ss:List Int}(h:qG ss):ss.length<=2147483647:=by
 have:=nO 2147483647 ss 0 h.1 (fun s hs=>by have:=h.2 s hs;omega) (by omega);omega
theorem A78{ss:List Int}{s:Int}(h:qG ss)(hs:1<=s/\s<=2147483647)(hn:s∉ss):qG (C17 ss s):=by
 rcases uM s ss h.1 with⟨A,B,T⟩|⟨A,B,G⟩
 .exact absurd T.mem hn
 .rw[G.ins];have h1:=h.1;have h2:=h.2;rw[G.eq]at h1 h2;rw[List.pairwise_append]at h1;refine⟨?_,?_⟩
  .rw[List.pairwise_append,List.pairwise_cons];refine⟨h1.1,⟨G.hi,h1.2.1⟩,fun a ha b hb=>?_⟩;rcases List.mem_cons.1 hb with rfl|hb
   .exact G.lo a ha
   .exact h1.2.2 a ha b hb
  .intro x hx;rcases List.mem_append.1 hx with h|h
   .exact h2 x (by simp[h])
   .rcases List.mem_cons.1 h with rfl|h
    .exact hs
    .exact h2 x (by simp[h])
theorem AV0{ss:List Int}(s:Int)(h:qG ss):qG (AH1 ss s):=⟨h.1.filter _,fun x hx=>h.2 x (List.mem_filter.1 hx).1⟩
theorem BG4{ss:List Int}{s x:Int}(hx:x∈ss):x∈C17 ss s:=by
 rw[C17];by_cases h1:x<s
 .exact List.mem_append_left _ (List.mem_filter.2 ⟨hx,by simpa using h1⟩)
 .by_cases h2:s<x
  .exact List.mem_append_right _ (List.mem_cons_of_mem _ (List.mem_filter.2 ⟨hx,by simpa using h2⟩))
  .obtain rfl:x=s:=by omega
   exact List.mem_append_right _ (by simp)
end Go.Proofs.YtppjdeblncincaaGreatDoor
namespace Go.Proofs.YtppjdeblncincaaGreatDoor
structure Wa where
 s:Int
 k:Int
 p:List UInt8
structure Nt where
 s:Int
 k:Int
 p:List UInt8
def yQ(w:Wa)(e:Ev):Bool:=decide (w.p=e.p)&&(if w.k=2 then decide (e.k=4)||decide (e.k=2)else decide (e.k=1)||decide (e.k=2)||decide (e.k=3))
def AX3(e:Ev)(w:Wa):Nt:=⟨w.s,e.k,e.p⟩
def U0(ws:List Wa)(e:Ev):List Nt:=(ws.filter (fun w=>yQ w e)).map (AX3 e)
def mO(ws:List Wa)(e:Ev):List Wa:=ws.filter (fun w=> !yQ w e)
def OV:List Wa->List Ev->List Nt
 |_,[]=>[]
 |ws,e::r=>U0 ws e++OV (mO ws e) r
def LC:List Wa->List Ev->List Wa
 |ws,[]=>ws
 |ws,e::r=>LC (mO ws e) r
def mP(ws:List Wa)(s:Int):List Wa:=ws.filter (fun w=> !decide (w.s=s))
theorem BI6(ws:List Wa)(f:Wa->Bool):(ws.filter f).length+(ws.filter (fun w=> !f w)).length=ws.length:=by
 induction ws with
 |nil=>rfl
 |cons w r ih=>
  cases h:f w
  .simp[h];omega
  .simp[h];omega
theorem qL(ws:List Wa)(e:Ev):(U0 ws e).length+(mO ws e).length=ws.length:=by
 simp only[U0,mO,List.length_map];exact BI6 ws (fun w=>yQ w e)
theorem iD(es:List Ev):∀ws:List Wa,(OV ws es).length+(LC ws es).length=ws.length:=by
 induction es with
 |nil=>intro ws;simp[OV,LC]
 |cons e r ih=>
  intro ws;have h1:=qL ws e;have h2:=ih (mO ws e);simp only[OV,LC,List.length_append];omega
theorem AX4(a b:List Ev):∀ws:List Wa,OV ws (a++b)=OV ws a++OV (LC ws a) b:=by
 induction a with
 |nil=>intro ws;simp[OV,LC]
 |cons e r ih=>intro ws;simp[OV,LC,ih]
theorem AX5(a b:List Ev):∀ws:List Wa,LC ws (a++b)=LC (LC ws a) b:=by
 induction a with
 |nil=>intro ws;simp[LC]
 |cons e r ih=>intro ws;simp[LC,ih]
theorem jK(es:List Ev):∀ (ws:List Wa) (w:Wa),w∈LC ws es->w∈ws/\∀e∈es,yQ w e=false:=by
 induction es with
 |nil=>intro ws w h;exact⟨h,by simp⟩
 |cons e r ih=>
  intro ws w h;obtain⟨h1,h2⟩:=ih (mO ws e) w h;simp only[mO,List.mem_filter]at h1;refine⟨h1.1,fun x hx=>?_⟩;rcases List.mem_cons.1 hx with rfl|hx
  .simpa using h1.2
  .exact h2 x hx
theorem AX6(ws:List Wa)(es:List Ev)(w:Wa)(h:w∈LC ws es):w∈ws:=(jK es ws w h).1
end Go.Proofs.YtppjdeblncincaaGreatDoor
namespace Go.Proofs.YtppjdeblncincaaGreatDoor
open Go.RowKit
structure En where
 p:List UInt8
 d:List UInt8
 t:Bool
def B62(es:List En):Prop:=es.Pairwise fun a b=>bl a.p b.p=true
def IY(x:En):En:=if x.t=true then x else⟨x.p,[],false⟩
def WH(es:List En)(x:En):List En:=es.filter (fun e=>bl e.p x.p)++IY x::es.filter (fun e=>bl x.p e.p)
def noneE:En:=⟨[],[],false⟩
def CL9(s:Int)(l:List Nt)(p:List UInt8):Bool:=l.any fun n=>decide (n.s=s)&& !decide (n.k=4)&&decide (n.p=p)
def UQ(s:Int)(l:List Nt)(es:List En):List En:=es.filter fun e=> !CL9 s l e.p
theorem A40(x:En):(IY x).p=x.p:=by unfold IY;split<;>rfl
theorem B63{x:En}(h:x.t=true):IY x=x:=by unfold IY;rw[if_pos h]
theorem BP5{x:En}(h:x.t=false):IY x=⟨x.p,[],x.t⟩:=by unfold IY;rw[h];rfl
structure AC6(es A:List En)(f:En)(B:List En)(p:List UInt8):Prop where
 eq:es=A++f::B
 nm:f.p=p
 lo:∀a∈A,bl a.p p=true
 hi:∀b∈B,bl p b.p=true
structure CT4(es A B:List En)(p:List UInt8):Prop where
 eq:es=A++B
 lo:∀a∈A,bl a.p p=true
 hi:∀b∈B,bl p b.p=true
theorem AC7(p:List UInt8):∀es:List En,B62 es->(∃A f B,AC6 es A f B p)\/∃A B,CT4 es A B p
 |[],_=>.inr ⟨[],[],rfl,by simp,by simp⟩
 |x::r,h=>by
  obtain⟨hx,hr⟩:=List.pairwise_cons.1 h
  cases h1:bl x.p p with
  |true=>
   rcases AC7 p r hr with⟨A,f,B,T⟩|⟨A,B,G⟩
   .exact .inl ⟨x::A,f,B,by rw[T.eq];rfl,T.nm,by simp[h1];exact T.lo,T.hi⟩
   .exact .inr ⟨x::A,B,by rw[G.eq];rfl,by simp[h1];exact G.lo,G.hi⟩
  |false=>
   cases h2:bl p x.p with
   |true=>exact .inr ⟨[],x::r,rfl,by simp,by simp[h2];exact fun b hb=>RI _ _ _ h2 (hx b hb)⟩
   |false=>
    have e:=TL _ _ h1 h2;exact .inl ⟨[],x,r,rfl,e,by simp,fun b hb=>by rw[<-e];exact hx b hb⟩
theorem B64{A:List En}{p:List UInt8}(h:∀a∈A,bl a.p p=true):A.filter (fun e=>bl e.p p)=A/\A.filter (fun e=>bl p e.p)=[]:=
 ⟨List.filter_eq_self.2 h,List.filter_eq_nil_iff.2 fun a ha=>by rw[OD (h a ha)];simp⟩
theorem B65{A:List En}{p:List UInt8}(h:∀a∈A,bl p a.p=true):A.filter (fun e=>bl e.p p)=[]/\A.filter (fun e=>bl p e.p)=A:=
 ⟨List.filter_eq_nil_iff.2 fun a ha=>by rw[OD (h a ha)];simp,List.filter_eq_self.2 h⟩
theorem AC6.keep{es A B:List En}{f x:En}(T:AC6 es A f B x.p):WH es x=A++IY x::B:=by
 have h1:=B64 T.lo;have h2:=B65 T.hi;have e:=T.nm;unfold WH;rw[T.eq,List.filter_append,List.filter_append,List.filter_cons,List.filter_cons,h1.1,h1.2,h2.1,h2.2,e,QI];simp
theorem CT4.keep{es A B:List En}{x:En}(G:CT4 es A B x.p):WH es x=A++IY x::B:=by
 have h1:=B64 G.lo;have h2:=B65 G.hi;unfold WH;rw[G.eq,List.filter_append,List.filter_append,h1.1,h1.2,h2.1,h2.2];simp
theorem BP6{es:List En}(h:B62 es)(x:En):B62 (WH es x):=by
 have go:∀A B,B62 (A++B)->(∀a∈A,bl a.p x.p=true)->(∀b∈B,bl x.p b.p=true)->B62 (A++IY x::B):=fun A B h lo hi=>by
  unfold B62 at h⊢;rw[List.pairwise_append]at h;rw[List.pairwise_append,List.pairwise_cons];refine⟨h.1,⟨fun b hb=>by rw[A40];exact hi b hb,h.2.1⟩,fun a ha b hb=>?_⟩;rcases List.mem_cons.1 hb with rfl|hb
  .rw[A40];exact lo a ha
  .exact h.2.2 a ha b hb
 rcases AC7 x.p es h with⟨A,f,B,T⟩|⟨A,B,G⟩
 .rw[T.keep];refine go A B ?_ T.lo T.hi;have h':=h;rw[T.eq]at h';exact h'.sublist (List.Sublist.append (List.Sublist.refl A) (List.sublist_cons_self f B))
 .rw[G.keep];exact go A B (by rw[<-G.eq];exact h) G.lo G.hi
theorem BP7(es:List En)(h:B62 es)(x:En):(WH es x).length<=es.length+1:=by
 rcases AC7 x.p es h with⟨A,f,B,T⟩|⟨A,B,G⟩
 .rw[T.keep,T.eq];simp
 .rw[G.keep,G.eq];simp;omega
theorem BP8{es:List En}{x e:En}(h:e∈WH es x):e∈es\/e=IY x:=by
 rcases List.mem_append.1 h with h|h
 .exact .inl (List.mem_filter.1 h).1
 .rcases List.mem_cons.1 h with h|h
  .exact .inr h
  .exact .inl (List.mem_filter.1 h).1
theorem BP9{s:Int}{l:List Nt}{es:List En}(h:B62 es):B62 (UQ s l es):=List.Pairwise.sublist List.filter_sublist h
def xK(es:List En):Prop:=∀x∈es,x.p.length<=140737488355328/\x.d.length<=140737488355328
theorem oV{x:En}(h:x.p.length<=140737488355328/\x.d.length<=140737488355328):(IY x).p.length<=140737488355328/\(IY x).d.length<=140737488355328:=by
 unfold IY
 split
 .exact h
 .exact⟨h.1,by simp⟩
end Go.Proofs.YtppjdeblncincaaGreatDoor
