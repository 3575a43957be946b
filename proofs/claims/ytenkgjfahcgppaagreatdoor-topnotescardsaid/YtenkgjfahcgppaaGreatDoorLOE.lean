/-
  Part.
-/
import Derived.Test.YtenkgjfahcgppaaGreatDoorLOD
import Derived.Lib.JoinLaws
import Derived.Deep.RegionHeld3
import Derived.Lib.AppendZerosOnto
import Derived.Lib.Overlaps
set_option maxRecDepth 20000
set_option maxHeartbeats 8000000
namespace Go.Proofs.YtenkgjfahcgppaaGreatDoor
open Go.RowKit Go.Proofs.Tryz
variable{z s:Int}{ns A B xs:List Nd}{ss:List Int}{n u x:Nd}{p:List UInt8}{ps:List (List UInt8)}{t:Tr}{w W:World}{b off i g cap:Nat}
theorem LJ.mono{z':Int}(g:LJ z ns ss)(h:z<=z'):LJ z' ns ss:=
 ⟨g.few,g.root,g.asc,fun n hn=>by
  have k:=g.ok n hn;have:=k.mz;have:=k.qz;exact⟨k.data,k.path,k.up,k.c0,k.cm,k.cq,by omega,by omega,k.v0,k.v1,k.k0,k.kids,k.own⟩⟩
theorem LJ.more{ss':List Int}(g:LJ z ns ss)(h:∀n∈ns,n.o≠0->n.o∈ss->n.o∈ss'):LJ z ns ss':=
 ⟨g.few,g.root,g.asc,fun n hn=>by
  have k:=g.ok n hn;refine⟨k.data,k.path,k.up,k.c0,k.cm,k.cq,k.mz,k.qz,k.v0,k.v1,k.k0,k.kids,?_⟩;rcases k.own with h'|⟨h1,h2⟩
  .exact .inl h'
  .by_cases h0:n.o=0
   .exact .inl h0
   .exact .inr ⟨h n hn h0 h1,h2⟩⟩
theorem AN8(g:LJ z ns ss)(hn:n∈ns)(hp:n.p≠[47]):∃u,H7 ns (BU n.p)=some u/\u∈ns/\u.p=BU n.p/\u.p≠n.p/\u.o=0:=by
 obtain⟨u,hu,he⟩:=(g.ok n hn).up hp;have hne:u.p≠n.p:=by rw[he];exact(lJ (g.ok n hn).path hp).1
 refine⟨u,by rw[<-he];exact XH g.asc hu,hu,he,hne,?_⟩;rcases(g.ok u hu).own with h|⟨_,h⟩
 .exact h
 .exfalso;have h1:=(g.ok u hu).kids;have h2:0<JL ns u.p:=List.countP_pos_iff.2 ⟨n,hn,by simp[he]⟩;omega
theorem C93(g:LJ z ns ss)(hn:n∈ns)(h:n.o≠0):n.p≠[47]:=by
 intro e;obtain⟨r,rest,hr,hp,ho⟩:=g.root;have:n=r:=QD g.asc hn (by rw[hr];simp) (by rw[e,hp]);exact h (by rw[this];exact ho)
theorem B87(g:LJ z ns ss)(f:Nd->Nd)(hf:∀n,(f n).p=n.p)(hk:∀n∈ns,NOk z ns ss n->NOk z ns ss (f n)/\(n.p=[47]->(f n).o=n.o)):LJ z (ns.map f) ss:=by
 have hp:(ns.map f).map Nd.p=ns.map Nd.p:=by rw[List.map_map];exact List.map_congr_left fun n _=>hf n
 have hkd:∀p,JL (ns.map f) p=JL ns p:=fun p=>by rw[LX,hp,<-LX]
 refine⟨by simpa using g.few,?_,by rw[KD,hp,<-KD];exact g.asc,?_⟩
 .obtain⟨r,rest,h,h1,h2⟩:=g.root;exact⟨f r,rest.map f,by rw[h];rfl,by rw[hf,h1],by rw[(hk r (by rw[h];simp) (g.ok r (by rw[h];simp))).2 h1,h2]⟩
 .intro n hn;obtain⟨m,hm,rfl⟩:=List.mem_map.1 hn;have k:=(hk m hm (g.ok m hm)).1;refine⟨k.data,k.path,fun h=>?_,k.c0,k.cm,k.cq,k.mz,k.qz,k.v0,k.v1,k.k0,by rw[hkd];exact k.kids,k.own⟩;obtain⟨u,hu,he⟩:=k.up h;exact⟨f u,List.mem_map.2 ⟨u,hu,rfl⟩,by rw[hf];exact he⟩
def rmN(z:Int)(ns:List Nd)(p:List UInt8):List Nd:=JR (BU p) z (-1) (vY ns p)
theorem AN9(g:LJ z ns ss)(T:FQ ns A n B p)(hk:n.n=0)(hp:p≠[47]):LJ z (rmN z ns p) ss:=by
 have hn:n∈ns:=by rw[T.eq];simp
 have hnp:=T.nm;have hdrop:=T.drop;have dJ:(rmN z ns p).map Nd.p=(A++B).map Nd.p:=by rw[rmN,TD,hdrop]
 have hsub:(A++B).Sublist ns:=by rw[T.eq];exact(List.Sublist.refl A).append (List.sublist_cons_self n B)
 have CL3:∀x,JL (rmN z ns p) x+(if BU p=x then 1 else 0)=JL ns x:=by
  intro x;rw[LX,dJ,<-LX,T.eq];simp only[JL,List.countP_append,List.countP_cons,decide_eq_true_eq,hnp];omega
 have hno:∀m∈ns,BU m.p≠p:=by
  intro m hm e;have h1:=(g.ok n hn).kids;have h2:0<JL ns n.p:=List.countP_pos_iff.2 ⟨m,hm,by simp[e,hnp]⟩;omega
 have hmem:∀m∈ns,m.p≠p->m∈A++B:=by
  intro m hm h;rw[<-hdrop,vY];exact List.mem_filter.2 ⟨hm,by simpa using h⟩
 refine⟨?_,?_,?_,?_⟩
 .have h1:=g.few;have h2:(rmN z ns p).length=(A++B).length:=by have:=congrArg List.length dJ;simpa using this
  rw[T.eq]at h1;simp at h1 h2⊢;omega
 .obtain⟨r,rest,h,h1,h2⟩:=g.root
  cases A with
  |nil=>
   have:=T.eq;rw[h]at this
   cases this
   exact absurd (hnp.symm.trans h1) hp
  |cons a A'=>
   have:=T.eq;rw[h]at this
   cases this
   rw[rmN,hdrop,JR];refine⟨_,_,List.map_cons,by rw[VG];exact h1,?_⟩
   split
   .exact h2
   .exact h2
 .rw[KD,dJ,<-KD];exact g.asc.sublist hsub
 .intro m' hm';rw[rmN,hdrop,JR]at hm';obtain⟨m,hm,rfl⟩:=List.mem_map.1 hm';have hms:=hsub.mem hm;have k:=g.ok m hms;have hup:m.p≠[47]->∃u∈rmN z ns p,u.p=BU m.p:=by
   intro h;obtain⟨u,hu,he⟩:=k.up h;have h1:=hmem u hu (by rw[he];exact hno m hms);exact⟨_,by rw[rmN,hdrop,JR];exact List.mem_map.2 ⟨u,h1,rfl⟩,by rw[VG];exact he⟩
  have hkm:=CL3 m.p;have:=k.kids;have:=k.c0;have:=k.cq;have:=k.qz;have:=k.k0
  split
  .rename_i e
   rw[if_pos e.symm]at hkm;refine⟨k.data,k.path,hup,k.c0,k.cm,?_,k.mz,?_,k.v0,k.v1,?_,?_,?_⟩
   .show m.c<=z;omega
   .exact Int.le_refl _
   .show 0<=m.k+1;omega
   .show m.n+ -1=_;show _=((JL (rmN z ns p) m.p:Nat):Int);omega
   .rcases k.own with h|⟨h1,h2⟩
    .exact .inl h
    .omega
  .rename_i e
   rw[if_neg (fun h=>e h.symm)]at hkm;exact⟨k.data,k.path,hup,k.c0,k.cm,k.cq,k.mz,k.qz,k.v0,k.v1,k.k0,by omega,k.own⟩
def pW(z:Int)(ns:List Nd)(x:Nd):List Nd:=JR (BU x.p) z 1 (CL2 ns x)
theorem A11{z:Int}{ns A B:List Nd}{ss:List Int}{x:Nd}(g:LJ z ns ss)(G:jE ns A B x.p)(hl:ns.length<400)(hg:DN x.p=true)(hp:x.p≠[47])(hu:∃u∈ns,u.p=BU x.p/\u.o=0)
  (hd:x.d.length<=256) (hz:0<=z) (hc:x.c=z) (hm:x.m=z) (hq:x.q=z) (hv:x.v=0) (hk:x.k=0) (hn:x.n=0) (ho:x.o=0\/x.o∈ss):LJ z (pW z ns x) ss:=by
 have hins:=G.ins;have dJ:(pW z ns x).map Nd.p=(A++x::B).map Nd.p:=by rw[pW,TD,hins]
 have hmem:∀m∈ns,m∈A++x::B:=by
  intro m h;rw[G.eq]at h;rcases List.mem_append.1 h with h|h<;>simp[h]
 have CL3:∀y,JL (pW z ns x) y=JL ns y+(if BU x.p=y then 1 else 0):=by
  intro y;rw[LX,dJ,<-LX,G.eq];simp only[JL,List.countP_append,List.countP_cons,decide_eq_true_eq];omega
 have hno:JL ns x.p=0:=by
  apply List.countP_eq_zero.2
  intro m hm;simp only[decide_eq_true_eq];intro e;have k:=g.ok m hm;by_cases h:m.p=[47]
  .rw[h,QB]at e;rw[<-e,AN4]at hg
   cases hg
  .obtain⟨u,hu,he⟩:=k.up h;exact G.no u hu (he.trans e)
 obtain⟨r,rest,hr,hr1,hr2⟩:=g.root;refine⟨?_,?_,?_,?_⟩
 .have h2:(pW z ns x).length=(A++x::B).length:=by have:=congrArg List.length dJ;simpa using this
  rw[G.eq]at hl;simp at hl h2⊢;omega
 .cases A with
  |nil=>
   exfalso;have hB:=G.eq;simp at hB;have h1:=G.hi r (by rw[<-hB,hr];simp);rw[hr1]at h1;obtain⟨s,hs⟩:=dH hg;rw[hs]at h1 hp
   cases s with
   |nil=>exact hp rfl
   |cons c s=>simp[bl,Op.bytesLess]at h1
  |cons a A'=>
   have:=G.eq;rw[hr]at this
   cases this
   rw[pW,hins,JR];refine⟨_,_,List.map_cons,by rw[VG];exact hr1,?_⟩
   split
   .exact hr2
   .exact hr2
 .rw[KD,dJ,<-KD];have h:=g.asc;rw[G.eq]at h;unfold oQ at h⊢;rw[List.pairwise_append]at h;rw[List.pairwise_append,List.pairwise_cons];refine⟨h.1,⟨G.hi,h.2.1⟩,fun a ha b hb=>?_⟩;rcases List.mem_cons.1 hb with rfl|hb
  .exact G.lo a ha
  .exact h.2.2 a ha b hb
 .have hin:∀m∈A++x::B,(if m.p=BU x.p then bump z 1 m else m)∈pW z ns x:=fun m h=>by rw[pW,hins,JR];exact List.mem_map.2 ⟨m,h,rfl⟩
  intro m' hm';rw[pW,hins,JR]at hm';obtain⟨m,hm2,rfl⟩:=List.mem_map.1 hm';have hcase:m=x\/m∈ns:=by
   rcases List.mem_append.1 hm2 with h|h
   .exact .inr (by rw[G.eq];simp[h])
   .rcases List.mem_cons.1 h with h|h
    .exact .inl h
    .exact .inr (by rw[G.eq];simp[h])
  rcases hcase with rfl|hms
  .rw[if_neg (fun h=>(lJ hg hp).1 h.symm)];obtain⟨u,hu1,hu2,_⟩:=hu;have hkm:=CL3 m.p;rw[if_neg (lJ hg hp).1,hno]at hkm;refine⟨hd,hg,fun _=>⟨_,hin u (hmem u hu1),by rw[VG];exact hu2⟩,by omega,by omega,by omega,by omega,by omega,by omega,by omega,by omega,by omega,?_⟩;rcases ho with h|h
   .exact .inl h
   .exact .inr ⟨h,hn⟩
  .have k:=g.ok m hms;have hup:m.p≠[47]->∃u∈pW z ns x,u.p=BU m.p:=fun h=>by
    obtain⟨u,hu,he⟩:=k.up h;exact⟨_,hin u (hmem u hu),by rw[VG];exact he⟩
   have hkm:=CL3 m.p;have:=k.kids;have:=k.cq;have:=k.qz;have:=k.k0
   split
   .rename_i e
    rw[if_pos e.symm]at hkm;refine⟨k.data,k.path,hup,k.c0,k.cm,?_,k.mz,Int.le_refl _,k.v0,k.v1,?_,?_,?_⟩
    .show m.c<=z;omega
    .show 0<=m.k+1;omega
    .show m.n+1=((JL (pW z ns x) m.p:Nat):Int);omega
    .obtain⟨u,hu1,hu2,hu3⟩:=hu;have:m=u:=QD g.asc hms hu1 (by rw[e,hu2]);exact .inl (by rw[this];exact hu3)
   .rename_i e
    rw[if_neg (fun h=>e h.symm)]at hkm;exact⟨k.data,k.path,hup,k.c0,k.cm,k.cq,k.mz,k.qz,k.v0,k.v1,k.k0,by omega,k.own⟩
theorem B88(g:LJ z ns ss)(p d:List UInt8)(v:Int)(hd:d.length<=256)(hv:0<=v/\v<=2147483647)(hz:∀n∈ns,n.c<=z):LJ z (AN6 p d v z ns) ss:=by
 refine B87 g _ (fun n=>by split<;>rfl) (fun n hn k=>?_)
 split
 .exact⟨⟨hd,k.path,k.up,k.c0,hz n hn,k.cq,Int.le_refl _,k.qz,hv.1,hv.2,k.k0,k.kids,k.own⟩,fun _=>rfl⟩
 .exact⟨k,fun _=>rfl⟩
def KF(ns:List Nd)(s:Int):List (List UInt8):=(ns.filter fun n=>decide (n.o=s)).map Nd.p
def NK(z:Int)(ns:List Nd)(ps:List (List UInt8)):List Nd:=ps.foldl (rmN z) ns
def AO0(ps:List (List UInt8)):List Ev:=ps.flatMap fun p=>[⟨2,p⟩,⟨4,BU p⟩]
def VB(ns:List Nd):Bool:=ns.any fun n=>decide (2147483647<n.k)
def A12(x:AQ):Nd:=⟨x.p,x.d,x.z,x.z,x.z,0,0,x.w,0⟩
noncomputable def SI(t:Tr)(x:AQ):Int:=
 if QC t=false then 3 else if gdE x≠0 then gdE x else if x.z<=t.z then 13 else if x.o=1/\x.s∈t.ss then 8 else if x.o≠1/\x.s∉t.ss then 12 else 0
def AA0(t:Tr)(x:AQ):Int:=if(H7 t.ns x.p).isSome=true then 8 else(match H7 t.ns (BU x.p)with
 |none=>7
 |some u=>if u.o≠0 then 11 else if x.w≠0/\x.w≠x.s then 12 else if t.ns.length=400 then 6 else 0)
def B89(t:Tr)(x:AQ):Int:=match H7 t.ns x.p with
 |none=>7
 |some n=>if n.n≠0 then 10 else 0
def C74(t:Tr)(x:AQ):Int:=match H7 t.ns x.p with
 |none=>7
 |some n=>if x.v≠n.v+1 then 9 else 0
def iH(t:Tr)(x:AQ):Int:=if x.o=3 then AA0 t x else if x.o=4 then B89 t x else if x.o=5 then C74 t x else 0
def aJ(t:Tr)(x:AQ):List Nd:=if x.o=2 then NK x.z t.ns (KF t.ns x.s)else if x.o=3 then pW x.z t.ns (A12 x)else if x.o=4 then rmN x.z t.ns x.p else if x.o=5 then AN6 x.p x.d x.v x.z t.ns else t.ns
def lM(t:Tr)(x:AQ):List Int:=if x.o=1 then BU1 t.ss x.s else if x.o=2 then A99 t.ss x.s else t.ss
def lN(t:Tr)(x:AQ):List Ev:=if x.o=2 then AO0 (KF t.ns x.s)else if x.o=3 then [⟨1,x.p⟩,⟨4,BU x.p⟩]else if x.o=4 then [⟨2,x.p⟩,⟨4,BU x.p⟩]else if x.o=5 then [⟨3,x.p⟩]else []
noncomputable def UL(t:Tr)(x:AQ):Int:=if SI t x≠0 then SI t x else if iH t x≠0 then iH t x else if VB (aJ t x)=true then 6 else 0
noncomputable def aX(t:Tr)(x:AQ):Tr:=if UL t x=0 then⟨x.z,aJ t x,lM t x⟩else tr0
noncomputable def VH(t:Tr)(x:AQ):List Ev:=if UL t x=0 then lN t x else []
theorem JY:VB ns=false↔∀n∈ns,n.k<=2147483647:=by
 rw[VB,List.any_eq_false];constructor
 .intro h n hn;have:=h n hn;simp at this;omega
 .intro h n hn;have:=h n hn;simp;omega
theorem jG:VB ns=true↔∃n∈ns,2147483647<n.k:=by
 rw[VB,List.any_eq_true];constructor
 .rintro⟨n,hn,h⟩;exact⟨n,hn,by simpa using h⟩
 .rintro⟨n,hn,h⟩;exact⟨n,hn,by simpa using h⟩
structure C94(s:Int)(cur:List Nd)(ps:List (List UInt8)):Prop where
 s0:s≠0
 nd:ps.Nodup
 there:∀p∈ps,∃n∈cur,n.p=p/\n.o=s
theorem BP3(h:n∈rmN z ns p):∃m∈ns,m.p≠p/\n=(if m.p=BU p then bump z (-1) m else m):=by
 rw[rmN,JR]at h;obtain⟨m,hm,rfl⟩:=List.mem_map.1 h;rw[vY]at hm;obtain⟨h1,h2⟩:=List.mem_filter.1 hm;exact⟨m,h1,by simpa using h2,rfl⟩
theorem AO1{m:Nd}(h:m∈ns)(hp:m.p≠p):(if m.p=BU p then bump z (-1) m else m)∈rmN z ns p:=by
 rw[rmN,JR];exact List.mem_map.2 ⟨m,by rw[vY];exact List.mem_filter.2 ⟨h,by simpa using hp⟩,rfl⟩
theorem AO2(q:List UInt8)(z more:Int)(n:Nd):(if n.p=q then bump z more n else n).o=n.o:=by split<;>rfl
theorem BP4(q:List UInt8)(z more:Int)(n:Nd):(if n.p=q then bump z more n else n).d=n.d:=by split<;>rfl
theorem BP5(q:List UInt8)(z more:Int)(n:Nd):(if n.p=q then bump z more n else n).v=n.v:=by split<;>rfl
theorem C95(q:List UInt8)(z more:Int)(n:Nd):n.k<=(if n.p=q then bump z more n else n).k:=by
 split
 .show n.k<=n.k+1;omega
 .exact Int.le_refl _
theorem pX{cur:List Nd}(g:LJ z cur ss)(R:C94 s cur (p::ps)):
  ∃A n B u,FQ cur A n B p/\n.o=s/\n.n=0/\p≠[47]/\DN p=true/\H7 cur (BU p)=some u/\u∈cur/\u.p=BU p/\u.p≠p/\u.o=0/\u.p∉ps/\LJ z (rmN z cur p) ss/\C94 s (rmN z cur p) ps:=by
 obtain⟨n,hn,rfl,ho⟩:=R.there p (by simp);obtain⟨A,B,T⟩:=NY g.asc (XH g.asc hn);have h0:n.o≠0:=by rw[ho];exact R.s0
 have hk:n.n=0:=by
  rcases(g.ok n hn).own with h|⟨_,h⟩
  .exact absurd h h0
  .exact h
 have hr:=C93 g hn h0;obtain⟨u,hu1,hu2,hu3,hu4,hu5⟩:=AN8 g hn hr;refine⟨A,n,B,u,T,ho,hk,hr,(g.ok n hn).path,hu1,hu2,hu3,hu4,hu5,?_,AN9 g T hk hr,R.s0,(List.nodup_cons.1 R.nd).2,?_⟩
 .intro hm;obtain⟨m,hm1,hm2,hm3⟩:=R.there u.p (by simp[hm]);have:m=u:=QD g.asc hm1 hu2 hm2;rw[this,hu5]at hm3;exact R.s0 hm3.symm
 .intro q hq;obtain⟨m,hm1,hm2,hm3⟩:=R.there q (by simp[hq]);have hne:m.p≠n.p:=by
   rw[hm2];rintro rfl;exact(List.nodup_cons.1 R.nd).1 hq
  exact⟨_,AO1 hm1 hne,by rw[VG];exact hm2,by rw[AO2];exact hm3⟩
theorem jH(g:LJ z ns ss)(h:s≠0):C94 s ns (KF ns s):=by
 refine⟨h,?_,fun p hp=>?_⟩
 .have h1:(ns.filter fun n=>decide (n.o=s)).Pairwise fun a b=>bl a.p b.p=true:=g.asc.filter _;rw[List.Nodup,KF,List.pairwise_map];exact h1.imp fun h=>PZ h
 .obtain⟨n,hn,rfl⟩:=List.mem_map.1 hp;obtain⟨h1,h2⟩:=List.mem_filter.1 hn;exact⟨n,h1,rfl,by simpa using h2⟩
theorem jI:∀ (ps:List (List UInt8)) (cur:List Nd),LJ z cur ss->C94 s cur ps->LJ z (NK z cur ps) ss
 |[],_,g,_=>g
 |p::ps,cur,g,R=>by
  obtain⟨_,_,_,_,_,_,_,_,_,_,_,_,_,_,_,g',R'⟩:=pX g R;exact jI ps (rmN z cur p) g' R'
theorem pY:∀ (ps:List (List UInt8)) (cur:List Nd) (n:Nd),n∈NK z cur ps->∃m∈cur,m.p=n.p/\m.o=n.o/\m.d=n.d/\m.v=n.v/\m.p∉ps
 |[],cur,n,h=>⟨n,h,rfl,rfl,rfl,rfl,by simp⟩
 |p::ps,cur,n,h=>by
  obtain⟨m,h1,h2,h3,h4,h5,h6⟩:=pY ps (rmN z cur p) n h;obtain⟨m',h1',hne,rfl⟩:=BP3 h1;rw[VG]at h2 h6;rw[AO2]at h3;rw[BP4]at h4;rw[BP5]at h5;exact⟨m',h1',h2,h3,h4,h5,by simp[hne,h6]⟩
theorem qA:∀ (ps:List (List UInt8)) (cur:List Nd) (m:Nd),m∈cur->m.p∉ps->∃n∈NK z cur ps,n.p=m.p/\n.o=m.o/\n.d=m.d/\n.v=m.v/\m.k<=n.k
 |[],_,m,h,_=>⟨m,h,rfl,rfl,rfl,rfl,Int.le_refl _⟩
 |p::ps,cur,m,h,hp=>by
  simp only[List.mem_cons,not_or]at hp;have h':=AO1 (z:=z) h hp.1;obtain⟨n,h1,h2,h3,h4,h5,h6⟩:=qA ps (rmN z cur p) _ h' (by rw[VG];exact hp.2);exact⟨n,h1,by rw[h2,VG],by rw[h3,AO2],by rw[h4,BP4],by rw[h5,BP5],Int.le_trans (C95 _ _ _ _) h6⟩
theorem AA1(ps:List (List UInt8))(cur:List Nd)(h:∃u∈cur,u.p∉ps/\2147483647<u.k):VB (NK z cur ps)=true:=by
 obtain⟨u,h1,h2,h3⟩:=h;obtain⟨n,hn,_,_,_,_,hk⟩:=qA (z:=z) ps cur u h1 h2;exact jG.2 ⟨n,hn,by omega⟩
theorem BP6(ha:oQ ns)(hu:u∈ns)(hp:u.p=BU p)(hk:u.k<2147483647)(h:∀n∈ns,n.k<=2147483647):∀n∈rmN z ns p,n.k<=2147483647:=by
 intro n hn;obtain⟨m,hm,_,rfl⟩:=BP3 hn
 split
 .rename_i e
  have:m=u:=QD ha hm hu (by rw[e,hp]);subst this;show m.k+1<=_;omega
 .exact h m hm
theorem AO3(hu:u∈ns)(hp:u.p=BU p)(hne:u.p≠p)(hk:u.k=2147483647)(ps:List (List UInt8))(hps:u.p∉ps):VB (NK z (rmN z ns p) ps)=true:=
 AA1 ps _ ⟨bump z (-1) u,by have:=AO1 (z:=z) hu hne;rwa[if_pos hp]at this,hps,by show 2147483647<u.k+1;omega⟩
theorem vZ(z:Int)(ns:List Nd)(ps:List (List UInt8))(k:Nat):NK z ns ps=NK z (NK z ns (ps.take k)) (ps.drop k):=by
 rw[NK,NK,NK,<-List.foldl_append,List.take_append_drop]
theorem AA2(z:Int)(ns:List Nd){k:Nat}(h:ps[k]?=some p):NK z ns (ps.take (k+1))=rmN z (NK z ns (ps.take k)) p:=by
 rw[NK,List.take_add_one,h,List.foldl_append];rfl
theorem AO4{k:Nat}(h:ps[k]?=some p):AO0 (ps.take (k+1))=AO0 (ps.take k)++[⟨2,p⟩,⟨4,BU p⟩]:=by
 rw[AO0,List.take_add_one,h,List.flatMap_append];rfl
theorem A13(ps:List (List UInt8)):(AO0 ps).length=2*ps.length:=by
 induction ps with
 |nil=>rfl
 |cons p ps ih=>
  rw[AO0]at ih;simp only[AO0,List.flatMap_cons,List.length_append,List.length_cons,List.length_nil,ih];omega
theorem TF(p:List UInt8):(BU p).length<=200:=by
 cases hgb:DN p with
 |false=>rw[XG hgb];simp
 |true=>
  by_cases hr:p=[47]
  .rw[hr,QB];simp
  .obtain⟨a,c,he,hc⟩:=XE hgb;have:=IU hgb;rw[he]at hgb hr this⊢;rw[XF hgb hr hc,C91]
   split
   .simp
   .simp at this;omega
theorem jJ{cur:List Nd}{q:List UInt8}(ha:oQ cur)(T:FQ cur A n B p)(hu:u∈cur)(hq:u.p=q)(hne:u.p≠p):∃A' B',FQ (A++B) A' u B' q:=by
 have hm:u∈A++B:=by rw[<-T.drop,vY];exact List.mem_filter.2 ⟨hu,by simpa using hne⟩
 have hs:oQ (A++B):=ha.sublist (by rw[T.eq];exact(List.Sublist.refl A).append (List.sublist_cons_self n B));rw[<-hq];exact NY hs (XH hs hm)
theorem MI{x:AQ}(h:SI t x=0):NI t/\gdE x=0/\t.z<x.z/\(x.o=1->x.s∉t.ss)/\(x.o≠1->x.s∈t.ss):=by
 unfold SI at h
 split at h
 .omega
 .rename_i h1
  split at h
  .omega
  .rename_i h2
   split at h
   .omega
   .rename_i h3
    split at h
    .omega
    .rename_i h4
     split at h
     .omega
     .rename_i h5
      refine⟨LW.1 (by simpa using h1),by omega,by omega,fun e hm=>h4 ⟨e,hm⟩,fun e=>?_⟩;by_cases hm:x.s∈t.ss
      .exact hm
      .exact absurd ⟨e,hm⟩ h5
theorem lQ{x:AQ}(h:UL t x=0):SI t x=0/\iH t x=0/\VB (aJ t x)=false:=by
 unfold UL at h
 split at h
 .rename_i h1;exact absurd h h1
 .rename_i h1
  split at h
  .rename_i h2;exact absurd h h2
  .rename_i h2
   split at h
   .omega
   .rename_i h3;exact⟨by omega,by omega,by simpa using h3⟩
theorem B90{x:AQ}(h:AA0 t x=0):H7 t.ns x.p=none/\(∃u,H7 t.ns (BU x.p)=some u/\u.o=0)/\(x.w=0\/x.w=x.s)/\t.ns.length≠400:=by
 unfold AA0 at h
 split at h
 .omega
 .rename_i h1
  split at h
  .omega
  .rename_i u hu
   split at h
   .omega
   .rename_i h2
    split at h
    .omega
    .rename_i h3
     split at h
     .omega
     .rename_i h4
      refine⟨by simpa using h1,⟨u,hu,by omega⟩,?_,h4⟩;by_cases e:x.w=0
      .exact .inl e
      .by_cases e':x.w=x.s
       .exact .inr e'
       .exact absurd ⟨e,e'⟩ h3
theorem B91{x:AQ}(h:B89 t x=0):∃n,H7 t.ns x.p=some n/\n.n=0:=by
 unfold B89 at h
 split at h
 .omega
 .rename_i n hn
  split at h
  .omega
  .exact⟨n,hn,by omega⟩
structure Fine(x:AQ):Prop where
 op:1<=x.o/\x.o<=5
 z:0<=x.z/\FU x.z=true
 s:1<=x.s/\x.s<=2147483647
 v:0<=x.v/\x.v<=2147483647
 w:0<=x.w/\x.w<=2147483647
 d:x.d.length<=256
 path:x.o=3\/x.o=4->DN x.p=true/\x.p≠[47]
 CN2:x.o=5->DN x.p=true
 data:x.o≠3->x.o≠5->x.d=[]
theorem WA{x:AQ}(h:gdE x=0):Fine x:=by
 obtain⟨h1,h2,h3,h4⟩:=aU h;obtain⟨n1,n2,n3,n4⟩:=lG.1 h2;have o:=dD.1 h1;have z:=n1;simp only[FU,Bool.and_eq_true,decide_eq_true_eq]at z;refine⟨o,⟨z.1,n1⟩,QV.1 n2,QV.1 n3,QV.1 n4,h3,?_,?_,?_⟩
 .rintro(e|e)
  .simp[fmB,e]at h4;exact⟨h4.1.1,h4.1.2⟩
  .simp[fmB,e]at h4;exact⟨h4.1.1.1.1,h4.1.1.1.2⟩
 .intro e;simp[fmB,e]at h4;exact h4.1
 .intro e3 e5;by_cases e4:x.o=4
  .simp[fmB,e4]at h4;exact h4.1.1.2
  .simp[fmB,e3,e4,e5]at h4;exact h4.1.1.2
theorem XJ{x:AQ}(h:UL t x=0):NI (aX t x)/\(aX t x).z=x.z/\t.z<x.z:=by
 obtain⟨ha,hc,hf⟩:=lQ h;obtain⟨g,hg,hz,h1,h2⟩:=MI ha;have f:=WA hg;have hs:=g.ses;have gn:LJ x.z t.ns t.ss:=g.nod.mono (by omega);rw[aX,if_pos h];refine⟨⟨f.z.2,?_,?_,JY.1 hf⟩,rfl,hz⟩
 .show lK (lM t x);rw[lM]
  split
  .rename_i e;exact A10 hs f.s (h1 e)
  .split
   .exact AN7 _ hs
   .exact hs
 .show LJ x.z (aJ t x) (lM t x);rw[aJ,lM];by_cases e1:x.o=1
  .rw[if_neg (by omega),if_neg (by omega),if_neg (by omega),if_neg (by omega),if_pos e1];exact gn.more (fun n _ _ h=>B86 h)
  .rw[if_neg e1];have hm:=h2 e1;by_cases e2:x.o=2
   .rw[if_pos e2,if_pos e2];have R:=jH gn (s:=x.s) (by have:=f.s;omega);refine(jI _ _ gn R).more (fun n hn h0 hi=>?_);rw[A99];refine List.mem_filter.2 ⟨hi,?_⟩;simp only[decide_eq_true_eq];intro e;obtain⟨m,hm1,hm2,hm3,_,_,hm4⟩:=pY _ _ n hn
    apply hm4
    rw[KF];exact List.mem_map.2 ⟨m,List.mem_filter.2 ⟨hm1,by simp only[decide_eq_true_eq];rw[hm3,e]⟩,rfl⟩
   .rw[if_neg e2,if_neg e2];by_cases e3:x.o=3
    .rw[if_pos e3];rw[iH,if_pos e3]at hc;obtain⟨c1,⟨u,c2,c3⟩,c4,c5⟩:=B90 hc;obtain⟨A,B,G⟩:=vX g.nod.asc c1;obtain⟨p1,p2⟩:=f.path (.inl e3);have hu:=UK c2;refine A11 (x:=A12 x) gn G (by have:=g.nod.few;omega) p1 p2 ⟨u,hu.1,hu.2,c3⟩ f.d f.z.1 rfl rfl rfl rfl rfl rfl ?_;rcases c4 with c|c
     .exact .inl c
     .exact .inr (by show x.w∈t.ss;rw[c];exact hm)
    .rw[if_neg e3];by_cases e4:x.o=4
     .rw[if_pos e4];rw[iH,if_neg e3,if_pos e4]at hc;obtain⟨n,c1,c2⟩:=B91 hc;obtain⟨A,B,T⟩:=NY g.nod.asc c1;exact AN9 gn T c2 (f.path (.inr e4)).2
     .rw[if_neg e4];by_cases e5:x.o=5
      .rw[if_pos e5];exact B88 gn x.p x.d x.v f.d f.v (fun n hn=>by have k:=g.nod.ok n hn;have:=k.cm;have:=k.mz;omega)
      .have:=f.op;omega
def IE(n:Nd):List Value:=[S0 n.p,S0 n.d,I0 n.c,I0 n.m,I0 n.q,I0 n.v,I0 n.k,I0 n.o,I0 n.n]
def BV3(n:Nd):Value:=.agg #[I0 n.c,I0 n.m,I0 n.q,I0 n.v,I0 n.k,I0 n.o,I0 n.n]
def PS(n:Nd):Value:=.agg #[S0 n.p,S0 n.d,I0 n.c,I0 n.m,I0 n.q,I0 n.v,I0 n.k,I0 n.o,I0 n.n]
instance layN:Lay Nd:=⟨9,IE,96,fun _=>rfl,fun x u hu=>by simp[IE]at hu;rcases hu with rfl|rfl|rfl|rfl|rfl|rfl|rfl|rfl|rfl<;>rfl⟩
theorem BL.nd(h:BL w b off (AO xs))(hi:xs[i]?=some x)(c:Nat)(hc:c<9):∀v,(IE x)[c]?=some v->w.cell? ⟨b,off+i*9+c,none⟩=some v:=fun v hv=>by
 rw[Nat.add_assoc];exact h (i*9+c) v ((AZ xs i x hi c hc).trans hv)
theorem BL.n0(h:BL w b off (AO xs))(hi:xs[i]?=some x):w.cell? ⟨b,off+i*9,none⟩=some (S0 x.p):=h.nd hi 0 (by omega) _ rfl
theorem BL.n1(h:BL w b off (AO xs))(hi:xs[i]?=some x):w.cell? ⟨b,off+i*9+1,none⟩=some (S0 x.d):=h.nd hi 1 (by omega) _ rfl
theorem BL.n2(h:BL w b off (AO xs))(hi:xs[i]?=some x):w.cell? ⟨b,off+i*9+2,none⟩=some (I0 x.c):=h.nd hi 2 (by omega) _ rfl
theorem BL.n3(h:BL w b off (AO xs))(hi:xs[i]?=some x):w.cell? ⟨b,off+i*9+3,none⟩=some (I0 x.m):=h.nd hi 3 (by omega) _ rfl
theorem BL.n4(h:BL w b off (AO xs))(hi:xs[i]?=some x):w.cell? ⟨b,off+i*9+4,none⟩=some (I0 x.q):=h.nd hi 4 (by omega) _ rfl
theorem BL.n5(h:BL w b off (AO xs))(hi:xs[i]?=some x):w.cell? ⟨b,off+i*9+5,none⟩=some (I0 x.v):=h.nd hi 5 (by omega) _ rfl
theorem BL.n6(h:BL w b off (AO xs))(hi:xs[i]?=some x):w.cell? ⟨b,off+i*9+6,none⟩=some (I0 x.k):=h.nd hi 6 (by omega) _ rfl
theorem BL.n7(h:BL w b off (AO xs))(hi:xs[i]?=some x):w.cell? ⟨b,off+i*9+7,none⟩=some (I0 x.o):=h.nd hi 7 (by omega) _ rfl
theorem BL.n8(h:BL w b off (AO xs))(hi:xs[i]?=some x):w.cell? ⟨b,off+i*9+8,none⟩=some (I0 x.n):=h.nd hi 8 (by omega) _ rfl
theorem JA(p:List UInt8)(w:World):
  Calls prog 62 #[S0 p] w fun e w'=>
   e=.returned (.tuple #[S0 (BU p),S0 (JH p),I0 (AK4 p)])/\B0 w w':=by
 cases hg:DN p with
 |false=>
  rw[XG hg,A98 hg,A08 hg];exact AP0 p w hg
 |true=>
  by_cases hr:p=[47]
  .subst hr;rw[QB,vV,pU];exact AB0 w
  .obtain⟨a,b,rfl,hb⟩:=XE hg;rw[XF hg hr hb,A97 hg hr hb,AN5 hg hr];exact AA9 a b w hb hg hr
theorem A29(n:Nd)(p:List UInt8)(w:World):
  Calls prog 93 #[PS n,S0 p] w (R0 w (I0 (Lib.compareBytes n.p p))):=by
 unfold PS;go_enter func93,ntmps93;go_wp2_with fail;refine(strings_Compare _ _ _).mono ?_;rintro e w1 ⟨rfl,rfl⟩;go_wp2_with fail;go_ret;exact⟨rfl,AB _ _⟩
def mF(R:List Nd)(p:List UInt8):Bool:=match R with
 |[]=>false
 |f::_=>decide (f.p=p)
theorem AC8(A R:List Nd)(p:List UInt8)(lo:∀a∈A,bl a.p p=true)(hi:∀a∈R,bl a.p p=false)(i:Nat)(h:i<A.length+R.length):∃y,(A++R)[i]?=some y/\bl y.p p=decide (i<A.length):=by
 by_cases h1:i<A.length
 .refine⟨A[i],by rw[List.getElem?_append_left h1,List.getElem?_eq_getElem h1],?_⟩;rw[lo _ (List.getElem_mem h1)];simp[h1]
 .have h2:i-A.length<R.length:=by omega
  refine⟨R[i-A.length],by rw[List.getElem?_append_right (by omega),List.getElem?_eq_getElem h2],?_⟩;rw[hi _ (List.getElem_mem h2)];simp[h1]
theorem BB6(b off cap:Nat)(A R:List Nd)(p:List UInt8)(w:World)(hcap:A.length+R.length<=100000)(hb:b<w.heap.size)(h:BL w b off (AO (A++R)))
  (lo:∀a∈A,bl a.p p=true) (hi:∀a∈R,bl a.p p=false):
  Calls prog 92 #[.slice (some ⟨b,off,none⟩) (A.length+R.length) cap,S0 p,.func (.func 93) #[] #[]] w fun e w'=>
   e=.returned (.tuple #[I0 A.length,.bool (mF R p)])/\B0 w w':=by
 have H:=AA h;have SG:=AA (AC8 A R p lo hi);obtain⟨fin,hfin⟩:∃x,mF R p=x:=⟨_,rfl⟩;have HF:=AA hfin;rw[hfin];clear h hfin lo hi;go_enter func92,ntmps92;go_wp2_with fail
 go_loopg [9,10] (A.length+R.length) (fun kx s9 s10 wr=>∃lo hi:Nat,s9=I0 lo/\s10=I0 hi/\lo<=A.length/\A.length<=hi/\hi<=A.length+R.length/\hi-lo<=kx/\Hid (B0 w wr))
 case atStart=>exact⟨0,A.length+R.length,rfl,rfl,Nat.zero_le _,by omega,Nat.le_refl _,by omega,AA (Below.refl _ _)⟩
 case round=>
  obtain⟨lo,hi,rfl,rfl,h1,h2,h3,hg,hB⟩:=hrel;by_cases hlt:lo<hi
  .obtain⟨y,hy,hyn⟩:=A8 SG ((lo+hi)/2) (by omega);have HY:=AA hyn;have r:=(A8 H).kept (A8 hB) hb;have e0:=r.n0 hy;have e1:=r.n1 hy;have e2:=r.n2 hy;have e3:=r.n3 hy;have e4:=r.n4 hy;have e5:=r.n5 hy;have e6:=r.n6 hy;have e7:=r.n7 hy;have e8:=r.n8 hy;clear hyn hy r;have hc:=A04 y.p p;rw[A8 HY]at hc;have CM:=fun W=>A29 y p W;generalize Lib.compareBytes y.p p=cv at hc CM;by_cases hm:(lo+hi)/2<A.length
   .have hn:cv<0:=by simpa [hm]using hc
    clear hc;go_wp2_with fail;refine(CM _).mono ?_;rintro e w1 ⟨rfl,hb1⟩;have hB2:B0 w w1:=(A8 hB).trans (hb1.mono (A8 hB).size);clear CM;go_wp2_with fail
    go_roundg (hi-((lo+hi)/2+1))
    case measure=>omega
    case rel=>exact⟨(lo+hi)/2+1,hi,by rw[show ((lo:Int)+(hi:Int))/2+1=(((lo+hi)/2+1:Nat):Int) by omega],rfl,by omega,h2,h3,Nat.le_refl _,AA hB2⟩
   .have hn:¬cv<0:=by simpa [hm]using hc
    clear hc;go_wp2_with fail;refine(CM _).mono ?_;rintro e w1 ⟨rfl,hb1⟩;have hB2:B0 w w1:=(A8 hB).trans (hb1.mono (A8 hB).size);clear CM;go_wp2_with fail
    go_roundg ((lo+hi)/2-lo)
    case measure=>omega
    case rel=>exact⟨lo,(lo+hi)/2,rfl,by rw[show ((lo:Int)+(hi:Int))/2=(((lo+hi)/2:Nat):Int) by omega],h1,by omega,by omega,Nat.le_refl _,AA hB2⟩
  .obtain rfl:lo=A.length:=by omega
   obtain rfl:hi=A.length:=by omega
   cases R with
   |nil=>
    go_wp2_with fail
    go_ret2
    exact⟨by rw[<-A8 HF];rfl,A8 hB⟩
   |cons f R=>
    have r:=(A8 H).kept (A8 hB) hb;have hy:(A++f::R)[A.length]?=some f:=by simp
    have e0:=r.n0 hy;have e1:=r.n1 hy;have e2:=r.n2 hy;have e3:=r.n3 hy;have e4:=r.n4 hy;have e5:=r.n5 hy;have e6:=r.n6 hy;have e7:=r.n7 hy;have e8:=r.n8 hy;clear hy r;have hc:=aV f.p p;have CM:=fun W=>A29 f p W;have hf:fin=decide (f.p=p):=(A8 HF).symm;rw[<-hc]at hf;clear hc HF;generalize Lib.compareBytes f.p p=cv at hf CM;subst hf;simp only[List.length_cons];go_wp2_with fail;refine(CM _).mono ?_;rintro e w1 ⟨rfl,hb1⟩;have hB2:B0 w w1:=(A8 hB).trans (hb1.mono (A8 hB).size);clear CM;go_wp2_with fail
    go_ret2
    exact⟨by rfl,hB2⟩
theorem AR8(a:Option Addr)(cap:Nat)(p:List UInt8)(w:World):
  Calls prog 92 #[.slice a 0 cap,S0 p,.func (.func 93) #[] #[]] w fun e w'=>
   e=.returned (.tuple #[I0 0,.bool false])/\B0 w w':=by
 go_enter func92,ntmps92;go_wp2_with fail
 go_loopg [9,10] 1 (fun _ s9 s10 wr=>s9=I0 0/\s10=I0 0/\Hid (B0 w wr))
 case atStart=>exact⟨rfl,rfl,AA (Below.refl _ _)⟩
 case round=>
  obtain⟨rfl,rfl,hB⟩:=hrel;go_wp2_with fail
  go_ret2
  exact⟨rfl,A8 hB⟩
theorem eH(v:Value)(ns A R:List Nd)(p:List UInt8)(w:World)(hv:BQ w v ns)(hl:ns.length<=100000)(he:ns=A++R)(lo:∀a∈A,bl a.p p=true)(hi:∀a∈R,bl a.p p=false):
  Calls prog 63 #[v,S0 p] w (R0 w (.tuple #[I0 A.length,.bool (mF R p)])):=by
 have C:∀W:World,B0 w W->Calls prog 92 #[v,S0 p,.func (.func 93) #[] #[]] W fun e w'=>
   e=.returned (.tuple #[I0 A.length,.bool (mF R p)])/\B0 W w':=fun W hW=>by
  rcases hv with⟨a,cap,rfl,h0,_⟩|⟨b,off,cap,rfl,_,_,hb,_,hr⟩
  .rw[h0]at he;obtain⟨rfl,rfl⟩:A=[]/\R=[]:=by
    have:=congrArg List.length he;simp at this;exact⟨List.eq_nil_of_length_eq_zero (by omega),List.eq_nil_of_length_eq_zero (by omega)⟩
   exact AR8 a cap p W
  .subst he;rw[List.length_append];exact BB6 b off cap A R p W (by simpa using hl) (Nat.lt_of_lt_of_le hb hW.size) (hr.kept hW hb) lo hi
 have C':=AA C;obtain⟨a,c,rfl⟩:=AU hv;clear C hv hl he lo hi;generalize mF R p=hd at C'⊢;go_enter func63,ntmps63;go_wp2_with fail;refine(A8 C' _ (Below.refl _ _)).mono ?_;rintro e w1 ⟨rfl,hb1⟩;go_wp2_with fail
 go_ret2
 exact⟨rfl,hb1⟩
theorem FB(v:Value)(ns A B:List Nd)(f:Nd)(p:List UInt8)(w:World)(hv:BQ w v ns)(hl:ns.length<=100000)(T:FQ ns A f B p):
  Calls prog 63 #[v,S0 p] w (R0 w (.tuple #[I0 A.length,.bool true])):=by
 have:=eH v ns A (f::B) p w hv hl T.eq T.lo (fun a ha=>by
  rcases List.mem_cons.1 ha with rfl|h
  .rw[T.nm];exact MQ _
  .exact JW (T.hi a h))
 rwa[show mF (f::B) p=true from by simp[mF,T.nm]]at this
theorem JB(v:Value)(ns A B:List Nd)(p:List UInt8)(w:World)(hv:BQ w v ns)(hl:ns.length<=100000)(G:jE ns A B p):
  Calls prog 63 #[v,S0 p] w (R0 w (.tuple #[I0 A.length,.bool false])):=by
 have:=eH v ns A B p w hv hl G.eq G.lo (fun a ha=>JW (G.hi a ha));rwa[show mF B p=false from by
  cases B with
  |nil=>rfl
  |cons f B=>have:=PZ (G.hi f (by simp));simp[mF,this.symm]]at this
theorem qW(v:Value)(ns:List Nd)(p:List UInt8)(w:World)(hv:BQ w v ns)(hl:ns.length<=100000)(ha:oQ ns):
  ∃i:Nat,i<=ns.length/\Calls prog 63 #[v,S0 p] w (R0 w (.tuple #[I0 i,.bool (H7 ns p).isSome])):=by
 rcases VF p ns ha with⟨A,n,B,T⟩|⟨A,B,G⟩
 .rw[T.look];exact⟨A.length,by rw[T.eq];simp,FB v ns A B n p w hv hl T⟩
 .rw[G.look];exact⟨A.length,by rw[G.eq];simp,JB v ns A B p w hv hl G⟩
theorem BB7(x:Int)(w:World):Calls prog 165 #[I0 x] w fun e w'=>e=.returned (.bool false)/\w'=w:=by
 go_enter func165,ntmps165
 go_wp2
 go_ret;exact⟨rfl,rfl⟩
theorem BB8(x:Int)(w:World):Calls prog 121 #[I0 x] w fun e w'=>e=.returned (.bool false)/\w'=w:=by
 go_enter func121,ntmps121
 go_wp2
 go_ret;exact⟨rfl,rfl⟩
theorem AR9(x y:Int)(w:World):Calls prog 120 #[I0 x,I0 y] w fun e w'=>e=.returned (.bool (decide (x<y)))/\w'=w:=by
 go_enter func120,ntmps120;go_wp2_with fail;refine(BB7 _ _).mono ?_;rintro e w1 ⟨rfl,rfl⟩;go_wp2_with fail;go_ret;exact⟨rfl,rfl⟩
def AC9(R:List Int)(s:Int):Bool:=match R with
 |[]=>false
 |f::_=>decide (f=s)
theorem AD0(A R:List Int)(s:Int)(lo:∀a∈A,a<s)(hi:∀a∈R,¬a<s)(i:Nat)(h:i<A.length+R.length):∃y,(A++R)[i]?=some y/\decide (y<s)=decide (i<A.length):=by
 by_cases h1:i<A.length
 .refine⟨A[i],by rw[List.getElem?_append_left h1,List.getElem?_eq_getElem h1],?_⟩;simp[h1,lo _ (List.getElem_mem h1)]
 .have h2:i-A.length<R.length:=by omega
  refine⟨R[i-A.length],by rw[List.getElem?_append_right (by omega),List.getElem?_eq_getElem h2],?_⟩;simp only[h1,hi _ (List.getElem_mem h2)]
theorem BW0(b off cap:Nat)(A R:List Int)(s:Int)(w:World)(hcap:A.length+R.length<=281474976710656)(hb:b<w.heap.size)(h:BL w b off (AO (A++R)))
  (lo:∀a∈A,a<s) (hi:∀a∈R,¬a<s):
  Calls prog 83 #[.slice (some ⟨b,off,none⟩) (A.length+R.length) cap,I0 s] w fun e w'=>
   e=.returned (.tuple #[I0 A.length,.bool (AC9 R s)])/\w'=w:=by
 have H:=AA h;have SG:=AA (AD0 A R s lo hi);obtain⟨fin,hfin⟩:∃x,AC9 R s=x:=⟨_,rfl⟩;have HF:=AA hfin;rw[hfin];clear h hfin lo hi;go_enter func83,ntmps83;go_wp2_with fail
 go_loopg [7,8] (A.length+R.length) (fun kx s9 s10 wr=>∃lo hi:Nat,s9=I0 lo/\s10=I0 hi/\lo<=A.length/\A.length<=hi/\hi<=A.length+R.length/\hi-lo<=kx/\wr=w)
 case atStart=>exact⟨0,A.length+R.length,rfl,rfl,Nat.zero_le _,by omega,Nat.le_refl _,by omega,rfl⟩
 case round=>
  obtain⟨lo,hi,rfl,rfl,h1,h2,h3,hg,rfl⟩:=hrel;by_cases hlt:lo<hi
  .obtain⟨y,hy,hyn⟩:=A8 SG ((lo+hi)/2) (by omega);have e0:=(A8 H).i0 hy;clear hy;have CM:=fun W=>AR9 y s W;rw[hyn]at CM;clear hyn;by_cases hm:(lo+hi)/2<A.length
   .simp only[hm,decide_true]at CM;go_wp2_with fail;refine(CM _).mono ?_;rintro e w1 ⟨rfl,rfl⟩;clear CM;go_wp2_with fail
    go_roundg (hi-((lo+hi)/2+1))
    case measure=>omega
    case rel=>exact⟨(lo+hi)/2+1,hi,by rw[show ((lo:Int)+(hi:Int))/2+1=(((lo+hi)/2+1:Nat):Int) by omega],rfl,by omega,h2,h3,Nat.le_refl _,rfl⟩
   .simp only[hm,decide_false]at CM;go_wp2_with fail;refine(CM _).mono ?_;rintro e w1 ⟨rfl,rfl⟩;clear CM;go_wp2_with fail
    go_roundg ((lo+hi)/2-lo)
    case measure=>omega
    case rel=>exact⟨lo,(lo+hi)/2,rfl,by rw[show ((lo:Int)+(hi:Int))/2=(((lo+hi)/2:Nat):Int) by omega],h1,by omega,by omega,Nat.le_refl _,rfl⟩
  .obtain rfl:lo=A.length:=by omega
   obtain rfl:hi=A.length:=by omega
   cases R with
   |nil=>
    go_wp2_with fail
    go_ret2
    exact⟨by rw[<-A8 HF];rfl,rfl⟩
   |cons f R=>
    have e0:=(A8 H).i0 (show (A++f::R)[A.length]?=some f by simp);have hf:decide (f=s)=fin:=A8 HF;clear HF;simp only[List.length_cons];by_cases hfs:f=s
    .subst hfs;simp only[decide_true]at hf;subst hf;go_wp2_with fail
     go_ret2
     exact⟨rfl,rfl⟩
    .simp only[hfs,decide_false]at hf;subst hf;have hq:(f==s)=false:=by simpa using hfs
     clear hfs;go_wp2_with fail;refine(BB8 _ _).mono ?_;rintro e w1 ⟨rfl,rfl⟩;go_wp2_with fail
     go_ret2
     exact⟨rfl,rfl⟩
theorem BB9(a:Option Addr)(cap:Nat)(s:Int)(w:World):
  Calls prog 83 #[.slice a 0 cap,I0 s] w fun e w'=>e=.returned (.tuple #[I0 0,.bool false])/\w'=w:=by
 go_enter func83,ntmps83;go_wp2_with fail
 go_loopg [7,8] 1 (fun _ s9 s10 wr=>s9=I0 0/\s10=I0 0/\wr=w)
 case atStart=>exact⟨rfl,rfl,rfl⟩
 case round=>
  obtain⟨rfl,rfl,rfl⟩:=hrel;go_wp2_with fail
  go_ret2
  exact⟨rfl,rfl⟩
theorem qX(v:Value)(ss A R:List Int)(s:Int)(w:World)(hv:BQ w v ss)(hl:ss.length<=2147483647)(he:ss=A++R)(lo:∀a∈A,a<s)(hi:∀a∈R,¬a<s):
  Calls prog 83 #[v,I0 s] w fun e w'=>e=.returned (.tuple #[I0 A.length,.bool (AC9 R s)])/\w'=w:=by
 rcases hv with⟨a,cap,rfl,h0,_⟩|⟨b,off,cap,rfl,_,_,hb,_,hr⟩
 .rw[h0]at he;obtain⟨rfl,rfl⟩:A=[]/\R=[]:=by
   have:=congrArg List.length he;simp at this;exact⟨List.eq_nil_of_length_eq_zero (by omega),List.eq_nil_of_length_eq_zero (by omega)⟩
  exact BB9 a cap s w
 .subst he;rw[List.length_append];exact BW0 b off cap A R s w (by simp at hl;omega) hb hr lo hi
theorem qY(v:Value)(ss A B:List Int)(s:Int)(w:World)(hv:BQ w v ss)(hl:ss.length<=2147483647)(T:dI ss A B s):
  Calls prog 83 #[v,I0 s] w fun e w'=>e=.returned (.tuple #[I0 A.length,.bool true])/\w'=w:=by
 have:=qX v ss A (s::B) s w hv hl T.eq T.lo (fun a ha=>by
  rcases List.mem_cons.1 ha with rfl|h
  .omega
  .have:=T.hi a h;omega)
 rwa[show AC9 (s::B) s=true from by simp[AC9]]at this
theorem AS0(v:Value)(ss A B:List Int)(s:Int)(w:World)(hv:BQ w v ss)(hl:ss.length<=2147483647)(G:BU2 ss A B s):
  Calls prog 83 #[v,I0 s] w fun e w'=>e=.returned (.tuple #[I0 A.length,.bool false])/\w'=w:=by
 have:=qX v ss A B s w hv hl G.eq G.lo (fun a ha=>by have:=G.hi a ha;omega);rwa[show AC9 B s=false from by
  cases B with
  |nil=>rfl
  |cons f B=>exact decide_eq_false (by have:=G.hi f (by simp);omega)]at this
theorem XY(z:Int)(vn vs:Value)(ss:List Int)(s:Int)(w:World)(hv:BQ w vs ss)(hs:lK ss):
  Calls prog 55 #[.agg #[I0 z,vn,vs],I0 s] w (R0 w (.bool (decide (s∈ss)))):=by
 have C:∀W:World,B0 w W->∃i:Nat,Calls prog 83 #[vs,I0 s] W fun e w'=>e=.returned (.tuple #[I0 i,.bool (decide (s∈ss))])/\w'=W:=fun W hW=>by
  rcases pV s ss hs.1 with⟨A,B,T⟩|⟨A,B,G⟩
  .rw[show decide (s∈ss)=true from decide_eq_true T.mem];exact⟨A.length,qY vs ss A B s W (hv.next hW) (NZ hs) T⟩
  .rw[show decide (s∈ss)=false from decide_eq_false G.not];exact⟨A.length,AS0 vs ss A B s W (hv.next hW) (NZ hs) G⟩
 have C':=AA C;obtain⟨a,c,rfl⟩:=AU hv;clear C hv hs;generalize decide (s∈ss)=hd at C'⊢;generalize ss.length=n at C'⊢;go_enter func55,ntmps55;go_wp2_with fail;obtain⟨i,C2⟩:=A8 C' _ (AB _ _);refine C2.mono ?_;rintro e w1 ⟨rfl,rfl⟩;go_wp2_with fail;go_ret;exact⟨rfl,AB _ _⟩
theorem qZ(w:World){o:Oper}{a:Act}{K:Act->World->Prop}{Q:Exit->Act->World->Prop}(d s:Operand)(t t':TypeId)
  (ho:o.op=.call {callee:=.builtin .copy,args:=#[d,s],argTypes:=#[t,t']}) (v u:Value) (hd:a.eval d=v) (hs:a.eval s=u) {v':Value} {w':World}
  (hr:(Builtin.copy_ #[t,t'] o.type #[v,u]).run prog w=.ok v' w') (h:K (a.put o.dst v') w'):o.wp prog a w K Q:=by
 unfold Oper.wp execOp;simp only[ho,resolve,invoke,builtin,Sem.run_bind,Sem.run_pure,Result.andThen_ok,List.map_toArray,List.map_cons,List.map_nil,hd,hs,hr];exact h
theorem GI(w:World){ops:Array Oper}{rest:List Oper}{o:Oper}{a:Act}{Q:Exit->Act->World->Prop}(hgd:o.guard=none)(d s:Operand)(t t':TypeId)
  (ho:o.op=.call {callee:=.builtin .copy,args:=#[d,s],argTypes:=#[t,t']}) (v u:Value) (hd:a.eval d=v) (hs:a.eval s=u) {v':Value} {w':World}
  (hr:(Builtin.copy_ #[t,t'] o.type #[v,u]).run prog w=.ok v' w') (h:wpList prog ops Q rest (a.put o.dst v') w'):wpList prog ops Q (o::rest) a w:=
 wpList_plain hgd fun _ hK=>qZ w d s t t' ho v u hd hs hr (hK _ _ h)
theorem IZ{ops:Array Oper}{o:Oper}{a:Act}{w:World}{K:Act->World->Prop}{Q:Exit->Act->World->Prop}{E:Prop}
  (hg:o.guard=none) (d x:Operand) (dT sT:TypeId) (hop:o.op=Op.call {callee:=Callee.builtin Builtin.copy,args:=#[d,x],argTypes:=#[dT,sT]})
  (v u:Value) (hd:a.eval d=v) (hx:a.eval x=u) {v':Value} {w':World} (hr:(Builtin.copy_ #[dT,sT] o.type #[v,u]).run prog w=.ok v' w') (hK:K (a.put o.dst v') w'):
  if Region.wanted o (yielded ops a.tmps)=true then Oper.wp prog o a w K Q else E:=by
 have hw:Region.wanted o (yielded ops a.tmps)=true:=by simp[Region.wanted,hg]
 rw[if_pos hw];unfold Oper.wp;simp[execOp,hop,resolve,invoke,builtin,hd,hx,hr,Result.andThen];exact hK
theorem EG(ns:List Nd):(AO ns).length=ns.length*9:=BA ns
theorem DY.mG{pre tl:List Nd}(h:DY W g cap (pre++tl))(new:List Nd)(hfit:pre.length+new.length<=cap):DY (W.setCells g (pre.length*9) (AO new)) g cap (pre++new):=h.splice new hfit
theorem DY.CA5{fs:List Nd}(h:DY W g cap fs)(vs:List Value)(o:Nat)(ho:fs.length*9<=o)(hfit:o+vs.length<=cap*9):DY (W.setCells g o vs) g cap fs:=h.spare vs o ho hfit
theorem DY.CN6{y:Nd}(h:DY W g cap (A++y::B))(x:Nd):DY (W.setCells g (A.length*9) (IE x)) g cap (A++x::B):=h.qJ x
theorem DY.AD1{fs:List Nd}(h:DY W g cap fs){j:Nat}(hj:j<cap*9):(W.cell? ⟨g,j,none⟩).isSome=true:=h.some hj
theorem DY.mJ{pre tl:List Int}(h:DY W g cap (pre++tl))(new:List Int)(hfit:pre.length+new.length<=cap):DY (W.setCells g pre.length (AO new)) g cap (pre++new):=by
 have:=h.splice new hfit;rwa[show pre.length*Lay.k Int=pre.length from Nat.mul_one _]at this
theorem DY.CA6{fs:List Int}(h:DY W g cap fs)(vs:List Value)(o:Nat)(ho:fs.length<=o)(hfit:o+vs.length<=cap):DY (W.setCells g o vs) g cap fs:=
 h.spare vs o (by rw[show fs.length*Lay.k Int=fs.length from Nat.mul_one _];exact ho) (by rw[show cap*Lay.k Int=cap from Nat.mul_one _];exact hfit)
theorem DY.CN7{A B:List Int}{y:Int}(h:DY W g cap (A++y::B))(x:Int):DY (W.setCells g A.length [I0 x]) g cap (A++x::B):=by
 have:=h.qJ x;rwa[show A.length*Lay.k Int=A.length from Nat.mul_one _]at this
theorem DY.AD2{fs:List Int}(h:DY W g cap fs){j:Nat}(hj:j<cap):(W.cell? ⟨g,j,none⟩).isSome=true:=h.some (by rw[show cap*Lay.k Int=cap from Nat.mul_one _];exact hj)
theorem CA7:(prog.info? 96).map (fun i=>(i.zero,i.size,i.bytes))=some (some (.agg #[.string ⟨#[]⟩,.string ⟨#[]⟩,I0 0,I0 0,I0 0,I0 0,I0 0,I0 0,I0 0]),9,88):=by kernel_rfl
theorem AD3:∃i0,prog.info? 96=some i0/\i0.zero=some (.agg #[.string ⟨#[]⟩,.string ⟨#[]⟩,I0 0,I0 0,I0 0,I0 0,I0 0,I0 0,I0 0])/\i0.size=9/\i0.bytes=88:=by
 obtain⟨i0,h,e⟩:=Option.map_eq_some_iff.1 CA7;simp only[Prod.mk.injEq]at e;exact⟨i0,h,e⟩
def TM:List Value:=[.string ⟨#[]⟩,.string ⟨#[]⟩,I0 0,I0 0,I0 0,I0 0,I0 0,I0 0,I0 0]
theorem BW1(w:World)(ty:TypeId)(b o c:Nat)(hc:∀j,j<9->(w.cell? ⟨b,o+j,none⟩).isSome=true)(hf:∀j,j<9->w.frozen? ⟨b,o+j,none⟩=false):
  (Builtin.clear_ #[37] ty #[.slice (some ⟨b,o,none⟩) 1 c]).run prog w=.ok (.tuple #[]) (w.setCells b o TM):=by
 have hzc:(Builtin.zeroCells (Value.agg #[.string ⟨#[]⟩,.string ⟨#[]⟩,I0 0,I0 0,I0 0,I0 0,I0 0,I0 0,I0 0]).cells 1).toList=TM:=by kernel_rfl
 have hst:=run_storeCells_cells (P:=prog) b o TM 0 w (by simpa [TM]using hc) (by simpa [TM]using hf) (by simp[TM,Value.oneCell']);simp only[Nat.add_zero]at hst;simp[Builtin.clear_,run_underlying underlying37,hzc,hst]
theorem xA(g cap:Nat)(A B:List Nd)(f:Nd)(n:Nat)(w:World)(ho:DY w g cap (A++f::B))(hn:n=A.length+B.length+1)(hsm:n<=400):
  Calls prog 90 #[.slice (some ⟨g,0,none⟩) n cap,I0 A.length,I0 (A.length+1:Nat)] w fun e w'=>
   e=.returned (.slice (some ⟨g,0,none⟩) (A.length+B.length) cap)/\DY w' g cap (A++B)/\w.grownBy w' (some g):=by
 obtain⟨i0,hi0,hz0,hz1,hz2⟩:=AD3;have hle:=ho.le;have hcl:=ho.capLe;simp only[maxLen]at hcl;rw[List.length_append,List.length_cons]at hle;have hrow:=ho.row;obtain⟨AD,hAD,hsrc⟩:∃AD:Addr,(if cap=A.length+1 then some (⟨g,0,none⟩:Addr)else some ⟨g,(A.length+1)*9,none⟩)=some AD/\Hid (∀t u,(AO B)[t]?=some u->w.drew.cell? (AD.add t)=some u):=by
  by_cases h:cap=A.length+1
  .refine⟨⟨g,0,none⟩,by simp[h],fun t u hu=>?_⟩;have h0:B=[]:=List.eq_nil_of_length_eq_zero (by omega);rw[h0]at hu;simp[OG]at hu
  .refine⟨⟨g,(A.length+1)*9,none⟩,by simp[h],fun t u hu=>?_⟩;rw[Addr.add_lit];have:=hrow ((A.length+1)*9+t) u (by
    rw[BH,List.getElem?_append_right (by rw[EG];omega),EG,F7,List.getElem?_append_right (by rw[Lay.len];show 9<=_;omega)];rw[Lay.len,<-hu];congr 1;show _-9=_;omega)
   rw[Nat.zero_add]at this;exact this
 have s1:Hid ((AO B).length=B.length*9):=EG B;have s2:Hid (∀u∈AO B,u.oneCell'=true):=EZ B;have s3:Hid (∀t,t<(AO B).length->(w.drew.cell? ⟨g,0+A.length*9+t,none⟩).isSome=true/\w.drew.frozen? ⟨g,0+A.length*9+t,none⟩=false):=by
  intro t ht;rw[EG]at ht;exact⟨ho.AD1 (by omega),ho.frozen _⟩
 obtain⟨W1,hW1⟩:∃W1,W1=w.drew.setCells g (0+A.length*9) (AO B):=⟨_,rfl⟩;have ho1:DY W1 g cap (A++B):=by rw[hW1,Nat.zero_add];exact ho.drew.mG B (by omega)
 have hg1:w.grownBy W1 (some g):=by rw[hW1];have:=BI (g:=g) (AO B) (0+A.length*9) w.drew;exact⟨this.os,this.tape,this.output,this.size,this.block⟩
 have CL8:∀ty c,(Builtin.clear_ #[37] ty #[.slice (some ⟨g,(A.length+B.length)*9,none⟩) 1 c]).run prog W1=.ok (.tuple #[]) (W1.setCells g ((A.length+B.length)*9) TM):=fun ty c=>
  BW1 W1 ty g _ c (fun j hj=>ho1.AD1 (by omega)) (fun j hj=>ho1.frozen _)
 have FIN:Hid (DY (W1.setCells g ((A.length+B.length)*9) TM) g cap (A++B)/\w.grownBy (W1.setCells g ((A.length+B.length)*9) TM) (some g)):=
  ⟨ho1.CA5 TM _ (by rw[List.length_append];omega) (by simp[TM];omega),BZ hg1 (BI _ _ _)⟩
 have hW:Hid (W1=w.drew.setCells g (0+A.length*9) (AO B)):=hW1;have hic:A.length<=cap:=by omega
 have hjc:A.length+1<=cap:=by omega
 have hne:¬ (cap=A.length+B.length):=by omega
 have hb1:(0:Int)<=(A.length:Int)+1:=by omega
 have hb2:(A.length:Int)<=(A.length:Int)+(B.length:Int):=by omega
 have hb3:(0:Int)<=(A.length:Int)+(B.length:Int):=by omega
 have hs1:A.length+B.length+1-(A.length+B.length)=1:=by omega
 clear hW1 ho1 hg1 hrow ho;subst hn;go_enter func90,ntmps90;go_wp2_with fail
 go_region_law (refine step_append_room rfl (.tmp 22) (.tmp 25) 37 rfl 96 i0 9 underlying37 hi0 hz1 g 0 A.length cap (by simp[Act.eval,Act.put]) AD B.length (cap-(A.length+1)) (AO B) (by simp[Act.eval,Act.put]) s1.out hsrc.out s2.out (by omega) s3.out ?_;rw[<-hW.out])
 go_wp2
 go_ret;exact⟨rfl,FIN.out⟩
theorem A30(w:World)(ty:TypeId)(b o dLen dCap:Nat)(a:Addr)(sLen sCap:Nat)(cs:List Value)(hn:cs.length=Nat.min sLen dLen*9)
  (hsrc:∀j v,cs[j]?=some v->w.cell? (a.add j)=some v) (hc:∀j,j<cs.length->(w.cell? ⟨b,o+j,none⟩).isSome=true) (hf:∀j,j<cs.length->w.frozen? ⟨b,o+j,none⟩=false) (h1:∀v∈cs,v.oneCell'=true):
  (Builtin.copy_ #[37,37] ty #[.slice (some ⟨b,o,none⟩) dLen dCap,.slice (some a) sLen sCap]).run prog w=.ok (goInt (Nat.min sLen dLen)) (w.setCells b o cs):=by
 have hl:=run_loadCells_list (P:=prog) w a cs hsrc;have hst:=run_storeCells_cells (P:=prog) b o cs 0 w (by simpa using hc) (by simpa using hf) h1;obtain⟨i0,hi0,hz0,hz1,hz2⟩:=AD3;simp[Builtin.copy_,run_underlying underlying37,Builtin.lenOf,Builtin.firstCells,sizeOf,typeInfo,hi0,hz1,<-hn,hl,hst]
theorem xB(v:Value)(A:List Nd)(x:Nd)(B b:Nat)(w:World)(ho:BD w B v A)(hB:B<=w.heap.size)(hl:A.length<=400)(h1:EW w b x):
  Calls prog 87 #[v,I0 A.length,.slice (some ⟨b,0,none⟩) 1 1] w fun e w'=>
   ∃v',e=.returned v'/\BD w' B v' (A++[x])/\w.grownBy w' v.ownBlock/\(v'.ownBlock=v.ownBlock\/v'.ownBlock=some w.heap.size):=by
 obtain⟨i0,hi0,hz0,hz1,hz2⟩:=AD3;have hrow:=ho.row;have HR:=AA hrow;have H1:=AA h1.row;have V:∃a c,v=.slice a A.length c/\A.length<=c:=by
  rcases ho with⟨rfl,rfl⟩|⟨g,cap,rfl,_,h⟩
  .exact⟨none,0,rfl,Nat.le_refl _⟩
  .exact⟨_,cap,rfl,h.le⟩
 obtain⟨a,c,rfl,hc⟩:=V;clear ho hrow h1;rcases Nat.lt_or_ge A.length c with hcl|hcl
 .have hne:¬c=A.length:=by omega
  go_enter func87,ntmps87;go_wp2_with (at_builtin;refine wpList_append_own_at _ rfl _ _ 37 rfl B 96 i0 _ 9 88 underlying37 hi0 hz0 hz1 hz2 rfl (by decide) _ A.length (AO A) rfl (A8 HR) ⟨b,0,none⟩ 1 1 (IE x) rfl (by rfl) ?qc2 ((Lay.one x)) ?qc4 ?qc5 hB ?_)
  case qc2=>
   intro j u hj;rw[Addr.add_lit];exact A8 H1 j u hj
  case qc4=>simp only[maxLen];omega
  case qc5=>omega
  intro v' w1 hown hgrow _ hloc
  go_wp2
  go_ret;exact⟨v',rfl,BD.G8 (by rw[List.length_append,EK];exact hown),hgrow,hloc⟩
 .obtain rfl:c=A.length:=by omega
  go_enter func87,ntmps87;go_wp2_with (at_builtin;refine wpList_append_own_at _ rfl _ _ 37 rfl B 96 i0 _ 9 88 underlying37 hi0 hz0 hz1 hz2 rfl (by decide) _ A.length (AO A) rfl (A8 HR) ⟨b,0,none⟩ 1 1 (IE x) rfl (by rfl) ?qc2 ((Lay.one x)) ?qc4 ?qc5 hB ?_)
  case qc2=>
   intro j u hj;rw[Addr.add_lit];exact A8 H1 j u hj
  case qc4=>simp only[maxLen];omega
  case qc5=>omega
  intro v' w1 hown hgrow _ hloc
  go_wp2
  go_ret;exact⟨v',rfl,BD.G8 (by rw[List.length_append,EK];exact hown),hgrow,hloc⟩
theorem mM(g cap:Nat)(A R:List Nd)(y x:Nd)(n b:Nat)(w:World)(ho:DY w g cap (A++y::R))(hn:n=A.length+R.length+1)(hsm:n<=400)(hroom:n+1<=cap)(h1:EW w b x)(hbg:b≠g):
  Calls prog 87 #[.slice (some ⟨g,0,none⟩) n cap,I0 A.length,.slice (some ⟨b,0,none⟩) 1 1] w fun e w'=>
   e=.returned (.slice (some ⟨g,0,none⟩) (n+1) cap)/\DY w' g cap (A++x::y::R)/\w.grownBy w' (some g):=by
 have hcl:=ho.capLe;simp only[maxLen]at hcl;have hrow:=ho.row;have AR1:w.shape? g=some (96,cap*9):=by
  obtain⟨rest,q1,q2,_⟩:=ho;rw[List.length_append,List.length_cons]at q2;simp[World.shape?,q1,EG];exact⟨rfl,q2⟩
 have AR2:w.shape? b=some (96,9):=by unfold EW at h1;simp[World.shape?,h1];exact⟨rfl,rfl⟩
 have hfb:∀j,w.frozen? ⟨b,j,none⟩=false:=fun j=>by unfold EW at h1;simp[World.frozen?,h1]
 have hov:∀lb cb,(callFunc 124 #[.slice (some ⟨b,0,none⟩) 1 1,.slice (some ⟨g,(A.length+1)*9,none⟩) lb cb]).run prog w=.ok (.value (.bool false)) w:=fun lb cb=>by
  rw[run_callFunc_extern func124 (by kernel_rfl) (by kernel_rfl) (by kernel_rfl) (e:=Extern.SlicesOverlaps.overlaps #[37,37] #[4]) (by kernel_rfl),
   Lib.run_overlaps_apart w 37 4 96 underlying37 9 sizeOf96 ⟨b,0,none⟩ ⟨g,(A.length+1)*9,none⟩ 1 1 lb cb hbg 96 96 9 (cap*9) AR2 AR1 (by omega) (hfb 0) (hfb 9)]
  rfl
 obtain⟨W1,hW1⟩:∃W1,W1=w.drew.setCells g ((A.length+1)*9) (AO (y::R)):=⟨_,rfl⟩;have ho1:DY W1 g cap (A++y::y::R):=by
  have h:DY w.drew g cap ((A++[y])++R):=by rw[List.append_assoc];exact ho
  have:=h.mG (y::R) (by simp;omega);rw[hW1];simpa using this
 have hg1:w.grownBy W1 (some g):=by rw[hW1];have:=BI (g:=g) (AO (y::R)) ((A.length+1)*9) w.drew;exact⟨this.os,this.tape,this.output,this.size,this.block⟩
 have hcp1:∀ty dc sc,(Builtin.copy_ #[37,37] ty #[.slice (some ⟨g,(A.length+1)*9,none⟩) (n-A.length) dc,.slice (some ⟨g,A.length*9,none⟩) (n+1-A.length) sc]).run prog w.drew=.ok (goInt (Nat.min (n+1-A.length) (n-A.length))) W1:=fun ty dc sc=>by
  rw[hW1];exact A30 w.drew ty g _ _ dc ⟨g,A.length*9,none⟩ _ sc (AO (y::R)) (by rw[EG];simp only[Nat.min_def,List.length_cons];split<;>omega)
   (fun j v hj=>by
    rw[Addr.add_lit];have:=hrow (A.length*9+j) v (by rw[BH,List.getElem?_append_right (by rw[EG];omega),EG,Nat.add_sub_cancel_left];exact hj);rw[Nat.zero_add]at this;exact this)
   (fun j hj=>by rw[EG]at hj;exact ho.AD1 (by simp at hj;omega)) (fun j _=>ho.frozen _) (EZ _)
 have hcp2:∀ty dc,(Builtin.copy_ #[37,37] ty #[.slice (some ⟨g,A.length*9,none⟩) (n+1-A.length) dc,.slice (some ⟨b,0,none⟩) 1 1]).run prog W1=.ok (goInt (Nat.min 1 (n+1-A.length))) (W1.setCells g (A.length*9) (IE x)):=fun ty dc=>
  A30 W1 ty g _ _ dc ⟨b,0,none⟩ 1 1 (IE x) (by simp only[Nat.min_def,IE,List.length_cons,List.length_nil];split<;>omega)
   (fun j v hj=>by
    rw[Addr.add_lit];have hb2:W1.heap[b]?=w.heap[b]? :=hg1.block b (by unfold EW at h1;exact(Array.getElem?_eq_some_iff.1 h1).1) (fun e=>hbg (Option.some.inj e));have h2:EW W1 b x:=hb2.trans h1;exact h2.row j v hj)
   (fun j hj=>ho1.AD1 (by simp[IE]at hj;omega)) (fun j _=>ho1.frozen _) ((Lay.one x))
 have FIN:Hid (DY (W1.setCells g (A.length*9) (IE x)) g cap (A++x::y::R)/\w.grownBy (W1.setCells g (A.length*9) (IE x)) (some g)):=
  ⟨ho1.CN6 x,BZ hg1 (BI _ _ _)⟩
 have hin:A.length<n:=by omega
 have BV7:(A.length:Int)<(n:Int):=by omega
 have hw1:IntKind.i64.wrap ((A.length:Int)+1)=(A.length:Int)+1:=by rw[IntKind.wrap_i64];omega
 have hb1:(0:Int)<=(A.length:Int)+1:=by omega
 have hb2:¬ (cap=A.length+1):=by omega
 have hb3:(A.length:Int)<=(n:Int)+1:=by omega
 have hb4:¬ (cap=A.length):=by omega
 have hb5:(A.length:Int)+1<=(n:Int)+1:=by omega
 have hb6:¬ ((cap:Int)<(n:Int)+1):=by omega
 have hz2:¬ ((A.length:Int)=(n:Int)):=by omega
 have htn:((A.length:Int)+1).toNat=A.length+1:=by omega
 clear hW1 ho1 hg1 hrow AR1 AR2 hfb ho h1 hn;go_enter func87,ntmps87;go_wp2_with (simp only[hov])
 go_region_law (refine IZ rfl (.tmp 73) (.tmp 76) 37 37 rfl (.slice (some ⟨g,(A.length+1)*9,none⟩) (n-A.length) (cap-(A.length+1))) (.slice (some ⟨g,A.length*9,none⟩) (n+1-A.length) (cap-A.length)) (by simp[Act.eval,Act.put]) (by simp[Act.eval,Act.put]) (hcp1 _ _ _) ?_)
 go_wp2_with (at_builtin;refine GI _ rfl _ _ 37 37 rfl _ _ rfl rfl (hcp2 _ _) ?_);go_ret;exact⟨rfl,FIN.out⟩
theorem CA8(k:Nat):(Builtin.zeroCells (Value.agg #[.string ⟨#[]⟩,.string ⟨#[]⟩,I0 0,I0 0,I0 0,I0 0,I0 0,I0 0,I0 0]).cells k).size=k*9:=by
 simp[Builtin.zeroCells,Value.cells]
theorem rC(g cap:Nat)(A R:List Nd)(y x:Nd)(n b:Nat)(w:World)(ho:DY w g cap (A++y::R))(hn:n=A.length+R.length+1)(hsm:n<=400)(hroom:cap<n+1)(h1:EW w b x):
  Calls prog 87 #[.slice (some ⟨g,0,none⟩) n cap,I0 A.length,.slice (some ⟨b,0,none⟩) 1 1] w fun e w'=>
   ∃cap',e=.returned (.slice (some ⟨w.heap.size,0,none⟩) (n+1) cap')/\DY w' w.heap.size cap' (A++x::y::R)/\B0 w w':=by
 have hcap:cap=n:=by have:=ho.le;simp at this;omega
 obtain⟨i0,hi0,hz0,hz1,hz2⟩:=AD3;have hrow:=ho.row;have hgw:=ho.lt;have hbw:b<w.heap.size:=by unfold EW at h1;exact(Array.getElem?_eq_some_iff.1 h1).1
 have hold:(Builtin.firstCells i0.size A.length (.slice (some ⟨g,0,none⟩) A.length cap)).run prog w.drew=.ok (AO A).toArray w.drew:=by
  rw[hz1];exact run_firstCells_some w.drew 9 A.length ⟨g,0,none⟩ A.length cap (AO A) (EG A) (fun j v hj=>by
   rw[Addr.add_lit];exact hrow j v (by rw[BH,List.getElem?_append_left (List.getElem?_eq_some_iff.1 hj).1];exact hj))
 obtain⟨G,hG⟩:∃G,G=grownCap w (n+1) cap 96:=⟨_,rfl⟩;have hGn:n+1<=G:=by rw[hG];exact grownCap_ge w _ _ _
 have hGm:G<=maxLen:=by rw[hG];exact grownCap_le_maxLen w (n+1) cap _ (by unfold maxLen;omega)
 have hG63:G<=9223372036854775807:=by have:=hGm;unfold maxLen at this;omega
 obtain⟨ROW,hROW⟩:∃ROW:Array Value,ROW=(AO A).toArray++Builtin.zeroCells (Value.agg #[.string ⟨#[]⟩,.string ⟨#[]⟩,I0 0,I0 0,I0 0,I0 0,I0 0,I0 0,I0 0]).cells (n+1-A.length)++Builtin.zeroCells (Value.agg #[.string ⟨#[]⟩,.string ⟨#[]⟩,I0 0,I0 0,I0 0,I0 0,I0 0,I0 0,I0 0]).cells (G-(n+1)):=⟨_,rfl⟩;obtain⟨W1,hW1⟩:∃W1,W1=w.drew.alloc (.cells ROW 96):=⟨_,rfl⟩;have hik:A.length+(n+1-A.length)=n+1:=by omega
 have hrz:∀ty,(Builtin.append_ #[37,3] ty #[.slice (some ⟨g,0,none⟩) A.length cap,I0 ((n:Int)+1-(A.length:Int))]).run prog w=
   .ok (.slice (some ⟨w.heap.size,0,none⟩) (n+1) G) W1:=fun ty=>by
  have h:=Lib.run_append_grow_zeros w 37 3 ty 96 i0 _ .i64 .i64 underlying37 underlying3 hi0 hz0 (some ⟨g,0,none⟩) A.length cap (AO A) hold (n+1-A.length) (by omega) (by omega) (by omega) (by omega) (by rw[hz2];omega) (by rw[hz2,hik];exact growslice_fits hroom (by omega));rw[hik,<-hG,<-hROW,<-hW1]at h;rw[show (n:Int)+1-(A.length:Int)=((n+1-A.length:Nat):Int) by omega];exact h
 have ho1:DY W1 w.heap.size G A:=by
  refine⟨(Builtin.zeroCells (Value.agg #[.string ⟨#[]⟩,.string ⟨#[]⟩,I0 0,I0 0,I0 0,I0 0,I0 0,I0 0,I0 0]).cells (n+1-A.length)++Builtin.zeroCells (Value.agg #[.string ⟨#[]⟩,.string ⟨#[]⟩,I0 0,I0 0,I0 0,I0 0,I0 0,I0 0,I0 0]).cells (G-(n+1))).toList,?_,?_,by omega,hGm⟩
  .rw[hW1,hROW];have:=heap_alloc_new w.drew (.cells ((AO A).toArray++Builtin.zeroCells (Value.agg #[.string ⟨#[]⟩,.string ⟨#[]⟩,I0 0,I0 0,I0 0,I0 0,I0 0,I0 0,I0 0]).cells (n+1-A.length)++Builtin.zeroCells (Value.agg #[.string ⟨#[]⟩,.string ⟨#[]⟩,I0 0,I0 0,I0 0,I0 0,I0 0,I0 0,I0 0]).cells (G-(n+1))) 96);refine Eq.trans this ?_
   congr 2
   apply Array.toList_inj.1
   simp
  .simp only[show Lay.k Nd=9 from rfl,Array.length_toList,Array.size_append,CA8];omega
 have hB1:B0 w W1:=by rw[hW1];exact((Below.refl _ w).drew).alloc (Nat.le_refl _) _
 obtain⟨W2,hW2⟩:∃W2,W2=W1.setCells w.heap.size (A.length*9) (IE x):=⟨_,rfl⟩;have ho2:DY W2 w.heap.size G (A++[x]):=by
  have h:DY W1 w.heap.size G (A++[]):=by rw[List.append_nil];exact ho1
  have:=h.mG [x] (by simp;omega);rw[hW2];rw[F7,OG,List.append_nil]at this;exact this
 have hg2:W1.grownBy W2 (some w.heap.size):=by rw[hW2];exact BI _ _ _
 have hB2:B0 w W2:=hB1.grown hg2 hB1.size (fun k e=>by cases e;exact Nat.le_refl _);have hcpA:∀ty dc,(Builtin.copy_ #[37,37] ty #[.slice (some ⟨w.heap.size,A.length*9,none⟩) (n+1-A.length) dc,.slice (some ⟨b,0,none⟩) 1 1]).run prog W1=.ok (goInt (Nat.min 1 (n+1-A.length))) W2:=fun ty dc=>by
  rw[hW2];exact A30 W1 ty w.heap.size _ _ dc ⟨b,0,none⟩ 1 1 (IE x) (by simp only[Nat.min_def,IE,List.length_cons,List.length_nil];split<;>omega)
   (fun j v hj=>by rw[Addr.add_lit];exact(show EW W1 b x from(hB1.block b hbw).trans h1).row j v hj)
   (fun j hj=>ho1.AD1 (by simp[IE]at hj;omega)) (fun j _=>ho1.frozen _) ((Lay.one x))
 obtain⟨W3,hW3⟩:∃W3,W3=W2.drew.setCells w.heap.size ((A.length+1)*9) (AO (y::R)):=⟨_,rfl⟩;have hcpB:∀ty dc sc,(Builtin.copy_ #[37,37] ty #[.slice (some ⟨w.heap.size,(A.length+1)*9,none⟩) (n-A.length) dc,.slice (some ⟨g,A.length*9,none⟩) (n-A.length) sc]).run prog W2.drew=.ok (goInt (Nat.min (n-A.length) (n-A.length))) W3:=fun ty dc sc=>by
  rw[hW3];exact A30 W2.drew ty w.heap.size _ _ dc ⟨g,A.length*9,none⟩ _ sc (AO (y::R)) (by rw[EG];simp only[Nat.min_self,List.length_cons];omega)
   (fun j v hj=>by
    rw[Addr.add_lit];have:=hrow (A.length*9+j) v (by rw[BH,List.getElem?_append_right (by rw[EG];omega),EG,Nat.add_sub_cancel_left];exact hj);rw[Nat.zero_add]at this;exact(hB2.cell (p:=⟨g,A.length*9+j,none⟩) hgw).trans this)
   (fun j hj=>by rw[EG]at hj;exact ho2.drew.AD1 (by simp at hj;omega)) (fun j _=>ho2.drew.frozen _) (EZ _)
 have FIN:Hid (DY W3 w.heap.size G (A++x::y::R)/\B0 w W3):=by
  refine⟨?_,?_⟩
  .have h:DY W2.drew w.heap.size G ((A++[x])++[]):=by rw[List.append_nil];exact ho2
   have:=h.mG (y::R) (by simp;omega);rw[hW3];simpa using this
  .rw[hW3];exact hB2.drew.grown (BI _ _ _) hB2.size (fun k e=>by cases e;exact Nat.le_refl _)
 have hin:A.length<n:=by omega
 have BV7:(A.length:Int)<(n:Int):=by omega
 have hw1:IntKind.i64.wrap ((A.length:Int)+1)=(A.length:Int)+1:=by rw[IntKind.wrap_i64];omega
 have hb1:(0:Int)<=(A.length:Int)+1:=by omega
 have hb2:¬ (G=A.length+1):=by omega
 have hb3:(A.length:Int)<=(n:Int)+1:=by omega
 have hb4:¬ (n=A.length):=by omega
 have hb5:(A.length:Int)+1<=(n:Int)+1:=by omega
 have hb6:¬ (G=A.length):=by omega
 have hb7:(A.length:Int)<=(n:Int):=by omega
 have hz3:¬ ((A.length:Int)=(n:Int)):=by omega
 have htn:((A.length:Int)+1).toNat=A.length+1:=by omega
 subst hcap;clear hn hROW hW1 hW2 hW3 hG hrow ho h1 ho1 ho2 hB1 hB2 hg2 hold hik;go_enter func87,ntmps87;go_wp2_with (first
  |(at_builtin;refine Lib.wpList_append_run _ rfl _ _ _ _ rfl _ _ rfl rfl _ _ (hrz _) ?_)
  |(at_builtin;refine GI _ rfl _ _ 37 37 rfl _ _ rfl rfl (hcpA _ _) ?_))
 go_region_law (refine IZ rfl (.tmp 50) (.tmp 53) 37 37 rfl (.slice (some ⟨w.heap.size,(A.length+1)*9,none⟩) (cap-A.length) (G-(A.length+1))) (.slice (some ⟨g,A.length*9,none⟩) (cap-A.length) (cap-A.length)) (by simp[Act.eval,Act.put]) (by simp[Act.eval,Act.put]) (hcpB _ _ _) ?_)
 go_wp2
 go_ret;exact⟨G,rfl,FIN.out⟩
theorem xC(v:Value)(A R:List Nd)(x:Nd)(q:Nat)(w:World)(ho:BD w 0 v (A++R))(hl:(A++R).length<=400)(h1:EW w q x)(hq:v.ownBlock≠some q):
  Calls prog 87 #[v,I0 A.length,.slice (some ⟨q,0,none⟩) 1 1] w fun e w'=>
   ∃v',e=.returned v'/\BD w' 0 v' (A++x::R)/\w.grownBy w' v.ownBlock/\(v'.ownBlock=v.ownBlock\/∃k,w.heap.size<=k/\v'.ownBlock=some k):=by
 cases R with
 |nil=>
  rw[List.append_nil]at ho hl;refine(xB v A x 0 q w ho (Nat.zero_le _) hl h1).mono ?_;rintro e w' ⟨v',rfl,h2,h3,h4⟩;refine⟨v',rfl,h2,h3,?_⟩;rcases h4 with h|h
  .exact .inl h
  .exact .inr ⟨_,Nat.le_refl _,h⟩
 |cons y R=>
  rcases ho with⟨_,h⟩|⟨g,cap,rfl,_,ho⟩
  .simp at h
  .have hn:(A++y::R).length=A.length+R.length+1:=by simp;omega
   by_cases hc:(A++y::R).length+1<=cap
   .refine(mM g cap A R y x _ q w ho hn hl hc h1 (fun e=>hq (by rw[e];rfl))).mono ?_;rintro e w' ⟨rfl,h2,h3⟩;exact⟨_,rfl,.inr ⟨g,cap,by simp;omega,Nat.zero_le _,h2⟩,h3,.inl rfl⟩
   .refine(rC g cap A R y x _ q w ho hn hl (by omega) h1).mono ?_;rintro e w' ⟨cap',rfl,h2,h3⟩;exact⟨_,rfl,.inr ⟨w.heap.size,cap',by simp;omega,Nat.zero_le _,h2⟩,⟨h3.os,h3.tape,h3.output,h3.size,fun k hk _=>h3.block k hk⟩,.inr ⟨_,Nat.le_refl _,rfl⟩⟩
