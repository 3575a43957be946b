/-
  Part.
-/
import Derived.Test.YthcncjimjclfpaaGreatDoorLSC
import Derived.Lib.JoinLaws
import Derived.Deep.RegionHeld3
import Derived.Lib.AppendZerosOnto
import Derived.Lib.Overlaps
set_option maxRecDepth 20000
set_option maxHeartbeats 8000000
namespace Go.Proofs.YthcncjimjclfpaaGreatDoor
open Go.RowKit Go.Proofs.Tryz
open _root_.Nat renaming le_refl->A8,zero_le->AY,zero_add->BI,add_sub_cancel_left->FB
open _root_.Array renaming getElem?_eq_some_iff->AB
open _root_.List renaming getElem?_eq_getElem->AL,length_append->AO,getElem?_eq_some_iff->AU,getElem?_append_right->BA,length_cons->BG,getElem?_append_left->BK,mem_cons->BO,append_assoc->BQ,eq_nil_of_length_eq_zero->BR,mem_append->BU,pairwise_append->DJ,append_nil->DL,mem_filter->EH,length_nil->ES,mem_map->EU
open Go.Builtin renaming zeroCells->BH,copy_->DW
open Go.Addr renaming add_lit->BJ
open Go.Lib renaming compareBytes->EO
open Go.IntKind renaming wrap_i64->FD
open _root_.Option renaming map_eq_some_iff->FK,none->FX,some->FZ
open Go.Value renaming slice->FQ
open Go renaming World->FU,Value->FV,Calls->FW
variable{z s:Int}{ns A B xs:List Nd}{ss:List Int}{n u x:Nd}{p:List UInt8}{ps:List (List UInt8)}{t:Tr}{w W:FU}{b off i g cap:Nat}
theorem PV.mono{z':Int}(g:PV z ns ss)(h:z<=z'):PV z' ns ss:=
 ⟨g.few,g.root,g.asc,fun n hn=>by
  have k:=g.ok n hn;have:=k.mz;have:=k.qz;exact⟨k.data,k.path,k.up,k.c0,k.cm,k.cq,by omega,by omega,k.v0,k.v1,k.k0,k.kids,k.own⟩⟩
theorem PV.more{ss':List Int}(g:PV z ns ss)(h:∀n∈ns,n.o≠0->n.o∈ss->n.o∈ss'):PV z ns ss':=
 ⟨g.few,g.root,g.asc,fun n hn=>by
  have k:=g.ok n hn;refine⟨k.data,k.path,k.up,k.c0,k.cm,k.cq,k.mz,k.qz,k.v0,k.v1,k.k0,k.kids,?_⟩;rcases k.own with h'|⟨h1,h2⟩
  .exact .inl h'
  .by_cases h0:n.o=0
   .exact .inl h0
   .exact .inr ⟨h n hn h0 h1,h2⟩⟩
theorem AW4(g:PV z ns ss)(hn:n∈ns)(hp:n.p≠[47]):∃u,KJ ns (IB n.p)=FZ u/\u∈ns/\u.p=IB n.p/\u.p≠n.p/\u.o=0:=by
 obtain⟨u,hu,he⟩:=(g.ok n hn).up hp;have hne:u.p≠n.p:=by rw[he];exact(qQ (g.ok n hn).path hp).1
 refine⟨u,by rw[<-he];exact VE g.asc hu,hu,he,hne,?_⟩;rcases(g.ok u hu).own with h|⟨_,h⟩
 .exact h
 .exfalso;have h1:=(g.ok u hu).kids;have h2:0<NY ns u.p:=List.countP_pos_iff.2 ⟨n,hn,by simp[he]⟩;omega
theorem CH5(g:PV z ns ss)(hn:n∈ns)(h:n.o≠0):n.p≠[47]:=by
 intro e;obtain⟨r,rest,hr,hp,ho⟩:=g.root;have:n=r:=UD g.asc hn (by rw[hr];simp) (by rw[e,hp]);exact h (by rw[this];exact ho)
theorem BH0(g:PV z ns ss)(f:Nd->Nd)(hf:∀n,(f n).p=n.p)(hk:∀n∈ns,NOk z ns ss n->NOk z ns ss (f n)/\(n.p=[47]->(f n).o=n.o)):PV z (ns.map f) ss:=by
 have hp:(ns.map f).map Nd.p=ns.map Nd.p:=by rw[List.map_map];exact List.map_congr_left fun n _=>hf n
 have hkd:∀p,NY (ns.map f) p=NY ns p:=fun p=>by rw[QB,hp,<-QB]
 refine⟨by simpa using g.few,?_,by rw[OO,hp,<-OO];exact g.asc,?_⟩
 .obtain⟨r,rest,h,h1,h2⟩:=g.root;exact⟨f r,rest.map f,by rw[h];rfl,by rw[hf,h1],by rw[(hk r (by rw[h];simp) (g.ok r (by rw[h];simp))).2 h1,h2]⟩
 .intro n hn;obtain⟨m,hm,rfl⟩:=EU.1 hn;have k:=(hk m hm (g.ok m hm)).1;refine⟨k.data,k.path,fun h=>?_,k.c0,k.cm,k.cq,k.mz,k.qz,k.v0,k.v1,k.k0,by rw[hkd];exact k.kids,k.own⟩;obtain⟨u,hu,he⟩:=k.up h;exact⟨f u,EU.2 ⟨u,hu,rfl⟩,by rw[hf];exact he⟩
def rmN(z:Int)(ns:List Nd)(p:List UInt8):List Nd:=NG (IB p) z (-1) (A02 ns p)
theorem AW5(g:PV z ns ss)(T:KF ns A n B p)(hk:n.n=0)(hp:p≠[47]):PV z (rmN z ns p) ss:=by
 have hn:n∈ns:=by rw[T.eq];simp
 have hnp:=T.nm;have hdrop:=T.drop;have jK:(rmN z ns p).map Nd.p=(A++B).map Nd.p:=by rw[rmN,WW,hdrop]
 have hsub:(A++B).Sublist ns:=by rw[T.eq];exact(List.Sublist.refl A).append (List.sublist_cons_self n B)
 have CR9:∀x,NY (rmN z ns p) x+(if IB p=x then 1 else 0)=NY ns x:=by
  intro x;rw[QB,jK,<-QB,T.eq];simp only[NY,List.countP_append,List.countP_cons,decide_eq_true_eq,hnp];omega
 have hno:∀m∈ns,IB m.p≠p:=by
  intro m hm e;have h1:=(g.ok n hn).kids;have h2:0<NY ns n.p:=List.countP_pos_iff.2 ⟨m,hm,by simp[e,hnp]⟩;omega
 have hmem:∀m∈ns,m.p≠p->m∈A++B:=by
  intro m hm h;rw[<-hdrop,A02];exact EH.2 ⟨hm,by simpa using h⟩
 refine⟨?_,?_,?_,?_⟩
 .have h1:=g.few;have h2:(rmN z ns p).length=(A++B).length:=by have:=congrArg List.length jK;simpa using this
  rw[T.eq]at h1;simp at h1 h2⊢;omega
 .obtain⟨r,rest,h,h1,h2⟩:=g.root
  cases A with
  |nil=>
   have:=T.eq;rw[h]at this
   cases this
   exact absurd (hnp.symm.trans h1) hp
  |cons a A'=>
   have:=T.eq;rw[h]at this
   cases this
   rw[rmN,hdrop,NG];refine⟨_,_,List.map_cons,by rw[Z5];exact h1,?_⟩
   split
   .exact h2
   .exact h2
 .rw[OO,jK,<-OO];exact g.asc.sublist hsub
 .intro m' hm';rw[rmN,hdrop,NG]at hm';obtain⟨m,hm,rfl⟩:=EU.1 hm';have hms:=hsub.mem hm;have k:=g.ok m hms;have hup:m.p≠[47]->∃u∈rmN z ns p,u.p=IB m.p:=by
   intro h;obtain⟨u,hu,he⟩:=k.up h;have h1:=hmem u hu (by rw[he];exact hno m hms);exact⟨_,by rw[rmN,hdrop,NG];exact EU.2 ⟨u,h1,rfl⟩,by rw[Z5];exact he⟩
  have hkm:=CR9 m.p;have:=k.kids;have:=k.c0;have:=k.cq;have:=k.qz;have:=k.k0
  split
  .rename_i e
   rw[if_pos e.symm]at hkm;refine⟨k.data,k.path,hup,k.c0,k.cm,?_,k.mz,?_,k.v0,k.v1,?_,?_,?_⟩
   .show m.c<=z;omega
   .exact Int.le_refl _
   .show 0<=m.k+1;omega
   .show m.n+ -1=_;show _=((NY (rmN z ns p) m.p:Nat):Int);omega
   .rcases k.own with h|⟨h1,h2⟩
    .exact .inl h
    .omega
  .rename_i e
   rw[if_neg (fun h=>e h.symm)]at hkm;exact⟨k.data,k.path,hup,k.c0,k.cm,k.cq,k.mz,k.qz,k.v0,k.v1,k.k0,by omega,k.own⟩
def qU(z:Int)(ns:List Nd)(x:Nd):List Nd:=NG (IB x.p) z 1 (CF5 ns x)
theorem A97{z:Int}{ns A B:List Nd}{ss:List Int}{x:Nd}(g:PV z ns ss)(G:mX ns A B x.p)(hl:ns.length<400)(hg:II x.p=true)(hp:x.p≠[47])(hu:∃u∈ns,u.p=IB x.p/\u.o=0)
  (hd:x.d.length<=256) (hz:0<=z) (hc:x.c=z) (hm:x.m=z) (hq:x.q=z) (hv:x.v=0) (hk:x.k=0) (hn:x.n=0) (ho:x.o=0\/x.o∈ss):PV z (qU z ns x) ss:=by
 have hins:=G.ins;have jK:(qU z ns x).map Nd.p=(A++x::B).map Nd.p:=by rw[qU,WW,hins]
 have hmem:∀m∈ns,m∈A++x::B:=by
  intro m h;rw[G.eq]at h;rcases BU.1 h with h|h<;>simp[h]
 have CR9:∀y,NY (qU z ns x) y=NY ns y+(if IB x.p=y then 1 else 0):=by
  intro y;rw[QB,jK,<-QB,G.eq];simp only[NY,List.countP_append,List.countP_cons,decide_eq_true_eq];omega
 have hno:NY ns x.p=0:=by
  apply List.countP_eq_zero.2
  intro m hm;simp only[decide_eq_true_eq];intro e;have k:=g.ok m hm;by_cases h:m.p=[47]
  .rw[h,UA]at e;rw[<-e,AV6]at hg
   cases hg
  .obtain⟨u,hu,he⟩:=k.up h;exact G.no u hu (he.trans e)
 obtain⟨r,rest,hr,hr1,hr2⟩:=g.root;refine⟨?_,?_,?_,?_⟩
 .have h2:(qU z ns x).length=(A++x::B).length:=by have:=congrArg List.length jK;simpa using this
  rw[G.eq]at hl;simp at hl h2⊢;omega
 .cases A with
  |nil=>
   exfalso;have hB:=G.eq;simp at hB;have h1:=G.hi r (by rw[<-hB,hr];simp);rw[hr1]at h1;obtain⟨s,hs⟩:=jH hg;rw[hs]at h1 hp
   cases s with
   |nil=>exact hp rfl
   |cons c s=>simp[bl,Op.bytesLess]at h1
  |cons a A'=>
   have:=G.eq;rw[hr]at this
   cases this
   rw[qU,hins,NG];refine⟨_,_,List.map_cons,by rw[Z5];exact hr1,?_⟩
   split
   .exact hr2
   .exact hr2
 .rw[OO,jK,<-OO];have h:=g.asc;rw[G.eq]at h;unfold uH at h⊢;rw[DJ]at h;rw[DJ,List.pairwise_cons];refine⟨h.1,⟨G.hi,h.2.1⟩,fun a ha b hb=>?_⟩;rcases BO.1 hb with rfl|hb
  .exact G.lo a ha
  .exact h.2.2 a ha b hb
 .have hin:∀m∈A++x::B,(if m.p=IB x.p then bump z 1 m else m)∈qU z ns x:=fun m h=>by rw[qU,hins,NG];exact EU.2 ⟨m,h,rfl⟩
  intro m' hm';rw[qU,hins,NG]at hm';obtain⟨m,hm2,rfl⟩:=EU.1 hm';have hcase:m=x\/m∈ns:=by
   rcases BU.1 hm2 with h|h
   .exact .inr (by rw[G.eq];simp[h])
   .rcases BO.1 h with h|h
    .exact .inl h
    .exact .inr (by rw[G.eq];simp[h])
  rcases hcase with rfl|hms
  .rw[if_neg (fun h=>(qQ hg hp).1 h.symm)];obtain⟨u,hu1,hu2,_⟩:=hu;have hkm:=CR9 m.p;rw[if_neg (qQ hg hp).1,hno]at hkm;refine⟨hd,hg,fun _=>⟨_,hin u (hmem u hu1),by rw[Z5];exact hu2⟩,by omega,by omega,by omega,by omega,by omega,by omega,by omega,by omega,by omega,?_⟩;rcases ho with h|h
   .exact .inl h
   .exact .inr ⟨h,hn⟩
  .have k:=g.ok m hms;have hup:m.p≠[47]->∃u∈qU z ns x,u.p=IB m.p:=fun h=>by
    obtain⟨u,hu,he⟩:=k.up h;exact⟨_,hin u (hmem u hu),by rw[Z5];exact he⟩
   have hkm:=CR9 m.p;have:=k.kids;have:=k.cq;have:=k.qz;have:=k.k0
   split
   .rename_i e
    rw[if_pos e.symm]at hkm;refine⟨k.data,k.path,hup,k.c0,k.cm,?_,k.mz,Int.le_refl _,k.v0,k.v1,?_,?_,?_⟩
    .show m.c<=z;omega
    .show 0<=m.k+1;omega
    .show m.n+1=((NY (qU z ns x) m.p:Nat):Int);omega
    .obtain⟨u,hu1,hu2,hu3⟩:=hu;have:m=u:=UD g.asc hms hu1 (by rw[e,hu2]);exact .inl (by rw[this];exact hu3)
   .rename_i e
    rw[if_neg (fun h=>e h.symm)]at hkm;exact⟨k.data,k.path,hup,k.c0,k.cm,k.cq,k.mz,k.qz,k.v0,k.v1,k.k0,by omega,k.own⟩
theorem BH1(g:PV z ns ss)(p d:List UInt8)(v:Int)(hd:d.length<=256)(hv:0<=v/\v<=2147483647)(hz:∀n∈ns,n.c<=z):PV z (AV8 p d v z ns) ss:=by
 refine BH0 g _ (fun n=>by split<;>rfl) (fun n hn k=>?_)
 split
 .exact⟨⟨hd,k.path,k.up,k.c0,hz n hn,k.cq,Int.le_refl _,k.qz,hv.1,hv.2,k.k0,k.kids,k.own⟩,fun _=>rfl⟩
 .exact⟨k,fun _=>rfl⟩
def OQ(ns:List Nd)(s:Int):List (List UInt8):=(ns.filter fun n=>decide (n.o=s)).map Nd.p
def RD(z:Int)(ns:List Nd)(ps:List (List UInt8)):List Nd:=ps.foldl (rmN z) ns
def AW6(ps:List (List UInt8)):List Ev:=ps.flatMap fun p=>[⟨2,p⟩,⟨4,IB p⟩]
def YX(ns:List Nd):Bool:=ns.any fun n=>decide (2147483647<n.k)
def uI(x:GI):Nd:=⟨x.p,x.d,x.z,x.z,x.z,0,0,x.w,0⟩
noncomputable def UZ(t:Tr)(x:GI):Int:=
 if UC t=false then 3 else if gdE x≠0 then gdE x else if x.z<=t.z then 13 else if x.o=1/\x.s∈t.ss then 8 else if x.o≠1/\x.s∉t.ss then 12 else 0
def A98(t:Tr)(x:GI):Int:=if(KJ t.ns x.p).isSome=true then 8 else(match KJ t.ns (IB x.p)with
 |none=>7
 |some u=>if u.o≠0 then 11 else if x.w≠0/\x.w≠x.s then 12 else if t.ns.length=400 then 6 else 0)
def BH2(t:Tr)(x:GI):Int:=match KJ t.ns x.p with
 |none=>7
 |some n=>if n.n≠0 then 10 else 0
def CF6(t:Tr)(x:GI):Int:=match KJ t.ns x.p with
 |none=>7
 |some n=>if x.v≠n.v+1 then 9 else 0
def iF(t:Tr)(x:GI):Int:=if x.o=3 then A98 t x else if x.o=4 then BH2 t x else if x.o=5 then CF6 t x else 0
def aT(t:Tr)(x:GI):List Nd:=if x.o=2 then RD x.z t.ns (OQ t.ns x.s)else if x.o=3 then qU x.z t.ns (uI x)else if x.o=4 then rmN x.z t.ns x.p else if x.o=5 then AV8 x.p x.d x.v x.z t.ns else t.ns
def mY(t:Tr)(x:GI):List Int:=if x.o=1 then BE7 t.ss x.s else if x.o=2 then AJ2 t.ss x.s else t.ss
def nZ(t:Tr)(x:GI):List Ev:=if x.o=2 then AW6 (OQ t.ns x.s)else if x.o=3 then [⟨1,x.p⟩,⟨4,IB x.p⟩]else if x.o=4 then [⟨2,x.p⟩,⟨4,IB x.p⟩]else if x.o=5 then [⟨3,x.p⟩]else []
noncomputable def WG(t:Tr)(x:GI):Int:=if UZ t x≠0 then UZ t x else if iF t x≠0 then iF t x else if YX (aT t x)=true then 6 else 0
noncomputable def WY(t:Tr)(x:GI):Tr:=if WG t x=0 then⟨x.z,aT t x,mY t x⟩else tr0
noncomputable def YJ(t:Tr)(x:GI):List Ev:=if WG t x=0 then nZ t x else []
theorem MQ:YX ns=false↔∀n∈ns,n.k<=2147483647:=by
 rw[YX,List.any_eq_false];constructor
 .intro h n hn;have:=h n hn;simp at this;omega
 .intro h n hn;have:=h n hn;simp;omega
theorem o7:YX ns=true↔∃n∈ns,2147483647<n.k:=by
 rw[YX,List.any_eq_true];constructor
 .rintro⟨n,hn,h⟩;exact⟨n,hn,by simpa using h⟩
 .rintro⟨n,hn,h⟩;exact⟨n,hn,by simpa using h⟩
structure CH6(s:Int)(cur:List Nd)(ps:List (List UInt8)):Prop where
 s0:s≠0
 nd:ps.Nodup
 there:∀p∈ps,∃n∈cur,n.p=p/\n.o=s
theorem BX3(h:n∈rmN z ns p):∃m∈ns,m.p≠p/\n=(if m.p=IB p then bump z (-1) m else m):=by
 rw[rmN,NG]at h;obtain⟨m,hm,rfl⟩:=EU.1 h;rw[A02]at hm;obtain⟨h1,h2⟩:=EH.1 hm;exact⟨m,h1,by simpa using h2,rfl⟩
theorem AW7{m:Nd}(h:m∈ns)(hp:m.p≠p):(if m.p=IB p then bump z (-1) m else m)∈rmN z ns p:=by
 rw[rmN,NG];exact EU.2 ⟨m,by rw[A02];exact EH.2 ⟨h,by simpa using hp⟩,rfl⟩
theorem AW8(q:List UInt8)(z more:Int)(n:Nd):(if n.p=q then bump z more n else n).o=n.o:=by split<;>rfl
theorem BX4(q:List UInt8)(z more:Int)(n:Nd):(if n.p=q then bump z more n else n).d=n.d:=by split<;>rfl
theorem BX5(q:List UInt8)(z more:Int)(n:Nd):(if n.p=q then bump z more n else n).v=n.v:=by split<;>rfl
theorem CH7(q:List UInt8)(z more:Int)(n:Nd):n.k<=(if n.p=q then bump z more n else n).k:=by
 split
 .show n.k<=n.k+1;omega
 .exact Int.le_refl _
theorem vG{cur:List Nd}(g:PV z cur ss)(R:CH6 s cur (p::ps)):
  ∃A n B u,KF cur A n B p/\n.o=s/\n.n=0/\p≠[47]/\II p=true/\KJ cur (IB p)=FZ u/\u∈cur/\u.p=IB p/\u.p≠p/\u.o=0/\u.p∉ps/\PV z (rmN z cur p) ss/\CH6 s (rmN z cur p) ps:=by
 obtain⟨n,hn,rfl,ho⟩:=R.there p (by simp);obtain⟨A,B,T⟩:=RQ g.asc (VE g.asc hn);have h0:n.o≠0:=by rw[ho];exact R.s0
 have hk:n.n=0:=by
  rcases(g.ok n hn).own with h|⟨_,h⟩
  .exact absurd h h0
  .exact h
 have hr:=CH5 g hn h0;obtain⟨u,hu1,hu2,hu3,hu4,hu5⟩:=AW4 g hn hr;refine⟨A,n,B,u,T,ho,hk,hr,(g.ok n hn).path,hu1,hu2,hu3,hu4,hu5,?_,AW5 g T hk hr,R.s0,(List.nodup_cons.1 R.nd).2,?_⟩
 .intro hm;obtain⟨m,hm1,hm2,hm3⟩:=R.there u.p (by simp[hm]);have:m=u:=UD g.asc hm1 hu2 hm2;rw[this,hu5]at hm3;exact R.s0 hm3.symm
 .intro q hq;obtain⟨m,hm1,hm2,hm3⟩:=R.there q (by simp[hq]);have hne:m.p≠n.p:=by
   rw[hm2];rintro rfl;exact(List.nodup_cons.1 R.nd).1 hq
  exact⟨_,AW7 hm1 hne,by rw[Z5];exact hm2,by rw[AW8];exact hm3⟩
theorem o8(g:PV z ns ss)(h:s≠0):CH6 s ns (OQ ns s):=by
 refine⟨h,?_,fun p hp=>?_⟩
 .have h1:(ns.filter fun n=>decide (n.o=s)).Pairwise fun a b=>bl a.p b.p=true:=g.asc.filter _;rw[List.Nodup,OQ,List.pairwise_map];exact h1.imp fun h=>WS h
 .obtain⟨n,hn,rfl⟩:=EU.1 hp;obtain⟨h1,h2⟩:=EH.1 hn;exact⟨n,h1,rfl,by simpa using h2⟩
theorem o9:∀ (ps:List (List UInt8)) (cur:List Nd),PV z cur ss->CH6 s cur ps->PV z (RD z cur ps) ss
 |[],_,g,_=>g
 |p::ps,cur,g,R=>by
  obtain⟨_,_,_,_,_,_,_,_,_,_,_,_,_,_,_,g',R'⟩:=vG g R;exact o9 ps (rmN z cur p) g' R'
theorem vH:∀ (ps:List (List UInt8)) (cur:List Nd) (n:Nd),n∈RD z cur ps->∃m∈cur,m.p=n.p/\m.o=n.o/\m.d=n.d/\m.v=n.v/\m.p∉ps
 |[],cur,n,h=>⟨n,h,rfl,rfl,rfl,rfl,by simp⟩
 |p::ps,cur,n,h=>by
  obtain⟨m,h1,h2,h3,h4,h5,h6⟩:=vH ps (rmN z cur p) n h;obtain⟨m',h1',hne,rfl⟩:=BX3 h1;rw[Z5]at h2 h6;rw[AW8]at h3;rw[BX4]at h4;rw[BX5]at h5;exact⟨m',h1',h2,h3,h4,h5,by simp[hne,h6]⟩
theorem vI:∀ (ps:List (List UInt8)) (cur:List Nd) (m:Nd),m∈cur->m.p∉ps->∃n∈RD z cur ps,n.p=m.p/\n.o=m.o/\n.d=m.d/\n.v=m.v/\m.k<=n.k
 |[],_,m,h,_=>⟨m,h,rfl,rfl,rfl,rfl,Int.le_refl _⟩
 |p::ps,cur,m,h,hp=>by
  simp only[BO,not_or]at hp;have h':=AW7 (z:=z) h hp.1;obtain⟨n,h1,h2,h3,h4,h5,h6⟩:=vI ps (rmN z cur p) _ h' (by rw[Z5];exact hp.2);exact⟨n,h1,by rw[h2,Z5],by rw[h3,AW8],by rw[h4,BX4],by rw[h5,BX5],Int.le_trans (CH7 _ _ _ _) h6⟩
theorem AJ3(ps:List (List UInt8))(cur:List Nd)(h:∃u∈cur,u.p∉ps/\2147483647<u.k):YX (RD z cur ps)=true:=by
 obtain⟨u,h1,h2,h3⟩:=h;obtain⟨n,hn,_,_,_,_,hk⟩:=vI (z:=z) ps cur u h1 h2;exact o7.2 ⟨n,hn,by omega⟩
theorem BX6(ha:uH ns)(hu:u∈ns)(hp:u.p=IB p)(hk:u.k<2147483647)(h:∀n∈ns,n.k<=2147483647):∀n∈rmN z ns p,n.k<=2147483647:=by
 intro n hn;obtain⟨m,hm,_,rfl⟩:=BX3 hn
 split
 .rename_i e
  have:m=u:=UD ha hm hu (by rw[e,hp]);subst this;show m.k+1<=_;omega
 .exact h m hm
theorem AW9(hu:u∈ns)(hp:u.p=IB p)(hne:u.p≠p)(hk:u.k=2147483647)(ps:List (List UInt8))(hps:u.p∉ps):YX (RD z (rmN z ns p) ps)=true:=
 AJ3 ps _ ⟨bump z (-1) u,by have:=AW7 (z:=z) hu hne;rwa[if_pos hp]at this,hps,by show 2147483647<u.k+1;omega⟩
theorem A03(z:Int)(ns:List Nd)(ps:List (List UInt8))(k:Nat):RD z ns ps=RD z (RD z ns (ps.take k)) (ps.drop k):=by
 rw[RD,RD,RD,<-List.foldl_append,List.take_append_drop]
theorem AJ4(z:Int)(ns:List Nd){k:Nat}(h:ps[k]?=FZ p):RD z ns (ps.take (k+1))=rmN z (RD z ns (ps.take k)) p:=by
 rw[RD,List.take_add_one,h,List.foldl_append];rfl
theorem AX0{k:Nat}(h:ps[k]?=FZ p):AW6 (ps.take (k+1))=AW6 (ps.take k)++[⟨2,p⟩,⟨4,IB p⟩]:=by
 rw[AW6,List.take_add_one,h,List.flatMap_append];rfl
theorem A99(ps:List (List UInt8)):(AW6 ps).length=2*ps.length:=by
 induction ps with
 |nil=>rfl
 |cons p ps ih=>
  rw[AW6]at ih;simp only[AW6,List.flatMap_cons,AO,BG,ES,ih];omega
theorem WZ(p:List UInt8):(IB p).length<=200:=by
 cases hgb:II p with
 |false=>rw[aQ hgb];simp
 |true=>
  by_cases hr:p=[47]
  .rw[hr,UA];simp
  .obtain⟨a,c,he,hc⟩:=YI hgb;have:=MP hgb;rw[he]at hgb hr this⊢;rw[U9 hgb hr hc,CH3]
   split
   .simp
   .simp at this;omega
theorem oC{cur:List Nd}{q:List UInt8}(ha:uH cur)(T:KF cur A n B p)(hu:u∈cur)(hq:u.p=q)(hne:u.p≠p):∃A' B',KF (A++B) A' u B' q:=by
 have hm:u∈A++B:=by rw[<-T.drop,A02];exact EH.2 ⟨hu,by simpa using hne⟩
 have hs:uH (A++B):=ha.sublist (by rw[T.eq];exact(List.Sublist.refl A).append (List.sublist_cons_self n B));rw[<-hq];exact RQ hs (VE hs hm)
theorem PG{x:GI}(h:UZ t x=0):QA t/\gdE x=0/\t.z<x.z/\(x.o=1->x.s∉t.ss)/\(x.o≠1->x.s∈t.ss):=by
 unfold UZ at h
 split at h
 .omega
 .rename_i h1
  split at h
  .omega
  .rename_i h2
   split at h
   .omega
   .rename_i h3
    split at h
    .omega
    .rename_i h4
     split at h
     .omega
     .rename_i h5
      refine⟨OL.1 (by simpa using h1),by omega,by omega,fun e hm=>h4 ⟨e,hm⟩,fun e=>?_⟩;by_cases hm:x.s∈t.ss
      .exact hm
      .exact absurd ⟨e,hm⟩ h5
theorem iG{x:GI}(h:WG t x=0):UZ t x=0/\iF t x=0/\YX (aT t x)=false:=by
 unfold WG at h
 split at h
 .rename_i h1;exact absurd h h1
 .rename_i h1
  split at h
  .rename_i h2;exact absurd h h2
  .rename_i h2
   split at h
   .omega
   .rename_i h3;exact⟨by omega,by omega,by simpa using h3⟩
theorem AA0{x:GI}(h:A98 t x=0):KJ t.ns x.p=FX/\(∃u,KJ t.ns (IB x.p)=FZ u/\u.o=0)/\(x.w=0\/x.w=x.s)/\t.ns.length≠400:=by
 unfold A98 at h
 split at h
 .omega
 .rename_i h1
  split at h
  .omega
  .rename_i u hu
   split at h
   .omega
   .rename_i h2
    split at h
    .omega
    .rename_i h3
     split at h
     .omega
     .rename_i h4
      refine⟨by simpa using h1,⟨u,hu,by omega⟩,?_,h4⟩;by_cases e:x.w=0
      .exact .inl e
      .by_cases e':x.w=x.s
       .exact .inr e'
       .exact absurd ⟨e,e'⟩ h3
theorem BH3{x:GI}(h:BH2 t x=0):∃n,KJ t.ns x.p=FZ n/\n.n=0:=by
 unfold BH2 at h
 split at h
 .omega
 .rename_i n hn
  split at h
  .omega
  .exact⟨n,hn,by omega⟩
structure Fine(x:GI):Prop where
 op:1<=x.o/\x.o<=5
 z:0<=x.z/\KD x.z=true
 s:1<=x.s/\x.s<=2147483647
 v:0<=x.v/\x.v<=2147483647
 w:0<=x.w/\x.w<=2147483647
 d:x.d.length<=256
 path:x.o=3\/x.o=4->II x.p=true/\x.p≠[47]
 CU0:x.o=5->II x.p=true
 data:x.o≠3->x.o≠5->x.d=[]
theorem XA{x:GI}(h:gdE x=0):Fine x:=by
 obtain⟨h1,h2,h3,h4⟩:=iC h;obtain⟨n1,n2,n3,n4⟩:=aG.1 h2;have o:=jE.1 h1;have z:=n1;simp only[KD,Bool.and_eq_true,decide_eq_true_eq]at z;refine⟨o,⟨z.1,n1⟩,TK.1 n2,TK.1 n3,TK.1 n4,h3,?_,?_,?_⟩
 .rintro(e|e)
  .simp[fmB,e]at h4;exact⟨h4.1.1,h4.1.2⟩
  .simp[fmB,e]at h4;exact⟨h4.1.1.1.1,h4.1.1.1.2⟩
 .intro e;simp[fmB,e]at h4;exact h4.1
 .intro e3 e5;by_cases e4:x.o=4
  .simp[fmB,e4]at h4;exact h4.1.1.2
  .simp[fmB,e3,e4,e5]at h4;exact h4.1.1.2
theorem YK{x:GI}(h:WG t x=0):QA (WY t x)/\(WY t x).z=x.z/\t.z<x.z:=by
 obtain⟨ha,hc,hf⟩:=iG h;obtain⟨g,hg,hz,h1,h2⟩:=PG ha;have f:=XA hg;have hs:=g.ses;have gn:PV x.z t.ns t.ss:=g.nod.mono (by omega);rw[WY,if_pos h];refine⟨⟨f.z.2,?_,?_,MQ.1 hf⟩,rfl,hz⟩
 .show qR (mY t x);rw[mY]
  split
  .rename_i e;exact A96 hs f.s (h1 e)
  .split
   .exact AV9 _ hs
   .exact hs
 .show PV x.z (aT t x) (mY t x);rw[aT,mY];by_cases e1:x.o=1
  .rw[if_neg (by omega),if_neg (by omega),if_neg (by omega),if_neg (by omega),if_pos e1];exact gn.more (fun n _ _ h=>BG9 h)
  .rw[if_neg e1];have hm:=h2 e1;by_cases e2:x.o=2
   .rw[if_pos e2,if_pos e2];have R:=o8 gn (s:=x.s) (by have:=f.s;omega);refine(o9 _ _ gn R).more (fun n hn h0 hi=>?_);rw[AJ2];refine EH.2 ⟨hi,?_⟩;simp only[decide_eq_true_eq];intro e;obtain⟨m,hm1,hm2,hm3,_,_,hm4⟩:=vH _ _ n hn
    apply hm4
    rw[OQ];exact EU.2 ⟨m,EH.2 ⟨hm1,by simp only[decide_eq_true_eq];rw[hm3,e]⟩,rfl⟩
   .rw[if_neg e2,if_neg e2];by_cases e3:x.o=3
    .rw[if_pos e3];rw[iF,if_pos e3]at hc;obtain⟨c1,⟨u,c2,c3⟩,c4,c5⟩:=AA0 hc;obtain⟨A,B,G⟩:=jI g.nod.asc c1;obtain⟨p1,p2⟩:=f.path (.inl e3);have hu:=SC c2;refine A97 (x:=uI x) gn G (by have:=g.nod.few;omega) p1 p2 ⟨u,hu.1,hu.2,c3⟩ f.d f.z.1 rfl rfl rfl rfl rfl rfl ?_;rcases c4 with c|c
     .exact .inl c
     .exact .inr (by show x.w∈t.ss;rw[c];exact hm)
    .rw[if_neg e3];by_cases e4:x.o=4
     .rw[if_pos e4];rw[iF,if_neg e3,if_pos e4]at hc;obtain⟨n,c1,c2⟩:=BH3 hc;obtain⟨A,B,T⟩:=RQ g.nod.asc c1;exact AW5 gn T c2 (f.path (.inr e4)).2
     .rw[if_neg e4];by_cases e5:x.o=5
      .rw[if_pos e5];exact BH1 gn x.p x.d x.v f.d f.v (fun n hn=>by have k:=g.nod.ok n hn;have:=k.cm;have:=k.mz;omega)
      .have:=f.op;omega
def MG(n:Nd):List FV:=[S0 n.p,S0 n.d,I0 n.c,I0 n.m,I0 n.q,I0 n.v,I0 n.k,I0 n.o,I0 n.n]
def C33(n:Nd):FV:=.agg #[I0 n.c,I0 n.m,I0 n.q,I0 n.v,I0 n.k,I0 n.o,I0 n.n]
def TY(n:Nd):FV:=.agg #[S0 n.p,S0 n.d,I0 n.c,I0 n.m,I0 n.q,I0 n.v,I0 n.k,I0 n.o,I0 n.n]
instance layN:Lay Nd:=⟨9,MG,49,fun _=>rfl,fun x u hu=>by simp[MG]at hu;rcases hu with rfl|rfl|rfl|rfl|rfl|rfl|rfl|rfl|rfl<;>rfl⟩
theorem IE.nd(h:IE w b off (G9 xs))(hi:xs[i]?=FZ x)(c:Nat)(hc:c<9):∀v,(MG x)[c]?=FZ v->w.cell? ⟨b,off+i*9+c,FX⟩=FZ v:=fun v hv=>by
 rw[Nat.add_assoc];exact h (i*9+c) v ((GV xs i x hi c hc).trans hv)
theorem IE.n0(h:IE w b off (G9 xs))(hi:xs[i]?=FZ x):w.cell? ⟨b,off+i*9,FX⟩=FZ (S0 x.p):=h.nd hi 0 (by omega) _ rfl
theorem IE.n1(h:IE w b off (G9 xs))(hi:xs[i]?=FZ x):w.cell? ⟨b,off+i*9+1,FX⟩=FZ (S0 x.d):=h.nd hi 1 (by omega) _ rfl
theorem IE.n2(h:IE w b off (G9 xs))(hi:xs[i]?=FZ x):w.cell? ⟨b,off+i*9+2,FX⟩=FZ (I0 x.c):=h.nd hi 2 (by omega) _ rfl
theorem IE.n3(h:IE w b off (G9 xs))(hi:xs[i]?=FZ x):w.cell? ⟨b,off+i*9+3,FX⟩=FZ (I0 x.m):=h.nd hi 3 (by omega) _ rfl
theorem IE.n4(h:IE w b off (G9 xs))(hi:xs[i]?=FZ x):w.cell? ⟨b,off+i*9+4,FX⟩=FZ (I0 x.q):=h.nd hi 4 (by omega) _ rfl
theorem IE.n5(h:IE w b off (G9 xs))(hi:xs[i]?=FZ x):w.cell? ⟨b,off+i*9+5,FX⟩=FZ (I0 x.v):=h.nd hi 5 (by omega) _ rfl
theorem IE.n6(h:IE w b off (G9 xs))(hi:xs[i]?=FZ x):w.cell? ⟨b,off+i*9+6,FX⟩=FZ (I0 x.k):=h.nd hi 6 (by omega) _ rfl
theorem IE.n7(h:IE w b off (G9 xs))(hi:xs[i]?=FZ x):w.cell? ⟨b,off+i*9+7,FX⟩=FZ (I0 x.o):=h.nd hi 7 (by omega) _ rfl
theorem IE.n8(h:IE w b off (G9 xs))(hi:xs[i]?=FZ x):w.cell? ⟨b,off+i*9+8,FX⟩=FZ (I0 x.n):=h.nd hi 8 (by omega) _ rfl
theorem NI(p:List UInt8)(w:FU):
  FW prog 195 #[S0 p] w fun e w'=>
   e=.returned (.tuple #[S0 (IB p),S0 (LC p),I0 (AT0 p)])/\B0 w w':=by
 cases hg:II p with
 |false=>
  rw[aQ hg,AJ1 hg,A94 hg];exact AX6 p w hg
 |true=>
  by_cases hr:p=[47]
  .subst hr;rw[UA,A01,vC];exact AK0 w
  .obtain⟨a,b,rfl,hb⟩:=YI hg;rw[U9 hg hr hb,nX hg hr hb,AV7 hg hr];exact AJ9 a b w hb hg hr
theorem AC1(n:Nd)(p:List UInt8)(w:FU):
  FW prog 42 #[TY n,S0 p] w (R0 w (I0 (EO n.p p))):=by
 unfold TY;go_enter func42,ntmps42;go_wp2_with fail;refine(strings_Compare _ _ _).mono ?_;rintro e w1 ⟨rfl,rfl⟩;go_wp2_with fail;go_ret;exact⟨rfl,G7 _ _⟩
def rH(R:List Nd)(p:List UInt8):Bool:=match R with
 |[]=>false
 |f::_=>decide (f.p=p)
theorem AL9(A R:List Nd)(p:List UInt8)(lo:∀a∈A,bl a.p p=true)(hi:∀a∈R,bl a.p p=false)(i:Nat)(h:i<A.length+R.length):∃y,(A++R)[i]?=FZ y/\bl y.p p=decide (i<A.length):=by
 by_cases h1:i<A.length
 .refine⟨A[i],by rw[BK h1,AL h1],?_⟩;rw[lo _ (List.getElem_mem h1)];simp[h1]
 .have h2:i-A.length<R.length:=by omega
  refine⟨R[i-A.length],by rw[BA (by omega),AL h2],?_⟩;rw[hi _ (List.getElem_mem h2)];simp[h1]
theorem BJ6(b off cap:Nat)(A R:List Nd)(p:List UInt8)(w:FU)(hcap:A.length+R.length<=100000)(hb:b<w.heap.size)(h:IE w b off (G9 (A++R)))
  (lo:∀a∈A,bl a.p p=true) (hi:∀a∈R,bl a.p p=false):
  FW prog 41 #[FQ (FZ ⟨b,off,FX⟩) (A.length+R.length) cap,S0 p,.func (.func 42) #[] #[]] w fun e w'=>
   e=.returned (.tuple #[I0 A.length,.bool (rH R p)])/\B0 w w':=by
 have H:=G6 h;have SG:=G6 (AL9 A R p lo hi);obtain⟨fin,hfin⟩:∃x,rH R p=x:=⟨_,rfl⟩;have HF:=G6 hfin;rw[hfin];clear h hfin lo hi;go_enter func41,ntmps41;go_wp2_with fail
 go_loopg [9,10] (A.length+R.length) (fun kx s9 s10 wr=>∃lo hi:Nat,s9=I0 lo/\s10=I0 hi/\lo<=A.length/\A.length<=hi/\hi<=A.length+R.length/\hi-lo<=kx/\Hid (B0 w wr))
 case atStart=>exact⟨0,A.length+R.length,rfl,rfl,AY _,by omega,A8 _,by omega,G6 (Below.refl _ _)⟩
 case round=>
  obtain⟨lo,hi,rfl,rfl,h1,h2,h3,hg,hB⟩:=hrel;by_cases hlt:lo<hi
  .obtain⟨y,hy,hyn⟩:=G5 SG ((lo+hi)/2) (by omega);have HY:=G6 hyn;have r:=(G5 H).kept (G5 hB) hb;have e0:=r.n0 hy;have e1:=r.n1 hy;have e2:=r.n2 hy;have e3:=r.n3 hy;have e4:=r.n4 hy;have e5:=r.n5 hy;have e6:=r.n6 hy;have e7:=r.n7 hy;have e8:=r.n8 hy;clear hyn hy r;have hc:=A90 y.p p;rw[G5 HY]at hc;have CM:=fun W=>AC1 y p W;generalize EO y.p p=cv at hc CM;by_cases hm:(lo+hi)/2<A.length
   .have hn:cv<0:=by simpa [hm]using hc
    clear hc;go_wp2_with fail;refine(CM _).mono ?_;rintro e w1 ⟨rfl,hb1⟩;have hB2:B0 w w1:=(G5 hB).trans (hb1.mono (G5 hB).size);clear CM;go_wp2_with fail
    go_roundg (hi-((lo+hi)/2+1))
    case measure=>omega
    case rel=>exact⟨(lo+hi)/2+1,hi,by rw[show ((lo:Int)+(hi:Int))/2+1=(((lo+hi)/2+1:Nat):Int) by omega],rfl,by omega,h2,h3,A8 _,G6 hB2⟩
   .have hn:¬cv<0:=by simpa [hm]using hc
    clear hc;go_wp2_with fail;refine(CM _).mono ?_;rintro e w1 ⟨rfl,hb1⟩;have hB2:B0 w w1:=(G5 hB).trans (hb1.mono (G5 hB).size);clear CM;go_wp2_with fail
    go_roundg ((lo+hi)/2-lo)
    case measure=>omega
    case rel=>exact⟨lo,(lo+hi)/2,rfl,by rw[show ((lo:Int)+(hi:Int))/2=(((lo+hi)/2:Nat):Int) by omega],h1,by omega,by omega,A8 _,G6 hB2⟩
  .obtain rfl:lo=A.length:=by omega
   obtain rfl:hi=A.length:=by omega
   cases R with
   |nil=>
    go_wp2_with fail
    go_ret2
    exact⟨by rw[<-G5 HF];rfl,G5 hB⟩
   |cons f R=>
    have r:=(G5 H).kept (G5 hB) hb;have hy:(A++f::R)[A.length]?=FZ f:=by simp
    have e0:=r.n0 hy;have e1:=r.n1 hy;have e2:=r.n2 hy;have e3:=r.n3 hy;have e4:=r.n4 hy;have e5:=r.n5 hy;have e6:=r.n6 hy;have e7:=r.n7 hy;have e8:=r.n8 hy;clear hy r;have hc:=iD f.p p;have CM:=fun W=>AC1 f p W;have hf:fin=decide (f.p=p):=(G5 HF).symm;rw[<-hc]at hf;clear hc HF;generalize EO f.p p=cv at hf CM;subst hf;simp only[BG];go_wp2_with fail;refine(CM _).mono ?_;rintro e w1 ⟨rfl,hb1⟩;have hB2:B0 w w1:=(G5 hB).trans (hb1.mono (G5 hB).size);clear CM;go_wp2_with fail
    go_ret2
    exact⟨by rfl,hB2⟩
theorem B04(a:Option Addr)(cap:Nat)(p:List UInt8)(w:FU):
  FW prog 41 #[FQ a 0 cap,S0 p,.func (.func 42) #[] #[]] w fun e w'=>
   e=.returned (.tuple #[I0 0,.bool false])/\B0 w w':=by
 go_enter func41,ntmps41;go_wp2_with fail
 go_loopg [9,10] 1 (fun _ s9 s10 wr=>s9=I0 0/\s10=I0 0/\Hid (B0 w wr))
 case atStart=>exact⟨rfl,rfl,G6 (Below.refl _ _)⟩
 case round=>
  obtain⟨rfl,rfl,hB⟩:=hrel;go_wp2_with fail
  go_ret2
  exact⟨rfl,G5 hB⟩
theorem kL(v:FV)(ns A R:List Nd)(p:List UInt8)(w:FU)(hv:IU w v ns)(hl:ns.length<=100000)(he:ns=A++R)(lo:∀a∈A,bl a.p p=true)(hi:∀a∈R,bl a.p p=false):
  FW prog 21 #[v,S0 p] w (R0 w (.tuple #[I0 A.length,.bool (rH R p)])):=by
 have C:∀W:FU,B0 w W->FW prog 41 #[v,S0 p,.func (.func 42) #[] #[]] W fun e w'=>
   e=.returned (.tuple #[I0 A.length,.bool (rH R p)])/\B0 W w':=fun W hW=>by
  rcases hv with⟨a,cap,rfl,h0,_⟩|⟨b,off,cap,rfl,_,_,hb,_,hr⟩
  .rw[h0]at he;obtain⟨rfl,rfl⟩:A=[]/\R=[]:=by
    have:=congrArg List.length he;simp at this;exact⟨BR (by omega),BR (by omega)⟩
   exact B04 a cap p W
  .subst he;rw[AO];exact BJ6 b off cap A R p W (by simpa using hl) (Nat.lt_of_lt_of_le hb hW.size) (hr.kept hW hb) lo hi
 have C':=G6 C;obtain⟨a,c,rfl⟩:=GK hv;clear C hv hl he lo hi;generalize rH R p=hd at C'⊢;go_enter func21,ntmps21;go_wp2_with fail;refine(G5 C' _ (Below.refl _ _)).mono ?_;rintro e w1 ⟨rfl,hb1⟩;go_wp2_with fail
 go_ret2
 exact⟨rfl,hb1⟩
theorem JR(v:FV)(ns A B:List Nd)(f:Nd)(p:List UInt8)(w:FU)(hv:IU w v ns)(hl:ns.length<=100000)(T:KF ns A f B p):
  FW prog 21 #[v,S0 p] w (R0 w (.tuple #[I0 A.length,.bool true])):=by
 have:=kL v ns A (f::B) p w hv hl T.eq T.lo (fun a ha=>by
  rcases BO.1 ha with rfl|h
  .rw[T.nm];exact O9 _
  .exact OD (T.hi a h))
 rwa[show rH (f::B) p=true from by simp[rH,T.nm]]at this
theorem NK(v:FV)(ns A B:List Nd)(p:List UInt8)(w:FU)(hv:IU w v ns)(hl:ns.length<=100000)(G:mX ns A B p):
  FW prog 21 #[v,S0 p] w (R0 w (.tuple #[I0 A.length,.bool false])):=by
 have:=kL v ns A B p w hv hl G.eq G.lo (fun a ha=>OD (G.hi a ha));rwa[show rH B p=false from by
  cases B with
  |nil=>rfl
  |cons f B=>have:=WS (G.hi f (by simp));simp[rH,this.symm]]at this
theorem wM(v:FV)(ns:List Nd)(p:List UInt8)(w:FU)(hv:IU w v ns)(hl:ns.length<=100000)(ha:uH ns):
  ∃i:Nat,i<=ns.length/\FW prog 21 #[v,S0 p] w (R0 w (.tuple #[I0 i,.bool (KJ ns p).isSome])):=by
 rcases Z4 p ns ha with⟨A,n,B,T⟩|⟨A,B,G⟩
 .rw[T.look];exact⟨A.length,by rw[T.eq];simp,JR v ns A B n p w hv hl T⟩
 .rw[G.look];exact⟨A.length,by rw[G.eq];simp,NK v ns A B p w hv hl G⟩
theorem BJ7(x:Int)(w:FU):FW prog 212 #[I0 x] w fun e w'=>e=.returned (.bool false)/\w'=w:=by
 go_enter func212,ntmps212
 go_wp2
 go_ret;exact⟨rfl,rfl⟩
theorem BJ8(x:Int)(w:FU):FW prog 244 #[I0 x] w fun e w'=>e=.returned (.bool false)/\w'=w:=by
 go_enter func244,ntmps244
 go_wp2
 go_ret;exact⟨rfl,rfl⟩
theorem B05(x y:Int)(w:FU):FW prog 243 #[I0 x,I0 y] w fun e w'=>e=.returned (.bool (decide (x<y)))/\w'=w:=by
 go_enter func243,ntmps243;go_wp2_with fail;refine(BJ7 _ _).mono ?_;rintro e w1 ⟨rfl,rfl⟩;go_wp2_with fail;go_ret;exact⟨rfl,rfl⟩
def AM0(R:List Int)(s:Int):Bool:=match R with
 |[]=>false
 |f::_=>decide (f=s)
theorem AM1(A R:List Int)(s:Int)(lo:∀a∈A,a<s)(hi:∀a∈R,¬a<s)(i:Nat)(h:i<A.length+R.length):∃y,(A++R)[i]?=FZ y/\decide (y<s)=decide (i<A.length):=by
 by_cases h1:i<A.length
 .refine⟨A[i],by rw[BK h1,AL h1],?_⟩;simp[h1,lo _ (List.getElem_mem h1)]
 .have h2:i-A.length<R.length:=by omega
  refine⟨R[i-A.length],by rw[BA (by omega),AL h2],?_⟩;simp only[h1,hi _ (List.getElem_mem h2)]
theorem C39(b off cap:Nat)(A R:List Int)(s:Int)(w:FU)(hcap:A.length+R.length<=281474976710656)(hb:b<w.heap.size)(h:IE w b off (G9 (A++R)))
  (lo:∀a∈A,a<s) (hi:∀a∈R,¬a<s):
  FW prog 219 #[FQ (FZ ⟨b,off,FX⟩) (A.length+R.length) cap,I0 s] w fun e w'=>
   e=.returned (.tuple #[I0 A.length,.bool (AM0 R s)])/\w'=w:=by
 have H:=G6 h;have SG:=G6 (AM1 A R s lo hi);obtain⟨fin,hfin⟩:∃x,AM0 R s=x:=⟨_,rfl⟩;have HF:=G6 hfin;rw[hfin];clear h hfin lo hi;go_enter func219,ntmps219;go_wp2_with fail
 go_loopg [7,8] (A.length+R.length) (fun kx s9 s10 wr=>∃lo hi:Nat,s9=I0 lo/\s10=I0 hi/\lo<=A.length/\A.length<=hi/\hi<=A.length+R.length/\hi-lo<=kx/\wr=w)
 case atStart=>exact⟨0,A.length+R.length,rfl,rfl,AY _,by omega,A8 _,by omega,rfl⟩
 case round=>
  obtain⟨lo,hi,rfl,rfl,h1,h2,h3,hg,rfl⟩:=hrel;by_cases hlt:lo<hi
  .obtain⟨y,hy,hyn⟩:=G5 SG ((lo+hi)/2) (by omega);have e0:=(G5 H).i0 hy;clear hy;have CM:=fun W=>B05 y s W;rw[hyn]at CM;clear hyn;by_cases hm:(lo+hi)/2<A.length
   .simp only[hm,decide_true]at CM;go_wp2_with fail;refine(CM _).mono ?_;rintro e w1 ⟨rfl,rfl⟩;clear CM;go_wp2_with fail
    go_roundg (hi-((lo+hi)/2+1))
    case measure=>omega
    case rel=>exact⟨(lo+hi)/2+1,hi,by rw[show ((lo:Int)+(hi:Int))/2+1=(((lo+hi)/2+1:Nat):Int) by omega],rfl,by omega,h2,h3,A8 _,rfl⟩
   .simp only[hm,decide_false]at CM;go_wp2_with fail;refine(CM _).mono ?_;rintro e w1 ⟨rfl,rfl⟩;clear CM;go_wp2_with fail
    go_roundg ((lo+hi)/2-lo)
    case measure=>omega
    case rel=>exact⟨lo,(lo+hi)/2,rfl,by rw[show ((lo:Int)+(hi:Int))/2=(((lo+hi)/2:Nat):Int) by omega],h1,by omega,by omega,A8 _,rfl⟩
  .obtain rfl:lo=A.length:=by omega
   obtain rfl:hi=A.length:=by omega
   cases R with
   |nil=>
    go_wp2_with fail
    go_ret2
    exact⟨by rw[<-G5 HF];rfl,rfl⟩
   |cons f R=>
    have e0:=(G5 H).i0 (show (A++f::R)[A.length]?=FZ f by simp);have hf:decide (f=s)=fin:=G5 HF;clear HF;simp only[BG];by_cases hfs:f=s
    .subst hfs;simp only[decide_true]at hf;subst hf;go_wp2_with fail
     go_ret2
     exact⟨rfl,rfl⟩
    .simp only[hfs,decide_false]at hf;subst hf;have hq:(f==s)=false:=by simpa using hfs
     clear hfs;go_wp2_with fail;refine(BJ8 _ _).mono ?_;rintro e w1 ⟨rfl,rfl⟩;go_wp2_with fail
     go_ret2
     exact⟨rfl,rfl⟩
theorem BJ9(a:Option Addr)(cap:Nat)(s:Int)(w:FU):
  FW prog 219 #[FQ a 0 cap,I0 s] w fun e w'=>e=.returned (.tuple #[I0 0,.bool false])/\w'=w:=by
 go_enter func219,ntmps219;go_wp2_with fail
 go_loopg [7,8] 1 (fun _ s9 s10 wr=>s9=I0 0/\s10=I0 0/\wr=w)
 case atStart=>exact⟨rfl,rfl,rfl⟩
 case round=>
  obtain⟨rfl,rfl,rfl⟩:=hrel;go_wp2_with fail
  go_ret2
  exact⟨rfl,rfl⟩
theorem wO(v:FV)(ss A R:List Int)(s:Int)(w:FU)(hv:IU w v ss)(hl:ss.length<=2147483647)(he:ss=A++R)(lo:∀a∈A,a<s)(hi:∀a∈R,¬a<s):
  FW prog 219 #[v,I0 s] w fun e w'=>e=.returned (.tuple #[I0 A.length,.bool (AM0 R s)])/\w'=w:=by
 rcases hv with⟨a,cap,rfl,h0,_⟩|⟨b,off,cap,rfl,_,_,hb,_,hr⟩
 .rw[h0]at he;obtain⟨rfl,rfl⟩:A=[]/\R=[]:=by
   have:=congrArg List.length he;simp at this;exact⟨BR (by omega),BR (by omega)⟩
  exact BJ9 a cap s w
 .subst he;rw[AO];exact C39 b off cap A R s w (by simp at hl;omega) hb hr lo hi
theorem wR(v:FV)(ss A B:List Int)(s:Int)(w:FU)(hv:IU w v ss)(hl:ss.length<=2147483647)(T:jJ ss A B s):
  FW prog 219 #[v,I0 s] w fun e w'=>e=.returned (.tuple #[I0 A.length,.bool true])/\w'=w:=by
 have:=wO v ss A (s::B) s w hv hl T.eq T.lo (fun a ha=>by
  rcases BO.1 ha with rfl|h
  .omega
  .have:=T.hi a h;omega)
 rwa[show AM0 (s::B) s=true from by simp[AM0]]at this
theorem B06(v:FV)(ss A B:List Int)(s:Int)(w:FU)(hv:IU w v ss)(hl:ss.length<=2147483647)(G:C25 ss A B s):
  FW prog 219 #[v,I0 s] w fun e w'=>e=.returned (.tuple #[I0 A.length,.bool false])/\w'=w:=by
 have:=wO v ss A B s w hv hl G.eq G.lo (fun a ha=>by have:=G.hi a ha;omega);rwa[show AM0 B s=false from by
  cases B with
  |nil=>rfl
  |cons f B=>exact decide_eq_false (by have:=G.hi f (by simp);omega)]at this
theorem bI(z:Int)(vn vs:FV)(ss:List Int)(s:Int)(w:FU)(hv:IU w vs ss)(hs:qR ss):
  FW prog 196 #[.agg #[I0 z,vn,vs],I0 s] w (R0 w (.bool (decide (s∈ss)))):=by
 have C:∀W:FU,B0 w W->∃i:Nat,FW prog 219 #[vs,I0 s] W fun e w'=>e=.returned (.tuple #[I0 i,.bool (decide (s∈ss))])/\w'=W:=fun W hW=>by
  rcases vF s ss hs.1 with⟨A,B,T⟩|⟨A,B,G⟩
  .rw[show decide (s∈ss)=true from decide_eq_true T.mem];exact⟨A.length,wR vs ss A B s W (hv.next hW) (VF hs) T⟩
  .rw[show decide (s∈ss)=false from decide_eq_false G.not];exact⟨A.length,B06 vs ss A B s W (hv.next hW) (VF hs) G⟩
 have C':=G6 C;obtain⟨a,c,rfl⟩:=GK hv;clear C hv hs;generalize decide (s∈ss)=hd at C'⊢;generalize ss.length=n at C'⊢;go_enter func196,ntmps196;go_wp2_with fail;obtain⟨i,C2⟩:=G5 C' _ (G7 _ _);refine C2.mono ?_;rintro e w1 ⟨rfl,rfl⟩;go_wp2_with fail;go_ret;exact⟨rfl,G7 _ _⟩
theorem wU(w:FU){o:Oper}{a:Act}{K:Act->FU->Prop}{Q:Exit->Act->FU->Prop}(d s:Operand)(t t':TypeId)
  (ho:o.op=.call {callee:=.builtin .copy,args:=#[d,s],argTypes:=#[t,t']}) (v u:FV) (hd:a.eval d=v) (hs:a.eval s=u) {v':FV} {w':FU}
  (hr:(DW #[t,t'] o.type #[v,u]).run prog w=.ok v' w') (h:K (a.put o.dst v') w'):o.wp prog a w K Q:=by
 unfold Oper.wp execOp;simp only[ho,resolve,invoke,builtin,Sem.run_bind,Sem.run_pure,Result.andThen_ok,List.map_toArray,List.map_cons,List.map_nil,hd,hs,hr];exact h
theorem LH(w:FU){ops:Array Oper}{rest:List Oper}{o:Oper}{a:Act}{Q:Exit->Act->FU->Prop}(hgd:o.guard=FX)(d s:Operand)(t t':TypeId)
  (ho:o.op=.call {callee:=.builtin .copy,args:=#[d,s],argTypes:=#[t,t']}) (v u:FV) (hd:a.eval d=v) (hs:a.eval s=u) {v':FV} {w':FU}
  (hr:(DW #[t,t'] o.type #[v,u]).run prog w=.ok v' w') (h:wpList prog ops Q rest (a.put o.dst v') w'):wpList prog ops Q (o::rest) a w:=
 wpList_plain hgd fun _ hK=>wU w d s t t' ho v u hd hs hr (hK _ _ h)
theorem MX{ops:Array Oper}{o:Oper}{a:Act}{w:FU}{K:Act->FU->Prop}{Q:Exit->Act->FU->Prop}{E:Prop}
  (hg:o.guard=FX) (d x:Operand) (dT sT:TypeId) (hop:o.op=Op.call {callee:=Callee.builtin Builtin.copy,args:=#[d,x],argTypes:=#[dT,sT]})
  (v u:FV) (hd:a.eval d=v) (hx:a.eval x=u) {v':FV} {w':FU} (hr:(DW #[dT,sT] o.type #[v,u]).run prog w=.ok v' w') (hK:K (a.put o.dst v') w'):
  if Region.wanted o (yielded ops a.tmps)=true then Oper.wp prog o a w K Q else E:=by
 have hw:Region.wanted o (yielded ops a.tmps)=true:=by simp[Region.wanted,hg]
 rw[if_pos hw];unfold Oper.wp;simp[execOp,hop,resolve,invoke,builtin,hd,hx,hr,Result.andThen];exact hK
theorem JA(ns:List Nd):(G9 ns).length=ns.length*9:=GX ns
theorem J9.rJ{pre tl:List Nd}(h:J9 W g cap (pre++tl))(new:List Nd)(hfit:pre.length+new.length<=cap):J9 (W.setCells g (pre.length*9) (G9 new)) g cap (pre++new):=h.splice new hfit
theorem J9.CI8{fs:List Nd}(h:J9 W g cap fs)(vs:List FV)(o:Nat)(ho:fs.length*9<=o)(hfit:o+vs.length<=cap*9):J9 (W.setCells g o vs) g cap fs:=h.spare vs o ho hfit
theorem J9.CU4{y:Nd}(h:J9 W g cap (A++y::B))(x:Nd):J9 (W.setCells g (A.length*9) (MG x)) g cap (A++x::B):=h.vX x
theorem J9.AM2{fs:List Nd}(h:J9 W g cap fs){j:Nat}(hj:j<cap*9):(W.cell? ⟨g,j,FX⟩).isSome=true:=h.some hj
theorem J9.rM{pre tl:List Int}(h:J9 W g cap (pre++tl))(new:List Int)(hfit:pre.length+new.length<=cap):J9 (W.setCells g pre.length (G9 new)) g cap (pre++new):=by
 have:=h.splice new hfit;rwa[show pre.length*Lay.k Int=pre.length from Nat.mul_one _]at this
theorem J9.CI9{fs:List Int}(h:J9 W g cap fs)(vs:List FV)(o:Nat)(ho:fs.length<=o)(hfit:o+vs.length<=cap):J9 (W.setCells g o vs) g cap fs:=
 h.spare vs o (by rw[show fs.length*Lay.k Int=fs.length from Nat.mul_one _];exact ho) (by rw[show cap*Lay.k Int=cap from Nat.mul_one _];exact hfit)
theorem J9.CU5{A B:List Int}{y:Int}(h:J9 W g cap (A++y::B))(x:Int):J9 (W.setCells g A.length [I0 x]) g cap (A++x::B):=by
 have:=h.vX x;rwa[show A.length*Lay.k Int=A.length from Nat.mul_one _]at this
theorem J9.AM3{fs:List Int}(h:J9 W g cap fs){j:Nat}(hj:j<cap):(W.cell? ⟨g,j,FX⟩).isSome=true:=h.some (by rw[show cap*Lay.k Int=cap from Nat.mul_one _];exact hj)
theorem CJ0:(prog.info? 49).map (fun i=>(i.zero,i.size,i.bytes))=FZ (FZ (.agg #[.string ⟨#[]⟩,.string ⟨#[]⟩,I0 0,I0 0,I0 0,I0 0,I0 0,I0 0,I0 0]),9,88):=by kernel_rfl
theorem AM4:∃i0,prog.info? 49=FZ i0/\i0.zero=FZ (.agg #[.string ⟨#[]⟩,.string ⟨#[]⟩,I0 0,I0 0,I0 0,I0 0,I0 0,I0 0,I0 0])/\i0.size=9/\i0.bytes=88:=by
 obtain⟨i0,h,e⟩:=FK.1 CJ0;simp only[Prod.mk.injEq]at e;exact⟨i0,h,e⟩
def XG:List FV:=[.string ⟨#[]⟩,.string ⟨#[]⟩,I0 0,I0 0,I0 0,I0 0,I0 0,I0 0,I0 0]
theorem C40(w:FU)(ty:TypeId)(b o c:Nat)(hc:∀j,j<9->(w.cell? ⟨b,o+j,FX⟩).isSome=true)(hf:∀j,j<9->w.frozen? ⟨b,o+j,FX⟩=false):
  (Builtin.clear_ #[58] ty #[FQ (FZ ⟨b,o,FX⟩) 1 c]).run prog w=.ok (.tuple #[]) (w.setCells b o XG):=by
 have hzc:(BH (Value.agg #[.string ⟨#[]⟩,.string ⟨#[]⟩,I0 0,I0 0,I0 0,I0 0,I0 0,I0 0,I0 0]).cells 1).toList=XG:=by kernel_rfl
 have hst:=run_storeCells_cells (P:=prog) b o XG 0 w (by simpa [XG]using hc) (by simpa [XG]using hf) (by simp[XG,Value.oneCell']);simp only[Nat.add_zero]at hst;simp[Builtin.clear_,run_underlying underlying58,hzc,hst]
theorem A21(g cap:Nat)(A B:List Nd)(f:Nd)(n:Nat)(w:FU)(ho:J9 w g cap (A++f::B))(hn:n=A.length+B.length+1)(hsm:n<=400):
  FW prog 228 #[FQ (FZ ⟨g,0,FX⟩) n cap,I0 A.length,I0 (A.length+1:Nat)] w fun e w'=>
   e=.returned (FQ (FZ ⟨g,0,FX⟩) (A.length+B.length) cap)/\J9 w' g cap (A++B)/\w.grownBy w' (FZ g):=by
 obtain⟨i0,hi0,hz0,hz1,hz2⟩:=AM4;have hle:=ho.le;have hcl:=ho.capLe;simp only[maxLen]at hcl;rw[AO,BG]at hle;have hrow:=ho.row;obtain⟨AD,hAD,hsrc⟩:∃AD:Addr,(if cap=A.length+1 then FZ (⟨g,0,FX⟩:Addr)else FZ ⟨g,(A.length+1)*9,FX⟩)=FZ AD/\Hid (∀t u,(G9 B)[t]?=FZ u->w.drew.cell? (AD.add t)=FZ u):=by
  by_cases h:cap=A.length+1
  .refine⟨⟨g,0,FX⟩,by simp[h],fun t u hu=>?_⟩;have h0:B=[]:=BR (by omega);rw[h0]at hu;simp[SE]at hu
  .refine⟨⟨g,(A.length+1)*9,FX⟩,by simp[h],fun t u hu=>?_⟩;rw[BJ];have:=hrow ((A.length+1)*9+t) u (by
    rw[H8,BA (by rw[JA];omega),JA,JO,BA (by rw[Lay.len];show 9<=_;omega)];rw[Lay.len,<-hu];congr 1;show _-9=_;omega)
   rw[BI]at this;exact this
 have s1:Hid ((G9 B).length=B.length*9):=JA B;have s2:Hid (∀u∈G9 B,u.oneCell'=true):=JL B;have s3:Hid (∀t,t<(G9 B).length->(w.drew.cell? ⟨g,0+A.length*9+t,FX⟩).isSome=true/\w.drew.frozen? ⟨g,0+A.length*9+t,FX⟩=false):=by
  intro t ht;rw[JA]at ht;exact⟨ho.AM2 (by omega),ho.frozen _⟩
 obtain⟨W1,hW1⟩:∃W1,W1=w.drew.setCells g (0+A.length*9) (G9 B):=⟨_,rfl⟩;have ho1:J9 W1 g cap (A++B):=by rw[hW1,BI];exact ho.drew.rJ B (by omega)
 have hg1:w.grownBy W1 (FZ g):=by rw[hW1];have:=I5 (g:=g) (G9 B) (0+A.length*9) w.drew;exact⟨this.os,this.tape,this.output,this.size,this.block⟩
 have CS2:∀ty c,(Builtin.clear_ #[58] ty #[FQ (FZ ⟨g,(A.length+B.length)*9,FX⟩) 1 c]).run prog W1=.ok (.tuple #[]) (W1.setCells g ((A.length+B.length)*9) XG):=fun ty c=>
  C40 W1 ty g _ c (fun j hj=>ho1.AM2 (by omega)) (fun j hj=>ho1.frozen _)
 have FIN:Hid (J9 (W1.setCells g ((A.length+B.length)*9) XG) g cap (A++B)/\w.grownBy (W1.setCells g ((A.length+B.length)*9) XG) (FZ g)):=
  ⟨ho1.CI8 XG _ (by rw[AO];omega) (by simp[XG];omega),IL hg1 (I5 _ _ _)⟩
 have hW:Hid (W1=w.drew.setCells g (0+A.length*9) (G9 B)):=hW1;have hic:A.length<=cap:=by omega
 have hjc:A.length+1<=cap:=by omega
 have hne:¬ (cap=A.length+B.length):=by omega
 have hb1:(0:Int)<=(A.length:Int)+1:=by omega
 have hb2:(A.length:Int)<=(A.length:Int)+(B.length:Int):=by omega
 have hb3:(0:Int)<=(A.length:Int)+(B.length:Int):=by omega
 have hs1:A.length+B.length+1-(A.length+B.length)=1:=by omega
 clear hW1 ho1 hg1 hrow ho;subst hn;go_enter func228,ntmps228;go_wp2_with fail
 go_region_law (refine step_append_room rfl (.tmp 22) (.tmp 25) 58 rfl 49 i0 9 underlying58 hi0 hz1 g 0 A.length cap (by simp[Act.eval,Act.put]) AD B.length (cap-(A.length+1)) (G9 B) (by simp[Act.eval,Act.put]) s1.out hsrc.out s2.out (by omega) s3.out ?_;rw[<-hW.out])
 go_wp2
 go_ret;exact⟨rfl,FIN.out⟩
theorem AC2(w:FU)(ty:TypeId)(b o dLen dCap:Nat)(a:Addr)(sLen sCap:Nat)(cs:List FV)(hn:cs.length=Nat.min sLen dLen*9)
  (hsrc:∀j v,cs[j]?=FZ v->w.cell? (a.add j)=FZ v) (hc:∀j,j<cs.length->(w.cell? ⟨b,o+j,FX⟩).isSome=true) (hf:∀j,j<cs.length->w.frozen? ⟨b,o+j,FX⟩=false) (h1:∀v∈cs,v.oneCell'=true):
  (DW #[58,58] ty #[FQ (FZ ⟨b,o,FX⟩) dLen dCap,FQ (FZ a) sLen sCap]).run prog w=.ok (goInt (Nat.min sLen dLen)) (w.setCells b o cs):=by
 have hl:=run_loadCells_list (P:=prog) w a cs hsrc;have hst:=run_storeCells_cells (P:=prog) b o cs 0 w (by simpa using hc) (by simpa using hf) h1;obtain⟨i0,hi0,hz0,hz1,hz2⟩:=AM4;simp[DW,run_underlying underlying58,Builtin.lenOf,Builtin.firstCells,sizeOf,typeInfo,hi0,hz1,<-hn,hl,hst]
theorem A22(v:FV)(A:List Nd)(x:Nd)(B b:Nat)(w:FU)(ho:GZ w B v A)(hB:B<=w.heap.size)(hl:A.length<=400)(h1:JF w b x):
  FW prog 225 #[v,I0 A.length,FQ (FZ ⟨b,0,FX⟩) 1 1] w fun e w'=>
   ∃v',e=.returned v'/\GZ w' B v' (A++[x])/\w.grownBy w' v.ownBlock/\(v'.ownBlock=v.ownBlock\/v'.ownBlock=FZ w.heap.size):=by
 obtain⟨i0,hi0,hz0,hz1,hz2⟩:=AM4;have hrow:=ho.row;have HR:=G6 hrow;have H1:=G6 h1.row;have V:∃a c,v=FQ a A.length c/\A.length<=c:=by
  rcases ho with⟨rfl,rfl⟩|⟨g,cap,rfl,_,h⟩
  .exact⟨FX,0,rfl,A8 _⟩
  .exact⟨_,cap,rfl,h.le⟩
 obtain⟨a,c,rfl,hc⟩:=V;clear ho hrow h1;rcases Nat.lt_or_ge A.length c with hcl|hcl
 .have hne:¬c=A.length:=by omega
  go_enter func225,ntmps225;go_wp2_with (at_builtin;refine wpList_append_own_at _ rfl _ _ 58 rfl B 49 i0 _ 9 88 underlying58 hi0 hz0 hz1 hz2 rfl (by decide) _ A.length (G9 A) rfl (G5 HR) ⟨b,0,FX⟩ 1 1 (MG x) rfl (by rfl) ?qc2 ((Lay.one x)) ?qc4 ?qc5 hB ?_)
  case qc2=>
   intro j u hj;rw[BJ];exact G5 H1 j u hj
  case qc4=>simp only[maxLen];omega
  case qc5=>omega
  intro v' w1 hown hgrow _ hloc
  go_wp2
  go_ret;exact⟨v',rfl,GZ.LD (by rw[AO,JE];exact hown),hgrow,hloc⟩
 .obtain rfl:c=A.length:=by omega
  go_enter func225,ntmps225;go_wp2_with (at_builtin;refine wpList_append_own_at _ rfl _ _ 58 rfl B 49 i0 _ 9 88 underlying58 hi0 hz0 hz1 hz2 rfl (by decide) _ A.length (G9 A) rfl (G5 HR) ⟨b,0,FX⟩ 1 1 (MG x) rfl (by rfl) ?qc2 ((Lay.one x)) ?qc4 ?qc5 hB ?_)
  case qc2=>
   intro j u hj;rw[BJ];exact G5 H1 j u hj
  case qc4=>simp only[maxLen];omega
  case qc5=>omega
  intro v' w1 hown hgrow _ hloc
  go_wp2
  go_ret;exact⟨v',rfl,GZ.LD (by rw[AO,JE];exact hown),hgrow,hloc⟩
theorem rO(g cap:Nat)(A R:List Nd)(y x:Nd)(n b:Nat)(w:FU)(ho:J9 w g cap (A++y::R))(hn:n=A.length+R.length+1)(hsm:n<=400)(hroom:n+1<=cap)(h1:JF w b x)(hbg:b≠g):
  FW prog 225 #[FQ (FZ ⟨g,0,FX⟩) n cap,I0 A.length,FQ (FZ ⟨b,0,FX⟩) 1 1] w fun e w'=>
   e=.returned (FQ (FZ ⟨g,0,FX⟩) (n+1) cap)/\J9 w' g cap (A++x::y::R)/\w.grownBy w' (FZ g):=by
 have hcl:=ho.capLe;simp only[maxLen]at hcl;have hrow:=ho.row;have AZ7:w.shape? g=FZ (49,cap*9):=by
  obtain⟨rest,q1,q2,_⟩:=ho;rw[AO,BG]at q2;simp[World.shape?,q1,JA];exact⟨rfl,q2⟩
 have AZ8:w.shape? b=FZ (49,9):=by unfold JF at h1;simp[World.shape?,h1];exact⟨rfl,rfl⟩
 have hfb:∀j,w.frozen? ⟨b,j,FX⟩=false:=fun j=>by unfold JF at h1;simp[World.frozen?,h1]
 have hov:∀lb cb,(callFunc 249 #[FQ (FZ ⟨b,0,FX⟩) 1 1,FQ (FZ ⟨g,(A.length+1)*9,FX⟩) lb cb]).run prog w=.ok (.value (.bool false)) w:=fun lb cb=>by
  rw[run_callFunc_extern func249 (by kernel_rfl) (by kernel_rfl) (by kernel_rfl) (e:=Extern.SlicesOverlaps.overlaps #[58,58] #[4]) (by kernel_rfl),
   Lib.run_overlaps_apart w 58 4 49 underlying58 9 sizeOf49 ⟨b,0,FX⟩ ⟨g,(A.length+1)*9,FX⟩ 1 1 lb cb hbg 49 49 9 (cap*9) AZ8 AZ7 (by omega) (hfb 0) (hfb 9)]
  rfl
 obtain⟨W1,hW1⟩:∃W1,W1=w.drew.setCells g ((A.length+1)*9) (G9 (y::R)):=⟨_,rfl⟩;have ho1:J9 W1 g cap (A++y::y::R):=by
  have h:J9 w.drew g cap ((A++[y])++R):=by rw[BQ];exact ho
  have:=h.rJ (y::R) (by simp;omega);rw[hW1];simpa using this
 have hg1:w.grownBy W1 (FZ g):=by rw[hW1];have:=I5 (g:=g) (G9 (y::R)) ((A.length+1)*9) w.drew;exact⟨this.os,this.tape,this.output,this.size,this.block⟩
 have hcp1:∀ty dc sc,(DW #[58,58] ty #[FQ (FZ ⟨g,(A.length+1)*9,FX⟩) (n-A.length) dc,FQ (FZ ⟨g,A.length*9,FX⟩) (n+1-A.length) sc]).run prog w.drew=.ok (goInt (Nat.min (n+1-A.length) (n-A.length))) W1:=fun ty dc sc=>by
  rw[hW1];exact AC2 w.drew ty g _ _ dc ⟨g,A.length*9,FX⟩ _ sc (G9 (y::R)) (by rw[JA];simp only[Nat.min_def,BG];split<;>omega)
   (fun j v hj=>by
    rw[BJ];have:=hrow (A.length*9+j) v (by rw[H8,BA (by rw[JA];omega),JA,FB];exact hj);rw[BI]at this;exact this)
   (fun j hj=>by rw[JA]at hj;exact ho.AM2 (by simp at hj;omega)) (fun j _=>ho.frozen _) (JL _)
 have hcp2:∀ty dc,(DW #[58,58] ty #[FQ (FZ ⟨g,A.length*9,FX⟩) (n+1-A.length) dc,FQ (FZ ⟨b,0,FX⟩) 1 1]).run prog W1=.ok (goInt (Nat.min 1 (n+1-A.length))) (W1.setCells g (A.length*9) (MG x)):=fun ty dc=>
  AC2 W1 ty g _ _ dc ⟨b,0,FX⟩ 1 1 (MG x) (by simp only[Nat.min_def,MG,BG,ES];split<;>omega)
   (fun j v hj=>by
    rw[BJ];have hb2:W1.heap[b]?=w.heap[b]? :=hg1.block b (by unfold JF at h1;exact(AB.1 h1).1) (fun e=>hbg (Option.some.inj e));have h2:JF W1 b x:=hb2.trans h1;exact h2.row j v hj)
   (fun j hj=>ho1.AM2 (by simp[MG]at hj;omega)) (fun j _=>ho1.frozen _) ((Lay.one x))
 have FIN:Hid (J9 (W1.setCells g (A.length*9) (MG x)) g cap (A++x::y::R)/\w.grownBy (W1.setCells g (A.length*9) (MG x)) (FZ g)):=
  ⟨ho1.CU4 x,IL hg1 (I5 _ _ _)⟩
 have hin:A.length<n:=by omega
 have C36:(A.length:Int)<(n:Int):=by omega
 have hw1:IntKind.i64.wrap ((A.length:Int)+1)=(A.length:Int)+1:=by rw[FD];omega
 have hb1:(0:Int)<=(A.length:Int)+1:=by omega
 have hb2:¬ (cap=A.length+1):=by omega
 have hb3:(A.length:Int)<=(n:Int)+1:=by omega
 have hb4:¬ (cap=A.length):=by omega
 have hb5:(A.length:Int)+1<=(n:Int)+1:=by omega
 have hb6:¬ ((cap:Int)<(n:Int)+1):=by omega
 have hz2:¬ ((A.length:Int)=(n:Int)):=by omega
 have htn:((A.length:Int)+1).toNat=A.length+1:=by omega
 clear hW1 ho1 hg1 hrow AZ7 AZ8 hfb ho h1 hn;go_enter func225,ntmps225;go_wp2_with (simp only[hov])
 go_region_law (refine MX rfl (.tmp 73) (.tmp 76) 58 58 rfl (FQ (FZ ⟨g,(A.length+1)*9,FX⟩) (n-A.length) (cap-(A.length+1))) (FQ (FZ ⟨g,A.length*9,FX⟩) (n+1-A.length) (cap-A.length)) (by simp[Act.eval,Act.put]) (by simp[Act.eval,Act.put]) (hcp1 _ _ _) ?_)
 go_wp2_with (at_builtin;refine LH _ rfl _ _ 58 58 rfl _ _ rfl rfl (hcp2 _ _) ?_);go_ret;exact⟨rfl,FIN.out⟩
theorem CJ2(k:Nat):(BH (Value.agg #[.string ⟨#[]⟩,.string ⟨#[]⟩,I0 0,I0 0,I0 0,I0 0,I0 0,I0 0,I0 0]).cells k).size=k*9:=by
 simp[BH,Value.cells]
theorem wV(g cap:Nat)(A R:List Nd)(y x:Nd)(n b:Nat)(w:FU)(ho:J9 w g cap (A++y::R))(hn:n=A.length+R.length+1)(hsm:n<=400)(hroom:cap<n+1)(h1:JF w b x):
  FW prog 225 #[FQ (FZ ⟨g,0,FX⟩) n cap,I0 A.length,FQ (FZ ⟨b,0,FX⟩) 1 1] w fun e w'=>
   ∃cap',e=.returned (FQ (FZ ⟨w.heap.size,0,FX⟩) (n+1) cap')/\J9 w' w.heap.size cap' (A++x::y::R)/\B0 w w':=by
 have hcap:cap=n:=by have:=ho.le;simp at this;omega
 obtain⟨i0,hi0,hz0,hz1,hz2⟩:=AM4;have hrow:=ho.row;have hgw:=ho.lt;have hbw:b<w.heap.size:=by unfold JF at h1;exact(AB.1 h1).1
 have hold:(Builtin.firstCells i0.size A.length (FQ (FZ ⟨g,0,FX⟩) A.length cap)).run prog w.drew=.ok (G9 A).toArray w.drew:=by
  rw[hz1];exact run_firstCells_some w.drew 9 A.length ⟨g,0,FX⟩ A.length cap (G9 A) (JA A) (fun j v hj=>by
   rw[BJ];exact hrow j v (by rw[H8,BK (AU.1 hj).1];exact hj))
 obtain⟨G,hG⟩:∃G,G=grownCap w (n+1) cap 49:=⟨_,rfl⟩;have hGn:n+1<=G:=by rw[hG];exact grownCap_ge w _ _ _
 have hGm:G<=maxLen:=by rw[hG];exact grownCap_le_maxLen w (n+1) cap _ (by unfold maxLen;omega)
 have hG63:G<=9223372036854775807:=by have:=hGm;unfold maxLen at this;omega
 obtain⟨ROW,hROW⟩:∃ROW:Array FV,ROW=(G9 A).toArray++BH (Value.agg #[.string ⟨#[]⟩,.string ⟨#[]⟩,I0 0,I0 0,I0 0,I0 0,I0 0,I0 0,I0 0]).cells (n+1-A.length)++BH (Value.agg #[.string ⟨#[]⟩,.string ⟨#[]⟩,I0 0,I0 0,I0 0,I0 0,I0 0,I0 0,I0 0]).cells (G-(n+1)):=⟨_,rfl⟩;obtain⟨W1,hW1⟩:∃W1,W1=w.drew.alloc (.cells ROW 49):=⟨_,rfl⟩;have hik:A.length+(n+1-A.length)=n+1:=by omega
 have hrz:∀ty,(Builtin.append_ #[58,3] ty #[FQ (FZ ⟨g,0,FX⟩) A.length cap,I0 ((n:Int)+1-(A.length:Int))]).run prog w=
   .ok (FQ (FZ ⟨w.heap.size,0,FX⟩) (n+1) G) W1:=fun ty=>by
  have h:=Lib.run_append_grow_zeros w 58 3 ty 49 i0 _ .i64 .i64 underlying58 underlying3 hi0 hz0 (FZ ⟨g,0,FX⟩) A.length cap (G9 A) hold (n+1-A.length) (by omega) (by omega) (by omega) (by omega) (by rw[hz2];omega) (by rw[hz2,hik];exact growslice_fits hroom (by omega));rw[hik,<-hG,<-hROW,<-hW1]at h;rw[show (n:Int)+1-(A.length:Int)=((n+1-A.length:Nat):Int) by omega];exact h
 have ho1:J9 W1 w.heap.size G A:=by
  refine⟨(BH (Value.agg #[.string ⟨#[]⟩,.string ⟨#[]⟩,I0 0,I0 0,I0 0,I0 0,I0 0,I0 0,I0 0]).cells (n+1-A.length)++BH (Value.agg #[.string ⟨#[]⟩,.string ⟨#[]⟩,I0 0,I0 0,I0 0,I0 0,I0 0,I0 0,I0 0]).cells (G-(n+1))).toList,?_,?_,by omega,hGm⟩
  .rw[hW1,hROW];have:=heap_alloc_new w.drew (.cells ((G9 A).toArray++BH (Value.agg #[.string ⟨#[]⟩,.string ⟨#[]⟩,I0 0,I0 0,I0 0,I0 0,I0 0,I0 0,I0 0]).cells (n+1-A.length)++BH (Value.agg #[.string ⟨#[]⟩,.string ⟨#[]⟩,I0 0,I0 0,I0 0,I0 0,I0 0,I0 0,I0 0]).cells (G-(n+1))) 49);refine Eq.trans this ?_
   congr 2
   apply Array.toList_inj.1
   simp
  .simp only[show Lay.k Nd=9 from rfl,Array.length_toList,Array.size_append,CJ2];omega
 have hB1:B0 w W1:=by rw[hW1];exact((Below.refl _ w).drew).alloc (A8 _) _
 obtain⟨W2,hW2⟩:∃W2,W2=W1.setCells w.heap.size (A.length*9) (MG x):=⟨_,rfl⟩;have ho2:J9 W2 w.heap.size G (A++[x]):=by
  have h:J9 W1 w.heap.size G (A++[]):=by rw[DL];exact ho1
  have:=h.rJ [x] (by simp;omega);rw[hW2];rw[JO,SE,DL]at this;exact this
 have hg2:W1.grownBy W2 (FZ w.heap.size):=by rw[hW2];exact I5 _ _ _
 have hB2:B0 w W2:=hB1.grown hg2 hB1.size (fun k e=>by cases e;exact A8 _);have hcpA:∀ty dc,(DW #[58,58] ty #[FQ (FZ ⟨w.heap.size,A.length*9,FX⟩) (n+1-A.length) dc,FQ (FZ ⟨b,0,FX⟩) 1 1]).run prog W1=.ok (goInt (Nat.min 1 (n+1-A.length))) W2:=fun ty dc=>by
  rw[hW2];exact AC2 W1 ty w.heap.size _ _ dc ⟨b,0,FX⟩ 1 1 (MG x) (by simp only[Nat.min_def,MG,BG,ES];split<;>omega)
   (fun j v hj=>by rw[BJ];exact(show JF W1 b x from(hB1.block b hbw).trans h1).row j v hj)
   (fun j hj=>ho1.AM2 (by simp[MG]at hj;omega)) (fun j _=>ho1.frozen _) ((Lay.one x))
 obtain⟨W3,hW3⟩:∃W3,W3=W2.drew.setCells w.heap.size ((A.length+1)*9) (G9 (y::R)):=⟨_,rfl⟩;have hcpB:∀ty dc sc,(DW #[58,58] ty #[FQ (FZ ⟨w.heap.size,(A.length+1)*9,FX⟩) (n-A.length) dc,FQ (FZ ⟨g,A.length*9,FX⟩) (n-A.length) sc]).run prog W2.drew=.ok (goInt (Nat.min (n-A.length) (n-A.length))) W3:=fun ty dc sc=>by
  rw[hW3];exact AC2 W2.drew ty w.heap.size _ _ dc ⟨g,A.length*9,FX⟩ _ sc (G9 (y::R)) (by rw[JA];simp only[Nat.min_self,BG];omega)
   (fun j v hj=>by
    rw[BJ];have:=hrow (A.length*9+j) v (by rw[H8,BA (by rw[JA];omega),JA,FB];exact hj);rw[BI]at this;exact(hB2.cell (p:=⟨g,A.length*9+j,FX⟩) hgw).trans this)
   (fun j hj=>by rw[JA]at hj;exact ho2.drew.AM2 (by simp at hj;omega)) (fun j _=>ho2.drew.frozen _) (JL _)
 have FIN:Hid (J9 W3 w.heap.size G (A++x::y::R)/\B0 w W3):=by
  refine⟨?_,?_⟩
  .have h:J9 W2.drew w.heap.size G ((A++[x])++[]):=by rw[DL];exact ho2
   have:=h.rJ (y::R) (by simp;omega);rw[hW3];simpa using this
  .rw[hW3];exact hB2.drew.grown (I5 _ _ _) hB2.size (fun k e=>by cases e;exact A8 _)
 have hin:A.length<n:=by omega
 have C36:(A.length:Int)<(n:Int):=by omega
 have hw1:IntKind.i64.wrap ((A.length:Int)+1)=(A.length:Int)+1:=by rw[FD];omega
 have hb1:(0:Int)<=(A.length:Int)+1:=by omega
 have hb2:¬ (G=A.length+1):=by omega
 have hb3:(A.length:Int)<=(n:Int)+1:=by omega
 have hb4:¬ (n=A.length):=by omega
 have hb5:(A.length:Int)+1<=(n:Int)+1:=by omega
 have hb6:¬ (G=A.length):=by omega
 have hb7:(A.length:Int)<=(n:Int):=by omega
 have hz3:¬ ((A.length:Int)=(n:Int)):=by omega
 have htn:((A.length:Int)+1).toNat=A.length+1:=by omega
 subst hcap;clear hn hROW hW1 hW2 hW3 hG hrow ho h1 ho1 ho2 hB1 hB2 hg2 hold hik;go_enter func225,ntmps225;go_wp2_with (first
  |(at_builtin;refine Lib.wpList_append_run _ rfl _ _ _ _ rfl _ _ rfl rfl _ _ (hrz _) ?_)
  |(at_builtin;refine LH _ rfl _ _ 58 58 rfl _ _ rfl rfl (hcpA _ _) ?_))
 go_region_law (refine MX rfl (.tmp 50) (.tmp 53) 58 58 rfl (FQ (FZ ⟨w.heap.size,(A.length+1)*9,FX⟩) (cap-A.length) (G-(A.length+1))) (FQ (FZ ⟨g,A.length*9,FX⟩) (cap-A.length) (cap-A.length)) (by simp[Act.eval,Act.put]) (by simp[Act.eval,Act.put]) (hcpB _ _ _) ?_)
 go_wp2
 go_ret;exact⟨G,rfl,FIN.out⟩
theorem A23(v:FV)(A R:List Nd)(x:Nd)(q:Nat)(w:FU)(ho:GZ w 0 v (A++R))(hl:(A++R).length<=400)(h1:JF w q x)(hq:v.ownBlock≠FZ q):
  FW prog 225 #[v,I0 A.length,FQ (FZ ⟨q,0,FX⟩) 1 1] w fun e w'=>
   ∃v',e=.returned v'/\GZ w' 0 v' (A++x::R)/\w.grownBy w' v.ownBlock/\(v'.ownBlock=v.ownBlock\/∃k,w.heap.size<=k/\v'.ownBlock=FZ k):=by
 cases R with
 |nil=>
  rw[DL]at ho hl;refine(A22 v A x 0 q w ho (AY _) hl h1).mono ?_;rintro e w' ⟨v',rfl,h2,h3,h4⟩;refine⟨v',rfl,h2,h3,?_⟩;rcases h4 with h|h
  .exact .inl h
  .exact .inr ⟨_,A8 _,h⟩
 |cons y R=>
  rcases ho with⟨_,h⟩|⟨g,cap,rfl,_,ho⟩
  .simp at h
  .have hn:(A++y::R).length=A.length+R.length+1:=by simp;omega
   by_cases hc:(A++y::R).length+1<=cap
   .refine(rO g cap A R y x _ q w ho hn hl hc h1 (fun e=>hq (by rw[e];rfl))).mono ?_;rintro e w' ⟨rfl,h2,h3⟩;exact⟨_,rfl,.inr ⟨g,cap,by simp;omega,AY _,h2⟩,h3,.inl rfl⟩
   .refine(wV g cap A R y x _ q w ho hn hl (by omega) h1).mono ?_;rintro e w' ⟨cap',rfl,h2,h3⟩;exact⟨_,rfl,.inr ⟨w.heap.size,cap',by simp;omega,AY _,h2⟩,⟨h3.os,h3.tape,h3.output,h3.size,fun k hk _=>h3.block k hk⟩,.inr ⟨_,A8 _,rfl⟩⟩
theorem CJ3:(prog.info? 3).map (fun i=>(i.zero,i.size,i.bytes))=FZ (FZ (I0 0),1,8):=by kernel_rfl
theorem A25:∃i0,prog.info? 3=FZ i0/\i0.zero=FZ (I0 0)/\i0.size=1/\i0.bytes=8:=by
 obtain⟨i0,h,e⟩:=FK.1 CJ3;simp only[Prod.mk.injEq]at e;exact⟨i0,h,e⟩
def XH:List FV:=[I0 0]
theorem C48(w:FU)(ty:TypeId)(b o c:Nat)(hc:∀j,j<1->(w.cell? ⟨b,o+j,FX⟩).isSome=true)(hf:∀j,j<1->w.frozen? ⟨b,o+j,FX⟩=false):
  (Builtin.clear_ #[59] ty #[FQ (FZ ⟨b,o,FX⟩) 1 c]).run prog w=.ok (.tuple #[]) (w.setCells b o XH):=by
 have hzc:(BH (I0 0).cells 1).toList=XH:=by kernel_rfl
 have hst:=run_storeCells_cells (P:=prog) b o XH 0 w (fun j hj=>hc j (by simpa [XH]using hj)) (fun j hj=>hf j (by simpa [XH]using hj)) (by simp[XH,Value.oneCell']);simp only[Nat.add_zero]at hst;simp[Builtin.clear_,run_underlying underlying59,hzc,hst]
theorem A26(g cap:Nat)(A B:List Int)(f:Int)(n:Nat)(w:FU)(ho:J9 w g cap (A++f::B))(hn:n=A.length+B.length+1)(hsm:n<=2147483647):
  FW prog 223 #[FQ (FZ ⟨g,0,FX⟩) n cap,I0 A.length,I0 (A.length+1:Nat)] w fun e w'=>
   e=.returned (FQ (FZ ⟨g,0,FX⟩) (A.length+B.length) cap)/\J9 w' g cap (A++B)/\w.grownBy w' (FZ g):=by
 obtain⟨i0,hi0,hz0,hz1,hz2⟩:=A25;have hle:=ho.le;have hcl:=ho.capLe;simp only[maxLen]at hcl;rw[AO,BG]at hle;have hrow:=ho.row;obtain⟨AD,hAD,hsrc⟩:∃AD:Addr,(if cap=A.length+1 then FZ (⟨g,0,FX⟩:Addr)else FZ ⟨g,(A.length+1),FX⟩)=FZ AD/\Hid (∀t u,(G9 B)[t]?=FZ u->w.drew.cell? (AD.add t)=FZ u):=by
  by_cases h:cap=A.length+1
  .refine⟨⟨g,0,FX⟩,by simp[h],fun t u hu=>?_⟩;have h0:B=[]:=BR (by omega);rw[h0]at hu;simp[SE]at hu
  .refine⟨⟨g,(A.length+1),FX⟩,by simp[h],fun t u hu=>?_⟩;rw[BJ];have:=hrow ((A.length+1)+t) u (by
    rw[H8,BA (by rw[J6];omega),J6,JO,BA (by rw[Lay.len];show 1<=_;omega)];rw[Lay.len,<-hu];congr 1;show _-1=_;omega)
   rw[BI]at this;exact this
 have s1:Hid ((G9 B).length=B.length*1):=(J6 B).trans (Nat.mul_one _).symm;have s2:Hid (∀u∈G9 B,u.oneCell'=true):=JL B;have s3:Hid (∀t,t<(G9 B).length->(w.drew.cell? ⟨g,0+A.length*1+t,FX⟩).isSome=true/\w.drew.frozen? ⟨g,0+A.length*1+t,FX⟩=false):=by
  intro t ht;rw[J6]at ht;exact⟨ho.AM3 (by omega),ho.frozen _⟩
 obtain⟨W1,hW1⟩:∃W1,W1=w.drew.setCells g (0+A.length*1) (G9 B):=⟨_,rfl⟩;have ho1:J9 W1 g cap (A++B):=by rw[hW1,BI,Nat.mul_one];exact ho.drew.rM B (by omega)
 have hg1:w.grownBy W1 (FZ g):=by rw[hW1];have:=I5 (g:=g) (G9 B) (0+A.length*1) w.drew;exact⟨this.os,this.tape,this.output,this.size,this.block⟩
 have CS2:∀ty c,(Builtin.clear_ #[59] ty #[FQ (FZ ⟨g,(A.length+B.length),FX⟩) 1 c]).run prog W1=.ok (.tuple #[]) (W1.setCells g ((A.length+B.length)) XH):=fun ty c=>
  C48 W1 ty g _ c (fun j hj=>ho1.AM3 (by omega)) (fun j hj=>ho1.frozen _)
 have FIN:Hid (J9 (W1.setCells g ((A.length+B.length)) XH) g cap (A++B)/\w.grownBy (W1.setCells g ((A.length+B.length)) XH) (FZ g)):=
  ⟨ho1.CI9 XH _ (by rw[AO];omega) (by simp[XH];omega),IL hg1 (I5 _ _ _)⟩
 have hW:Hid (W1=w.drew.setCells g (0+A.length*1) (G9 B)):=hW1;have hic:A.length<=cap:=by omega
 have hjc:A.length+1<=cap:=by omega
 have hne:¬ (cap=A.length+B.length):=by omega
 have hb1:(0:Int)<=(A.length:Int)+1:=by omega
 have hb2:(A.length:Int)<=(A.length:Int)+(B.length:Int):=by omega
 have hb3:(0:Int)<=(A.length:Int)+(B.length:Int):=by omega
 have hs1:A.length+B.length+1-(A.length+B.length)=1:=by omega
 clear hW1 ho1 hg1 hrow ho;subst hn;go_enter func223,ntmps223;go_wp2_with fail
 go_region_law (refine step_append_room rfl (.tmp 22) (.tmp 25) 59 rfl 3 i0 1 underlying59 hi0 hz1 g 0 A.length cap (by simp[Act.eval,Act.put]) AD B.length (cap-(A.length+1)) (G9 B) (by simp[Act.eval,Act.put]) s1.out hsrc.out s2.out (by omega) s3.out ?_;rw[<-hW.out])
 go_wp2
 go_ret;exact⟨rfl,FIN.out⟩
theorem AC8(w:FU)(ty:TypeId)(b o dLen dCap:Nat)(a:Addr)(sLen sCap:Nat)(cs:List FV)(hn:cs.length=Nat.min sLen dLen)
  (hsrc:∀j v,cs[j]?=FZ v->w.cell? (a.add j)=FZ v) (hc:∀j,j<cs.length->(w.cell? ⟨b,o+j,FX⟩).isSome=true) (hf:∀j,j<cs.length->w.frozen? ⟨b,o+j,FX⟩=false) (h1:∀v∈cs,v.oneCell'=true):
  (DW #[59,59] ty #[FQ (FZ ⟨b,o,FX⟩) dLen dCap,FQ (FZ a) sLen sCap]).run prog w=.ok (goInt (Nat.min sLen dLen)) (w.setCells b o cs):=by
 have hl:=run_loadCells_list (P:=prog) w a cs hsrc;have hst:=run_storeCells_cells (P:=prog) b o cs 0 w (by simpa using hc) (by simpa using hf) h1;obtain⟨i0,hi0,hz0,hz1,hz2⟩:=A25;simp[DW,run_underlying underlying59,Builtin.lenOf,Builtin.firstCells,sizeOf,typeInfo,hi0,hz1,<-hn,hl,hst]
theorem A27(v:FV)(A:List Int)(x:Int)(B b:Nat)(w:FU)(ho:GZ w B v A)(hB:B<=w.heap.size)(hl:A.length<=2147483647)(h1:JF w b x):
  FW prog 222 #[v,I0 A.length,FQ (FZ ⟨b,0,FX⟩) 1 1] w fun e w'=>
   ∃v',e=.returned v'/\GZ w' B v' (A++[x])/\w.grownBy w' v.ownBlock/\(v'.ownBlock=v.ownBlock\/v'.ownBlock=FZ w.heap.size):=by
 obtain⟨i0,hi0,hz0,hz1,hz2⟩:=A25;have hrow:=ho.row;have HR:=G6 hrow;have H1:=G6 h1.row;have V:∃a c,v=FQ a A.length c/\A.length<=c:=by
  rcases ho with⟨rfl,rfl⟩|⟨g,cap,rfl,_,h⟩
  .exact⟨FX,0,rfl,A8 _⟩
  .exact⟨_,cap,rfl,h.le⟩
 obtain⟨a,c,rfl,hc⟩:=V;clear ho hrow h1;rcases Nat.lt_or_ge A.length c with hcl|hcl
 .have hne:¬c=A.length:=by omega
  go_enter func222,ntmps222;go_wp2_with (at_builtin;refine wpList_append_own_at _ rfl _ _ 59 rfl B 3 i0 _ 1 8 underlying59 hi0 hz0 hz1 hz2 rfl (by decide) _ A.length (G9 A) rfl (G5 HR) ⟨b,0,FX⟩ 1 1 [I0 x] rfl (by rfl) ?qc2 ((Lay.one x)) ?qc4 ?qc5 hB ?_)
  case qc2=>
   intro j u hj;rw[BJ];exact G5 H1 j u hj
  case qc4=>simp only[maxLen];omega
  case qc5=>omega
  intro v' w1 hown hgrow _ hloc
  go_wp2
  go_ret;exact⟨v',rfl,GZ.LD (by rw[AO,JE];exact hown),hgrow,hloc⟩
 .obtain rfl:c=A.length:=by omega
  go_enter func222,ntmps222;go_wp2_with (at_builtin;refine wpList_append_own_at _ rfl _ _ 59 rfl B 3 i0 _ 1 8 underlying59 hi0 hz0 hz1 hz2 rfl (by decide) _ A.length (G9 A) rfl (G5 HR) ⟨b,0,FX⟩ 1 1 [I0 x] rfl (by rfl) ?qc2 ((Lay.one x)) ?qc4 ?qc5 hB ?_)
  case qc2=>
   intro j u hj;rw[BJ];exact G5 H1 j u hj
  case qc4=>simp only[maxLen];omega
  case qc5=>omega
  intro v' w1 hown hgrow _ hloc
  go_wp2
  go_ret;exact⟨v',rfl,GZ.LD (by rw[AO,JE];exact hown),hgrow,hloc⟩
theorem rQ(g cap:Nat)(A R:List Int)(y x:Int)(n b:Nat)(w:FU)(ho:J9 w g cap (A++y::R))(hn:n=A.length+R.length+1)(hsm:n<=2147483647)(hroom:n+1<=cap)(h1:JF w b x)(hbg:b≠g):
  FW prog 222 #[FQ (FZ ⟨g,0,FX⟩) n cap,I0 A.length,FQ (FZ ⟨b,0,FX⟩) 1 1] w fun e w'=>
   e=.returned (FQ (FZ ⟨g,0,FX⟩) (n+1) cap)/\J9 w' g cap (A++x::y::R)/\w.grownBy w' (FZ g):=by
 have hcl:=ho.capLe;simp only[maxLen]at hcl;have hrow:=ho.row;have AZ7:w.shape? g=FZ (3,cap):=by
  obtain⟨rest,q1,q2,_⟩:=ho;rw[AO,BG,show Lay.k Int=1 from rfl,Nat.mul_one,Nat.mul_one]at q2;simp[World.shape?,q1,J6];exact⟨rfl,q2⟩
 have AZ8:w.shape? b=FZ (3,1):=by unfold JF at h1;simp[World.shape?,h1];exact⟨rfl,rfl⟩
 have hfb:∀j,w.frozen? ⟨b,j,FX⟩=false:=fun j=>by unfold JF at h1;simp[World.frozen?,h1]
 have hov:∀lb cb,(callFunc 247 #[FQ (FZ ⟨b,0,FX⟩) 1 1,FQ (FZ ⟨g,(A.length+1),FX⟩) lb cb]).run prog w=.ok (.value (.bool false)) w:=fun lb cb=>by
  rw[run_callFunc_extern func247 (by kernel_rfl) (by kernel_rfl) (by kernel_rfl) (e:=Extern.SlicesOverlaps.overlaps #[59,59] #[4]) (by kernel_rfl),
   Lib.run_overlaps_apart w 59 4 3 underlying59 1 sizeOf3 ⟨b,0,FX⟩ ⟨g,(A.length+1),FX⟩ 1 1 lb cb hbg 3 3 1 cap AZ8 AZ7 (by omega) (hfb 0) (hfb 1)]
  rfl
 obtain⟨W1,hW1⟩:∃W1,W1=w.drew.setCells g ((A.length+1)) (G9 (y::R)):=⟨_,rfl⟩;have ho1:J9 W1 g cap (A++y::y::R):=by
  have h:J9 w.drew g cap ((A++[y])++R):=by rw[BQ];exact ho
  have:=h.rM (y::R) (by simp;omega);rw[hW1];simpa using this
 have hg1:w.grownBy W1 (FZ g):=by rw[hW1];have:=I5 (g:=g) (G9 (y::R)) ((A.length+1)) w.drew;exact⟨this.os,this.tape,this.output,this.size,this.block⟩
 have hcp1:∀ty dc sc,(DW #[59,59] ty #[FQ (FZ ⟨g,(A.length+1),FX⟩) (n-A.length) dc,FQ (FZ ⟨g,A.length,FX⟩) (n+1-A.length) sc]).run prog w.drew=.ok (goInt (Nat.min (n+1-A.length) (n-A.length))) W1:=fun ty dc sc=>by
  rw[hW1];exact AC8 w.drew ty g _ _ dc ⟨g,A.length,FX⟩ _ sc (G9 (y::R)) (by rw[J6];simp only[Nat.min_def,BG];split<;>omega)
   (fun j v hj=>by
    rw[BJ];have:=hrow (A.length+j) v (by rw[H8,BA (by rw[J6];omega),J6,FB];exact hj);rw[BI]at this;exact this)
   (fun j hj=>by rw[J6]at hj;exact ho.AM3 (by simp at hj;omega)) (fun j _=>ho.frozen _) (JL _)
 have hcp2:∀ty dc,(DW #[59,59] ty #[FQ (FZ ⟨g,A.length,FX⟩) (n+1-A.length) dc,FQ (FZ ⟨b,0,FX⟩) 1 1]).run prog W1=.ok (goInt (Nat.min 1 (n+1-A.length))) (W1.setCells g (A.length) [I0 x]):=fun ty dc=>
  AC8 W1 ty g _ _ dc ⟨b,0,FX⟩ 1 1 [I0 x] (by simp only[Nat.min_def,BG,ES];split<;>omega)
   (fun j v hj=>by
    rw[BJ];have hb2:W1.heap[b]?=w.heap[b]? :=hg1.block b (by unfold JF at h1;exact(AB.1 h1).1) (fun e=>hbg (Option.some.inj e));have h2:JF W1 b x:=hb2.trans h1;exact h2.row j v hj)
   (fun j hj=>ho1.AM3 (by simp at hj;omega)) (fun j _=>ho1.frozen _) ((Lay.one x))
 have FIN:Hid (J9 (W1.setCells g (A.length) [I0 x]) g cap (A++x::y::R)/\w.grownBy (W1.setCells g (A.length) [I0 x]) (FZ g)):=
  ⟨ho1.CU5 x,IL hg1 (I5 _ _ _)⟩
 have hin:A.length<n:=by omega
 have C36:(A.length:Int)<(n:Int):=by omega
 have hw1:IntKind.i64.wrap ((A.length:Int)+1)=(A.length:Int)+1:=by rw[FD];omega
 have hb1:(0:Int)<=(A.length:Int)+1:=by omega
 have hb2:¬ (cap=A.length+1):=by omega
 have hb3:(A.length:Int)<=(n:Int)+1:=by omega
 have hb4:¬ (cap=A.length):=by omega
 have hb5:(A.length:Int)+1<=(n:Int)+1:=by omega
 have hb6:¬ ((cap:Int)<(n:Int)+1):=by omega
 have hz2:¬ ((A.length:Int)=(n:Int)):=by omega
 have htn:((A.length:Int)+1).toNat=A.length+1:=by omega
 clear hW1 ho1 hg1 hrow AZ7 AZ8 hfb ho h1 hn;go_enter func222,ntmps222;go_wp2_with (simp only[hov])
 go_region_law (refine MX rfl (.tmp 73) (.tmp 76) 59 59 rfl (FQ (FZ ⟨g,(A.length+1),FX⟩) (n-A.length) (cap-(A.length+1))) (FQ (FZ ⟨g,A.length,FX⟩) (n+1-A.length) (cap-A.length)) (by simp[Act.eval,Act.put]) (by simp[Act.eval,Act.put]) (hcp1 _ _ _) ?_)
 go_wp2_with (at_builtin;refine LH _ rfl _ _ 59 59 rfl _ _ rfl rfl (hcp2 _ _) ?_);go_ret;exact⟨rfl,FIN.out⟩
theorem CJ4(k:Nat):(BH (I0 0).cells k).size=k:=by
 simp[BH,Value.cells]
theorem xA(g cap:Nat)(A R:List Int)(y x:Int)(n b:Nat)(w:FU)(ho:J9 w g cap (A++y::R))(hn:n=A.length+R.length+1)(hsm:n<=2147483647)(hroom:cap<n+1)(h1:JF w b x):
  FW prog 222 #[FQ (FZ ⟨g,0,FX⟩) n cap,I0 A.length,FQ (FZ ⟨b,0,FX⟩) 1 1] w fun e w'=>
   ∃cap',e=.returned (FQ (FZ ⟨w.heap.size,0,FX⟩) (n+1) cap')/\J9 w' w.heap.size cap' (A++x::y::R)/\B0 w w':=by
 have hcap:cap=n:=by have:=ho.le;simp at this;omega
 obtain⟨i0,hi0,hz0,hz1,hz2⟩:=A25;have hrow:=ho.row;have hgw:=ho.lt;have hbw:b<w.heap.size:=by unfold JF at h1;exact(AB.1 h1).1
 have hold:(Builtin.firstCells i0.size A.length (FQ (FZ ⟨g,0,FX⟩) A.length cap)).run prog w.drew=.ok (G9 A).toArray w.drew:=by
  rw[hz1];exact run_firstCells_some w.drew 1 A.length ⟨g,0,FX⟩ A.length cap (G9 A) ((J6 A).trans (Nat.mul_one _).symm) (fun j v hj=>by
   rw[BJ];exact hrow j v (by rw[H8,BK (AU.1 hj).1];exact hj))
 obtain⟨G,hG⟩:∃G,G=grownCap w (n+1) cap 3:=⟨_,rfl⟩;have hGn:n+1<=G:=by rw[hG];exact grownCap_ge w _ _ _
 have hGm:G<=maxLen:=by rw[hG];exact grownCap_le_maxLen w (n+1) cap _ (by unfold maxLen;omega)
 have hG63:G<=9223372036854775807:=by have:=hGm;unfold maxLen at this;omega
 obtain⟨ROW,hROW⟩:∃ROW:Array FV,ROW=(G9 A).toArray++BH (I0 0).cells (n+1-A.length)++BH (I0 0).cells (G-(n+1)):=⟨_,rfl⟩;obtain⟨W1,hW1⟩:∃W1,W1=w.drew.alloc (.cells ROW 3):=⟨_,rfl⟩;have hik:A.length+(n+1-A.length)=n+1:=by omega
 have hrz:∀ty,(Builtin.append_ #[59,3] ty #[FQ (FZ ⟨g,0,FX⟩) A.length cap,I0 ((n:Int)+1-(A.length:Int))]).run prog w=
   .ok (FQ (FZ ⟨w.heap.size,0,FX⟩) (n+1) G) W1:=fun ty=>by
  have h:=Lib.run_append_grow_zeros w 59 3 ty 3 i0 _ .i64 .i64 underlying59 underlying3 hi0 hz0 (FZ ⟨g,0,FX⟩) A.length cap (G9 A) hold (n+1-A.length) (by omega) (by omega) (by omega) (by omega) (by rw[hz2];omega) (by rw[hz2,hik];exact growslice_fits hroom (by omega));rw[hik,<-hG,<-hROW,<-hW1]at h;rw[show (n:Int)+1-(A.length:Int)=((n+1-A.length:Nat):Int) by omega];exact h
 have ho1:J9 W1 w.heap.size G A:=by
  refine⟨(BH (I0 0).cells (n+1-A.length)++BH (I0 0).cells (G-(n+1))).toList,?_,?_,by omega,hGm⟩
  .rw[hW1,hROW];have:=heap_alloc_new w.drew (.cells ((G9 A).toArray++BH (I0 0).cells (n+1-A.length)++BH (I0 0).cells (G-(n+1))) 3);refine Eq.trans this ?_
   congr 2
   apply Array.toList_inj.1
   simp
  .simp only[show Lay.k Int=1 from rfl,Array.length_toList,Array.size_append,CJ4,Nat.mul_one];omega
 have hB1:B0 w W1:=by rw[hW1];exact((Below.refl _ w).drew).alloc (A8 _) _
 obtain⟨W2,hW2⟩:∃W2,W2=W1.setCells w.heap.size (A.length) [I0 x]:=⟨_,rfl⟩;have ho2:J9 W2 w.heap.size G (A++[x]):=by
  have h:J9 W1 w.heap.size G (A++[]):=by rw[DL];exact ho1
  have:=h.rM [x] (by simp;omega);rw[hW2];rw[JO,SE,DL]at this;exact this
 have hg2:W1.grownBy W2 (FZ w.heap.size):=by rw[hW2];exact I5 _ _ _
 have hB2:B0 w W2:=hB1.grown hg2 hB1.size (fun k e=>by cases e;exact A8 _);have hcpA:∀ty dc,(DW #[59,59] ty #[FQ (FZ ⟨w.heap.size,A.length,FX⟩) (n+1-A.length) dc,FQ (FZ ⟨b,0,FX⟩) 1 1]).run prog W1=.ok (goInt (Nat.min 1 (n+1-A.length))) W2:=fun ty dc=>by
  rw[hW2];exact AC8 W1 ty w.heap.size _ _ dc ⟨b,0,FX⟩ 1 1 [I0 x] (by simp only[Nat.min_def,BG,ES];split<;>omega)
   (fun j v hj=>by rw[BJ];exact(show JF W1 b x from(hB1.block b hbw).trans h1).row j v hj)
   (fun j hj=>ho1.AM3 (by simp at hj;omega)) (fun j _=>ho1.frozen _) ((Lay.one x))
 obtain⟨W3,hW3⟩:∃W3,W3=W2.drew.setCells w.heap.size ((A.length+1)) (G9 (y::R)):=⟨_,rfl⟩;have hcpB:∀ty dc sc,(DW #[59,59] ty #[FQ (FZ ⟨w.heap.size,(A.length+1),FX⟩) (n-A.length) dc,FQ (FZ ⟨g,A.length,FX⟩) (n-A.length) sc]).run prog W2.drew=.ok (goInt (Nat.min (n-A.length) (n-A.length))) W3:=fun ty dc sc=>by
  rw[hW3];exact AC8 W2.drew ty w.heap.size _ _ dc ⟨g,A.length,FX⟩ _ sc (G9 (y::R)) (by rw[J6];simp only[Nat.min_self,BG];omega)
   (fun j v hj=>by
    rw[BJ];have:=hrow (A.length+j) v (by rw[H8,BA (by rw[J6];omega),J6,FB];exact hj);rw[BI]at this;exact(hB2.cell (p:=⟨g,A.length+j,FX⟩) hgw).trans this)
   (fun j hj=>by rw[J6]at hj;exact ho2.drew.AM3 (by simp at hj;omega)) (fun j _=>ho2.drew.frozen _) (JL _)
 have FIN:Hid (J9 W3 w.heap.size G (A++x::y::R)/\B0 w W3):=by
  refine⟨?_,?_⟩
  .have h:J9 W2.drew w.heap.size G ((A++[x])++[]):=by rw[DL];exact ho2
   have:=h.rM (y::R) (by simp;omega);rw[hW3];simpa using this
  .rw[hW3];exact hB2.drew.grown (I5 _ _ _) hB2.size (fun k e=>by cases e;exact A8 _)
 have hin:A.length<n:=by omega
 have C36:(A.length:Int)<(n:Int):=by omega
 have hw1:IntKind.i64.wrap ((A.length:Int)+1)=(A.length:Int)+1:=by rw[FD];omega
 have hb1:(0:Int)<=(A.length:Int)+1:=by omega
 have hb2:¬ (G=A.length+1):=by omega
 have hb3:(A.length:Int)<=(n:Int)+1:=by omega
 have hb4:¬ (n=A.length):=by omega
 have hb5:(A.length:Int)+1<=(n:Int)+1:=by omega
 have hb6:¬ (G=A.length):=by omega
 have hb7:(A.length:Int)<=(n:Int):=by omega
 have hz3:¬ ((A.length:Int)=(n:Int)):=by omega
 have htn:((A.length:Int)+1).toNat=A.length+1:=by omega
 subst hcap;clear hn hROW hW1 hW2 hW3 hG hrow ho h1 ho1 ho2 hB1 hB2 hg2 hold hik;go_enter func222,ntmps222;go_wp2_with (first
  |(at_builtin;refine Lib.wpList_append_run _ rfl _ _ _ _ rfl _ _ rfl rfl _ _ (hrz _) ?_)
  |(at_builtin;refine LH _ rfl _ _ 59 59 rfl _ _ rfl rfl (hcpA _ _) ?_))
 go_region_law (refine MX rfl (.tmp 50) (.tmp 53) 59 59 rfl (FQ (FZ ⟨w.heap.size,(A.length+1),FX⟩) (cap-A.length) (G-(A.length+1))) (FQ (FZ ⟨g,A.length,FX⟩) (cap-A.length) (cap-A.length)) (by simp[Act.eval,Act.put]) (by simp[Act.eval,Act.put]) (hcpB _ _ _) ?_)
 go_wp2
 go_ret;exact⟨G,rfl,FIN.out⟩
theorem A28(v:FV)(A R:List Int)(x:Int)(q:Nat)(w:FU)(ho:GZ w 0 v (A++R))(hl:(A++R).length<=2147483647)(h1:JF w q x)(hq:v.ownBlock≠FZ q):
  FW prog 222 #[v,I0 A.length,FQ (FZ ⟨q,0,FX⟩) 1 1] w fun e w'=>
   ∃v',e=.returned v'/\GZ w' 0 v' (A++x::R)/\w.grownBy w' v.ownBlock/\(v'.ownBlock=v.ownBlock\/∃k,w.heap.size<=k/\v'.ownBlock=FZ k):=by
 cases R with
 |nil=>
  rw[DL]at ho hl;refine(A27 v A x 0 q w ho (AY _) hl h1).mono ?_;rintro e w' ⟨v',rfl,h2,h3,h4⟩;refine⟨v',rfl,h2,h3,?_⟩;rcases h4 with h|h
  .exact .inl h
  .exact .inr ⟨_,A8 _,h⟩
 |cons y R=>
  rcases ho with⟨_,h⟩|⟨g,cap,rfl,_,ho⟩
  .simp at h
  .have hn:(A++y::R).length=A.length+R.length+1:=by simp;omega
   by_cases hc:(A++y::R).length+1<=cap
   .refine(rQ g cap A R y x _ q w ho hn hl hc h1 (fun e=>hq (by rw[e];rfl))).mono ?_;rintro e w' ⟨rfl,h2,h3⟩;exact⟨_,rfl,.inr ⟨g,cap,by simp;omega,AY _,h2⟩,h3,.inl rfl⟩
   .refine(xA g cap A R y x _ q w ho hn hl (by omega) h1).mono ?_;rintro e w' ⟨cap',rfl,h2,h3⟩;exact⟨_,rfl,.inr ⟨w.heap.size,cap',by simp;omega,AY _,h2⟩,⟨h3.os,h3.tape,h3.output,h3.size,fun k hk _=>h3.block k hk⟩,.inr ⟨_,A8 _,rfl⟩⟩
