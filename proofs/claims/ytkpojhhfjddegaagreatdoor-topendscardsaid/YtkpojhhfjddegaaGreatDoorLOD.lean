/-
  Part.
-/
import Derived.Test.YtkpojhhfjddegaaGreatDoorLOC
import Derived.Lib.JoinLaws
import Derived.Deep.RegionHeld3
import Derived.Lib.AppendZerosOnto
import Derived.Lib.Overlaps
set_option maxRecDepth 20000
set_option maxHeartbeats 8000000
namespace Go.Proofs.YtkpojhhfjddegaaGreatDoor
open Go.RowKit Go.Proofs.Tryz
open _root_.Nat renaming le_refl->A8,zero_le->AZ,zero_add->BJ,add_sub_cancel_left->FH
open _root_.List renaming getElem?_eq_getElem->AO,length_append->AP,getElem?_append_right->BD,length_cons->BH,getElem?_append_left->BN,mem_cons->BR,eq_nil_of_length_eq_zero->C9,mem_append->D8,pairwise_append->DN,append_nil->DV,mem_filter->EK,length_nil->EZ,mem_map->F5
open Go.Builtin renaming zeroCells->BI,copy_->EC
open Go.Addr renaming add_lit->BM
open Go.Lib renaming compareBytes->EU
open Go.Value renaming slice->FV
open Go renaming World->FX,Value->FZ,Calls->G5
open _root_.Option renaming none->G6,some->G7
variable{z s:Int}{ns A B xs:List Nd}{ss:List Int}{n u x:Nd}{p:List UInt8}{ps:List (List UInt8)}{t:Tr}{w W:FX}{b off i g cap:Nat}
theorem QC.mono{z':Int}(g:QC z ns ss)(h:z<=z'):QC z' ns ss:=
 ⟨g.few,g.root,g.asc,fun n hn=>by
  have k:=g.ok n hn;have:=k.mz;have:=k.qz;exact⟨k.data,k.path,k.up,k.c0,k.cm,k.cq,by omega,by omega,k.v0,k.v1,k.k0,k.kids,k.own⟩⟩
theorem QC.more{ss':List Int}(g:QC z ns ss)(h:∀n∈ns,n.o≠0->n.o∈ss->n.o∈ss'):QC z ns ss':=
 ⟨g.few,g.root,g.asc,fun n hn=>by
  have k:=g.ok n hn;refine⟨k.data,k.path,k.up,k.c0,k.cm,k.cq,k.mz,k.qz,k.v0,k.v1,k.k0,k.kids,?_⟩;rcases k.own with h'|⟨h1,h2⟩
  .exact .inl h'
  .by_cases h0:n.o=0
   .exact .inl h0
   .exact .inr ⟨h n hn h0 h1,h2⟩⟩
theorem AY6(g:QC z ns ss)(hn:n∈ns)(hp:n.p≠[47]):∃u,LW ns (IQ n.p)=G7 u/\u∈ns/\u.p=IQ n.p/\u.p≠n.p/\u.o=0:=by
 obtain⟨u,hu,he⟩:=(g.ok n hn).up hp;have hne:u.p≠n.p:=by rw[he];exact(rC (g.ok n hn).path hp).1
 refine⟨u,by rw[<-he];exact bD g.asc hu,hu,he,hne,?_⟩;rcases(g.ok u hu).own with h|⟨_,h⟩
 .exact h
 .exfalso;have h1:=(g.ok u hu).kids;have h2:0<OA ns u.p:=List.countP_pos_iff.2 ⟨n,hn,by simp[he]⟩;omega
theorem CK4(g:QC z ns ss)(hn:n∈ns)(h:n.o≠0):n.p≠[47]:=by
 intro e;obtain⟨r,rest,hr,hp,ho⟩:=g.root;have:n=r:=V9 g.asc hn (by rw[hr];simp) (by rw[e,hp]);exact h (by rw[this];exact ho)
theorem BJ0(g:QC z ns ss)(f:Nd->Nd)(hf:∀n,(f n).p=n.p)(hk:∀n∈ns,NOk z ns ss n->NOk z ns ss (f n)/\(n.p=[47]->(f n).o=n.o)):QC z (ns.map f) ss:=by
 have hp:(ns.map f).map Nd.p=ns.map Nd.p:=by rw[List.map_map];exact List.map_congr_left fun n _=>hf n
 have hkd:∀p,OA (ns.map f) p=OA ns p:=fun p=>by rw[QJ,hp,<-QJ]
 refine⟨by simpa using g.few,?_,by rw[OX,hp,<-OX];exact g.asc,?_⟩
 .obtain⟨r,rest,h,h1,h2⟩:=g.root;exact⟨f r,rest.map f,by rw[h];rfl,by rw[hf,h1],by rw[(hk r (by rw[h];simp) (g.ok r (by rw[h];simp))).2 h1,h2]⟩
 .intro n hn;obtain⟨m,hm,rfl⟩:=F5.1 hn;have k:=(hk m hm (g.ok m hm)).1;refine⟨k.data,k.path,fun h=>?_,k.c0,k.cm,k.cq,k.mz,k.qz,k.v0,k.v1,k.k0,by rw[hkd];exact k.kids,k.own⟩;obtain⟨u,hu,he⟩:=k.up h;exact⟨f u,F5.2 ⟨u,hu,rfl⟩,by rw[hf];exact he⟩
def rmN(z:Int)(ns:List Nd)(p:List UInt8):List Nd:=OE (IQ p) z (-1) (A16 ns p)
theorem AY7(g:QC z ns ss)(T:KL ns A n B p)(hk:n.n=0)(hp:p≠[47]):QC z (rmN z ns p) ss:=by
 have hn:n∈ns:=by rw[T.eq];simp
 have hnp:=T.nm;have hdrop:=T.drop;have jZ:(rmN z ns p).map Nd.p=(A++B).map Nd.p:=by rw[rmN,XJ,hdrop]
 have hsub:(A++B).Sublist ns:=by rw[T.eq];exact(List.Sublist.refl A).append (List.sublist_cons_self n B)
 have CV4:∀x,OA (rmN z ns p) x+(if IQ p=x then 1 else 0)=OA ns x:=by
  intro x;rw[QJ,jZ,<-QJ,T.eq];simp only[OA,List.countP_append,List.countP_cons,decide_eq_true_eq,hnp];omega
 have hno:∀m∈ns,IQ m.p≠p:=by
  intro m hm e;have h1:=(g.ok n hn).kids;have h2:0<OA ns n.p:=List.countP_pos_iff.2 ⟨m,hm,by simp[e,hnp]⟩;omega
 have hmem:∀m∈ns,m.p≠p->m∈A++B:=by
  intro m hm h;rw[<-hdrop,A16];exact EK.2 ⟨hm,by simpa using h⟩
 refine⟨?_,?_,?_,?_⟩
 .have h1:=g.few;have h2:(rmN z ns p).length=(A++B).length:=by have:=congrArg List.length jZ;simpa using this
  rw[T.eq]at h1;simp at h1 h2⊢;omega
 .obtain⟨r,rest,h,h1,h2⟩:=g.root
  cases A with
  |nil=>
   have:=T.eq;rw[h]at this
   cases this
   exact absurd (hnp.symm.trans h1) hp
  |cons a A'=>
   have:=T.eq;rw[h]at this
   cases this
   rw[rmN,hdrop,OE];refine⟨_,_,List.map_cons,by rw[ZC];exact h1,?_⟩
   split
   .exact h2
   .exact h2
 .rw[OX,jZ,<-OX];exact g.asc.sublist hsub
 .intro m' hm';rw[rmN,hdrop,OE]at hm';obtain⟨m,hm,rfl⟩:=F5.1 hm';have hms:=hsub.mem hm;have k:=g.ok m hms;have hup:m.p≠[47]->∃u∈rmN z ns p,u.p=IQ m.p:=by
   intro h;obtain⟨u,hu,he⟩:=k.up h;have h1:=hmem u hu (by rw[he];exact hno m hms);exact⟨_,by rw[rmN,hdrop,OE];exact F5.2 ⟨u,h1,rfl⟩,by rw[ZC];exact he⟩
  have hkm:=CV4 m.p;have:=k.kids;have:=k.c0;have:=k.cq;have:=k.qz;have:=k.k0
  split
  .rename_i e
   rw[if_pos e.symm]at hkm;refine⟨k.data,k.path,hup,k.c0,k.cm,?_,k.mz,?_,k.v0,k.v1,?_,?_,?_⟩
   .show m.c<=z;omega
   .exact Int.le_refl _
   .show 0<=m.k+1;omega
   .show m.n+ -1=_;show _=((OA (rmN z ns p) m.p:Nat):Int);omega
   .rcases k.own with h|⟨h1,h2⟩
    .exact .inl h
    .omega
  .rename_i e
   rw[if_neg (fun h=>e h.symm)]at hkm;exact⟨k.data,k.path,hup,k.c0,k.cm,k.cq,k.mz,k.qz,k.v0,k.v1,k.k0,by omega,k.own⟩
def vS(z:Int)(ns:List Nd)(x:Nd):List Nd:=OE (IQ x.p) z 1 (CV3 ns x)
theorem AA9{z:Int}{ns A B:List Nd}{ss:List Int}{x:Nd}(g:QC z ns ss)(G:oI ns A B x.p)(hl:ns.length<400)(hg:J7 x.p=true)(hp:x.p≠[47])(hu:∃u∈ns,u.p=IQ x.p/\u.o=0)
  (hd:x.d.length<=256) (hz:0<=z) (hc:x.c=z) (hm:x.m=z) (hq:x.q=z) (hv:x.v=0) (hk:x.k=0) (hn:x.n=0) (ho:x.o=0\/x.o∈ss):QC z (vS z ns x) ss:=by
 have hins:=G.ins;have jZ:(vS z ns x).map Nd.p=(A++x::B).map Nd.p:=by rw[vS,XJ,hins]
 have hmem:∀m∈ns,m∈A++x::B:=by
  intro m h;rw[G.eq]at h;rcases D8.1 h with h|h<;>simp[h]
 have CV4:∀y,OA (vS z ns x) y=OA ns y+(if IQ x.p=y then 1 else 0):=by
  intro y;rw[QJ,jZ,<-QJ,G.eq];simp only[OA,List.countP_append,List.countP_cons,decide_eq_true_eq];omega
 have hno:OA ns x.p=0:=by
  apply List.countP_eq_zero.2
  intro m hm;simp only[decide_eq_true_eq];intro e;have k:=g.ok m hm;by_cases h:m.p=[47]
  .rw[h,V6]at e;rw[<-e,AY2]at hg
   cases hg
  .obtain⟨u,hu,he⟩:=k.up h;exact G.no u hu (he.trans e)
 obtain⟨r,rest,hr,hr1,hr2⟩:=g.root;refine⟨?_,?_,?_,?_⟩
 .have h2:(vS z ns x).length=(A++x::B).length:=by have:=congrArg List.length jZ;simpa using this
  rw[G.eq]at hl;simp at hl h2⊢;omega
 .cases A with
  |nil=>
   exfalso;have hB:=G.eq;simp at hB;have h1:=G.hi r (by rw[<-hB,hr];simp);rw[hr1]at h1;obtain⟨s,hs⟩:=jX hg;rw[hs]at h1 hp
   cases s with
   |nil=>exact hp rfl
   |cons c s=>simp[bl,Op.bytesLess]at h1
  |cons a A'=>
   have:=G.eq;rw[hr]at this
   cases this
   rw[vS,hins,OE];refine⟨_,_,List.map_cons,by rw[ZC];exact hr1,?_⟩
   split
   .exact hr2
   .exact hr2
 .rw[OX,jZ,<-OX];have h:=g.asc;rw[G.eq]at h;unfold uX at h⊢;rw[DN]at h;rw[DN,List.pairwise_cons];refine⟨h.1,⟨G.hi,h.2.1⟩,fun a ha b hb=>?_⟩;rcases BR.1 hb with rfl|hb
  .exact G.lo a ha
  .exact h.2.2 a ha b hb
 .have hin:∀m∈A++x::B,(if m.p=IQ x.p then bump z 1 m else m)∈vS z ns x:=fun m h=>by rw[vS,hins,OE];exact F5.2 ⟨m,h,rfl⟩
  intro m' hm';rw[vS,hins,OE]at hm';obtain⟨m,hm2,rfl⟩:=F5.1 hm';have hcase:m=x\/m∈ns:=by
   rcases D8.1 hm2 with h|h
   .exact .inr (by rw[G.eq];simp[h])
   .rcases BR.1 h with h|h
    .exact .inl h
    .exact .inr (by rw[G.eq];simp[h])
  rcases hcase with rfl|hms
  .rw[if_neg (fun h=>(rC hg hp).1 h.symm)];obtain⟨u,hu1,hu2,_⟩:=hu;have hkm:=CV4 m.p;rw[if_neg (rC hg hp).1,hno]at hkm;refine⟨hd,hg,fun _=>⟨_,hin u (hmem u hu1),by rw[ZC];exact hu2⟩,by omega,by omega,by omega,by omega,by omega,by omega,by omega,by omega,by omega,?_⟩;rcases ho with h|h
   .exact .inl h
   .exact .inr ⟨h,hn⟩
  .have k:=g.ok m hms;have hup:m.p≠[47]->∃u∈vS z ns x,u.p=IQ m.p:=fun h=>by
    obtain⟨u,hu,he⟩:=k.up h;exact⟨_,hin u (hmem u hu),by rw[ZC];exact he⟩
   have hkm:=CV4 m.p;have:=k.kids;have:=k.cq;have:=k.qz;have:=k.k0
   split
   .rename_i e
    rw[if_pos e.symm]at hkm;refine⟨k.data,k.path,hup,k.c0,k.cm,?_,k.mz,Int.le_refl _,k.v0,k.v1,?_,?_,?_⟩
    .show m.c<=z;omega
    .show 0<=m.k+1;omega
    .show m.n+1=((OA (vS z ns x) m.p:Nat):Int);omega
    .obtain⟨u,hu1,hu2,hu3⟩:=hu;have:m=u:=V9 g.asc hms hu1 (by rw[e,hu2]);exact .inl (by rw[this];exact hu3)
   .rename_i e
    rw[if_neg (fun h=>e h.symm)]at hkm;exact⟨k.data,k.path,hup,k.c0,k.cm,k.cq,k.mz,k.qz,k.v0,k.v1,k.k0,by omega,k.own⟩
theorem BJ1(g:QC z ns ss)(p d:List UInt8)(v:Int)(hd:d.length<=256)(hv:0<=v/\v<=2147483647)(hz:∀n∈ns,n.c<=z):QC z (AY4 p d v z ns) ss:=by
 refine BJ0 g _ (fun n=>by split<;>rfl) (fun n hn k=>?_)
 split
 .exact⟨⟨hd,k.path,k.up,k.c0,hz n hn,k.cq,Int.le_refl _,k.qz,hv.1,hv.2,k.k0,k.kids,k.own⟩,fun _=>rfl⟩
 .exact⟨k,fun _=>rfl⟩
def OY(ns:List Nd)(s:Int):List (List UInt8):=(ns.filter fun n=>decide (n.o=s)).map Nd.p
def RX(z:Int)(ns:List Nd)(ps:List (List UInt8)):List Nd:=ps.foldl (rmN z) ns
def AY8(ps:List (List UInt8)):List Ev:=ps.flatMap fun p=>[⟨2,p⟩,⟨4,IQ p⟩]
def Z5(ns:List Nd):Bool:=ns.any fun n=>decide (2147483647<n.k)
def AB0(x:GU):Nd:=⟨x.p,x.d,x.z,x.z,x.z,0,0,x.w,0⟩
noncomputable def WY(t:Tr)(x:GU):Int:=
 if V7 t=false then 3 else if gdE x≠0 then gdE x else if x.z<=t.z then 13 else if x.o=1/\x.s∈t.ss then 8 else if x.o≠1/\x.s∉t.ss then 12 else 0
def AK6(t:Tr)(x:GU):Int:=if(LW t.ns x.p).isSome=true then 8 else(match LW t.ns (IQ x.p)with
 |none=>7
 |some u=>if u.o≠0 then 11 else if x.w≠0/\x.w≠x.s then 12 else if t.ns.length=400 then 6 else 0)
def BJ2(t:Tr)(x:GU):Int:=match LW t.ns x.p with
 |none=>7
 |some n=>if n.n≠0 then 10 else 0
def CI5(t:Tr)(x:GU):Int:=match LW t.ns x.p with
 |none=>7
 |some n=>if x.v≠n.v+1 then 9 else 0
def nI(t:Tr)(x:GU):Int:=if x.o=3 then AK6 t x else if x.o=4 then BJ2 t x else if x.o=5 then CI5 t x else 0
def iK(t:Tr)(x:GU):List Nd:=if x.o=2 then RX x.z t.ns (OY t.ns x.s)else if x.o=3 then vS x.z t.ns (AB0 x)else if x.o=4 then rmN x.z t.ns x.p else if x.o=5 then AY4 x.p x.d x.v x.z t.ns else t.ns
def rE(t:Tr)(x:GU):List Int:=if x.o=1 then C44 t.ss x.s else if x.o=2 then AK5 t.ss x.s else t.ss
def rF(t:Tr)(x:GU):List Ev:=if x.o=2 then AY8 (OY t.ns x.s)else if x.o=3 then [⟨1,x.p⟩,⟨4,IQ x.p⟩]else if x.o=4 then [⟨2,x.p⟩,⟨4,IQ x.p⟩]else if x.o=5 then [⟨3,x.p⟩]else []
noncomputable def Z7(t:Tr)(x:GU):Int:=if WY t x≠0 then WY t x else if nI t x≠0 then nI t x else if Z5 (iK t x)=true then 6 else 0
noncomputable def kC(t:Tr)(x:GU):Tr:=if Z7 t x=0 then⟨x.z,iK t x,rE t x⟩else tr0
noncomputable def ZE(t:Tr)(x:GU):List Ev:=if Z7 t x=0 then rF t x else []
theorem OT:Z5 ns=false↔∀n∈ns,n.k<=2147483647:=by
 rw[Z5,List.any_eq_false];constructor
 .intro h n hn;have:=h n hn;simp at this;omega
 .intro h n hn;have:=h n hn;simp;omega
theorem oK:Z5 ns=true↔∃n∈ns,2147483647<n.k:=by
 rw[Z5,List.any_eq_true];constructor
 .rintro⟨n,hn,h⟩;exact⟨n,hn,by simpa using h⟩
 .rintro⟨n,hn,h⟩;exact⟨n,hn,by simpa using h⟩
structure CK5(s:Int)(cur:List Nd)(ps:List (List UInt8)):Prop where
 s0:s≠0
 nd:ps.Nodup
 there:∀p∈ps,∃n∈cur,n.p=p/\n.o=s
theorem BZ4(h:n∈rmN z ns p):∃m∈ns,m.p≠p/\n=(if m.p=IQ p then bump z (-1) m else m):=by
 rw[rmN,OE]at h;obtain⟨m,hm,rfl⟩:=F5.1 h;rw[A16]at hm;obtain⟨h1,h2⟩:=EK.1 hm;exact⟨m,h1,by simpa using h2,rfl⟩
theorem AY9{m:Nd}(h:m∈ns)(hp:m.p≠p):(if m.p=IQ p then bump z (-1) m else m)∈rmN z ns p:=by
 rw[rmN,OE];exact F5.2 ⟨m,by rw[A16];exact EK.2 ⟨h,by simpa using hp⟩,rfl⟩
theorem AZ0(q:List UInt8)(z more:Int)(n:Nd):(if n.p=q then bump z more n else n).o=n.o:=by split<;>rfl
theorem BZ5(q:List UInt8)(z more:Int)(n:Nd):(if n.p=q then bump z more n else n).d=n.d:=by split<;>rfl
theorem BZ6(q:List UInt8)(z more:Int)(n:Nd):(if n.p=q then bump z more n else n).v=n.v:=by split<;>rfl
theorem CK6(q:List UInt8)(z more:Int)(n:Nd):n.k<=(if n.p=q then bump z more n else n).k:=by
 split
 .show n.k<=n.k+1;omega
 .exact Int.le_refl _
theorem vT{cur:List Nd}(g:QC z cur ss)(R:CK5 s cur (p::ps)):
  ∃A n B u,KL cur A n B p/\n.o=s/\n.n=0/\p≠[47]/\J7 p=true/\LW cur (IQ p)=G7 u/\u∈cur/\u.p=IQ p/\u.p≠p/\u.o=0/\u.p∉ps/\QC z (rmN z cur p) ss/\CK5 s (rmN z cur p) ps:=by
 obtain⟨n,hn,rfl,ho⟩:=R.there p (by simp);obtain⟨A,B,T⟩:=SQ g.asc (bD g.asc hn);have h0:n.o≠0:=by rw[ho];exact R.s0
 have hk:n.n=0:=by
  rcases(g.ok n hn).own with h|⟨_,h⟩
  .exact absurd h h0
  .exact h
 have hr:=CK4 g hn h0;obtain⟨u,hu1,hu2,hu3,hu4,hu5⟩:=AY6 g hn hr;refine⟨A,n,B,u,T,ho,hk,hr,(g.ok n hn).path,hu1,hu2,hu3,hu4,hu5,?_,AY7 g T hk hr,R.s0,(List.nodup_cons.1 R.nd).2,?_⟩
 .intro hm;obtain⟨m,hm1,hm2,hm3⟩:=R.there u.p (by simp[hm]);have:m=u:=V9 g.asc hm1 hu2 hm2;rw[this,hu5]at hm3;exact R.s0 hm3.symm
 .intro q hq;obtain⟨m,hm1,hm2,hm3⟩:=R.there q (by simp[hq]);have hne:m.p≠n.p:=by
   rw[hm2];rintro rfl;exact(List.nodup_cons.1 R.nd).1 hq
  exact⟨_,AY9 hm1 hne,by rw[ZC];exact hm2,by rw[AZ0];exact hm3⟩
theorem oL(g:QC z ns ss)(h:s≠0):CK5 s ns (OY ns s):=by
 refine⟨h,?_,fun p hp=>?_⟩
 .have h1:(ns.filter fun n=>decide (n.o=s)).Pairwise fun a b=>bl a.p b.p=true:=g.asc.filter _;rw[List.Nodup,OY,List.pairwise_map];exact h1.imp fun h=>XF h
 .obtain⟨n,hn,rfl⟩:=F5.1 hp;obtain⟨h1,h2⟩:=EK.1 hn;exact⟨n,h1,rfl,by simpa using h2⟩
theorem oM:∀ (ps:List (List UInt8)) (cur:List Nd),QC z cur ss->CK5 s cur ps->QC z (RX z cur ps) ss
 |[],_,g,_=>g
 |p::ps,cur,g,R=>by
  obtain⟨_,_,_,_,_,_,_,_,_,_,_,_,_,_,_,g',R'⟩:=vT g R;exact oM ps (rmN z cur p) g' R'
theorem vU:∀ (ps:List (List UInt8)) (cur:List Nd) (n:Nd),n∈RX z cur ps->∃m∈cur,m.p=n.p/\m.o=n.o/\m.d=n.d/\m.v=n.v/\m.p∉ps
 |[],cur,n,h=>⟨n,h,rfl,rfl,rfl,rfl,by simp⟩
 |p::ps,cur,n,h=>by
  obtain⟨m,h1,h2,h3,h4,h5,h6⟩:=vU ps (rmN z cur p) n h;obtain⟨m',h1',hne,rfl⟩:=BZ4 h1;rw[ZC]at h2 h6;rw[AZ0]at h3;rw[BZ5]at h4;rw[BZ6]at h5;exact⟨m',h1',h2,h3,h4,h5,by simp[hne,h6]⟩
theorem vV:∀ (ps:List (List UInt8)) (cur:List Nd) (m:Nd),m∈cur->m.p∉ps->∃n∈RX z cur ps,n.p=m.p/\n.o=m.o/\n.d=m.d/\n.v=m.v/\m.k<=n.k
 |[],_,m,h,_=>⟨m,h,rfl,rfl,rfl,rfl,Int.le_refl _⟩
 |p::ps,cur,m,h,hp=>by
  simp only[BR,not_or]at hp;have h':=AY9 (z:=z) h hp.1;obtain⟨n,h1,h2,h3,h4,h5,h6⟩:=vV ps (rmN z cur p) _ h' (by rw[ZC];exact hp.2);exact⟨n,h1,by rw[h2,ZC],by rw[h3,AZ0],by rw[h4,BZ5],by rw[h5,BZ6],Int.le_trans (CK6 _ _ _ _) h6⟩
theorem AK7(ps:List (List UInt8))(cur:List Nd)(h:∃u∈cur,u.p∉ps/\2147483647<u.k):Z5 (RX z cur ps)=true:=by
 obtain⟨u,h1,h2,h3⟩:=h;obtain⟨n,hn,_,_,_,_,hk⟩:=vV (z:=z) ps cur u h1 h2;exact oK.2 ⟨n,hn,by omega⟩
theorem BZ7(ha:uX ns)(hu:u∈ns)(hp:u.p=IQ p)(hk:u.k<2147483647)(h:∀n∈ns,n.k<=2147483647):∀n∈rmN z ns p,n.k<=2147483647:=by
 intro n hn;obtain⟨m,hm,_,rfl⟩:=BZ4 hn
 split
 .rename_i e
  have:m=u:=V9 ha hm hu (by rw[e,hp]);subst this;show m.k+1<=_;omega
 .exact h m hm
theorem AZ1(hu:u∈ns)(hp:u.p=IQ p)(hne:u.p≠p)(hk:u.k=2147483647)(ps:List (List UInt8))(hps:u.p∉ps):Z5 (RX z (rmN z ns p) ps)=true:=
 AK7 ps _ ⟨bump z (-1) u,by have:=AY9 (z:=z) hu hne;rwa[if_pos hp]at this,hps,by show 2147483647<u.k+1;omega⟩
theorem A17(z:Int)(ns:List Nd)(ps:List (List UInt8))(k:Nat):RX z ns ps=RX z (RX z ns (ps.take k)) (ps.drop k):=by
 rw[RX,RX,RX,<-List.foldl_append,List.take_append_drop]
theorem AK8(z:Int)(ns:List Nd){k:Nat}(h:ps[k]?=G7 p):RX z ns (ps.take (k+1))=rmN z (RX z ns (ps.take k)) p:=by
 rw[RX,List.take_add_one,h,List.foldl_append];rfl
theorem AZ2{k:Nat}(h:ps[k]?=G7 p):AY8 (ps.take (k+1))=AY8 (ps.take k)++[⟨2,p⟩,⟨4,IQ p⟩]:=by
 rw[AY8,List.take_add_one,h,List.flatMap_append];rfl
theorem AB1(ps:List (List UInt8)):(AY8 ps).length=2*ps.length:=by
 induction ps with
 |nil=>rfl
 |cons p ps ih=>
  rw[AY8]at ih;simp only[AY8,List.flatMap_cons,AP,BH,EZ,ih];omega
theorem XK(p:List UInt8):(IQ p).length<=200:=by
 cases hgb:J7 p with
 |false=>rw[bC hgb];simp
 |true=>
  by_cases hr:p=[47]
  .rw[hr,V6];simp
  .obtain⟨a,c,he,hc⟩:=aX hgb;have:=MR hgb;rw[he]at hgb hr this⊢;rw[aY hgb hr hc,CK2]
   split
   .simp
   .simp at this;omega
theorem oN{cur:List Nd}{q:List UInt8}(ha:uX cur)(T:KL cur A n B p)(hu:u∈cur)(hq:u.p=q)(hne:u.p≠p):∃A' B',KL (A++B) A' u B' q:=by
 have hm:u∈A++B:=by rw[<-T.drop,A16];exact EK.2 ⟨hu,by simpa using hne⟩
 have hs:uX (A++B):=ha.sublist (by rw[T.eq];exact(List.Sublist.refl A).append (List.sublist_cons_self n B));rw[<-hq];exact SQ hs (bD hs hm)
theorem QT{x:GU}(h:WY t x=0):SN t/\gdE x=0/\t.z<x.z/\(x.o=1->x.s∉t.ss)/\(x.o≠1->x.s∈t.ss):=by
 unfold WY at h
 split at h
 .omega
 .rename_i h1
  split at h
  .omega
  .rename_i h2
   split at h
   .omega
   .rename_i h3
    split at h
    .omega
    .rename_i h4
     split at h
     .omega
     .rename_i h5
      refine⟨TK.1 (by simpa using h1),by omega,by omega,fun e hm=>h4 ⟨e,hm⟩,fun e=>?_⟩;by_cases hm:x.s∈t.ss
      .exact hm
      .exact absurd ⟨e,hm⟩ h5
theorem rG{x:GU}(h:Z7 t x=0):WY t x=0/\nI t x=0/\Z5 (iK t x)=false:=by
 unfold Z7 at h
 split at h
 .rename_i h1;exact absurd h h1
 .rename_i h1
  split at h
  .rename_i h2;exact absurd h h2
  .rename_i h2
   split at h
   .omega
   .rename_i h3;exact⟨by omega,by omega,by simpa using h3⟩
theorem BJ3{x:GU}(h:AK6 t x=0):LW t.ns x.p=G6/\(∃u,LW t.ns (IQ x.p)=G7 u/\u.o=0)/\(x.w=0\/x.w=x.s)/\t.ns.length≠400:=by
 unfold AK6 at h
 split at h
 .omega
 .rename_i h1
  split at h
  .omega
  .rename_i u hu
   split at h
   .omega
   .rename_i h2
    split at h
    .omega
    .rename_i h3
     split at h
     .omega
     .rename_i h4
      refine⟨by simpa using h1,⟨u,hu,by omega⟩,?_,h4⟩;by_cases e:x.w=0
      .exact .inl e
      .by_cases e':x.w=x.s
       .exact .inr e'
       .exact absurd ⟨e,e'⟩ h3
theorem BJ4{x:GU}(h:BJ2 t x=0):∃n,LW t.ns x.p=G7 n/\n.n=0:=by
 unfold BJ2 at h
 split at h
 .omega
 .rename_i n hn
  split at h
  .omega
  .exact⟨n,hn,by omega⟩
structure Fine(x:GU):Prop where
 op:1<=x.o/\x.o<=5
 z:0<=x.z/\KP x.z=true
 s:1<=x.s/\x.s<=2147483647
 v:0<=x.v/\x.v<=2147483647
 w:0<=x.w/\x.w<=2147483647
 d:x.d.length<=256
 path:x.o=3\/x.o=4->J7 x.p=true/\x.p≠[47]
 CX4:x.o=5->J7 x.p=true
 data:x.o≠3->x.o≠5->x.d=[]
theorem ZT{x:GU}(h:gdE x=0):Fine x:=by
 obtain⟨h1,h2,h3,h4⟩:=iR h;obtain⟨n1,n2,n3,n4⟩:=qX.1 h2;have o:=jU.1 h1;have z:=n1;simp only[KP,Bool.and_eq_true,decide_eq_true_eq]at z;refine⟨o,⟨z.1,n1⟩,VQ.1 n2,VQ.1 n3,VQ.1 n4,h3,?_,?_,?_⟩
 .rintro(e|e)
  .simp[fmB,e]at h4;exact⟨h4.1.1,h4.1.2⟩
  .simp[fmB,e]at h4;exact⟨h4.1.1.1.1,h4.1.1.1.2⟩
 .intro e;simp[fmB,e]at h4;exact h4.1
 .intro e3 e5;by_cases e4:x.o=4
  .simp[fmB,e4]at h4;exact h4.1.1.2
  .simp[fmB,e3,e4,e5]at h4;exact h4.1.1.2
theorem bG{x:GU}(h:Z7 t x=0):SN (kC t x)/\(kC t x).z=x.z/\t.z<x.z:=by
 obtain⟨ha,hc,hf⟩:=rG h;obtain⟨g,hg,hz,h1,h2⟩:=QT ha;have f:=ZT hg;have hs:=g.ses;have gn:QC x.z t.ns t.ss:=g.nod.mono (by omega);rw[kC,if_pos h];refine⟨⟨f.z.2,?_,?_,OT.1 hf⟩,rfl,hz⟩
 .show rD (rE t x);rw[rE]
  split
  .rename_i e;exact AA8 hs f.s (h1 e)
  .split
   .exact AY5 _ hs
   .exact hs
 .show QC x.z (iK t x) (rE t x);rw[iK,rE];by_cases e1:x.o=1
  .rw[if_neg (by omega),if_neg (by omega),if_neg (by omega),if_neg (by omega),if_pos e1];exact gn.more (fun n _ _ h=>BI9 h)
  .rw[if_neg e1];have hm:=h2 e1;by_cases e2:x.o=2
   .rw[if_pos e2,if_pos e2];have R:=oL gn (s:=x.s) (by have:=f.s;omega);refine(oM _ _ gn R).more (fun n hn h0 hi=>?_);rw[AK5];refine EK.2 ⟨hi,?_⟩;simp only[decide_eq_true_eq];intro e;obtain⟨m,hm1,hm2,hm3,_,_,hm4⟩:=vU _ _ n hn
    apply hm4
    rw[OY];exact F5.2 ⟨m,EK.2 ⟨hm1,by simp only[decide_eq_true_eq];rw[hm3,e]⟩,rfl⟩
   .rw[if_neg e2,if_neg e2];by_cases e3:x.o=3
    .rw[if_pos e3];rw[nI,if_pos e3]at hc;obtain⟨c1,⟨u,c2,c3⟩,c4,c5⟩:=BJ3 hc;obtain⟨A,B,G⟩:=A15 g.nod.asc c1;obtain⟨p1,p2⟩:=f.path (.inl e3);have hu:=YO c2;refine AA9 (x:=AB0 x) gn G (by have:=g.nod.few;omega) p1 p2 ⟨u,hu.1,hu.2,c3⟩ f.d f.z.1 rfl rfl rfl rfl rfl rfl ?_;rcases c4 with c|c
     .exact .inl c
     .exact .inr (by show x.w∈t.ss;rw[c];exact hm)
    .rw[if_neg e3];by_cases e4:x.o=4
     .rw[if_pos e4];rw[nI,if_neg e3,if_pos e4]at hc;obtain⟨n,c1,c2⟩:=BJ4 hc;obtain⟨A,B,T⟩:=SQ g.nod.asc c1;exact AY7 gn T c2 (f.path (.inr e4)).2
     .rw[if_neg e4];by_cases e5:x.o=5
      .rw[if_pos e5];exact BJ1 gn x.p x.d x.v f.d f.v (fun n hn=>by have k:=g.nod.ok n hn;have:=k.cm;have:=k.mz;omega)
      .have:=f.op;omega
def MI(n:Nd):List FZ:=[S0 n.p,S0 n.d,I0 n.c,I0 n.m,I0 n.q,I0 n.v,I0 n.k,I0 n.o,I0 n.n]
def C56(n:Nd):FZ:=.agg #[I0 n.c,I0 n.m,I0 n.q,I0 n.v,I0 n.k,I0 n.o,I0 n.n]
def UO(n:Nd):FZ:=.agg #[S0 n.p,S0 n.d,I0 n.c,I0 n.m,I0 n.q,I0 n.v,I0 n.k,I0 n.o,I0 n.n]
instance layN:Lay Nd:=⟨9,MI,104,fun _=>rfl,fun x u hu=>by simp[MI]at hu;rcases hu with rfl|rfl|rfl|rfl|rfl|rfl|rfl|rfl|rfl<;>rfl⟩
theorem IE.nd(h:IE w b off (GK xs))(hi:xs[i]?=G7 x)(c:Nat)(hc:c<9):∀v,(MI x)[c]?=G7 v->w.cell? ⟨b,off+i*9+c,G6⟩=G7 v:=fun v hv=>by
 rw[Nat.add_assoc];exact h (i*9+c) v ((GY xs i x hi c hc).trans hv)
theorem IE.n0(h:IE w b off (GK xs))(hi:xs[i]?=G7 x):w.cell? ⟨b,off+i*9,G6⟩=G7 (S0 x.p):=h.nd hi 0 (by omega) _ rfl
theorem IE.n1(h:IE w b off (GK xs))(hi:xs[i]?=G7 x):w.cell? ⟨b,off+i*9+1,G6⟩=G7 (S0 x.d):=h.nd hi 1 (by omega) _ rfl
theorem IE.n2(h:IE w b off (GK xs))(hi:xs[i]?=G7 x):w.cell? ⟨b,off+i*9+2,G6⟩=G7 (I0 x.c):=h.nd hi 2 (by omega) _ rfl
theorem IE.n3(h:IE w b off (GK xs))(hi:xs[i]?=G7 x):w.cell? ⟨b,off+i*9+3,G6⟩=G7 (I0 x.m):=h.nd hi 3 (by omega) _ rfl
theorem IE.n4(h:IE w b off (GK xs))(hi:xs[i]?=G7 x):w.cell? ⟨b,off+i*9+4,G6⟩=G7 (I0 x.q):=h.nd hi 4 (by omega) _ rfl
theorem IE.n5(h:IE w b off (GK xs))(hi:xs[i]?=G7 x):w.cell? ⟨b,off+i*9+5,G6⟩=G7 (I0 x.v):=h.nd hi 5 (by omega) _ rfl
theorem IE.n6(h:IE w b off (GK xs))(hi:xs[i]?=G7 x):w.cell? ⟨b,off+i*9+6,G6⟩=G7 (I0 x.k):=h.nd hi 6 (by omega) _ rfl
theorem IE.n7(h:IE w b off (GK xs))(hi:xs[i]?=G7 x):w.cell? ⟨b,off+i*9+7,G6⟩=G7 (I0 x.o):=h.nd hi 7 (by omega) _ rfl
theorem IE.n8(h:IE w b off (GK xs))(hi:xs[i]?=G7 x):w.cell? ⟨b,off+i*9+8,G6⟩=G7 (I0 x.n):=h.nd hi 8 (by omega) _ rfl
theorem NM(p:List UInt8)(w:FX):
  G5 prog 190 #[S0 p] w fun e w'=>
   e=.returned (.tuple #[S0 (IQ p),S0 (O8 p),I0 (AU7 p)])/\B0 w w':=by
 cases hg:J7 p with
 |false=>
  rw[bC hg,AK4 hg,AA6 hg];exact AZ8 p w hg
 |true=>
  by_cases hr:p=[47]
  .subst hr;rw[V6,A13,vO];exact AL6 w
  .obtain⟨a,b,rfl,hb⟩:=aX hg;rw[aY hg hr hb,AK3 hg hr hb,AY3 hg hr];exact AL5 a b w hb hg hr
theorem AC7(n:Nd)(p:List UInt8)(w:FX):
  G5 prog 119 #[UO n,S0 p] w (R0 w (I0 (EU n.p p))):=by
 unfold UO;go_enter func119,ntmps119;go_wp2_with fail;refine(strings_Compare _ _ _).mono ?_;rintro e w1 ⟨rfl,rfl⟩;go_wp2_with fail;go_ret;exact⟨rfl,GH _ _⟩
def rX(R:List Nd)(p:List UInt8):Bool:=match R with
 |[]=>false
 |f::_=>decide (f.p=p)
theorem AN4(A R:List Nd)(p:List UInt8)(lo:∀a∈A,bl a.p p=true)(hi:∀a∈R,bl a.p p=false)(i:Nat)(h:i<A.length+R.length):∃y,(A++R)[i]?=G7 y/\bl y.p p=decide (i<A.length):=by
 by_cases h1:i<A.length
 .refine⟨A[i],by rw[BN h1,AO h1],?_⟩;rw[lo _ (List.getElem_mem h1)];simp[h1]
 .have h2:i-A.length<R.length:=by omega
  refine⟨R[i-A.length],by rw[BD (by omega),AO h2],?_⟩;rw[hi _ (List.getElem_mem h2)];simp[h1]
theorem BL9(b off cap:Nat)(A R:List Nd)(p:List UInt8)(w:FX)(hcap:A.length+R.length<=100000)(hb:b<w.heap.size)(h:IE w b off (GK (A++R)))
  (lo:∀a∈A,bl a.p p=true) (hi:∀a∈R,bl a.p p=false):
  G5 prog 118 #[FV (G7 ⟨b,off,G6⟩) (A.length+R.length) cap,S0 p,.func (.func 119) #[] #[]] w fun e w'=>
   e=.returned (.tuple #[I0 A.length,.bool (rX R p)])/\B0 w w':=by
 have H:=G9 h;have SG:=G9 (AN4 A R p lo hi);obtain⟨fin,hfin⟩:∃x,rX R p=x:=⟨_,rfl⟩;have HF:=G9 hfin;rw[hfin];clear h hfin lo hi;go_enter func118,ntmps118;go_wp2_with fail
 go_loopg [9,10] (A.length+R.length) (fun kx s9 s10 wr=>∃lo hi:Nat,s9=I0 lo/\s10=I0 hi/\lo<=A.length/\A.length<=hi/\hi<=A.length+R.length/\hi-lo<=kx/\Hid (B0 w wr))
 case atStart=>exact⟨0,A.length+R.length,rfl,rfl,AZ _,by omega,A8 _,by omega,G9 (Below.refl _ _)⟩
 case round=>
  obtain⟨lo,hi,rfl,rfl,h1,h2,h3,hg,hB⟩:=hrel;by_cases hlt:lo<hi
  .obtain⟨y,hy,hyn⟩:=G8 SG ((lo+hi)/2) (by omega);have HY:=G9 hyn;have r:=(G8 H).kept (G8 hB) hb;have e0:=r.n0 hy;have e1:=r.n1 hy;have e2:=r.n2 hy;have e3:=r.n3 hy;have e4:=r.n4 hy;have e5:=r.n5 hy;have e6:=r.n6 hy;have e7:=r.n7 hy;have e8:=r.n8 hy;clear hyn hy r;have hc:=AA2 y.p p;rw[G8 HY]at hc;have CM:=fun W=>AC7 y p W;generalize EU y.p p=cv at hc CM;by_cases hm:(lo+hi)/2<A.length
   .have hn:cv<0:=by simpa [hm]using hc
    clear hc;go_wp2_with fail;refine(CM _).mono ?_;rintro e w1 ⟨rfl,hb1⟩;have hB2:B0 w w1:=(G8 hB).trans (hb1.mono (G8 hB).size);clear CM;go_wp2_with fail
    go_roundg (hi-((lo+hi)/2+1))
    case measure=>omega
    case rel=>exact⟨(lo+hi)/2+1,hi,by rw[show ((lo:Int)+(hi:Int))/2+1=(((lo+hi)/2+1:Nat):Int) by omega],rfl,by omega,h2,h3,A8 _,G9 hB2⟩
   .have hn:¬cv<0:=by simpa [hm]using hc
    clear hc;go_wp2_with fail;refine(CM _).mono ?_;rintro e w1 ⟨rfl,hb1⟩;have hB2:B0 w w1:=(G8 hB).trans (hb1.mono (G8 hB).size);clear CM;go_wp2_with fail
    go_roundg ((lo+hi)/2-lo)
    case measure=>omega
    case rel=>exact⟨lo,(lo+hi)/2,rfl,by rw[show ((lo:Int)+(hi:Int))/2=(((lo+hi)/2:Nat):Int) by omega],h1,by omega,by omega,A8 _,G9 hB2⟩
  .obtain rfl:lo=A.length:=by omega
   obtain rfl:hi=A.length:=by omega
   cases R with
   |nil=>
    go_wp2_with fail
    go_ret2
    exact⟨by rw[<-G8 HF];rfl,G8 hB⟩
   |cons f R=>
    have r:=(G8 H).kept (G8 hB) hb;have hy:(A++f::R)[A.length]?=G7 f:=by simp
    have e0:=r.n0 hy;have e1:=r.n1 hy;have e2:=r.n2 hy;have e3:=r.n3 hy;have e4:=r.n4 hy;have e5:=r.n5 hy;have e6:=r.n6 hy;have e7:=r.n7 hy;have e8:=r.n8 hy;clear hy r;have hc:=iT f.p p;have CM:=fun W=>AC7 f p W;have hf:fin=decide (f.p=p):=(G8 HF).symm;rw[<-hc]at hf;clear hc HF;generalize EU f.p p=cv at hf CM;subst hf;simp only[BH];go_wp2_with fail;refine(CM _).mono ?_;rintro e w1 ⟨rfl,hb1⟩;have hB2:B0 w w1:=(G8 hB).trans (hb1.mono (G8 hB).size);clear CM;go_wp2_with fail
    go_ret2
    exact⟨by rfl,hB2⟩
theorem B28(a:Option Addr)(cap:Nat)(p:List UInt8)(w:FX):
  G5 prog 118 #[FV a 0 cap,S0 p,.func (.func 119) #[] #[]] w fun e w'=>
   e=.returned (.tuple #[I0 0,.bool false])/\B0 w w':=by
 go_enter func118,ntmps118;go_wp2_with fail
 go_loopg [9,10] 1 (fun _ s9 s10 wr=>s9=I0 0/\s10=I0 0/\Hid (B0 w wr))
 case atStart=>exact⟨rfl,rfl,G9 (Below.refl _ _)⟩
 case round=>
  obtain⟨rfl,rfl,hB⟩:=hrel;go_wp2_with fail
  go_ret2
  exact⟨rfl,G8 hB⟩
theorem kU(v:FZ)(ns A R:List Nd)(p:List UInt8)(w:FX)(hv:IK w v ns)(hl:ns.length<=100000)(he:ns=A++R)(lo:∀a∈A,bl a.p p=true)(hi:∀a∈R,bl a.p p=false):
  G5 prog 73 #[v,S0 p] w (R0 w (.tuple #[I0 A.length,.bool (rX R p)])):=by
 have C:∀W:FX,B0 w W->G5 prog 118 #[v,S0 p,.func (.func 119) #[] #[]] W fun e w'=>
   e=.returned (.tuple #[I0 A.length,.bool (rX R p)])/\B0 W w':=fun W hW=>by
  rcases hv with⟨a,cap,rfl,h0,_⟩|⟨b,off,cap,rfl,_,_,hb,_,hr⟩
  .rw[h0]at he;obtain⟨rfl,rfl⟩:A=[]/\R=[]:=by
    have:=congrArg List.length he;simp at this;exact⟨C9 (by omega),C9 (by omega)⟩
   exact B28 a cap p W
  .subst he;rw[AP];exact BL9 b off cap A R p W (by simpa using hl) (Nat.lt_of_lt_of_le hb hW.size) (hr.kept hW hb) lo hi
 have C':=G9 C;obtain⟨a,c,rfl⟩:=GL hv;clear C hv hl he lo hi;generalize rX R p=hd at C'⊢;go_enter func73,ntmps73;go_wp2_with fail;refine(G8 C' _ (Below.refl _ _)).mono ?_;rintro e w1 ⟨rfl,hb1⟩;go_wp2_with fail
 go_ret2
 exact⟨rfl,hb1⟩
theorem JX(v:FZ)(ns A B:List Nd)(f:Nd)(p:List UInt8)(w:FX)(hv:IK w v ns)(hl:ns.length<=100000)(T:KL ns A f B p):
  G5 prog 73 #[v,S0 p] w (R0 w (.tuple #[I0 A.length,.bool true])):=by
 have:=kU v ns A (f::B) p w hv hl T.eq T.lo (fun a ha=>by
  rcases BR.1 ha with rfl|h
  .rw[T.nm];exact QZ _
  .exact OO (T.hi a h))
 rwa[show rX (f::B) p=true from by simp[rX,T.nm]]at this
theorem NQ(v:FZ)(ns A B:List Nd)(p:List UInt8)(w:FX)(hv:IK w v ns)(hl:ns.length<=100000)(G:oI ns A B p):
  G5 prog 73 #[v,S0 p] w (R0 w (.tuple #[I0 A.length,.bool false])):=by
 have:=kU v ns A B p w hv hl G.eq G.lo (fun a ha=>OO (G.hi a ha));rwa[show rX B p=false from by
  cases B with
  |nil=>rfl
  |cons f B=>have:=XF (G.hi f (by simp));simp[rX,this.symm]]at this
theorem wY(v:FZ)(ns:List Nd)(p:List UInt8)(w:FX)(hv:IK w v ns)(hl:ns.length<=100000)(ha:uX ns):
  ∃i:Nat,i<=ns.length/\G5 prog 73 #[v,S0 p] w (R0 w (.tuple #[I0 i,.bool (LW ns p).isSome])):=by
 rcases ZB p ns ha with⟨A,n,B,T⟩|⟨A,B,G⟩
 .rw[T.look];exact⟨A.length,by rw[T.eq];simp,JX v ns A B n p w hv hl T⟩
 .rw[G.look];exact⟨A.length,by rw[G.eq];simp,NQ v ns A B p w hv hl G⟩
theorem BM0(x:Int)(w:FX):G5 prog 208 #[I0 x] w fun e w'=>e=.returned (.bool false)/\w'=w:=by
 go_enter func208,ntmps208
 go_wp2
 go_ret;exact⟨rfl,rfl⟩
theorem BM1(x:Int)(w:FX):G5 prog 247 #[I0 x] w fun e w'=>e=.returned (.bool false)/\w'=w:=by
 go_enter func247,ntmps247
 go_wp2
 go_ret;exact⟨rfl,rfl⟩
theorem B29(x y:Int)(w:FX):G5 prog 246 #[I0 x,I0 y] w fun e w'=>e=.returned (.bool (decide (x<y)))/\w'=w:=by
 go_enter func246,ntmps246;go_wp2_with fail;refine(BM0 _ _).mono ?_;rintro e w1 ⟨rfl,rfl⟩;go_wp2_with fail;go_ret;exact⟨rfl,rfl⟩
def AN5(R:List Int)(s:Int):Bool:=match R with
 |[]=>false
 |f::_=>decide (f=s)
theorem AN6(A R:List Int)(s:Int)(lo:∀a∈A,a<s)(hi:∀a∈R,¬a<s)(i:Nat)(h:i<A.length+R.length):∃y,(A++R)[i]?=G7 y/\decide (y<s)=decide (i<A.length):=by
 by_cases h1:i<A.length
 .refine⟨A[i],by rw[BN h1,AO h1],?_⟩;simp[h1,lo _ (List.getElem_mem h1)]
 .have h2:i-A.length<R.length:=by omega
  refine⟨R[i-A.length],by rw[BD (by omega),AO h2],?_⟩;simp only[h1,hi _ (List.getElem_mem h2)]
theorem C62(b off cap:Nat)(A R:List Int)(s:Int)(w:FX)(hcap:A.length+R.length<=281474976710656)(hb:b<w.heap.size)(h:IE w b off (GK (A++R)))
  (lo:∀a∈A,a<s) (hi:∀a∈R,¬a<s):
  G5 prog 220 #[FV (G7 ⟨b,off,G6⟩) (A.length+R.length) cap,I0 s] w fun e w'=>
   e=.returned (.tuple #[I0 A.length,.bool (AN5 R s)])/\w'=w:=by
 have H:=G9 h;have SG:=G9 (AN6 A R s lo hi);obtain⟨fin,hfin⟩:∃x,AN5 R s=x:=⟨_,rfl⟩;have HF:=G9 hfin;rw[hfin];clear h hfin lo hi;go_enter func220,ntmps220;go_wp2_with fail
 go_loopg [7,8] (A.length+R.length) (fun kx s9 s10 wr=>∃lo hi:Nat,s9=I0 lo/\s10=I0 hi/\lo<=A.length/\A.length<=hi/\hi<=A.length+R.length/\hi-lo<=kx/\wr=w)
 case atStart=>exact⟨0,A.length+R.length,rfl,rfl,AZ _,by omega,A8 _,by omega,rfl⟩
 case round=>
  obtain⟨lo,hi,rfl,rfl,h1,h2,h3,hg,rfl⟩:=hrel;by_cases hlt:lo<hi
  .obtain⟨y,hy,hyn⟩:=G8 SG ((lo+hi)/2) (by omega);have e0:=(G8 H).i0 hy;clear hy;have CM:=fun W=>B29 y s W;rw[hyn]at CM;clear hyn;by_cases hm:(lo+hi)/2<A.length
   .simp only[hm,decide_true]at CM;go_wp2_with fail;refine(CM _).mono ?_;rintro e w1 ⟨rfl,rfl⟩;clear CM;go_wp2_with fail
    go_roundg (hi-((lo+hi)/2+1))
    case measure=>omega
    case rel=>exact⟨(lo+hi)/2+1,hi,by rw[show ((lo:Int)+(hi:Int))/2+1=(((lo+hi)/2+1:Nat):Int) by omega],rfl,by omega,h2,h3,A8 _,rfl⟩
   .simp only[hm,decide_false]at CM;go_wp2_with fail;refine(CM _).mono ?_;rintro e w1 ⟨rfl,rfl⟩;clear CM;go_wp2_with fail
    go_roundg ((lo+hi)/2-lo)
    case measure=>omega
    case rel=>exact⟨lo,(lo+hi)/2,rfl,by rw[show ((lo:Int)+(hi:Int))/2=(((lo+hi)/2:Nat):Int) by omega],h1,by omega,by omega,A8 _,rfl⟩
  .obtain rfl:lo=A.length:=by omega
   obtain rfl:hi=A.length:=by omega
   cases R with
   |nil=>
    go_wp2_with fail
    go_ret2
    exact⟨by rw[<-G8 HF];rfl,rfl⟩
   |cons f R=>
    have e0:=(G8 H).i0 (show (A++f::R)[A.length]?=G7 f by simp);have hf:decide (f=s)=fin:=G8 HF;clear HF;simp only[BH];by_cases hfs:f=s
    .subst hfs;simp only[decide_true]at hf;subst hf;go_wp2_with fail
     go_ret2
     exact⟨rfl,rfl⟩
    .simp only[hfs,decide_false]at hf;subst hf;have hq:(f==s)=false:=by simpa using hfs
     clear hfs;go_wp2_with fail;refine(BM1 _ _).mono ?_;rintro e w1 ⟨rfl,rfl⟩;go_wp2_with fail
     go_ret2
     exact⟨rfl,rfl⟩
theorem BM2(a:Option Addr)(cap:Nat)(s:Int)(w:FX):
  G5 prog 220 #[FV a 0 cap,I0 s] w fun e w'=>e=.returned (.tuple #[I0 0,.bool false])/\w'=w:=by
 go_enter func220,ntmps220;go_wp2_with fail
 go_loopg [7,8] 1 (fun _ s9 s10 wr=>s9=I0 0/\s10=I0 0/\wr=w)
 case atStart=>exact⟨rfl,rfl,rfl⟩
 case round=>
  obtain⟨rfl,rfl,rfl⟩:=hrel;go_wp2_with fail
  go_ret2
  exact⟨rfl,rfl⟩
theorem xA(v:FZ)(ss A R:List Int)(s:Int)(w:FX)(hv:IK w v ss)(hl:ss.length<=2147483647)(he:ss=A++R)(lo:∀a∈A,a<s)(hi:∀a∈R,¬a<s):
  G5 prog 220 #[v,I0 s] w fun e w'=>e=.returned (.tuple #[I0 A.length,.bool (AN5 R s)])/\w'=w:=by
 rcases hv with⟨a,cap,rfl,h0,_⟩|⟨b,off,cap,rfl,_,_,hb,_,hr⟩
 .rw[h0]at he;obtain⟨rfl,rfl⟩:A=[]/\R=[]:=by
   have:=congrArg List.length he;simp at this;exact⟨C9 (by omega),C9 (by omega)⟩
  exact BM2 a cap s w
 .subst he;rw[AP];exact C62 b off cap A R s w (by simp at hl;omega) hb hr lo hi
theorem xB(v:FZ)(ss A B:List Int)(s:Int)(w:FX)(hv:IK w v ss)(hl:ss.length<=2147483647)(T:jY ss A B s):
  G5 prog 220 #[v,I0 s] w fun e w'=>e=.returned (.tuple #[I0 A.length,.bool true])/\w'=w:=by
 have:=xA v ss A (s::B) s w hv hl T.eq T.lo (fun a ha=>by
  rcases BR.1 ha with rfl|h
  .omega
  .have:=T.hi a h;omega)
 rwa[show AN5 (s::B) s=true from by simp[AN5]]at this
theorem B30(v:FZ)(ss A B:List Int)(s:Int)(w:FX)(hv:IK w v ss)(hl:ss.length<=2147483647)(G:C45 ss A B s):
  G5 prog 220 #[v,I0 s] w fun e w'=>e=.returned (.tuple #[I0 A.length,.bool false])/\w'=w:=by
 have:=xA v ss A B s w hv hl G.eq G.lo (fun a ha=>by have:=G.hi a ha;omega);rwa[show AN5 B s=false from by
  cases B with
  |nil=>rfl
  |cons f B=>exact decide_eq_false (by have:=G.hi f (by simp);omega)]at this
theorem bY(z:Int)(vn vs:FZ)(ss:List Int)(s:Int)(w:FX)(hv:IK w vs ss)(hs:rD ss):
  G5 prog 191 #[.agg #[I0 z,vn,vs],I0 s] w (R0 w (.bool (decide (s∈ss)))):=by
 have C:∀W:FX,B0 w W->∃i:Nat,G5 prog 220 #[vs,I0 s] W fun e w'=>e=.returned (.tuple #[I0 i,.bool (decide (s∈ss))])/\w'=W:=fun W hW=>by
  rcases vP s ss hs.1 with⟨A,B,T⟩|⟨A,B,G⟩
  .rw[show decide (s∈ss)=true from decide_eq_true T.mem];exact⟨A.length,xB vs ss A B s W (hv.next hW) (UF hs) T⟩
  .rw[show decide (s∈ss)=false from decide_eq_false G.not];exact⟨A.length,B30 vs ss A B s W (hv.next hW) (UF hs) G⟩
 have C':=G9 C;obtain⟨a,c,rfl⟩:=GL hv;clear C hv hs;generalize decide (s∈ss)=hd at C'⊢;generalize ss.length=n at C'⊢;go_enter func191,ntmps191;go_wp2_with fail;obtain⟨i,C2⟩:=G8 C' _ (GH _ _);refine C2.mono ?_;rintro e w1 ⟨rfl,rfl⟩;go_wp2_with fail;go_ret;exact⟨rfl,GH _ _⟩
theorem xC(w:FX){o:Oper}{a:Act}{K:Act->FX->Prop}{Q:Exit->Act->FX->Prop}(d s:Operand)(t t':TypeId)
  (ho:o.op=.call {callee:=.builtin .copy,args:=#[d,s],argTypes:=#[t,t']}) (v u:FZ) (hd:a.eval d=v) (hs:a.eval s=u) {v':FZ} {w':FX}
  (hr:(EC #[t,t'] o.type #[v,u]).run prog w=.ok v' w') (h:K (a.put o.dst v') w'):o.wp prog a w K Q:=by
 unfold Oper.wp execOp;simp only[ho,resolve,invoke,builtin,Sem.run_bind,Sem.run_pure,Result.andThen_ok,List.map_toArray,List.map_cons,List.map_nil,hd,hs,hr];exact h
theorem LG(w:FX){ops:Array Oper}{rest:List Oper}{o:Oper}{a:Act}{Q:Exit->Act->FX->Prop}(hgd:o.guard=G6)(d s:Operand)(t t':TypeId)
  (ho:o.op=.call {callee:=.builtin .copy,args:=#[d,s],argTypes:=#[t,t']}) (v u:FZ) (hd:a.eval d=v) (hs:a.eval s=u) {v':FZ} {w':FX}
  (hr:(EC #[t,t'] o.type #[v,u]).run prog w=.ok v' w') (h:wpList prog ops Q rest (a.put o.dst v') w'):wpList prog ops Q (o::rest) a w:=
 wpList_plain hgd fun _ hK=>xC w d s t t' ho v u hd hs hr (hK _ _ h)
theorem MX{ops:Array Oper}{o:Oper}{a:Act}{w:FX}{K:Act->FX->Prop}{Q:Exit->Act->FX->Prop}{E:Prop}
  (hg:o.guard=G6) (d x:Operand) (dT sT:TypeId) (hop:o.op=Op.call {callee:=Callee.builtin Builtin.copy,args:=#[d,x],argTypes:=#[dT,sT]})
  (v u:FZ) (hd:a.eval d=v) (hx:a.eval x=u) {v':FZ} {w':FX} (hr:(EC #[dT,sT] o.type #[v,u]).run prog w=.ok v' w') (hK:K (a.put o.dst v') w'):
  if Region.wanted o (yielded ops a.tmps)=true then Oper.wp prog o a w K Q else E:=by
 have hw:Region.wanted o (yielded ops a.tmps)=true:=by simp[Region.wanted,hg]
 rw[if_pos hw];unfold Oper.wp;simp[execOp,hop,resolve,invoke,builtin,hd,hx,hr,Result.andThen];exact hK
theorem JD(ns:List Nd):(GK ns).length=ns.length*9:=H7 ns
theorem JB.rY{pre tl:List Nd}(h:JB W g cap (pre++tl))(new:List Nd)(hfit:pre.length+new.length<=cap):JB (W.setCells g (pre.length*9) (GK new)) g cap (pre++new):=h.splice new hfit
theorem JB.CL6{fs:List Nd}(h:JB W g cap fs)(vs:List FZ)(o:Nat)(ho:fs.length*9<=o)(hfit:o+vs.length<=cap*9):JB (W.setCells g o vs) g cap fs:=h.spare vs o ho hfit
theorem JB.CX8{y:Nd}(h:JB W g cap (A++y::B))(x:Nd):JB (W.setCells g (A.length*9) (MI x)) g cap (A++x::B):=h.wG x
theorem JB.AN7{fs:List Nd}(h:JB W g cap fs){j:Nat}(hj:j<cap*9):(W.cell? ⟨g,j,G6⟩).isSome=true:=h.some hj
theorem JB.rZ{pre tl:List Int}(h:JB W g cap (pre++tl))(new:List Int)(hfit:pre.length+new.length<=cap):JB (W.setCells g pre.length (GK new)) g cap (pre++new):=by
 have:=h.splice new hfit;rwa[show pre.length*Lay.k Int=pre.length from Nat.mul_one _]at this
theorem JB.CL7{fs:List Int}(h:JB W g cap fs)(vs:List FZ)(o:Nat)(ho:fs.length<=o)(hfit:o+vs.length<=cap):JB (W.setCells g o vs) g cap fs:=
 h.spare vs o (by rw[show fs.length*Lay.k Int=fs.length from Nat.mul_one _];exact ho) (by rw[show cap*Lay.k Int=cap from Nat.mul_one _];exact hfit)
theorem JB.CX9{A B:List Int}{y:Int}(h:JB W g cap (A++y::B))(x:Int):JB (W.setCells g A.length [I0 x]) g cap (A++x::B):=by
 have:=h.wG x;rwa[show A.length*Lay.k Int=A.length from Nat.mul_one _]at this
theorem JB.AN8{fs:List Int}(h:JB W g cap fs){j:Nat}(hj:j<cap):(W.cell? ⟨g,j,G6⟩).isSome=true:=h.some (by rw[show cap*Lay.k Int=cap from Nat.mul_one _];exact hj)
theorem CL8:(prog.info? 104).map (fun i=>(i.zero,i.size,i.bytes))=G7 (G7 (.agg #[.string ⟨#[]⟩,.string ⟨#[]⟩,I0 0,I0 0,I0 0,I0 0,I0 0,I0 0,I0 0]),9,88):=by kernel_rfl
theorem AN9:∃i0,prog.info? 104=G7 i0/\i0.zero=G7 (.agg #[.string ⟨#[]⟩,.string ⟨#[]⟩,I0 0,I0 0,I0 0,I0 0,I0 0,I0 0,I0 0])/\i0.size=9/\i0.bytes=88:=by
 obtain⟨i0,h,e⟩:=Option.map_eq_some_iff.1 CL8;simp only[Prod.mk.injEq]at e;exact⟨i0,h,e⟩
def XT:List FZ:=[.string ⟨#[]⟩,.string ⟨#[]⟩,I0 0,I0 0,I0 0,I0 0,I0 0,I0 0,I0 0]
theorem C63(w:FX)(ty:TypeId)(b o c:Nat)(hc:∀j,j<9->(w.cell? ⟨b,o+j,G6⟩).isSome=true)(hf:∀j,j<9->w.frozen? ⟨b,o+j,G6⟩=false):
  (Builtin.clear_ #[49] ty #[FV (G7 ⟨b,o,G6⟩) 1 c]).run prog w=.ok (.tuple #[]) (w.setCells b o XT):=by
 have hzc:(BI (Value.agg #[.string ⟨#[]⟩,.string ⟨#[]⟩,I0 0,I0 0,I0 0,I0 0,I0 0,I0 0,I0 0]).cells 1).toList=XT:=by kernel_rfl
 have hst:=run_storeCells_cells (P:=prog) b o XT 0 w (by simpa [XT]using hc) (by simpa [XT]using hf) (by simp[XT,Value.oneCell']);simp only[Nat.add_zero]at hst;simp[Builtin.clear_,run_underlying underlying49,hzc,hst]
theorem A33(g cap:Nat)(A B:List Nd)(f:Nd)(n:Nat)(w:FX)(ho:JB w g cap (A++f::B))(hn:n=A.length+B.length+1)(hsm:n<=400):
  G5 prog 229 #[FV (G7 ⟨g,0,G6⟩) n cap,I0 A.length,I0 (A.length+1:Nat)] w fun e w'=>
   e=.returned (FV (G7 ⟨g,0,G6⟩) (A.length+B.length) cap)/\JB w' g cap (A++B)/\w.grownBy w' (G7 g):=by
 obtain⟨i0,hi0,hz0,hz1,hz2⟩:=AN9;have hle:=ho.le;have hcl:=ho.capLe;simp only[maxLen]at hcl;rw[AP,BH]at hle;have hrow:=ho.row;obtain⟨AD,hAD,hsrc⟩:∃AD:Addr,(if cap=A.length+1 then G7 (⟨g,0,G6⟩:Addr)else G7 ⟨g,(A.length+1)*9,G6⟩)=G7 AD/\Hid (∀t u,(GK B)[t]?=G7 u->w.drew.cell? (AD.add t)=G7 u):=by
  by_cases h:cap=A.length+1
  .refine⟨⟨g,0,G6⟩,by simp[h],fun t u hu=>?_⟩;have h0:B=[]:=C9 (by omega);rw[h0]at hu;simp[TL]at hu
  .refine⟨⟨g,(A.length+1)*9,G6⟩,by simp[h],fun t u hu=>?_⟩;rw[BM];have:=hrow ((A.length+1)*9+t) u (by
    rw[I8,BD (by rw[JD];omega),JD,JV,BD (by rw[Lay.len];show 9<=_;omega)];rw[Lay.len,<-hu];congr 1;show _-9=_;omega)
   rw[BJ]at this;exact this
 have s1:Hid ((GK B).length=B.length*9):=JD B;have s2:Hid (∀u∈GK B,u.oneCell'=true):=JR B;have s3:Hid (∀t,t<(GK B).length->(w.drew.cell? ⟨g,0+A.length*9+t,G6⟩).isSome=true/\w.drew.frozen? ⟨g,0+A.length*9+t,G6⟩=false):=by
  intro t ht;rw[JD]at ht;exact⟨ho.AN7 (by omega),ho.frozen _⟩
 obtain⟨W1,hW1⟩:∃W1,W1=w.drew.setCells g (0+A.length*9) (GK B):=⟨_,rfl⟩;have ho1:JB W1 g cap (A++B):=by rw[hW1,BJ];exact ho.drew.rY B (by omega)
 have hg1:w.grownBy W1 (G7 g):=by rw[hW1];have:=I9 (g:=g) (GK B) (0+A.length*9) w.drew;exact⟨this.os,this.tape,this.output,this.size,this.block⟩
 have CV9:∀ty c,(Builtin.clear_ #[49] ty #[FV (G7 ⟨g,(A.length+B.length)*9,G6⟩) 1 c]).run prog W1=.ok (.tuple #[]) (W1.setCells g ((A.length+B.length)*9) XT):=fun ty c=>
  C63 W1 ty g _ c (fun j hj=>ho1.AN7 (by omega)) (fun j hj=>ho1.frozen _)
 have FIN:Hid (JB (W1.setCells g ((A.length+B.length)*9) XT) g cap (A++B)/\w.grownBy (W1.setCells g ((A.length+B.length)*9) XT) (G7 g)):=
  ⟨ho1.CL6 XT _ (by rw[AP];omega) (by simp[XT];omega),IV hg1 (I9 _ _ _)⟩
 have hW:Hid (W1=w.drew.setCells g (0+A.length*9) (GK B)):=hW1;have hic:A.length<=cap:=by omega
 have hjc:A.length+1<=cap:=by omega
 have hne:¬ (cap=A.length+B.length):=by omega
 have hb1:(0:Int)<=(A.length:Int)+1:=by omega
 have hb2:(A.length:Int)<=(A.length:Int)+(B.length:Int):=by omega
 have hb3:(0:Int)<=(A.length:Int)+(B.length:Int):=by omega
 have hs1:A.length+B.length+1-(A.length+B.length)=1:=by omega
 clear hW1 ho1 hg1 hrow ho;subst hn;go_enter func229,ntmps229;go_wp2_with fail
 go_region_law (refine step_append_room rfl (.tmp 22) (.tmp 25) 49 rfl 104 i0 9 underlying49 hi0 hz1 g 0 A.length cap (by simp[Act.eval,Act.put]) AD B.length (cap-(A.length+1)) (GK B) (by simp[Act.eval,Act.put]) s1.out hsrc.out s2.out (by omega) s3.out ?_;rw[<-hW.out])
 go_wp2
 go_ret;exact⟨rfl,FIN.out⟩
theorem AC8(w:FX)(ty:TypeId)(b o dLen dCap:Nat)(a:Addr)(sLen sCap:Nat)(cs:List FZ)(hn:cs.length=Nat.min sLen dLen*9)
  (hsrc:∀j v,cs[j]?=G7 v->w.cell? (a.add j)=G7 v) (hc:∀j,j<cs.length->(w.cell? ⟨b,o+j,G6⟩).isSome=true) (hf:∀j,j<cs.length->w.frozen? ⟨b,o+j,G6⟩=false) (h1:∀v∈cs,v.oneCell'=true):
  (EC #[49,49] ty #[FV (G7 ⟨b,o,G6⟩) dLen dCap,FV (G7 a) sLen sCap]).run prog w=.ok (goInt (Nat.min sLen dLen)) (w.setCells b o cs):=by
 have hl:=run_loadCells_list (P:=prog) w a cs hsrc;have hst:=run_storeCells_cells (P:=prog) b o cs 0 w (by simpa using hc) (by simpa using hf) h1;obtain⟨i0,hi0,hz0,hz1,hz2⟩:=AN9;simp[EC,run_underlying underlying49,Builtin.lenOf,Builtin.firstCells,sizeOf,typeInfo,hi0,hz1,<-hn,hl,hst]
theorem A34(v:FZ)(A:List Nd)(x:Nd)(B b:Nat)(w:FX)(ho:H6 w B v A)(hB:B<=w.heap.size)(hl:A.length<=400)(h1:JM w b x):
  G5 prog 226 #[v,I0 A.length,FV (G7 ⟨b,0,G6⟩) 1 1] w fun e w'=>
   ∃v',e=.returned v'/\H6 w' B v' (A++[x])/\w.grownBy w' v.ownBlock/\(v'.ownBlock=v.ownBlock\/v'.ownBlock=G7 w.heap.size):=by
 obtain⟨i0,hi0,hz0,hz1,hz2⟩:=AN9;have hrow:=ho.row;have HR:=G9 hrow;have H1:=G9 h1.row;have V:∃a c,v=FV a A.length c/\A.length<=c:=by
  rcases ho with⟨rfl,rfl⟩|⟨g,cap,rfl,_,h⟩
  .exact⟨G6,0,rfl,A8 _⟩
  .exact⟨_,cap,rfl,h.le⟩
 obtain⟨a,c,rfl,hc⟩:=V;clear ho hrow h1;rcases Nat.lt_or_ge A.length c with hcl|hcl
 .have hne:¬c=A.length:=by omega
  go_enter func226,ntmps226;go_wp2_with (at_builtin;refine wpList_append_own_at _ rfl _ _ 49 rfl B 104 i0 _ 9 88 underlying49 hi0 hz0 hz1 hz2 rfl (by decide) _ A.length (GK A) rfl (G8 HR) ⟨b,0,G6⟩ 1 1 (MI x) rfl (by rfl) ?qc2 ((Lay.one x)) ?qc4 ?qc5 hB ?_)
  case qc2=>
   intro j u hj;rw[BM];exact G8 H1 j u hj
  case qc4=>simp only[maxLen];omega
  case qc5=>omega
  intro v' w1 hown hgrow _ hloc
  go_wp2
  go_ret;exact⟨v',rfl,H6.LC (by rw[AP,JH];exact hown),hgrow,hloc⟩
 .obtain rfl:c=A.length:=by omega
  go_enter func226,ntmps226;go_wp2_with (at_builtin;refine wpList_append_own_at _ rfl _ _ 49 rfl B 104 i0 _ 9 88 underlying49 hi0 hz0 hz1 hz2 rfl (by decide) _ A.length (GK A) rfl (G8 HR) ⟨b,0,G6⟩ 1 1 (MI x) rfl (by rfl) ?qc2 ((Lay.one x)) ?qc4 ?qc5 hB ?_)
  case qc2=>
   intro j u hj;rw[BM];exact G8 H1 j u hj
  case qc4=>simp only[maxLen];omega
  case qc5=>omega
  intro v' w1 hown hgrow _ hloc
  go_wp2
  go_ret;exact⟨v',rfl,H6.LC (by rw[AP,JH];exact hown),hgrow,hloc⟩
theorem sD(g cap:Nat)(A R:List Nd)(y x:Nd)(n b:Nat)(w:FX)(ho:JB w g cap (A++y::R))(hn:n=A.length+R.length+1)(hsm:n<=400)(hroom:n+1<=cap)(h1:JM w b x)(hbg:b≠g):
  G5 prog 226 #[FV (G7 ⟨g,0,G6⟩) n cap,I0 A.length,FV (G7 ⟨b,0,G6⟩) 1 1] w fun e w'=>
   e=.returned (FV (G7 ⟨g,0,G6⟩) (n+1) cap)/\JB w' g cap (A++x::y::R)/\w.grownBy w' (G7 g):=by
 have hcl:=ho.capLe;simp only[maxLen]at hcl;have hrow:=ho.row;have B21:w.shape? g=G7 (104,cap*9):=by
  obtain⟨rest,q1,q2,_⟩:=ho;rw[AP,BH]at q2;simp[World.shape?,q1,JD];exact⟨rfl,q2⟩
 have B22:w.shape? b=G7 (104,9):=by unfold JM at h1;simp[World.shape?,h1];exact⟨rfl,rfl⟩
 have hfb:∀j,w.frozen? ⟨b,j,G6⟩=false:=fun j=>by unfold JM at h1;simp[World.frozen?,h1]
 have hov:∀lb cb,(callFunc 252 #[FV (G7 ⟨b,0,G6⟩) 1 1,FV (G7 ⟨g,(A.length+1)*9,G6⟩) lb cb]).run prog w=.ok (.value (.bool false)) w:=fun lb cb=>by
  rw[run_callFunc_extern func252 (by kernel_rfl) (by kernel_rfl) (by kernel_rfl) (e:=Extern.SlicesOverlaps.overlaps #[49,49] #[4]) (by kernel_rfl),
   Lib.run_overlaps_apart w 49 4 104 underlying49 9 sizeOf104 ⟨b,0,G6⟩ ⟨g,(A.length+1)*9,G6⟩ 1 1 lb cb hbg 104 104 9 (cap*9) B22 B21 (by omega) (hfb 0) (hfb 9)]
  rfl
 obtain⟨W1,hW1⟩:∃W1,W1=w.drew.setCells g ((A.length+1)*9) (GK (y::R)):=⟨_,rfl⟩;have ho1:JB W1 g cap (A++y::y::R):=by
  have h:JB w.drew g cap ((A++[y])++R):=by rw[List.append_assoc];exact ho
  have:=h.rY (y::R) (by simp;omega);rw[hW1];simpa using this
 have hg1:w.grownBy W1 (G7 g):=by rw[hW1];have:=I9 (g:=g) (GK (y::R)) ((A.length+1)*9) w.drew;exact⟨this.os,this.tape,this.output,this.size,this.block⟩
 have hcp1:∀ty dc sc,(EC #[49,49] ty #[FV (G7 ⟨g,(A.length+1)*9,G6⟩) (n-A.length) dc,FV (G7 ⟨g,A.length*9,G6⟩) (n+1-A.length) sc]).run prog w.drew=.ok (goInt (Nat.min (n+1-A.length) (n-A.length))) W1:=fun ty dc sc=>by
  rw[hW1];exact AC8 w.drew ty g _ _ dc ⟨g,A.length*9,G6⟩ _ sc (GK (y::R)) (by rw[JD];simp only[Nat.min_def,BH];split<;>omega)
   (fun j v hj=>by
    rw[BM];have:=hrow (A.length*9+j) v (by rw[I8,BD (by rw[JD];omega),JD,FH];exact hj);rw[BJ]at this;exact this)
   (fun j hj=>by rw[JD]at hj;exact ho.AN7 (by simp at hj;omega)) (fun j _=>ho.frozen _) (JR _)
 have hcp2:∀ty dc,(EC #[49,49] ty #[FV (G7 ⟨g,A.length*9,G6⟩) (n+1-A.length) dc,FV (G7 ⟨b,0,G6⟩) 1 1]).run prog W1=.ok (goInt (Nat.min 1 (n+1-A.length))) (W1.setCells g (A.length*9) (MI x)):=fun ty dc=>
  AC8 W1 ty g _ _ dc ⟨b,0,G6⟩ 1 1 (MI x) (by simp only[Nat.min_def,MI,BH,EZ];split<;>omega)
   (fun j v hj=>by
    rw[BM];have hb2:W1.heap[b]?=w.heap[b]? :=hg1.block b (by unfold JM at h1;exact(Array.getElem?_eq_some_iff.1 h1).1) (fun e=>hbg (Option.some.inj e));have h2:JM W1 b x:=hb2.trans h1;exact h2.row j v hj)
   (fun j hj=>ho1.AN7 (by simp[MI]at hj;omega)) (fun j _=>ho1.frozen _) ((Lay.one x))
 have FIN:Hid (JB (W1.setCells g (A.length*9) (MI x)) g cap (A++x::y::R)/\w.grownBy (W1.setCells g (A.length*9) (MI x)) (G7 g)):=
  ⟨ho1.CX8 x,IV hg1 (I9 _ _ _)⟩
 have hin:A.length<n:=by omega
 have C59:(A.length:Int)<(n:Int):=by omega
 have hw1:IntKind.i64.wrap ((A.length:Int)+1)=(A.length:Int)+1:=by rw[IntKind.wrap_i64];omega
 have hb1:(0:Int)<=(A.length:Int)+1:=by omega
 have hb2:¬ (cap=A.length+1):=by omega
 have hb3:(A.length:Int)<=(n:Int)+1:=by omega
 have hb4:¬ (cap=A.length):=by omega
 have hb5:(A.length:Int)+1<=(n:Int)+1:=by omega
 have hb6:¬ ((cap:Int)<(n:Int)+1):=by omega
 have hz2:¬ ((A.length:Int)=(n:Int)):=by omega
 have htn:((A.length:Int)+1).toNat=A.length+1:=by omega
 clear hW1 ho1 hg1 hrow B21 B22 hfb ho h1 hn;go_enter func226,ntmps226;go_wp2_with (simp only[hov])
 go_region_law (refine MX rfl (.tmp 73) (.tmp 76) 49 49 rfl (FV (G7 ⟨g,(A.length+1)*9,G6⟩) (n-A.length) (cap-(A.length+1))) (FV (G7 ⟨g,A.length*9,G6⟩) (n+1-A.length) (cap-A.length)) (by simp[Act.eval,Act.put]) (by simp[Act.eval,Act.put]) (hcp1 _ _ _) ?_)
 go_wp2_with (at_builtin;refine LG _ rfl _ _ 49 49 rfl _ _ rfl rfl (hcp2 _ _) ?_);go_ret;exact⟨rfl,FIN.out⟩
theorem CL9(k:Nat):(BI (Value.agg #[.string ⟨#[]⟩,.string ⟨#[]⟩,I0 0,I0 0,I0 0,I0 0,I0 0,I0 0,I0 0]).cells k).size=k*9:=by
 simp[BI,Value.cells]
theorem xE(g cap:Nat)(A R:List Nd)(y x:Nd)(n b:Nat)(w:FX)(ho:JB w g cap (A++y::R))(hn:n=A.length+R.length+1)(hsm:n<=400)(hroom:cap<n+1)(h1:JM w b x):
  G5 prog 226 #[FV (G7 ⟨g,0,G6⟩) n cap,I0 A.length,FV (G7 ⟨b,0,G6⟩) 1 1] w fun e w'=>
   ∃cap',e=.returned (FV (G7 ⟨w.heap.size,0,G6⟩) (n+1) cap')/\JB w' w.heap.size cap' (A++x::y::R)/\B0 w w':=by
 have hcap:cap=n:=by have:=ho.le;simp at this;omega
 obtain⟨i0,hi0,hz0,hz1,hz2⟩:=AN9;have hrow:=ho.row;have hgw:=ho.lt;have hbw:b<w.heap.size:=by unfold JM at h1;exact(Array.getElem?_eq_some_iff.1 h1).1
 have hold:(Builtin.firstCells i0.size A.length (FV (G7 ⟨g,0,G6⟩) A.length cap)).run prog w.drew=.ok (GK A).toArray w.drew:=by
  rw[hz1];exact run_firstCells_some w.drew 9 A.length ⟨g,0,G6⟩ A.length cap (GK A) (JD A) (fun j v hj=>by
   rw[BM];exact hrow j v (by rw[I8,BN (List.getElem?_eq_some_iff.1 hj).1];exact hj))
 obtain⟨G,hG⟩:∃G,G=grownCap w (n+1) cap 104:=⟨_,rfl⟩;have hGn:n+1<=G:=by rw[hG];exact grownCap_ge w _ _ _
 have hGm:G<=maxLen:=by rw[hG];exact grownCap_le_maxLen w (n+1) cap _ (by unfold maxLen;omega)
 have hG63:G<=9223372036854775807:=by have:=hGm;unfold maxLen at this;omega
 obtain⟨ROW,hROW⟩:∃ROW:Array FZ,ROW=(GK A).toArray++BI (Value.agg #[.string ⟨#[]⟩,.string ⟨#[]⟩,I0 0,I0 0,I0 0,I0 0,I0 0,I0 0,I0 0]).cells (n+1-A.length)++BI (Value.agg #[.string ⟨#[]⟩,.string ⟨#[]⟩,I0 0,I0 0,I0 0,I0 0,I0 0,I0 0,I0 0]).cells (G-(n+1)):=⟨_,rfl⟩;obtain⟨W1,hW1⟩:∃W1,W1=w.drew.alloc (.cells ROW 104):=⟨_,rfl⟩;have hik:A.length+(n+1-A.length)=n+1:=by omega
 have hrz:∀ty,(Builtin.append_ #[49,3] ty #[FV (G7 ⟨g,0,G6⟩) A.length cap,I0 ((n:Int)+1-(A.length:Int))]).run prog w=
   .ok (FV (G7 ⟨w.heap.size,0,G6⟩) (n+1) G) W1:=fun ty=>by
  have h:=Lib.run_append_grow_zeros w 49 3 ty 104 i0 _ .i64 .i64 underlying49 underlying3 hi0 hz0 (G7 ⟨g,0,G6⟩) A.length cap (GK A) hold (n+1-A.length) (by omega) (by omega) (by omega) (by omega) (by rw[hz2];omega) (by rw[hz2,hik];exact growslice_fits hroom (by omega));rw[hik,<-hG,<-hROW,<-hW1]at h;rw[show (n:Int)+1-(A.length:Int)=((n+1-A.length:Nat):Int) by omega];exact h
 have ho1:JB W1 w.heap.size G A:=by
  refine⟨(BI (Value.agg #[.string ⟨#[]⟩,.string ⟨#[]⟩,I0 0,I0 0,I0 0,I0 0,I0 0,I0 0,I0 0]).cells (n+1-A.length)++BI (Value.agg #[.string ⟨#[]⟩,.string ⟨#[]⟩,I0 0,I0 0,I0 0,I0 0,I0 0,I0 0,I0 0]).cells (G-(n+1))).toList,?_,?_,by omega,hGm⟩
  .rw[hW1,hROW];have:=heap_alloc_new w.drew (.cells ((GK A).toArray++BI (Value.agg #[.string ⟨#[]⟩,.string ⟨#[]⟩,I0 0,I0 0,I0 0,I0 0,I0 0,I0 0,I0 0]).cells (n+1-A.length)++BI (Value.agg #[.string ⟨#[]⟩,.string ⟨#[]⟩,I0 0,I0 0,I0 0,I0 0,I0 0,I0 0,I0 0]).cells (G-(n+1))) 104);refine Eq.trans this ?_
   congr 2
   apply Array.toList_inj.1
   simp
  .simp only[show Lay.k Nd=9 from rfl,Array.length_toList,Array.size_append,CL9];omega
 have hB1:B0 w W1:=by rw[hW1];exact((Below.refl _ w).drew).alloc (A8 _) _
 obtain⟨W2,hW2⟩:∃W2,W2=W1.setCells w.heap.size (A.length*9) (MI x):=⟨_,rfl⟩;have ho2:JB W2 w.heap.size G (A++[x]):=by
  have h:JB W1 w.heap.size G (A++[]):=by rw[DV];exact ho1
  have:=h.rY [x] (by simp;omega);rw[hW2];rw[JV,TL,DV]at this;exact this
 have hg2:W1.grownBy W2 (G7 w.heap.size):=by rw[hW2];exact I9 _ _ _
 have hB2:B0 w W2:=hB1.grown hg2 hB1.size (fun k e=>by cases e;exact A8 _);have hcpA:∀ty dc,(EC #[49,49] ty #[FV (G7 ⟨w.heap.size,A.length*9,G6⟩) (n+1-A.length) dc,FV (G7 ⟨b,0,G6⟩) 1 1]).run prog W1=.ok (goInt (Nat.min 1 (n+1-A.length))) W2:=fun ty dc=>by
  rw[hW2];exact AC8 W1 ty w.heap.size _ _ dc ⟨b,0,G6⟩ 1 1 (MI x) (by simp only[Nat.min_def,MI,BH,EZ];split<;>omega)
   (fun j v hj=>by rw[BM];exact(show JM W1 b x from(hB1.block b hbw).trans h1).row j v hj)
   (fun j hj=>ho1.AN7 (by simp[MI]at hj;omega)) (fun j _=>ho1.frozen _) ((Lay.one x))
 obtain⟨W3,hW3⟩:∃W3,W3=W2.drew.setCells w.heap.size ((A.length+1)*9) (GK (y::R)):=⟨_,rfl⟩;have hcpB:∀ty dc sc,(EC #[49,49] ty #[FV (G7 ⟨w.heap.size,(A.length+1)*9,G6⟩) (n-A.length) dc,FV (G7 ⟨g,A.length*9,G6⟩) (n-A.length) sc]).run prog W2.drew=.ok (goInt (Nat.min (n-A.length) (n-A.length))) W3:=fun ty dc sc=>by
  rw[hW3];exact AC8 W2.drew ty w.heap.size _ _ dc ⟨g,A.length*9,G6⟩ _ sc (GK (y::R)) (by rw[JD];simp only[Nat.min_self,BH];omega)
   (fun j v hj=>by
    rw[BM];have:=hrow (A.length*9+j) v (by rw[I8,BD (by rw[JD];omega),JD,FH];exact hj);rw[BJ]at this;exact(hB2.cell (p:=⟨g,A.length*9+j,G6⟩) hgw).trans this)
   (fun j hj=>by rw[JD]at hj;exact ho2.drew.AN7 (by simp at hj;omega)) (fun j _=>ho2.drew.frozen _) (JR _)
 have FIN:Hid (JB W3 w.heap.size G (A++x::y::R)/\B0 w W3):=by
  refine⟨?_,?_⟩
  .have h:JB W2.drew w.heap.size G ((A++[x])++[]):=by rw[DV];exact ho2
   have:=h.rY (y::R) (by simp;omega);rw[hW3];simpa using this
  .rw[hW3];exact hB2.drew.grown (I9 _ _ _) hB2.size (fun k e=>by cases e;exact A8 _)
 have hin:A.length<n:=by omega
 have C59:(A.length:Int)<(n:Int):=by omega
 have hw1:IntKind.i64.wrap ((A.length:Int)+1)=(A.length:Int)+1:=by rw[IntKind.wrap_i64];omega
 have hb1:(0:Int)<=(A.length:Int)+1:=by omega
 have hb2:¬ (G=A.length+1):=by omega
 have hb3:(A.length:Int)<=(n:Int)+1:=by omega
 have hb4:¬ (n=A.length):=by omega
 have hb5:(A.length:Int)+1<=(n:Int)+1:=by omega
 have hb6:¬ (G=A.length):=by omega
 have hb7:(A.length:Int)<=(n:Int):=by omega
 have hz3:¬ ((A.length:Int)=(n:Int)):=by omega
 have htn:((A.length:Int)+1).toNat=A.length+1:=by omega
 subst hcap;clear hn hROW hW1 hW2 hW3 hG hrow ho h1 ho1 ho2 hB1 hB2 hg2 hold hik;go_enter func226,ntmps226;go_wp2_with (first
  |(at_builtin;refine Lib.wpList_append_run _ rfl _ _ _ _ rfl _ _ rfl rfl _ _ (hrz _) ?_)
  |(at_builtin;refine LG _ rfl _ _ 49 49 rfl _ _ rfl rfl (hcpA _ _) ?_))
 go_region_law (refine MX rfl (.tmp 50) (.tmp 53) 49 49 rfl (FV (G7 ⟨w.heap.size,(A.length+1)*9,G6⟩) (cap-A.length) (G-(A.length+1))) (FV (G7 ⟨g,A.length*9,G6⟩) (cap-A.length) (cap-A.length)) (by simp[Act.eval,Act.put]) (by simp[Act.eval,Act.put]) (hcpB _ _ _) ?_)
 go_wp2
 go_ret;exact⟨G,rfl,FIN.out⟩
theorem A35(v:FZ)(A R:List Nd)(x:Nd)(q:Nat)(w:FX)(ho:H6 w 0 v (A++R))(hl:(A++R).length<=400)(h1:JM w q x)(hq:v.ownBlock≠G7 q):
  G5 prog 226 #[v,I0 A.length,FV (G7 ⟨q,0,G6⟩) 1 1] w fun e w'=>
   ∃v',e=.returned v'/\H6 w' 0 v' (A++x::R)/\w.grownBy w' v.ownBlock/\(v'.ownBlock=v.ownBlock\/∃k,w.heap.size<=k/\v'.ownBlock=G7 k):=by
 cases R with
 |nil=>
  rw[DV]at ho hl;refine(A34 v A x 0 q w ho (AZ _) hl h1).mono ?_;rintro e w' ⟨v',rfl,h2,h3,h4⟩;refine⟨v',rfl,h2,h3,?_⟩;rcases h4 with h|h
  .exact .inl h
  .exact .inr ⟨_,A8 _,h⟩
 |cons y R=>
  rcases ho with⟨_,h⟩|⟨g,cap,rfl,_,ho⟩
  .simp at h
  .have hn:(A++y::R).length=A.length+R.length+1:=by simp;omega
   by_cases hc:(A++y::R).length+1<=cap
   .refine(sD g cap A R y x _ q w ho hn hl hc h1 (fun e=>hq (by rw[e];rfl))).mono ?_;rintro e w' ⟨rfl,h2,h3⟩;exact⟨_,rfl,.inr ⟨g,cap,by simp;omega,AZ _,h2⟩,h3,.inl rfl⟩
   .refine(xE g cap A R y x _ q w ho hn hl (by omega) h1).mono ?_;rintro e w' ⟨cap',rfl,h2,h3⟩;exact⟨_,rfl,.inr ⟨w.heap.size,cap',by simp;omega,AZ _,h2⟩,⟨h3.os,h3.tape,h3.output,h3.size,fun k hk _=>h3.block k hk⟩,.inr ⟨_,A8 _,rfl⟩⟩
