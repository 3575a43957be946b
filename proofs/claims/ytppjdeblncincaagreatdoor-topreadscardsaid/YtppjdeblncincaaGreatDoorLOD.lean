/-
  Part.
-/
import Derived.Test.YtppjdeblncincaaGreatDoorLOC
import Derived.Lib.JoinLaws
import Derived.Deep.RegionHeld3
import Derived.Lib.AppendZerosOnto
import Derived.Lib.Overlaps
set_option maxRecDepth 20000
set_option maxHeartbeats 8000000
namespace Go.Proofs.YtppjdeblncincaaGreatDoor
open Go.RowKit Go.Proofs.Tryz
open _root_.Nat renaming le_refl->A8,zero_le->AZ,zero_add->BJ,add_sub_cancel_left->FD
open _root_.List renaming getElem?_eq_getElem->AO,length_append->AP,getElem?_append_right->BD,length_cons->BH,getElem?_append_left->BM,mem_cons->BQ,eq_nil_of_length_eq_zero->BZ,mem_append->C9,pairwise_append->DL,append_nil->DU,mem_filter->EJ,length_nil->EW,mem_map->EZ
open Go.Builtin renaming zeroCells->BI,copy_->DY
open Go.Addr renaming add_lit->BK
open Go.Lib renaming compareBytes->ES
open Go.Value renaming slice->FU
open Go renaming World->FW,Value->FX,Calls->FZ
open _root_.Option renaming none->G5,some->G6
variable{z s:Int}{ns A B xs:List Nd}{ss:List Int}{n u x:Nd}{p:List UInt8}{ps:List (List UInt8)}{t:Tr}{w W:FW}{b off i g cap:Nat}
theorem PL.mono{z':Int}(g:PL z ns ss)(h:z<=z'):PL z' ns ss:=
 ⟨g.few,g.root,g.asc,fun n hn=>by
  have k:=g.ok n hn;have:=k.mz;have:=k.qz;exact⟨k.data,k.path,k.up,k.c0,k.cm,k.cq,by omega,by omega,k.v0,k.v1,k.k0,k.kids,k.own⟩⟩
theorem PL.more{ss':List Int}(g:PL z ns ss)(h:∀n∈ns,n.o≠0->n.o∈ss->n.o∈ss'):PL z ns ss':=
 ⟨g.few,g.root,g.asc,fun n hn=>by
  have k:=g.ok n hn;refine⟨k.data,k.path,k.up,k.c0,k.cm,k.cq,k.mz,k.qz,k.v0,k.v1,k.k0,k.kids,?_⟩;rcases k.own with h'|⟨h1,h2⟩
  .exact .inl h'
  .by_cases h0:n.o=0
   .exact .inl h0
   .exact .inr ⟨h n hn h0 h1,h2⟩⟩
theorem AV1(g:PL z ns ss)(hn:n∈ns)(hp:n.p≠[47]):∃u,LU ns (IK n.p)=G6 u/\u∈ns/\u.p=IK n.p/\u.p≠n.p/\u.o=0:=by
 obtain⟨u,hu,he⟩:=(g.ok n hn).up hp;have hne:u.p≠n.p:=by rw[he];exact(qF (g.ok n hn).path hp).1
 refine⟨u,by rw[<-he];exact aP g.asc hu,hu,he,hne,?_⟩;rcases(g.ok u hu).own with h|⟨_,h⟩
 .exact h
 .exfalso;have h1:=(g.ok u hu).kids;have h2:0<NW ns u.p:=List.countP_pos_iff.2 ⟨n,hn,by simp[he]⟩;omega
theorem CG8(g:PL z ns ss)(hn:n∈ns)(h:n.o≠0):n.p≠[47]:=by
 intro e;obtain⟨r,rest,hr,hp,ho⟩:=g.root;have:n=r:=UH g.asc hn (by rw[hr];simp) (by rw[e,hp]);exact h (by rw[this];exact ho)
theorem BG5(g:PL z ns ss)(f:Nd->Nd)(hf:∀n,(f n).p=n.p)(hk:∀n∈ns,NOk z ns ss n->NOk z ns ss (f n)/\(n.p=[47]->(f n).o=n.o)):PL z (ns.map f) ss:=by
 have hp:(ns.map f).map Nd.p=ns.map Nd.p:=by rw[List.map_map];exact List.map_congr_left fun n _=>hf n
 have hkd:∀p,NW (ns.map f) p=NW ns p:=fun p=>by rw[PW,hp,<-PW]
 refine⟨by simpa using g.few,?_,by rw[OL,hp,<-OL];exact g.asc,?_⟩
 .obtain⟨r,rest,h,h1,h2⟩:=g.root;exact⟨f r,rest.map f,by rw[h];rfl,by rw[hf,h1],by rw[(hk r (by rw[h];simp) (g.ok r (by rw[h];simp))).2 h1,h2]⟩
 .intro n hn;obtain⟨m,hm,rfl⟩:=EZ.1 hn;have k:=(hk m hm (g.ok m hm)).1;refine⟨k.data,k.path,fun h=>?_,k.c0,k.cm,k.cq,k.mz,k.qz,k.v0,k.v1,k.k0,by rw[hkd];exact k.kids,k.own⟩;obtain⟨u,hu,he⟩:=k.up h;exact⟨f u,EZ.2 ⟨u,hu,rfl⟩,by rw[hf];exact he⟩
def rmN(z:Int)(ns:List Nd)(p:List UInt8):List Nd:=O9 (IK p) z (-1) (zN ns p)
theorem AV2(g:PL z ns ss)(T:KJ ns A n B p)(hk:n.n=0)(hp:p≠[47]):PL z (rmN z ns p) ss:=by
 have hn:n∈ns:=by rw[T.eq];simp
 have hnp:=T.nm;have hdrop:=T.drop;have jH:(rmN z ns p).map Nd.p=(A++B).map Nd.p:=by rw[rmN,WW,hdrop]
 have hsub:(A++B).Sublist ns:=by rw[T.eq];exact(List.Sublist.refl A).append (List.sublist_cons_self n B)
 have CS0:∀x,NW (rmN z ns p) x+(if IK p=x then 1 else 0)=NW ns x:=by
  intro x;rw[PW,jH,<-PW,T.eq];simp only[NW,List.countP_append,List.countP_cons,decide_eq_true_eq,hnp];omega
 have hno:∀m∈ns,IK m.p≠p:=by
  intro m hm e;have h1:=(g.ok n hn).kids;have h2:0<NW ns n.p:=List.countP_pos_iff.2 ⟨m,hm,by simp[e,hnp]⟩;omega
 have hmem:∀m∈ns,m.p≠p->m∈A++B:=by
  intro m hm h;rw[<-hdrop,zN];exact EJ.2 ⟨hm,by simpa using h⟩
 refine⟨?_,?_,?_,?_⟩
 .have h1:=g.few;have h2:(rmN z ns p).length=(A++B).length:=by have:=congrArg List.length jH;simpa using this
  rw[T.eq]at h1;simp at h1 h2⊢;omega
 .obtain⟨r,rest,h,h1,h2⟩:=g.root
  cases A with
  |nil=>
   have:=T.eq;rw[h]at this
   cases this
   exact absurd (hnp.symm.trans h1) hp
  |cons a A'=>
   have:=T.eq;rw[h]at this
   cases this
   rw[rmN,hdrop,O9];refine⟨_,_,List.map_cons,by rw[YW];exact h1,?_⟩
   split
   .exact h2
   .exact h2
 .rw[OL,jH,<-OL];exact g.asc.sublist hsub
 .intro m' hm';rw[rmN,hdrop,O9]at hm';obtain⟨m,hm,rfl⟩:=EZ.1 hm';have hms:=hsub.mem hm;have k:=g.ok m hms;have hup:m.p≠[47]->∃u∈rmN z ns p,u.p=IK m.p:=by
   intro h;obtain⟨u,hu,he⟩:=k.up h;have h1:=hmem u hu (by rw[he];exact hno m hms);exact⟨_,by rw[rmN,hdrop,O9];exact EZ.2 ⟨u,h1,rfl⟩,by rw[YW];exact he⟩
  have hkm:=CS0 m.p;have:=k.kids;have:=k.c0;have:=k.cq;have:=k.qz;have:=k.k0
  split
  .rename_i e
   rw[if_pos e.symm]at hkm;refine⟨k.data,k.path,hup,k.c0,k.cm,?_,k.mz,?_,k.v0,k.v1,?_,?_,?_⟩
   .show m.c<=z;omega
   .exact Int.le_refl _
   .show 0<=m.k+1;omega
   .show m.n+ -1=_;show _=((NW (rmN z ns p) m.p:Nat):Int);omega
   .rcases k.own with h|⟨h1,h2⟩
    .exact .inl h
    .omega
  .rename_i e
   rw[if_neg (fun h=>e h.symm)]at hkm;exact⟨k.data,k.path,hup,k.c0,k.cm,k.cq,k.mz,k.qz,k.v0,k.v1,k.k0,by omega,k.own⟩
def uN(z:Int)(ns:List Nd)(x:Nd):List Nd:=O9 (IK x.p) z 1 (CR9 ns x)
theorem A79{z:Int}{ns A B:List Nd}{ss:List Int}{x:Nd}(g:PL z ns ss)(G:nM ns A B x.p)(hl:ns.length<400)(hg:J6 x.p=true)(hp:x.p≠[47])(hu:∃u∈ns,u.p=IK x.p/\u.o=0)
  (hd:x.d.length<=256) (hz:0<=z) (hc:x.c=z) (hm:x.m=z) (hq:x.q=z) (hv:x.v=0) (hk:x.k=0) (hn:x.n=0) (ho:x.o=0\/x.o∈ss):PL z (uN z ns x) ss:=by
 have hins:=G.ins;have jH:(uN z ns x).map Nd.p=(A++x::B).map Nd.p:=by rw[uN,WW,hins]
 have hmem:∀m∈ns,m∈A++x::B:=by
  intro m h;rw[G.eq]at h;rcases C9.1 h with h|h<;>simp[h]
 have CS0:∀y,NW (uN z ns x) y=NW ns y+(if IK x.p=y then 1 else 0):=by
  intro y;rw[PW,jH,<-PW,G.eq];simp only[NW,List.countP_append,List.countP_cons,decide_eq_true_eq];omega
 have hno:NW ns x.p=0:=by
  apply List.countP_eq_zero.2
  intro m hm;simp only[decide_eq_true_eq];intro e;have k:=g.ok m hm;by_cases h:m.p=[47]
  .rw[h,UF]at e;rw[<-e,AU7]at hg
   cases hg
  .obtain⟨u,hu,he⟩:=k.up h;exact G.no u hu (he.trans e)
 obtain⟨r,rest,hr,hr1,hr2⟩:=g.root;refine⟨?_,?_,?_,?_⟩
 .have h2:(uN z ns x).length=(A++x::B).length:=by have:=congrArg List.length jH;simpa using this
  rw[G.eq]at hl;simp at hl h2⊢;omega
 .cases A with
  |nil=>
   exfalso;have hB:=G.eq;simp at hB;have h1:=G.hi r (by rw[<-hB,hr];simp);rw[hr1]at h1;obtain⟨s,hs⟩:=jF hg;rw[hs]at h1 hp
   cases s with
   |nil=>exact hp rfl
   |cons c s=>simp[bl,Op.bytesLess]at h1
  |cons a A'=>
   have:=G.eq;rw[hr]at this
   cases this
   rw[uN,hins,O9];refine⟨_,_,List.map_cons,by rw[YW];exact hr1,?_⟩
   split
   .exact hr2
   .exact hr2
 .rw[OL,jH,<-OL];have h:=g.asc;rw[G.eq]at h;unfold tK at h⊢;rw[DL]at h;rw[DL,List.pairwise_cons];refine⟨h.1,⟨G.hi,h.2.1⟩,fun a ha b hb=>?_⟩;rcases BQ.1 hb with rfl|hb
  .exact G.lo a ha
  .exact h.2.2 a ha b hb
 .have hin:∀m∈A++x::B,(if m.p=IK x.p then bump z 1 m else m)∈uN z ns x:=fun m h=>by rw[uN,hins,O9];exact EZ.2 ⟨m,h,rfl⟩
  intro m' hm';rw[uN,hins,O9]at hm';obtain⟨m,hm2,rfl⟩:=EZ.1 hm';have hcase:m=x\/m∈ns:=by
   rcases C9.1 hm2 with h|h
   .exact .inr (by rw[G.eq];simp[h])
   .rcases BQ.1 h with h|h
    .exact .inl h
    .exact .inr (by rw[G.eq];simp[h])
  rcases hcase with rfl|hms
  .rw[if_neg (fun h=>(qF hg hp).1 h.symm)];obtain⟨u,hu1,hu2,_⟩:=hu;have hkm:=CS0 m.p;rw[if_neg (qF hg hp).1,hno]at hkm;refine⟨hd,hg,fun _=>⟨_,hin u (hmem u hu1),by rw[YW];exact hu2⟩,by omega,by omega,by omega,by omega,by omega,by omega,by omega,by omega,by omega,?_⟩;rcases ho with h|h
   .exact .inl h
   .exact .inr ⟨h,hn⟩
  .have k:=g.ok m hms;have hup:m.p≠[47]->∃u∈uN z ns x,u.p=IK m.p:=fun h=>by
    obtain⟨u,hu,he⟩:=k.up h;exact⟨_,hin u (hmem u hu),by rw[YW];exact he⟩
   have hkm:=CS0 m.p;have:=k.kids;have:=k.cq;have:=k.qz;have:=k.k0
   split
   .rename_i e
    rw[if_pos e.symm]at hkm;refine⟨k.data,k.path,hup,k.c0,k.cm,?_,k.mz,Int.le_refl _,k.v0,k.v1,?_,?_,?_⟩
    .show m.c<=z;omega
    .show 0<=m.k+1;omega
    .show m.n+1=((NW (uN z ns x) m.p:Nat):Int);omega
    .obtain⟨u,hu1,hu2,hu3⟩:=hu;have:m=u:=UH g.asc hms hu1 (by rw[e,hu2]);exact .inl (by rw[this];exact hu3)
   .rename_i e
    rw[if_neg (fun h=>e h.symm)]at hkm;exact⟨k.data,k.path,hup,k.c0,k.cm,k.cq,k.mz,k.qz,k.v0,k.v1,k.k0,by omega,k.own⟩
theorem BG6(g:PL z ns ss)(p d:List UInt8)(v:Int)(hd:d.length<=256)(hv:0<=v/\v<=2147483647)(hz:∀n∈ns,n.c<=z):PL z (AU9 p d v z ns) ss:=by
 refine BG5 g _ (fun n=>by split<;>rfl) (fun n hn k=>?_)
 split
 .exact⟨⟨hd,k.path,k.up,k.c0,hz n hn,k.cq,Int.le_refl _,k.qz,hv.1,hv.2,k.k0,k.kids,k.own⟩,fun _=>rfl⟩
 .exact⟨k,fun _=>rfl⟩
def OM(ns:List Nd)(s:Int):List (List UInt8):=(ns.filter fun n=>decide (n.o=s)).map Nd.p
def QX(z:Int)(ns:List Nd)(ps:List (List UInt8)):List Nd:=ps.foldl (rmN z) ns
def AV3(ps:List (List UInt8)):List Ev:=ps.flatMap fun p=>[⟨2,p⟩,⟨4,IK p⟩]
def YR(ns:List Nd):Bool:=ns.any fun n=>decide (2147483647<n.k)
def A80(x:GN):Nd:=⟨x.p,x.d,x.z,x.z,x.z,0,0,x.w,0⟩
noncomputable def WJ(t:Tr)(x:GN):Int:=
 if UG t=false then 3 else if gdE x≠0 then gdE x else if x.z<=t.z then 13 else if x.o=1/\x.s∈t.ss then 8 else if x.o≠1/\x.s∉t.ss then 12 else 0
def AH2(t:Tr)(x:GN):Int:=if(LU t.ns x.p).isSome=true then 8 else(match LU t.ns (IK x.p)with
 |none=>7
 |some u=>if u.o≠0 then 11 else if x.w≠0/\x.w≠x.s then 12 else if t.ns.length=400 then 6 else 0)
def BG7(t:Tr)(x:GN):Int:=match LU t.ns x.p with
 |none=>7
 |some n=>if n.n≠0 then 10 else 0
def CF2(t:Tr)(x:GN):Int:=match LU t.ns x.p with
 |none=>7
 |some n=>if x.v≠n.v+1 then 9 else 0
def lZ(t:Tr)(x:GN):Int:=if x.o=3 then AH2 t x else if x.o=4 then BG7 t x else if x.o=5 then CF2 t x else 0
def gJ(t:Tr)(x:GN):List Nd:=if x.o=2 then QX x.z t.ns (OM t.ns x.s)else if x.o=3 then uN x.z t.ns (A80 x)else if x.o=4 then rmN x.z t.ns x.p else if x.o=5 then AU9 x.p x.d x.v x.z t.ns else t.ns
def qH(t:Tr)(x:GN):List Int:=if x.o=1 then C17 t.ss x.s else if x.o=2 then AH1 t.ss x.s else t.ss
def qI(t:Tr)(x:GN):List Ev:=if x.o=2 then AV3 (OM t.ns x.s)else if x.o=3 then [⟨1,x.p⟩,⟨4,IK x.p⟩]else if x.o=4 then [⟨2,x.p⟩,⟨4,IK x.p⟩]else if x.o=5 then [⟨3,x.p⟩]else []
noncomputable def YS(t:Tr)(x:GN):Int:=if WJ t x≠0 then WJ t x else if lZ t x≠0 then lZ t x else if YR (gJ t x)=true then 6 else 0
noncomputable def jI(t:Tr)(x:GN):Tr:=if YS t x=0 then⟨x.z,gJ t x,qH t x⟩else tr0
noncomputable def YX(t:Tr)(x:GN):List Ev:=if YS t x=0 then qI t x else []
theorem OE:YR ns=false↔∀n∈ns,n.k<=2147483647:=by
 rw[YR,List.any_eq_false];constructor
 .intro h n hn;have:=h n hn;simp at this;omega
 .intro h n hn;have:=h n hn;simp;omega
theorem nP:YR ns=true↔∃n∈ns,2147483647<n.k:=by
 rw[YR,List.any_eq_true];constructor
 .rintro⟨n,hn,h⟩;exact⟨n,hn,by simpa using h⟩
 .rintro⟨n,hn,h⟩;exact⟨n,hn,by simpa using h⟩
structure CG9(s:Int)(cur:List Nd)(ps:List (List UInt8)):Prop where
 s0:s≠0
 nd:ps.Nodup
 there:∀p∈ps,∃n∈cur,n.p=p/\n.o=s
theorem BW8(h:n∈rmN z ns p):∃m∈ns,m.p≠p/\n=(if m.p=IK p then bump z (-1) m else m):=by
 rw[rmN,O9]at h;obtain⟨m,hm,rfl⟩:=EZ.1 h;rw[zN]at hm;obtain⟨h1,h2⟩:=EJ.1 hm;exact⟨m,h1,by simpa using h2,rfl⟩
theorem AV4{m:Nd}(h:m∈ns)(hp:m.p≠p):(if m.p=IK p then bump z (-1) m else m)∈rmN z ns p:=by
 rw[rmN,O9];exact EZ.2 ⟨m,by rw[zN];exact EJ.2 ⟨h,by simpa using hp⟩,rfl⟩
theorem AV5(q:List UInt8)(z more:Int)(n:Nd):(if n.p=q then bump z more n else n).o=n.o:=by split<;>rfl
theorem BW9(q:List UInt8)(z more:Int)(n:Nd):(if n.p=q then bump z more n else n).d=n.d:=by split<;>rfl
theorem BX0(q:List UInt8)(z more:Int)(n:Nd):(if n.p=q then bump z more n else n).v=n.v:=by split<;>rfl
theorem CH0(q:List UInt8)(z more:Int)(n:Nd):n.k<=(if n.p=q then bump z more n else n).k:=by
 split
 .show n.k<=n.k+1;omega
 .exact Int.le_refl _
theorem uO{cur:List Nd}(g:PL z cur ss)(R:CG9 s cur (p::ps)):
  ∃A n B u,KJ cur A n B p/\n.o=s/\n.n=0/\p≠[47]/\J6 p=true/\LU cur (IK p)=G6 u/\u∈cur/\u.p=IK p/\u.p≠p/\u.o=0/\u.p∉ps/\PL z (rmN z cur p) ss/\CG9 s (rmN z cur p) ps:=by
 obtain⟨n,hn,rfl,ho⟩:=R.there p (by simp);obtain⟨A,B,T⟩:=RN g.asc (aP g.asc hn);have h0:n.o≠0:=by rw[ho];exact R.s0
 have hk:n.n=0:=by
  rcases(g.ok n hn).own with h|⟨_,h⟩
  .exact absurd h h0
  .exact h
 have hr:=CG8 g hn h0;obtain⟨u,hu1,hu2,hu3,hu4,hu5⟩:=AV1 g hn hr;refine⟨A,n,B,u,T,ho,hk,hr,(g.ok n hn).path,hu1,hu2,hu3,hu4,hu5,?_,AV2 g T hk hr,R.s0,(List.nodup_cons.1 R.nd).2,?_⟩
 .intro hm;obtain⟨m,hm1,hm2,hm3⟩:=R.there u.p (by simp[hm]);have:m=u:=UH g.asc hm1 hu2 hm2;rw[this,hu5]at hm3;exact R.s0 hm3.symm
 .intro q hq;obtain⟨m,hm1,hm2,hm3⟩:=R.there q (by simp[hq]);have hne:m.p≠n.p:=by
   rw[hm2];rintro rfl;exact(List.nodup_cons.1 R.nd).1 hq
  exact⟨_,AV4 hm1 hne,by rw[YW];exact hm2,by rw[AV5];exact hm3⟩
theorem nR(g:PL z ns ss)(h:s≠0):CG9 s ns (OM ns s):=by
 refine⟨h,?_,fun p hp=>?_⟩
 .have h1:(ns.filter fun n=>decide (n.o=s)).Pairwise fun a b=>bl a.p b.p=true:=g.asc.filter _;rw[List.Nodup,OM,List.pairwise_map];exact h1.imp fun h=>WS h
 .obtain⟨n,hn,rfl⟩:=EZ.1 hp;obtain⟨h1,h2⟩:=EJ.1 hn;exact⟨n,h1,rfl,by simpa using h2⟩
theorem nS:∀ (ps:List (List UInt8)) (cur:List Nd),PL z cur ss->CG9 s cur ps->PL z (QX z cur ps) ss
 |[],_,g,_=>g
 |p::ps,cur,g,R=>by
  obtain⟨_,_,_,_,_,_,_,_,_,_,_,_,_,_,_,g',R'⟩:=uO g R;exact nS ps (rmN z cur p) g' R'
theorem uP:∀ (ps:List (List UInt8)) (cur:List Nd) (n:Nd),n∈QX z cur ps->∃m∈cur,m.p=n.p/\m.o=n.o/\m.d=n.d/\m.v=n.v/\m.p∉ps
 |[],cur,n,h=>⟨n,h,rfl,rfl,rfl,rfl,by simp⟩
 |p::ps,cur,n,h=>by
  obtain⟨m,h1,h2,h3,h4,h5,h6⟩:=uP ps (rmN z cur p) n h;obtain⟨m',h1',hne,rfl⟩:=BW8 h1;rw[YW]at h2 h6;rw[AV5]at h3;rw[BW9]at h4;rw[BX0]at h5;exact⟨m',h1',h2,h3,h4,h5,by simp[hne,h6]⟩
theorem uQ:∀ (ps:List (List UInt8)) (cur:List Nd) (m:Nd),m∈cur->m.p∉ps->∃n∈QX z cur ps,n.p=m.p/\n.o=m.o/\n.d=m.d/\n.v=m.v/\m.k<=n.k
 |[],_,m,h,_=>⟨m,h,rfl,rfl,rfl,rfl,Int.le_refl _⟩
 |p::ps,cur,m,h,hp=>by
  simp only[BQ,not_or]at hp;have h':=AV4 (z:=z) h hp.1;obtain⟨n,h1,h2,h3,h4,h5,h6⟩:=uQ ps (rmN z cur p) _ h' (by rw[YW];exact hp.2);exact⟨n,h1,by rw[h2,YW],by rw[h3,AV5],by rw[h4,BW9],by rw[h5,BX0],Int.le_trans (CH0 _ _ _ _) h6⟩
theorem AH3(ps:List (List UInt8))(cur:List Nd)(h:∃u∈cur,u.p∉ps/\2147483647<u.k):YR (QX z cur ps)=true:=by
 obtain⟨u,h1,h2,h3⟩:=h;obtain⟨n,hn,_,_,_,_,hk⟩:=uQ (z:=z) ps cur u h1 h2;exact nP.2 ⟨n,hn,by omega⟩
theorem BX1(ha:tK ns)(hu:u∈ns)(hp:u.p=IK p)(hk:u.k<2147483647)(h:∀n∈ns,n.k<=2147483647):∀n∈rmN z ns p,n.k<=2147483647:=by
 intro n hn;obtain⟨m,hm,_,rfl⟩:=BW8 hn
 split
 .rename_i e
  have:m=u:=UH ha hm hu (by rw[e,hp]);subst this;show m.k+1<=_;omega
 .exact h m hm
theorem AV6(hu:u∈ns)(hp:u.p=IK p)(hne:u.p≠p)(hk:u.k=2147483647)(ps:List (List UInt8))(hps:u.p∉ps):YR (QX z (rmN z ns p) ps)=true:=
 AH3 ps _ ⟨bump z (-1) u,by have:=AV4 (z:=z) hu hne;rwa[if_pos hp]at this,hps,by show 2147483647<u.k+1;omega⟩
theorem zO(z:Int)(ns:List Nd)(ps:List (List UInt8))(k:Nat):QX z ns ps=QX z (QX z ns (ps.take k)) (ps.drop k):=by
 rw[QX,QX,QX,<-List.foldl_append,List.take_append_drop]
theorem AH4(z:Int)(ns:List Nd){k:Nat}(h:ps[k]?=G6 p):QX z ns (ps.take (k+1))=rmN z (QX z ns (ps.take k)) p:=by
 rw[QX,List.take_add_one,h,List.foldl_append];rfl
theorem AV7{k:Nat}(h:ps[k]?=G6 p):AV3 (ps.take (k+1))=AV3 (ps.take k)++[⟨2,p⟩,⟨4,IK p⟩]:=by
 rw[AV3,List.take_add_one,h,List.flatMap_append];rfl
theorem A81(ps:List (List UInt8)):(AV3 ps).length=2*ps.length:=by
 induction ps with
 |nil=>rfl
 |cons p ps ih=>
  rw[AV3]at ih;simp only[AV3,List.flatMap_cons,AP,BH,EW,ih];omega
theorem WY(p:List UInt8):(IK p).length<=200:=by
 cases hgb:J6 p with
 |false=>rw[aO hgb];simp
 |true=>
  by_cases hr:p=[47]
  .rw[hr,UF];simp
  .obtain⟨a,c,he,hc⟩:=aJ hgb;have:=MO hgb;rw[he]at hgb hr this⊢;rw[aK hgb hr hc,CG6]
   split
   .simp
   .simp at this;omega
theorem nT{cur:List Nd}{q:List UInt8}(ha:tK cur)(T:KJ cur A n B p)(hu:u∈cur)(hq:u.p=q)(hne:u.p≠p):∃A' B',KJ (A++B) A' u B' q:=by
 have hm:u∈A++B:=by rw[<-T.drop,zN];exact EJ.2 ⟨hu,by simpa using hne⟩
 have hs:tK (A++B):=ha.sublist (by rw[T.eq];exact(List.Sublist.refl A).append (List.sublist_cons_self n B));rw[<-hq];exact RN hs (aP hs hm)
theorem QC{x:GN}(h:WJ t x=0):QW t/\gdE x=0/\t.z<x.z/\(x.o=1->x.s∉t.ss)/\(x.o≠1->x.s∈t.ss):=by
 unfold WJ at h
 split at h
 .omega
 .rename_i h1
  split at h
  .omega
  .rename_i h2
   split at h
   .omega
   .rename_i h3
    split at h
    .omega
    .rename_i h4
     split at h
     .omega
     .rename_i h5
      refine⟨SC.1 (by simpa using h1),by omega,by omega,fun e hm=>h4 ⟨e,hm⟩,fun e=>?_⟩;by_cases hm:x.s∈t.ss
      .exact hm
      .exact absurd ⟨e,hm⟩ h5
theorem qJ{x:GN}(h:YS t x=0):WJ t x=0/\lZ t x=0/\YR (gJ t x)=false:=by
 unfold YS at h
 split at h
 .rename_i h1;exact absurd h h1
 .rename_i h1
  split at h
  .rename_i h2;exact absurd h h2
  .rename_i h2
   split at h
   .omega
   .rename_i h3;exact⟨by omega,by omega,by simpa using h3⟩
theorem BG8{x:GN}(h:AH2 t x=0):LU t.ns x.p=G5/\(∃u,LU t.ns (IK x.p)=G6 u/\u.o=0)/\(x.w=0\/x.w=x.s)/\t.ns.length≠400:=by
 unfold AH2 at h
 split at h
 .omega
 .rename_i h1
  split at h
  .omega
  .rename_i u hu
   split at h
   .omega
   .rename_i h2
    split at h
    .omega
    .rename_i h3
     split at h
     .omega
     .rename_i h4
      refine⟨by simpa using h1,⟨u,hu,by omega⟩,?_,h4⟩;by_cases e:x.w=0
      .exact .inl e
      .by_cases e':x.w=x.s
       .exact .inr e'
       .exact absurd ⟨e,e'⟩ h3
theorem BG9{x:GN}(h:BG7 t x=0):∃n,LU t.ns x.p=G6 n/\n.n=0:=by
 unfold BG7 at h
 split at h
 .omega
 .rename_i n hn
  split at h
  .omega
  .exact⟨n,hn,by omega⟩
structure Fine(x:GN):Prop where
 op:1<=x.o/\x.o<=5
 z:0<=x.z/\KN x.z=true
 s:1<=x.s/\x.s<=2147483647
 v:0<=x.v/\x.v<=2147483647
 w:0<=x.w/\x.w<=2147483647
 d:x.d.length<=256
 path:x.o=3\/x.o=4->J6 x.p=true/\x.p≠[47]
 CU1:x.o=5->J6 x.p=true
 data:x.o≠3->x.o≠5->x.d=[]
theorem ZI{x:GN}(h:gdE x=0):Fine x:=by
 obtain⟨h1,h2,h3,h4⟩:=gX h;obtain⟨n1,n2,n3,n4⟩:=qB.1 h2;have o:=jC.1 h1;have z:=n1;simp only[KN,Bool.and_eq_true,decide_eq_true_eq]at z;refine⟨o,⟨z.1,n1⟩,VB.1 n2,VB.1 n3,VB.1 n4,h3,?_,?_,?_⟩
 .rintro(e|e)
  .simp[fmB,e]at h4;exact⟨h4.1.1,h4.1.2⟩
  .simp[fmB,e]at h4;exact⟨h4.1.1.1.1,h4.1.1.1.2⟩
 .intro e;simp[fmB,e]at h4;exact h4.1
 .intro e3 e5;by_cases e4:x.o=4
  .simp[fmB,e4]at h4;exact h4.1.1.2
  .simp[fmB,e3,e4,e5]at h4;exact h4.1.1.2
theorem aS{x:GN}(h:YS t x=0):QW (jI t x)/\(jI t x).z=x.z/\t.z<x.z:=by
 obtain⟨ha,hc,hf⟩:=qJ h;obtain⟨g,hg,hz,h1,h2⟩:=QC ha;have f:=ZI hg;have hs:=g.ses;have gn:PL x.z t.ns t.ss:=g.nod.mono (by omega);rw[jI,if_pos h];refine⟨⟨f.z.2,?_,?_,OE.1 hf⟩,rfl,hz⟩
 .show qG (qH t x);rw[qH]
  split
  .rename_i e;exact A78 hs f.s (h1 e)
  .split
   .exact AV0 _ hs
   .exact hs
 .show PL x.z (gJ t x) (qH t x);rw[gJ,qH];by_cases e1:x.o=1
  .rw[if_neg (by omega),if_neg (by omega),if_neg (by omega),if_neg (by omega),if_pos e1];exact gn.more (fun n _ _ h=>BG4 h)
  .rw[if_neg e1];have hm:=h2 e1;by_cases e2:x.o=2
   .rw[if_pos e2,if_pos e2];have R:=nR gn (s:=x.s) (by have:=f.s;omega);refine(nS _ _ gn R).more (fun n hn h0 hi=>?_);rw[AH1];refine EJ.2 ⟨hi,?_⟩;simp only[decide_eq_true_eq];intro e;obtain⟨m,hm1,hm2,hm3,_,_,hm4⟩:=uP _ _ n hn
    apply hm4
    rw[OM];exact EZ.2 ⟨m,EJ.2 ⟨hm1,by simp only[decide_eq_true_eq];rw[hm3,e]⟩,rfl⟩
   .rw[if_neg e2,if_neg e2];by_cases e3:x.o=3
    .rw[if_pos e3];rw[lZ,if_pos e3]at hc;obtain⟨c1,⟨u,c2,c3⟩,c4,c5⟩:=BG8 hc;obtain⟨A,B,G⟩:=zM g.nod.asc c1;obtain⟨p1,p2⟩:=f.path (.inl e3);have hu:=YD c2;refine A79 (x:=A80 x) gn G (by have:=g.nod.few;omega) p1 p2 ⟨u,hu.1,hu.2,c3⟩ f.d f.z.1 rfl rfl rfl rfl rfl rfl ?_;rcases c4 with c|c
     .exact .inl c
     .exact .inr (by show x.w∈t.ss;rw[c];exact hm)
    .rw[if_neg e3];by_cases e4:x.o=4
     .rw[if_pos e4];rw[lZ,if_neg e3,if_pos e4]at hc;obtain⟨n,c1,c2⟩:=BG9 hc;obtain⟨A,B,T⟩:=RN g.nod.asc c1;exact AV2 gn T c2 (f.path (.inr e4)).2
     .rw[if_neg e4];by_cases e5:x.o=5
      .rw[if_pos e5];exact BG6 gn x.p x.d x.v f.d f.v (fun n hn=>by have k:=g.nod.ok n hn;have:=k.cm;have:=k.mz;omega)
      .have:=f.op;omega
def MF(n:Nd):List FX:=[S0 n.p,S0 n.d,I0 n.c,I0 n.m,I0 n.q,I0 n.v,I0 n.k,I0 n.o,I0 n.n]
def C29(n:Nd):FX:=.agg #[I0 n.c,I0 n.m,I0 n.q,I0 n.v,I0 n.k,I0 n.o,I0 n.n]
def TI(n:Nd):FX:=.agg #[S0 n.p,S0 n.d,I0 n.c,I0 n.m,I0 n.q,I0 n.v,I0 n.k,I0 n.o,I0 n.n]
instance layN:Lay Nd:=⟨9,MF,62,fun _=>rfl,fun x u hu=>by simp[MF]at hu;rcases hu with rfl|rfl|rfl|rfl|rfl|rfl|rfl|rfl|rfl<;>rfl⟩
theorem IC.nd(h:IC w b off (GI xs))(hi:xs[i]?=G6 x)(c:Nat)(hc:c<9):∀v,(MF x)[c]?=G6 v->w.cell? ⟨b,off+i*9+c,G5⟩=G6 v:=fun v hv=>by
 rw[Nat.add_assoc];exact h (i*9+c) v ((GY xs i x hi c hc).trans hv)
theorem IC.n0(h:IC w b off (GI xs))(hi:xs[i]?=G6 x):w.cell? ⟨b,off+i*9,G5⟩=G6 (S0 x.p):=h.nd hi 0 (by omega) _ rfl
theorem IC.n1(h:IC w b off (GI xs))(hi:xs[i]?=G6 x):w.cell? ⟨b,off+i*9+1,G5⟩=G6 (S0 x.d):=h.nd hi 1 (by omega) _ rfl
theorem IC.n2(h:IC w b off (GI xs))(hi:xs[i]?=G6 x):w.cell? ⟨b,off+i*9+2,G5⟩=G6 (I0 x.c):=h.nd hi 2 (by omega) _ rfl
theorem IC.n3(h:IC w b off (GI xs))(hi:xs[i]?=G6 x):w.cell? ⟨b,off+i*9+3,G5⟩=G6 (I0 x.m):=h.nd hi 3 (by omega) _ rfl
theorem IC.n4(h:IC w b off (GI xs))(hi:xs[i]?=G6 x):w.cell? ⟨b,off+i*9+4,G5⟩=G6 (I0 x.q):=h.nd hi 4 (by omega) _ rfl
theorem IC.n5(h:IC w b off (GI xs))(hi:xs[i]?=G6 x):w.cell? ⟨b,off+i*9+5,G5⟩=G6 (I0 x.v):=h.nd hi 5 (by omega) _ rfl
theorem IC.n6(h:IC w b off (GI xs))(hi:xs[i]?=G6 x):w.cell? ⟨b,off+i*9+6,G5⟩=G6 (I0 x.k):=h.nd hi 6 (by omega) _ rfl
theorem IC.n7(h:IC w b off (GI xs))(hi:xs[i]?=G6 x):w.cell? ⟨b,off+i*9+7,G5⟩=G6 (I0 x.o):=h.nd hi 7 (by omega) _ rfl
theorem IC.n8(h:IC w b off (GI xs))(hi:xs[i]?=G6 x):w.cell? ⟨b,off+i*9+8,G5⟩=G6 (I0 x.n):=h.nd hi 8 (by omega) _ rfl
theorem NH(p:List UInt8)(w:FW):
  FZ prog 193 #[S0 p] w fun e w'=>
   e=.returned (.tuple #[S0 (IK p),S0 (NU p),I0 (AR6 p)])/\B0 w w':=by
 cases hg:J6 p with
 |false=>
  rw[aO hg,AH0 hg,A76 hg];exact AW7 p w hg
 |true=>
  by_cases hr:p=[47]
  .subst hr;rw[UF,zK,uK];exact AI2 w
  .obtain⟨a,b,rfl,hb⟩:=aJ hg;rw[aK hg hr hb,AG9 hg hr hb,AU8 hg hr];exact AI1 a b w hb hg hr
theorem A97(n:Nd)(p:List UInt8)(w:FW):
  FZ prog 46 #[TI n,S0 p] w (R0 w (I0 (ES n.p p))):=by
 unfold TI;go_enter func46,ntmps46;go_wp2_with fail;refine(strings_Compare _ _ _).mono ?_;rintro e w1 ⟨rfl,rfl⟩;go_wp2_with fail;go_ret;exact⟨rfl,G9 _ _⟩
def qV(R:List Nd)(p:List UInt8):Bool:=match R with
 |[]=>false
 |f::_=>decide (f.p=p)
theorem AK0(A R:List Nd)(p:List UInt8)(lo:∀a∈A,bl a.p p=true)(hi:∀a∈R,bl a.p p=false)(i:Nat)(h:i<A.length+R.length):∃y,(A++R)[i]?=G6 y/\bl y.p p=decide (i<A.length):=by
 by_cases h1:i<A.length
 .refine⟨A[i],by rw[BM h1,AO h1],?_⟩;rw[lo _ (List.getElem_mem h1)];simp[h1]
 .have h2:i-A.length<R.length:=by omega
  refine⟨R[i-A.length],by rw[BD (by omega),AO h2],?_⟩;rw[hi _ (List.getElem_mem h2)];simp[h1]
theorem BJ4(b off cap:Nat)(A R:List Nd)(p:List UInt8)(w:FW)(hcap:A.length+R.length<=100000)(hb:b<w.heap.size)(h:IC w b off (GI (A++R)))
  (lo:∀a∈A,bl a.p p=true) (hi:∀a∈R,bl a.p p=false):
  FZ prog 45 #[FU (G6 ⟨b,off,G5⟩) (A.length+R.length) cap,S0 p,.func (.func 46) #[] #[]] w fun e w'=>
   e=.returned (.tuple #[I0 A.length,.bool (qV R p)])/\B0 w w':=by
 have H:=G8 h;have SG:=G8 (AK0 A R p lo hi);obtain⟨fin,hfin⟩:∃x,qV R p=x:=⟨_,rfl⟩;have HF:=G8 hfin;rw[hfin];clear h hfin lo hi;go_enter func45,ntmps45;go_wp2_with fail
 go_loopg [9,10] (A.length+R.length) (fun kx s9 s10 wr=>∃lo hi:Nat,s9=I0 lo/\s10=I0 hi/\lo<=A.length/\A.length<=hi/\hi<=A.length+R.length/\hi-lo<=kx/\Hid (B0 w wr))
 case atStart=>exact⟨0,A.length+R.length,rfl,rfl,AZ _,by omega,A8 _,by omega,G8 (Below.refl _ _)⟩
 case round=>
  obtain⟨lo,hi,rfl,rfl,h1,h2,h3,hg,hB⟩:=hrel;by_cases hlt:lo<hi
  .obtain⟨y,hy,hyn⟩:=G7 SG ((lo+hi)/2) (by omega);have HY:=G8 hyn;have r:=(G7 H).kept (G7 hB) hb;have e0:=r.n0 hy;have e1:=r.n1 hy;have e2:=r.n2 hy;have e3:=r.n3 hy;have e4:=r.n4 hy;have e5:=r.n5 hy;have e6:=r.n6 hy;have e7:=r.n7 hy;have e8:=r.n8 hy;clear hyn hy r;have hc:=A72 y.p p;rw[G7 HY]at hc;have CM:=fun W=>A97 y p W;generalize ES y.p p=cv at hc CM;by_cases hm:(lo+hi)/2<A.length
   .have hn:cv<0:=by simpa [hm]using hc
    clear hc;go_wp2_with fail;refine(CM _).mono ?_;rintro e w1 ⟨rfl,hb1⟩;have hB2:B0 w w1:=(G7 hB).trans (hb1.mono (G7 hB).size);clear CM;go_wp2_with fail
    go_roundg (hi-((lo+hi)/2+1))
    case measure=>omega
    case rel=>exact⟨(lo+hi)/2+1,hi,by rw[show ((lo:Int)+(hi:Int))/2+1=(((lo+hi)/2+1:Nat):Int) by omega],rfl,by omega,h2,h3,A8 _,G8 hB2⟩
   .have hn:¬cv<0:=by simpa [hm]using hc
    clear hc;go_wp2_with fail;refine(CM _).mono ?_;rintro e w1 ⟨rfl,hb1⟩;have hB2:B0 w w1:=(G7 hB).trans (hb1.mono (G7 hB).size);clear CM;go_wp2_with fail
    go_roundg ((lo+hi)/2-lo)
    case measure=>omega
    case rel=>exact⟨lo,(lo+hi)/2,rfl,by rw[show ((lo:Int)+(hi:Int))/2=(((lo+hi)/2:Nat):Int) by omega],h1,by omega,by omega,A8 _,G8 hB2⟩
  .obtain rfl:lo=A.length:=by omega
   obtain rfl:hi=A.length:=by omega
   cases R with
   |nil=>
    go_wp2_with fail
    go_ret2
    exact⟨by rw[<-G7 HF];rfl,G7 hB⟩
   |cons f R=>
    have r:=(G7 H).kept (G7 hB) hb;have hy:(A++f::R)[A.length]?=G6 f:=by simp
    have e0:=r.n0 hy;have e1:=r.n1 hy;have e2:=r.n2 hy;have e3:=r.n3 hy;have e4:=r.n4 hy;have e5:=r.n5 hy;have e6:=r.n6 hy;have e7:=r.n7 hy;have e8:=r.n8 hy;clear hy r;have hc:=gY f.p p;have CM:=fun W=>A97 f p W;have hf:fin=decide (f.p=p):=(G7 HF).symm;rw[<-hc]at hf;clear hc HF;generalize ES f.p p=cv at hf CM;subst hf;simp only[BH];go_wp2_with fail;refine(CM _).mono ?_;rintro e w1 ⟨rfl,hb1⟩;have hB2:B0 w w1:=(G7 hB).trans (hb1.mono (G7 hB).size);clear CM;go_wp2_with fail
    go_ret2
    exact⟨by rfl,hB2⟩
theorem AZ5(a:Option Addr)(cap:Nat)(p:List UInt8)(w:FW):
  FZ prog 45 #[FU a 0 cap,S0 p,.func (.func 46) #[] #[]] w fun e w'=>
   e=.returned (.tuple #[I0 0,.bool false])/\B0 w w':=by
 go_enter func45,ntmps45;go_wp2_with fail
 go_loopg [9,10] 1 (fun _ s9 s10 wr=>s9=I0 0/\s10=I0 0/\Hid (B0 w wr))
 case atStart=>exact⟨rfl,rfl,G8 (Below.refl _ _)⟩
 case round=>
  obtain⟨rfl,rfl,hB⟩:=hrel;go_wp2_with fail
  go_ret2
  exact⟨rfl,G7 hB⟩
theorem jZ(v:FX)(ns A R:List Nd)(p:List UInt8)(w:FW)(hv:IL w v ns)(hl:ns.length<=100000)(he:ns=A++R)(lo:∀a∈A,bl a.p p=true)(hi:∀a∈R,bl a.p p=false):
  FZ prog 28 #[v,S0 p] w (R0 w (.tuple #[I0 A.length,.bool (qV R p)])):=by
 have C:∀W:FW,B0 w W->FZ prog 45 #[v,S0 p,.func (.func 46) #[] #[]] W fun e w'=>
   e=.returned (.tuple #[I0 A.length,.bool (qV R p)])/\B0 W w':=fun W hW=>by
  rcases hv with⟨a,cap,rfl,h0,_⟩|⟨b,off,cap,rfl,_,_,hb,_,hr⟩
  .rw[h0]at he;obtain⟨rfl,rfl⟩:A=[]/\R=[]:=by
    have:=congrArg List.length he;simp at this;exact⟨BZ (by omega),BZ (by omega)⟩
   exact AZ5 a cap p W
  .subst he;rw[AP];exact BJ4 b off cap A R p W (by simpa using hl) (Nat.lt_of_lt_of_le hb hW.size) (hr.kept hW hb) lo hi
 have C':=G8 C;obtain⟨a,c,rfl⟩:=GK hv;clear C hv hl he lo hi;generalize qV R p=hd at C'⊢;go_enter func28,ntmps28;go_wp2_with fail;refine(G7 C' _ (Below.refl _ _)).mono ?_;rintro e w1 ⟨rfl,hb1⟩;go_wp2_with fail
 go_ret2
 exact⟨rfl,hb1⟩
theorem JW(v:FX)(ns A B:List Nd)(f:Nd)(p:List UInt8)(w:FW)(hv:IL w v ns)(hl:ns.length<=100000)(T:KJ ns A f B p):
  FZ prog 28 #[v,S0 p] w (R0 w (.tuple #[I0 A.length,.bool true])):=by
 have:=jZ v ns A (f::B) p w hv hl T.eq T.lo (fun a ha=>by
  rcases BQ.1 ha with rfl|h
  .rw[T.nm];exact QI _
  .exact OD (T.hi a h))
 rwa[show qV (f::B) p=true from by simp[qV,T.nm]]at this
theorem NI(v:FX)(ns A B:List Nd)(p:List UInt8)(w:FW)(hv:IL w v ns)(hl:ns.length<=100000)(G:nM ns A B p):
  FZ prog 28 #[v,S0 p] w (R0 w (.tuple #[I0 A.length,.bool false])):=by
 have:=jZ v ns A B p w hv hl G.eq G.lo (fun a ha=>OD (G.hi a ha));rwa[show qV B p=false from by
  cases B with
  |nil=>rfl
  |cons f B=>have:=WS (G.hi f (by simp));simp[qV,this.symm]]at this
theorem vT(v:FX)(ns:List Nd)(p:List UInt8)(w:FW)(hv:IL w v ns)(hl:ns.length<=100000)(ha:tK ns):
  ∃i:Nat,i<=ns.length/\FZ prog 28 #[v,S0 p] w (R0 w (.tuple #[I0 i,.bool (LU ns p).isSome])):=by
 rcases YV p ns ha with⟨A,n,B,T⟩|⟨A,B,G⟩
 .rw[T.look];exact⟨A.length,by rw[T.eq];simp,JW v ns A B n p w hv hl T⟩
 .rw[G.look];exact⟨A.length,by rw[G.eq];simp,NI v ns A B p w hv hl G⟩
theorem BJ5(x:Int)(w:FW):FZ prog 210 #[I0 x] w fun e w'=>e=.returned (.bool false)/\w'=w:=by
 go_enter func210,ntmps210
 go_wp2
 go_ret;exact⟨rfl,rfl⟩
theorem BJ6(x:Int)(w:FW):FZ prog 249 #[I0 x] w fun e w'=>e=.returned (.bool false)/\w'=w:=by
 go_enter func249,ntmps249
 go_wp2
 go_ret;exact⟨rfl,rfl⟩
theorem AZ6(x y:Int)(w:FW):FZ prog 248 #[I0 x,I0 y] w fun e w'=>e=.returned (.bool (decide (x<y)))/\w'=w:=by
 go_enter func248,ntmps248;go_wp2_with fail;refine(BJ5 _ _).mono ?_;rintro e w1 ⟨rfl,rfl⟩;go_wp2_with fail;go_ret;exact⟨rfl,rfl⟩
def AK1(R:List Int)(s:Int):Bool:=match R with
 |[]=>false
 |f::_=>decide (f=s)
theorem AK2(A R:List Int)(s:Int)(lo:∀a∈A,a<s)(hi:∀a∈R,¬a<s)(i:Nat)(h:i<A.length+R.length):∃y,(A++R)[i]?=G6 y/\decide (y<s)=decide (i<A.length):=by
 by_cases h1:i<A.length
 .refine⟨A[i],by rw[BM h1,AO h1],?_⟩;simp[h1,lo _ (List.getElem_mem h1)]
 .have h2:i-A.length<R.length:=by omega
  refine⟨R[i-A.length],by rw[BD (by omega),AO h2],?_⟩;simp only[h1,hi _ (List.getElem_mem h2)]
theorem C35(b off cap:Nat)(A R:List Int)(s:Int)(w:FW)(hcap:A.length+R.length<=281474976710656)(hb:b<w.heap.size)(h:IC w b off (GI (A++R)))
  (lo:∀a∈A,a<s) (hi:∀a∈R,¬a<s):
  FZ prog 222 #[FU (G6 ⟨b,off,G5⟩) (A.length+R.length) cap,I0 s] w fun e w'=>
   e=.returned (.tuple #[I0 A.length,.bool (AK1 R s)])/\w'=w:=by
 have H:=G8 h;have SG:=G8 (AK2 A R s lo hi);obtain⟨fin,hfin⟩:∃x,AK1 R s=x:=⟨_,rfl⟩;have HF:=G8 hfin;rw[hfin];clear h hfin lo hi;go_enter func222,ntmps222;go_wp2_with fail
 go_loopg [7,8] (A.length+R.length) (fun kx s9 s10 wr=>∃lo hi:Nat,s9=I0 lo/\s10=I0 hi/\lo<=A.length/\A.length<=hi/\hi<=A.length+R.length/\hi-lo<=kx/\wr=w)
 case atStart=>exact⟨0,A.length+R.length,rfl,rfl,AZ _,by omega,A8 _,by omega,rfl⟩
 case round=>
  obtain⟨lo,hi,rfl,rfl,h1,h2,h3,hg,rfl⟩:=hrel;by_cases hlt:lo<hi
  .obtain⟨y,hy,hyn⟩:=G7 SG ((lo+hi)/2) (by omega);have e0:=(G7 H).i0 hy;clear hy;have CM:=fun W=>AZ6 y s W;rw[hyn]at CM;clear hyn;by_cases hm:(lo+hi)/2<A.length
   .simp only[hm,decide_true]at CM;go_wp2_with fail;refine(CM _).mono ?_;rintro e w1 ⟨rfl,rfl⟩;clear CM;go_wp2_with fail
    go_roundg (hi-((lo+hi)/2+1))
    case measure=>omega
    case rel=>exact⟨(lo+hi)/2+1,hi,by rw[show ((lo:Int)+(hi:Int))/2+1=(((lo+hi)/2+1:Nat):Int) by omega],rfl,by omega,h2,h3,A8 _,rfl⟩
   .simp only[hm,decide_false]at CM;go_wp2_with fail;refine(CM _).mono ?_;rintro e w1 ⟨rfl,rfl⟩;clear CM;go_wp2_with fail
    go_roundg ((lo+hi)/2-lo)
    case measure=>omega
    case rel=>exact⟨lo,(lo+hi)/2,rfl,by rw[show ((lo:Int)+(hi:Int))/2=(((lo+hi)/2:Nat):Int) by omega],h1,by omega,by omega,A8 _,rfl⟩
  .obtain rfl:lo=A.length:=by omega
   obtain rfl:hi=A.length:=by omega
   cases R with
   |nil=>
    go_wp2_with fail
    go_ret2
    exact⟨by rw[<-G7 HF];rfl,rfl⟩
   |cons f R=>
    have e0:=(G7 H).i0 (show (A++f::R)[A.length]?=G6 f by simp);have hf:decide (f=s)=fin:=G7 HF;clear HF;simp only[BH];by_cases hfs:f=s
    .subst hfs;simp only[decide_true]at hf;subst hf;go_wp2_with fail
     go_ret2
     exact⟨rfl,rfl⟩
    .simp only[hfs,decide_false]at hf;subst hf;have hq:(f==s)=false:=by simpa using hfs
     clear hfs;go_wp2_with fail;refine(BJ6 _ _).mono ?_;rintro e w1 ⟨rfl,rfl⟩;go_wp2_with fail
     go_ret2
     exact⟨rfl,rfl⟩
theorem BJ7(a:Option Addr)(cap:Nat)(s:Int)(w:FW):
  FZ prog 222 #[FU a 0 cap,I0 s] w fun e w'=>e=.returned (.tuple #[I0 0,.bool false])/\w'=w:=by
 go_enter func222,ntmps222;go_wp2_with fail
 go_loopg [7,8] 1 (fun _ s9 s10 wr=>s9=I0 0/\s10=I0 0/\wr=w)
 case atStart=>exact⟨rfl,rfl,rfl⟩
 case round=>
  obtain⟨rfl,rfl,rfl⟩:=hrel;go_wp2_with fail
  go_ret2
  exact⟨rfl,rfl⟩
theorem vU(v:FX)(ss A R:List Int)(s:Int)(w:FW)(hv:IL w v ss)(hl:ss.length<=2147483647)(he:ss=A++R)(lo:∀a∈A,a<s)(hi:∀a∈R,¬a<s):
  FZ prog 222 #[v,I0 s] w fun e w'=>e=.returned (.tuple #[I0 A.length,.bool (AK1 R s)])/\w'=w:=by
 rcases hv with⟨a,cap,rfl,h0,_⟩|⟨b,off,cap,rfl,_,_,hb,_,hr⟩
 .rw[h0]at he;obtain⟨rfl,rfl⟩:A=[]/\R=[]:=by
   have:=congrArg List.length he;simp at this;exact⟨BZ (by omega),BZ (by omega)⟩
  exact BJ7 a cap s w
 .subst he;rw[AP];exact C35 b off cap A R s w (by simp at hl;omega) hb hr lo hi
theorem vV(v:FX)(ss A B:List Int)(s:Int)(w:FW)(hv:IL w v ss)(hl:ss.length<=2147483647)(T:jG ss A B s):
  FZ prog 222 #[v,I0 s] w fun e w'=>e=.returned (.tuple #[I0 A.length,.bool true])/\w'=w:=by
 have:=vU v ss A (s::B) s w hv hl T.eq T.lo (fun a ha=>by
  rcases BQ.1 ha with rfl|h
  .omega
  .have:=T.hi a h;omega)
 rwa[show AK1 (s::B) s=true from by simp[AK1]]at this
theorem AZ7(v:FX)(ss A B:List Int)(s:Int)(w:FW)(hv:IL w v ss)(hl:ss.length<=2147483647)(G:C18 ss A B s):
  FZ prog 222 #[v,I0 s] w fun e w'=>e=.returned (.tuple #[I0 A.length,.bool false])/\w'=w:=by
 have:=vU v ss A B s w hv hl G.eq G.lo (fun a ha=>by have:=G.hi a ha;omega);rwa[show AK1 B s=false from by
  cases B with
  |nil=>rfl
  |cons f B=>exact decide_eq_false (by have:=G.hi f (by simp);omega)]at this
theorem bH(z:Int)(vn vs:FX)(ss:List Int)(s:Int)(w:FW)(hv:IL w vs ss)(hs:qG ss):
  FZ prog 194 #[.agg #[I0 z,vn,vs],I0 s] w (R0 w (.bool (decide (s∈ss)))):=by
 have C:∀W:FW,B0 w W->∃i:Nat,FZ prog 222 #[vs,I0 s] W fun e w'=>e=.returned (.tuple #[I0 i,.bool (decide (s∈ss))])/\w'=W:=fun W hW=>by
  rcases uM s ss hs.1 with⟨A,B,T⟩|⟨A,B,G⟩
  .rw[show decide (s∈ss)=true from decide_eq_true T.mem];exact⟨A.length,vV vs ss A B s W (hv.next hW) (TN hs) T⟩
  .rw[show decide (s∈ss)=false from decide_eq_false G.not];exact⟨A.length,AZ7 vs ss A B s W (hv.next hW) (TN hs) G⟩
 have C':=G8 C;obtain⟨a,c,rfl⟩:=GK hv;clear C hv hs;generalize decide (s∈ss)=hd at C'⊢;generalize ss.length=n at C'⊢;go_enter func194,ntmps194;go_wp2_with fail;obtain⟨i,C2⟩:=G7 C' _ (G9 _ _);refine C2.mono ?_;rintro e w1 ⟨rfl,rfl⟩;go_wp2_with fail;go_ret;exact⟨rfl,G9 _ _⟩
theorem vW(w:FW){o:Oper}{a:Act}{K:Act->FW->Prop}{Q:Exit->Act->FW->Prop}(d s:Operand)(t t':TypeId)
  (ho:o.op=.call {callee:=.builtin .copy,args:=#[d,s],argTypes:=#[t,t']}) (v u:FX) (hd:a.eval d=v) (hs:a.eval s=u) {v':FX} {w':FW}
  (hr:(DY #[t,t'] o.type #[v,u]).run prog w=.ok v' w') (h:K (a.put o.dst v') w'):o.wp prog a w K Q:=by
 unfold Oper.wp execOp;simp only[ho,resolve,invoke,builtin,Sem.run_bind,Sem.run_pure,Result.andThen_ok,List.map_toArray,List.map_cons,List.map_nil,hd,hs,hr];exact h
theorem LD(w:FW){ops:Array Oper}{rest:List Oper}{o:Oper}{a:Act}{Q:Exit->Act->FW->Prop}(hgd:o.guard=G5)(d s:Operand)(t t':TypeId)
  (ho:o.op=.call {callee:=.builtin .copy,args:=#[d,s],argTypes:=#[t,t']}) (v u:FX) (hd:a.eval d=v) (hs:a.eval s=u) {v':FX} {w':FW}
  (hr:(DY #[t,t'] o.type #[v,u]).run prog w=.ok v' w') (h:wpList prog ops Q rest (a.put o.dst v') w'):wpList prog ops Q (o::rest) a w:=
 wpList_plain hgd fun _ hK=>vW w d s t t' ho v u hd hs hr (hK _ _ h)
theorem MS{ops:Array Oper}{o:Oper}{a:Act}{w:FW}{K:Act->FW->Prop}{Q:Exit->Act->FW->Prop}{E:Prop}
  (hg:o.guard=G5) (d x:Operand) (dT sT:TypeId) (hop:o.op=Op.call {callee:=Callee.builtin Builtin.copy,args:=#[d,x],argTypes:=#[dT,sT]})
  (v u:FX) (hd:a.eval d=v) (hx:a.eval x=u) {v':FX} {w':FW} (hr:(DY #[dT,sT] o.type #[v,u]).run prog w=.ok v' w') (hK:K (a.put o.dst v') w'):
  if Region.wanted o (yielded ops a.tmps)=true then Oper.wp prog o a w K Q else E:=by
 have hw:Region.wanted o (yielded ops a.tmps)=true:=by simp[Region.wanted,hg]
 rw[if_pos hw];unfold Oper.wp;simp[execOp,hop,resolve,invoke,builtin,hd,hx,hr,Result.andThen];exact hK
theorem JC(ns:List Nd):(GI ns).length=ns.length*9:=H6 ns
theorem JA.qW{pre tl:List Nd}(h:JA W g cap (pre++tl))(new:List Nd)(hfit:pre.length+new.length<=cap):JA (W.setCells g (pre.length*9) (GI new)) g cap (pre++new):=h.splice new hfit
theorem JA.CI1{fs:List Nd}(h:JA W g cap fs)(vs:List FX)(o:Nat)(ho:fs.length*9<=o)(hfit:o+vs.length<=cap*9):JA (W.setCells g o vs) g cap fs:=h.spare vs o ho hfit
theorem JA.CU5{y:Nd}(h:JA W g cap (A++y::B))(x:Nd):JA (W.setCells g (A.length*9) (MF x)) g cap (A++x::B):=h.vC x
theorem JA.AK3{fs:List Nd}(h:JA W g cap fs){j:Nat}(hj:j<cap*9):(W.cell? ⟨g,j,G5⟩).isSome=true:=h.some hj
theorem JA.qX{pre tl:List Int}(h:JA W g cap (pre++tl))(new:List Int)(hfit:pre.length+new.length<=cap):JA (W.setCells g pre.length (GI new)) g cap (pre++new):=by
 have:=h.splice new hfit;rwa[show pre.length*Lay.k Int=pre.length from Nat.mul_one _]at this
theorem JA.CI2{fs:List Int}(h:JA W g cap fs)(vs:List FX)(o:Nat)(ho:fs.length<=o)(hfit:o+vs.length<=cap):JA (W.setCells g o vs) g cap fs:=
 h.spare vs o (by rw[show fs.length*Lay.k Int=fs.length from Nat.mul_one _];exact ho) (by rw[show cap*Lay.k Int=cap from Nat.mul_one _];exact hfit)
theorem JA.CU6{A B:List Int}{y:Int}(h:JA W g cap (A++y::B))(x:Int):JA (W.setCells g A.length [I0 x]) g cap (A++x::B):=by
 have:=h.vC x;rwa[show A.length*Lay.k Int=A.length from Nat.mul_one _]at this
theorem JA.AK4{fs:List Int}(h:JA W g cap fs){j:Nat}(hj:j<cap):(W.cell? ⟨g,j,G5⟩).isSome=true:=h.some (by rw[show cap*Lay.k Int=cap from Nat.mul_one _];exact hj)
theorem CI3:(prog.info? 62).map (fun i=>(i.zero,i.size,i.bytes))=G6 (G6 (.agg #[.string ⟨#[]⟩,.string ⟨#[]⟩,I0 0,I0 0,I0 0,I0 0,I0 0,I0 0,I0 0]),9,88):=by kernel_rfl
theorem AK5:∃i0,prog.info? 62=G6 i0/\i0.zero=G6 (.agg #[.string ⟨#[]⟩,.string ⟨#[]⟩,I0 0,I0 0,I0 0,I0 0,I0 0,I0 0,I0 0])/\i0.size=9/\i0.bytes=88:=by
 obtain⟨i0,h,e⟩:=Option.map_eq_some_iff.1 CI3;simp only[Prod.mk.injEq]at e;exact⟨i0,h,e⟩
def XE:List FX:=[.string ⟨#[]⟩,.string ⟨#[]⟩,I0 0,I0 0,I0 0,I0 0,I0 0,I0 0,I0 0]
theorem C36(w:FW)(ty:TypeId)(b o c:Nat)(hc:∀j,j<9->(w.cell? ⟨b,o+j,G5⟩).isSome=true)(hf:∀j,j<9->w.frozen? ⟨b,o+j,G5⟩=false):
  (Builtin.clear_ #[34] ty #[FU (G6 ⟨b,o,G5⟩) 1 c]).run prog w=.ok (.tuple #[]) (w.setCells b o XE):=by
 have hzc:(BI (Value.agg #[.string ⟨#[]⟩,.string ⟨#[]⟩,I0 0,I0 0,I0 0,I0 0,I0 0,I0 0,I0 0]).cells 1).toList=XE:=by kernel_rfl
 have hst:=run_storeCells_cells (P:=prog) b o XE 0 w (by simpa [XE]using hc) (by simpa [XE]using hf) (by simp[XE,Value.oneCell']);simp only[Nat.add_zero]at hst;simp[Builtin.clear_,run_underlying underlying34,hzc,hst]
theorem A07(g cap:Nat)(A B:List Nd)(f:Nd)(n:Nat)(w:FW)(ho:JA w g cap (A++f::B))(hn:n=A.length+B.length+1)(hsm:n<=400):
  FZ prog 231 #[FU (G6 ⟨g,0,G5⟩) n cap,I0 A.length,I0 (A.length+1:Nat)] w fun e w'=>
   e=.returned (FU (G6 ⟨g,0,G5⟩) (A.length+B.length) cap)/\JA w' g cap (A++B)/\w.grownBy w' (G6 g):=by
 obtain⟨i0,hi0,hz0,hz1,hz2⟩:=AK5;have hle:=ho.le;have hcl:=ho.capLe;simp only[maxLen]at hcl;rw[AP,BH]at hle;have hrow:=ho.row;obtain⟨AD,hAD,hsrc⟩:∃AD:Addr,(if cap=A.length+1 then G6 (⟨g,0,G5⟩:Addr)else G6 ⟨g,(A.length+1)*9,G5⟩)=G6 AD/\Hid (∀t u,(GI B)[t]?=G6 u->w.drew.cell? (AD.add t)=G6 u):=by
  by_cases h:cap=A.length+1
  .refine⟨⟨g,0,G5⟩,by simp[h],fun t u hu=>?_⟩;have h0:B=[]:=BZ (by omega);rw[h0]at hu;simp[SE]at hu
  .refine⟨⟨g,(A.length+1)*9,G5⟩,by simp[h],fun t u hu=>?_⟩;rw[BK];have:=hrow ((A.length+1)*9+t) u (by
    rw[I5,BD (by rw[JC];omega),JC,JU,BD (by rw[Lay.len];show 9<=_;omega)];rw[Lay.len,<-hu];congr 1;show _-9=_;omega)
   rw[BJ]at this;exact this
 have s1:Hid ((GI B).length=B.length*9):=JC B;have s2:Hid (∀u∈GI B,u.oneCell'=true):=JO B;have s3:Hid (∀t,t<(GI B).length->(w.drew.cell? ⟨g,0+A.length*9+t,G5⟩).isSome=true/\w.drew.frozen? ⟨g,0+A.length*9+t,G5⟩=false):=by
  intro t ht;rw[JC]at ht;exact⟨ho.AK3 (by omega),ho.frozen _⟩
 obtain⟨W1,hW1⟩:∃W1,W1=w.drew.setCells g (0+A.length*9) (GI B):=⟨_,rfl⟩;have ho1:JA W1 g cap (A++B):=by rw[hW1,BJ];exact ho.drew.qW B (by omega)
 have hg1:w.grownBy W1 (G6 g):=by rw[hW1];have:=I8 (g:=g) (GI B) (0+A.length*9) w.drew;exact⟨this.os,this.tape,this.output,this.size,this.block⟩
 have CS5:∀ty c,(Builtin.clear_ #[34] ty #[FU (G6 ⟨g,(A.length+B.length)*9,G5⟩) 1 c]).run prog W1=.ok (.tuple #[]) (W1.setCells g ((A.length+B.length)*9) XE):=fun ty c=>
  C36 W1 ty g _ c (fun j hj=>ho1.AK3 (by omega)) (fun j hj=>ho1.frozen _)
 have FIN:Hid (JA (W1.setCells g ((A.length+B.length)*9) XE) g cap (A++B)/\w.grownBy (W1.setCells g ((A.length+B.length)*9) XE) (G6 g)):=
  ⟨ho1.CI1 XE _ (by rw[AP];omega) (by simp[XE];omega),IQ hg1 (I8 _ _ _)⟩
 have hW:Hid (W1=w.drew.setCells g (0+A.length*9) (GI B)):=hW1;have hic:A.length<=cap:=by omega
 have hjc:A.length+1<=cap:=by omega
 have hne:¬ (cap=A.length+B.length):=by omega
 have hb1:(0:Int)<=(A.length:Int)+1:=by omega
 have hb2:(A.length:Int)<=(A.length:Int)+(B.length:Int):=by omega
 have hb3:(0:Int)<=(A.length:Int)+(B.length:Int):=by omega
 have hs1:A.length+B.length+1-(A.length+B.length)=1:=by omega
 clear hW1 ho1 hg1 hrow ho;subst hn;go_enter func231,ntmps231;go_wp2_with fail
 go_region_law (refine step_append_room rfl (.tmp 22) (.tmp 25) 34 rfl 62 i0 9 underlying34 hi0 hz1 g 0 A.length cap (by simp[Act.eval,Act.put]) AD B.length (cap-(A.length+1)) (GI B) (by simp[Act.eval,Act.put]) s1.out hsrc.out s2.out (by omega) s3.out ?_;rw[<-hW.out])
 go_wp2
 go_ret;exact⟨rfl,FIN.out⟩
theorem A98(w:FW)(ty:TypeId)(b o dLen dCap:Nat)(a:Addr)(sLen sCap:Nat)(cs:List FX)(hn:cs.length=Nat.min sLen dLen*9)
  (hsrc:∀j v,cs[j]?=G6 v->w.cell? (a.add j)=G6 v) (hc:∀j,j<cs.length->(w.cell? ⟨b,o+j,G5⟩).isSome=true) (hf:∀j,j<cs.length->w.frozen? ⟨b,o+j,G5⟩=false) (h1:∀v∈cs,v.oneCell'=true):
  (DY #[34,34] ty #[FU (G6 ⟨b,o,G5⟩) dLen dCap,FU (G6 a) sLen sCap]).run prog w=.ok (goInt (Nat.min sLen dLen)) (w.setCells b o cs):=by
 have hl:=run_loadCells_list (P:=prog) w a cs hsrc;have hst:=run_storeCells_cells (P:=prog) b o cs 0 w (by simpa using hc) (by simpa using hf) h1;obtain⟨i0,hi0,hz0,hz1,hz2⟩:=AK5;simp[DY,run_underlying underlying34,Builtin.lenOf,Builtin.firstCells,sizeOf,typeInfo,hi0,hz1,<-hn,hl,hst]
theorem A08(v:FX)(A:List Nd)(x:Nd)(B b:Nat)(w:FW)(ho:GZ w B v A)(hB:B<=w.heap.size)(hl:A.length<=400)(h1:JQ w b x):
  FZ prog 228 #[v,I0 A.length,FU (G6 ⟨b,0,G5⟩) 1 1] w fun e w'=>
   ∃v',e=.returned v'/\GZ w' B v' (A++[x])/\w.grownBy w' v.ownBlock/\(v'.ownBlock=v.ownBlock\/v'.ownBlock=G6 w.heap.size):=by
 obtain⟨i0,hi0,hz0,hz1,hz2⟩:=AK5;have hrow:=ho.row;have HR:=G8 hrow;have H1:=G8 h1.row;have V:∃a c,v=FU a A.length c/\A.length<=c:=by
  rcases ho with⟨rfl,rfl⟩|⟨g,cap,rfl,_,h⟩
  .exact⟨G5,0,rfl,A8 _⟩
  .exact⟨_,cap,rfl,h.le⟩
 obtain⟨a,c,rfl,hc⟩:=V;clear ho hrow h1;rcases Nat.lt_or_ge A.length c with hcl|hcl
 .have hne:¬c=A.length:=by omega
  go_enter func228,ntmps228;go_wp2_with (at_builtin;refine wpList_append_own_at _ rfl _ _ 34 rfl B 62 i0 _ 9 88 underlying34 hi0 hz0 hz1 hz2 rfl (by decide) _ A.length (GI A) rfl (G7 HR) ⟨b,0,G5⟩ 1 1 (MF x) rfl (by rfl) ?qc2 ((Lay.one x)) ?qc4 ?qc5 hB ?_)
  case qc2=>
   intro j u hj;rw[BK];exact G7 H1 j u hj
  case qc4=>simp only[maxLen];omega
  case qc5=>omega
  intro v' w1 hown hgrow _ hloc
  go_wp2
  go_ret;exact⟨v',rfl,GZ.L9 (by rw[AP,JH];exact hown),hgrow,hloc⟩
 .obtain rfl:c=A.length:=by omega
  go_enter func228,ntmps228;go_wp2_with (at_builtin;refine wpList_append_own_at _ rfl _ _ 34 rfl B 62 i0 _ 9 88 underlying34 hi0 hz0 hz1 hz2 rfl (by decide) _ A.length (GI A) rfl (G7 HR) ⟨b,0,G5⟩ 1 1 (MF x) rfl (by rfl) ?qc2 ((Lay.one x)) ?qc4 ?qc5 hB ?_)
  case qc2=>
   intro j u hj;rw[BK];exact G7 H1 j u hj
  case qc4=>simp only[maxLen];omega
  case qc5=>omega
  intro v' w1 hown hgrow _ hloc
  go_wp2
  go_ret;exact⟨v',rfl,GZ.L9 (by rw[AP,JH];exact hown),hgrow,hloc⟩
theorem qY(g cap:Nat)(A R:List Nd)(y x:Nd)(n b:Nat)(w:FW)(ho:JA w g cap (A++y::R))(hn:n=A.length+R.length+1)(hsm:n<=400)(hroom:n+1<=cap)(h1:JQ w b x)(hbg:b≠g):
  FZ prog 228 #[FU (G6 ⟨g,0,G5⟩) n cap,I0 A.length,FU (G6 ⟨b,0,G5⟩) 1 1] w fun e w'=>
   e=.returned (FU (G6 ⟨g,0,G5⟩) (n+1) cap)/\JA w' g cap (A++x::y::R)/\w.grownBy w' (G6 g):=by
 have hcl:=ho.capLe;simp only[maxLen]at hcl;have hrow:=ho.row;have AY8:w.shape? g=G6 (62,cap*9):=by
  obtain⟨rest,q1,q2,_⟩:=ho;rw[AP,BH]at q2;simp[World.shape?,q1,JC];exact⟨rfl,q2⟩
 have AY9:w.shape? b=G6 (62,9):=by unfold JQ at h1;simp[World.shape?,h1];exact⟨rfl,rfl⟩
 have hfb:∀j,w.frozen? ⟨b,j,G5⟩=false:=fun j=>by unfold JQ at h1;simp[World.frozen?,h1]
 have hov:∀lb cb,(callFunc 254 #[FU (G6 ⟨b,0,G5⟩) 1 1,FU (G6 ⟨g,(A.length+1)*9,G5⟩) lb cb]).run prog w=.ok (.value (.bool false)) w:=fun lb cb=>by
  rw[run_callFunc_extern func254 (by kernel_rfl) (by kernel_rfl) (by kernel_rfl) (e:=Extern.SlicesOverlaps.overlaps #[34,34] #[4]) (by kernel_rfl),
   Lib.run_overlaps_apart w 34 4 62 underlying34 9 sizeOf62 ⟨b,0,G5⟩ ⟨g,(A.length+1)*9,G5⟩ 1 1 lb cb hbg 62 62 9 (cap*9) AY9 AY8 (by omega) (hfb 0) (hfb 9)]
  rfl
 obtain⟨W1,hW1⟩:∃W1,W1=w.drew.setCells g ((A.length+1)*9) (GI (y::R)):=⟨_,rfl⟩;have ho1:JA W1 g cap (A++y::y::R):=by
  have h:JA w.drew g cap ((A++[y])++R):=by rw[List.append_assoc];exact ho
  have:=h.qW (y::R) (by simp;omega);rw[hW1];simpa using this
 have hg1:w.grownBy W1 (G6 g):=by rw[hW1];have:=I8 (g:=g) (GI (y::R)) ((A.length+1)*9) w.drew;exact⟨this.os,this.tape,this.output,this.size,this.block⟩
 have hcp1:∀ty dc sc,(DY #[34,34] ty #[FU (G6 ⟨g,(A.length+1)*9,G5⟩) (n-A.length) dc,FU (G6 ⟨g,A.length*9,G5⟩) (n+1-A.length) sc]).run prog w.drew=.ok (goInt (Nat.min (n+1-A.length) (n-A.length))) W1:=fun ty dc sc=>by
  rw[hW1];exact A98 w.drew ty g _ _ dc ⟨g,A.length*9,G5⟩ _ sc (GI (y::R)) (by rw[JC];simp only[Nat.min_def,BH];split<;>omega)
   (fun j v hj=>by
    rw[BK];have:=hrow (A.length*9+j) v (by rw[I5,BD (by rw[JC];omega),JC,FD];exact hj);rw[BJ]at this;exact this)
   (fun j hj=>by rw[JC]at hj;exact ho.AK3 (by simp at hj;omega)) (fun j _=>ho.frozen _) (JO _)
 have hcp2:∀ty dc,(DY #[34,34] ty #[FU (G6 ⟨g,A.length*9,G5⟩) (n+1-A.length) dc,FU (G6 ⟨b,0,G5⟩) 1 1]).run prog W1=.ok (goInt (Nat.min 1 (n+1-A.length))) (W1.setCells g (A.length*9) (MF x)):=fun ty dc=>
  A98 W1 ty g _ _ dc ⟨b,0,G5⟩ 1 1 (MF x) (by simp only[Nat.min_def,MF,BH,EW];split<;>omega)
   (fun j v hj=>by
    rw[BK];have hb2:W1.heap[b]?=w.heap[b]? :=hg1.block b (by unfold JQ at h1;exact(Array.getElem?_eq_some_iff.1 h1).1) (fun e=>hbg (Option.some.inj e));have h2:JQ W1 b x:=hb2.trans h1;exact h2.row j v hj)
   (fun j hj=>ho1.AK3 (by simp[MF]at hj;omega)) (fun j _=>ho1.frozen _) ((Lay.one x))
 have FIN:Hid (JA (W1.setCells g (A.length*9) (MF x)) g cap (A++x::y::R)/\w.grownBy (W1.setCells g (A.length*9) (MF x)) (G6 g)):=
  ⟨ho1.CU5 x,IQ hg1 (I8 _ _ _)⟩
 have hin:A.length<n:=by omega
 have C32:(A.length:Int)<(n:Int):=by omega
 have hw1:IntKind.i64.wrap ((A.length:Int)+1)=(A.length:Int)+1:=by rw[IntKind.wrap_i64];omega
 have hb1:(0:Int)<=(A.length:Int)+1:=by omega
 have hb2:¬ (cap=A.length+1):=by omega
 have hb3:(A.length:Int)<=(n:Int)+1:=by omega
 have hb4:¬ (cap=A.length):=by omega
 have hb5:(A.length:Int)+1<=(n:Int)+1:=by omega
 have hb6:¬ ((cap:Int)<(n:Int)+1):=by omega
 have hz2:¬ ((A.length:Int)=(n:Int)):=by omega
 have htn:((A.length:Int)+1).toNat=A.length+1:=by omega
 clear hW1 ho1 hg1 hrow AY8 AY9 hfb ho h1 hn;go_enter func228,ntmps228;go_wp2_with (simp only[hov])
 go_region_law (refine MS rfl (.tmp 73) (.tmp 76) 34 34 rfl (FU (G6 ⟨g,(A.length+1)*9,G5⟩) (n-A.length) (cap-(A.length+1))) (FU (G6 ⟨g,A.length*9,G5⟩) (n+1-A.length) (cap-A.length)) (by simp[Act.eval,Act.put]) (by simp[Act.eval,Act.put]) (hcp1 _ _ _) ?_)
 go_wp2_with (at_builtin;refine LD _ rfl _ _ 34 34 rfl _ _ rfl rfl (hcp2 _ _) ?_);go_ret;exact⟨rfl,FIN.out⟩
theorem CI4(k:Nat):(BI (Value.agg #[.string ⟨#[]⟩,.string ⟨#[]⟩,I0 0,I0 0,I0 0,I0 0,I0 0,I0 0,I0 0]).cells k).size=k*9:=by
 simp[BI,Value.cells]
theorem vX(g cap:Nat)(A R:List Nd)(y x:Nd)(n b:Nat)(w:FW)(ho:JA w g cap (A++y::R))(hn:n=A.length+R.length+1)(hsm:n<=400)(hroom:cap<n+1)(h1:JQ w b x):
  FZ prog 228 #[FU (G6 ⟨g,0,G5⟩) n cap,I0 A.length,FU (G6 ⟨b,0,G5⟩) 1 1] w fun e w'=>
   ∃cap',e=.returned (FU (G6 ⟨w.heap.size,0,G5⟩) (n+1) cap')/\JA w' w.heap.size cap' (A++x::y::R)/\B0 w w':=by
 have hcap:cap=n:=by have:=ho.le;simp at this;omega
 obtain⟨i0,hi0,hz0,hz1,hz2⟩:=AK5;have hrow:=ho.row;have hgw:=ho.lt;have hbw:b<w.heap.size:=by unfold JQ at h1;exact(Array.getElem?_eq_some_iff.1 h1).1
 have hold:(Builtin.firstCells i0.size A.length (FU (G6 ⟨g,0,G5⟩) A.length cap)).run prog w.drew=.ok (GI A).toArray w.drew:=by
  rw[hz1];exact run_firstCells_some w.drew 9 A.length ⟨g,0,G5⟩ A.length cap (GI A) (JC A) (fun j v hj=>by
   rw[BK];exact hrow j v (by rw[I5,BM (List.getElem?_eq_some_iff.1 hj).1];exact hj))
 obtain⟨G,hG⟩:∃G,G=grownCap w (n+1) cap 62:=⟨_,rfl⟩;have hGn:n+1<=G:=by rw[hG];exact grownCap_ge w _ _ _
 have hGm:G<=maxLen:=by rw[hG];exact grownCap_le_maxLen w (n+1) cap _ (by unfold maxLen;omega)
 have hG63:G<=9223372036854775807:=by have:=hGm;unfold maxLen at this;omega
 obtain⟨ROW,hROW⟩:∃ROW:Array FX,ROW=(GI A).toArray++BI (Value.agg #[.string ⟨#[]⟩,.string ⟨#[]⟩,I0 0,I0 0,I0 0,I0 0,I0 0,I0 0,I0 0]).cells (n+1-A.length)++BI (Value.agg #[.string ⟨#[]⟩,.string ⟨#[]⟩,I0 0,I0 0,I0 0,I0 0,I0 0,I0 0,I0 0]).cells (G-(n+1)):=⟨_,rfl⟩;obtain⟨W1,hW1⟩:∃W1,W1=w.drew.alloc (.cells ROW 62):=⟨_,rfl⟩;have hik:A.length+(n+1-A.length)=n+1:=by omega
 have hrz:∀ty,(Builtin.append_ #[34,3] ty #[FU (G6 ⟨g,0,G5⟩) A.length cap,I0 ((n:Int)+1-(A.length:Int))]).run prog w=
   .ok (FU (G6 ⟨w.heap.size,0,G5⟩) (n+1) G) W1:=fun ty=>by
  have h:=Lib.run_append_grow_zeros w 34 3 ty 62 i0 _ .i64 .i64 underlying34 underlying3 hi0 hz0 (G6 ⟨g,0,G5⟩) A.length cap (GI A) hold (n+1-A.length) (by omega) (by omega) (by omega) (by omega) (by rw[hz2];omega) (by rw[hz2,hik];exact growslice_fits hroom (by omega));rw[hik,<-hG,<-hROW,<-hW1]at h;rw[show (n:Int)+1-(A.length:Int)=((n+1-A.length:Nat):Int) by omega];exact h
 have ho1:JA W1 w.heap.size G A:=by
  refine⟨(BI (Value.agg #[.string ⟨#[]⟩,.string ⟨#[]⟩,I0 0,I0 0,I0 0,I0 0,I0 0,I0 0,I0 0]).cells (n+1-A.length)++BI (Value.agg #[.string ⟨#[]⟩,.string ⟨#[]⟩,I0 0,I0 0,I0 0,I0 0,I0 0,I0 0,I0 0]).cells (G-(n+1))).toList,?_,?_,by omega,hGm⟩
  .rw[hW1,hROW];have:=heap_alloc_new w.drew (.cells ((GI A).toArray++BI (Value.agg #[.string ⟨#[]⟩,.string ⟨#[]⟩,I0 0,I0 0,I0 0,I0 0,I0 0,I0 0,I0 0]).cells (n+1-A.length)++BI (Value.agg #[.string ⟨#[]⟩,.string ⟨#[]⟩,I0 0,I0 0,I0 0,I0 0,I0 0,I0 0,I0 0]).cells (G-(n+1))) 62);refine Eq.trans this ?_
   congr 2
   apply Array.toList_inj.1
   simp
  .simp only[show Lay.k Nd=9 from rfl,Array.length_toList,Array.size_append,CI4];omega
 have hB1:B0 w W1:=by rw[hW1];exact((Below.refl _ w).drew).alloc (A8 _) _
 obtain⟨W2,hW2⟩:∃W2,W2=W1.setCells w.heap.size (A.length*9) (MF x):=⟨_,rfl⟩;have ho2:JA W2 w.heap.size G (A++[x]):=by
  have h:JA W1 w.heap.size G (A++[]):=by rw[DU];exact ho1
  have:=h.qW [x] (by simp;omega);rw[hW2];rw[JU,SE,DU]at this;exact this
 have hg2:W1.grownBy W2 (G6 w.heap.size):=by rw[hW2];exact I8 _ _ _
 have hB2:B0 w W2:=hB1.grown hg2 hB1.size (fun k e=>by cases e;exact A8 _);have hcpA:∀ty dc,(DY #[34,34] ty #[FU (G6 ⟨w.heap.size,A.length*9,G5⟩) (n+1-A.length) dc,FU (G6 ⟨b,0,G5⟩) 1 1]).run prog W1=.ok (goInt (Nat.min 1 (n+1-A.length))) W2:=fun ty dc=>by
  rw[hW2];exact A98 W1 ty w.heap.size _ _ dc ⟨b,0,G5⟩ 1 1 (MF x) (by simp only[Nat.min_def,MF,BH,EW];split<;>omega)
   (fun j v hj=>by rw[BK];exact(show JQ W1 b x from(hB1.block b hbw).trans h1).row j v hj)
   (fun j hj=>ho1.AK3 (by simp[MF]at hj;omega)) (fun j _=>ho1.frozen _) ((Lay.one x))
 obtain⟨W3,hW3⟩:∃W3,W3=W2.drew.setCells w.heap.size ((A.length+1)*9) (GI (y::R)):=⟨_,rfl⟩;have hcpB:∀ty dc sc,(DY #[34,34] ty #[FU (G6 ⟨w.heap.size,(A.length+1)*9,G5⟩) (n-A.length) dc,FU (G6 ⟨g,A.length*9,G5⟩) (n-A.length) sc]).run prog W2.drew=.ok (goInt (Nat.min (n-A.length) (n-A.length))) W3:=fun ty dc sc=>by
  rw[hW3];exact A98 W2.drew ty w.heap.size _ _ dc ⟨g,A.length*9,G5⟩ _ sc (GI (y::R)) (by rw[JC];simp only[Nat.min_self,BH];omega)
   (fun j v hj=>by
    rw[BK];have:=hrow (A.length*9+j) v (by rw[I5,BD (by rw[JC];omega),JC,FD];exact hj);rw[BJ]at this;exact(hB2.cell (p:=⟨g,A.length*9+j,G5⟩) hgw).trans this)
   (fun j hj=>by rw[JC]at hj;exact ho2.drew.AK3 (by simp at hj;omega)) (fun j _=>ho2.drew.frozen _) (JO _)
 have FIN:Hid (JA W3 w.heap.size G (A++x::y::R)/\B0 w W3):=by
  refine⟨?_,?_⟩
  .have h:JA W2.drew w.heap.size G ((A++[x])++[]):=by rw[DU];exact ho2
   have:=h.qW (y::R) (by simp;omega);rw[hW3];simpa using this
  .rw[hW3];exact hB2.drew.grown (I8 _ _ _) hB2.size (fun k e=>by cases e;exact A8 _)
 have hin:A.length<n:=by omega
 have C32:(A.length:Int)<(n:Int):=by omega
 have hw1:IntKind.i64.wrap ((A.length:Int)+1)=(A.length:Int)+1:=by rw[IntKind.wrap_i64];omega
 have hb1:(0:Int)<=(A.length:Int)+1:=by omega
 have hb2:¬ (G=A.length+1):=by omega
 have hb3:(A.length:Int)<=(n:Int)+1:=by omega
 have hb4:¬ (n=A.length):=by omega
 have hb5:(A.length:Int)+1<=(n:Int)+1:=by omega
 have hb6:¬ (G=A.length):=by omega
 have hb7:(A.length:Int)<=(n:Int):=by omega
 have hz3:¬ ((A.length:Int)=(n:Int)):=by omega
 have htn:((A.length:Int)+1).toNat=A.length+1:=by omega
 subst hcap;clear hn hROW hW1 hW2 hW3 hG hrow ho h1 ho1 ho2 hB1 hB2 hg2 hold hik;go_enter func228,ntmps228;go_wp2_with (first
  |(at_builtin;refine Lib.wpList_append_run _ rfl _ _ _ _ rfl _ _ rfl rfl _ _ (hrz _) ?_)
  |(at_builtin;refine LD _ rfl _ _ 34 34 rfl _ _ rfl rfl (hcpA _ _) ?_))
 go_region_law (refine MS rfl (.tmp 50) (.tmp 53) 34 34 rfl (FU (G6 ⟨w.heap.size,(A.length+1)*9,G5⟩) (cap-A.length) (G-(A.length+1))) (FU (G6 ⟨g,A.length*9,G5⟩) (cap-A.length) (cap-A.length)) (by simp[Act.eval,Act.put]) (by simp[Act.eval,Act.put]) (hcpB _ _ _) ?_)
 go_wp2
 go_ret;exact⟨G,rfl,FIN.out⟩
theorem A09(v:FX)(A R:List Nd)(x:Nd)(q:Nat)(w:FW)(ho:GZ w 0 v (A++R))(hl:(A++R).length<=400)(h1:JQ w q x)(hq:v.ownBlock≠G6 q):
  FZ prog 228 #[v,I0 A.length,FU (G6 ⟨q,0,G5⟩) 1 1] w fun e w'=>
   ∃v',e=.returned v'/\GZ w' 0 v' (A++x::R)/\w.grownBy w' v.ownBlock/\(v'.ownBlock=v.ownBlock\/∃k,w.heap.size<=k/\v'.ownBlock=G6 k):=by
 cases R with
 |nil=>
  rw[DU]at ho hl;refine(A08 v A x 0 q w ho (AZ _) hl h1).mono ?_;rintro e w' ⟨v',rfl,h2,h3,h4⟩;refine⟨v',rfl,h2,h3,?_⟩;rcases h4 with h|h
  .exact .inl h
  .exact .inr ⟨_,A8 _,h⟩
 |cons y R=>
  rcases ho with⟨_,h⟩|⟨g,cap,rfl,_,ho⟩
  .simp at h
  .have hn:(A++y::R).length=A.length+R.length+1:=by simp;omega
   by_cases hc:(A++y::R).length+1<=cap
   .refine(qY g cap A R y x _ q w ho hn hl hc h1 (fun e=>hq (by rw[e];rfl))).mono ?_;rintro e w' ⟨rfl,h2,h3⟩;exact⟨_,rfl,.inr ⟨g,cap,by simp;omega,AZ _,h2⟩,h3,.inl rfl⟩
   .refine(vX g cap A R y x _ q w ho hn hl (by omega) h1).mono ?_;rintro e w' ⟨cap',rfl,h2,h3⟩;exact⟨_,rfl,.inr ⟨w.heap.size,cap',by simp;omega,AZ _,h2⟩,⟨h3.os,h3.tape,h3.output,h3.size,fun k hk _=>h3.block k hk⟩,.inr ⟨_,A8 _,rfl⟩⟩
