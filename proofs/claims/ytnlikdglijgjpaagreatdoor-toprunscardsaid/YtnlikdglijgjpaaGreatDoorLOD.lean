/-
  Part.
-/
import Derived.Test.YtnlikdglijgjpaaGreatDoorLOC
import Derived.Lib.JoinLaws
import Derived.Deep.RegionHeld3
import Derived.Lib.AppendZerosOnto
import Derived.Lib.Overlaps
set_option maxRecDepth 20000
set_option maxHeartbeats 8000000
namespace Go.Proofs.YtnlikdglijgjpaaGreatDoor
open Go.RowKit Go.Proofs.Tryz
open _root_.Nat renaming le_refl->A8,zero_le->AY,zero_add->BI,add_sub_cancel_left->FC
open _root_.Array renaming getElem?_eq_some_iff->AB
open _root_.List renaming getElem?_eq_getElem->AL,length_append->AO,getElem?_eq_some_iff->AU,getElem?_append_right->BA,length_cons->BG,getElem?_append_left->BK,mem_cons->BP,append_assoc->BR,eq_nil_of_length_eq_zero->BU,mem_append->BZ,pairwise_append->DK,append_nil->DN,mem_filter->EI,length_nil->EU,mem_map->EW
open Go.Builtin renaming zeroCells->BH,copy_->DX
open Go.Addr renaming add_lit->BJ
open Go.Lib renaming compareBytes->ER
open Go.IntKind renaming wrap_i64->FH
open _root_.Option renaming map_eq_some_iff->FM,none->FZ,some->G5
open Go.Value renaming slice->FT
open Go renaming World->FV,Value->FW,Calls->FX
variable{z s:Int}{ns A B xs:List Nd}{ss:List Int}{n u x:Nd}{p:List UInt8}{ps:List (List UInt8)}{t:Tr}{w W:FV}{b off i g cap:Nat}
theorem PD.mono{z':Int}(g:PD z ns ss)(h:z<=z'):PD z' ns ss:=
 ⟨g.few,g.root,g.asc,fun n hn=>by
  have k:=g.ok n hn;have:=k.mz;have:=k.qz;exact⟨k.data,k.path,k.up,k.c0,k.cm,k.cq,by omega,by omega,k.v0,k.v1,k.k0,k.kids,k.own⟩⟩
theorem PD.more{ss':List Int}(g:PD z ns ss)(h:∀n∈ns,n.o≠0->n.o∈ss->n.o∈ss'):PD z ns ss':=
 ⟨g.few,g.root,g.asc,fun n hn=>by
  have k:=g.ok n hn;refine⟨k.data,k.path,k.up,k.c0,k.cm,k.cq,k.mz,k.qz,k.v0,k.v1,k.k0,k.kids,?_⟩;rcases k.own with h'|⟨h1,h2⟩
  .exact .inl h'
  .by_cases h0:n.o=0
   .exact .inl h0
   .exact .inr ⟨h n hn h0 h1,h2⟩⟩
theorem AU5(g:PD z ns ss)(hn:n∈ns)(hp:n.p≠[47]):∃u,LQ ns (II n.p)=G5 u/\u∈ns/\u.p=II n.p/\u.p≠n.p/\u.o=0:=by
 obtain⟨u,hu,he⟩:=(g.ok n hn).up hp;have hne:u.p≠n.p:=by rw[he];exact(oZ (g.ok n hn).path hp).1
 refine⟨u,by rw[<-he];exact ZQ g.asc hu,hu,he,hne,?_⟩;rcases(g.ok u hu).own with h|⟨_,h⟩
 .exact h
 .exfalso;have h1:=(g.ok u hu).kids;have h2:0<NV ns u.p:=List.countP_pos_iff.2 ⟨n,hn,by simp[he]⟩;omega
theorem CF8(g:PD z ns ss)(hn:n∈ns)(h:n.o≠0):n.p≠[47]:=by
 intro e;obtain⟨r,rest,hr,hp,ho⟩:=g.root;have:n=r:=TY g.asc hn (by rw[hr];simp) (by rw[e,hp]);exact h (by rw[this];exact ho)
theorem BF0(g:PD z ns ss)(f:Nd->Nd)(hf:∀n,(f n).p=n.p)(hk:∀n∈ns,NOk z ns ss n->NOk z ns ss (f n)/\(n.p=[47]->(f n).o=n.o)):PD z (ns.map f) ss:=by
 have hp:(ns.map f).map Nd.p=ns.map Nd.p:=by rw[List.map_map];exact List.map_congr_left fun n _=>hf n
 have hkd:∀p,NV (ns.map f) p=NV ns p:=fun p=>by rw[PS,hp,<-PS]
 refine⟨by simpa using g.few,?_,by rw[OG,hp,<-OG];exact g.asc,?_⟩
 .obtain⟨r,rest,h,h1,h2⟩:=g.root;exact⟨f r,rest.map f,by rw[h];rfl,by rw[hf,h1],by rw[(hk r (by rw[h];simp) (g.ok r (by rw[h];simp))).2 h1,h2]⟩
 .intro n hn;obtain⟨m,hm,rfl⟩:=EW.1 hn;have k:=(hk m hm (g.ok m hm)).1;refine⟨k.data,k.path,fun h=>?_,k.c0,k.cm,k.cq,k.mz,k.qz,k.v0,k.v1,k.k0,by rw[hkd];exact k.kids,k.own⟩;obtain⟨u,hu,he⟩:=k.up h;exact⟨f u,EW.2 ⟨u,hu,rfl⟩,by rw[hf];exact he⟩
def rmN(z:Int)(ns:List Nd)(p:List UInt8):List Nd:=NZ (II p) z (-1) (yX ns p)
theorem AU6(g:PD z ns ss)(T:KG ns A n B p)(hk:n.n=0)(hp:p≠[47]):PD z (rmN z ns p) ss:=by
 have hn:n∈ns:=by rw[T.eq];simp
 have hnp:=T.nm;have hdrop:=T.drop;have iQ:(rmN z ns p).map Nd.p=(A++B).map Nd.p:=by rw[rmN,WA,hdrop]
 have hsub:(A++B).Sublist ns:=by rw[T.eq];exact(List.Sublist.refl A).append (List.sublist_cons_self n B)
 have CQ8:∀x,NV (rmN z ns p) x+(if II p=x then 1 else 0)=NV ns x:=by
  intro x;rw[PS,iQ,<-PS,T.eq];simp only[NV,List.countP_append,List.countP_cons,decide_eq_true_eq,hnp];omega
 have hno:∀m∈ns,II m.p≠p:=by
  intro m hm e;have h1:=(g.ok n hn).kids;have h2:0<NV ns n.p:=List.countP_pos_iff.2 ⟨m,hm,by simp[e,hnp]⟩;omega
 have hmem:∀m∈ns,m.p≠p->m∈A++B:=by
  intro m hm h;rw[<-hdrop,yX];exact EI.2 ⟨hm,by simpa using h⟩
 refine⟨?_,?_,?_,?_⟩
 .have h1:=g.few;have h2:(rmN z ns p).length=(A++B).length:=by have:=congrArg List.length iQ;simpa using this
  rw[T.eq]at h1;simp at h1 h2⊢;omega
 .obtain⟨r,rest,h,h1,h2⟩:=g.root
  cases A with
  |nil=>
   have:=T.eq;rw[h]at this
   cases this
   exact absurd (hnp.symm.trans h1) hp
  |cons a A'=>
   have:=T.eq;rw[h]at this
   cases this
   rw[rmN,hdrop,NZ];refine⟨_,_,List.map_cons,by rw[YC];exact h1,?_⟩
   split
   .exact h2
   .exact h2
 .rw[OG,iQ,<-OG];exact g.asc.sublist hsub
 .intro m' hm';rw[rmN,hdrop,NZ]at hm';obtain⟨m,hm,rfl⟩:=EW.1 hm';have hms:=hsub.mem hm;have k:=g.ok m hms;have hup:m.p≠[47]->∃u∈rmN z ns p,u.p=II m.p:=by
   intro h;obtain⟨u,hu,he⟩:=k.up h;have h1:=hmem u hu (by rw[he];exact hno m hms);exact⟨_,by rw[rmN,hdrop,NZ];exact EW.2 ⟨u,h1,rfl⟩,by rw[YC];exact he⟩
  have hkm:=CQ8 m.p;have:=k.kids;have:=k.c0;have:=k.cq;have:=k.qz;have:=k.k0
  split
  .rename_i e
   rw[if_pos e.symm]at hkm;refine⟨k.data,k.path,hup,k.c0,k.cm,?_,k.mz,?_,k.v0,k.v1,?_,?_,?_⟩
   .show m.c<=z;omega
   .exact Int.le_refl _
   .show 0<=m.k+1;omega
   .show m.n+ -1=_;show _=((NV (rmN z ns p) m.p:Nat):Int);omega
   .rcases k.own with h|⟨h1,h2⟩
    .exact .inl h
    .omega
  .rename_i e
   rw[if_neg (fun h=>e h.symm)]at hkm;exact⟨k.data,k.path,hup,k.c0,k.cm,k.cq,k.mz,k.qz,k.v0,k.v1,k.k0,by omega,k.own⟩
def tJ(z:Int)(ns:List Nd)(x:Nd):List Nd:=NZ (II x.p) z 1 (CQ7 ns x)
theorem A72{z:Int}{ns A B:List Nd}{ss:List Int}{x:Nd}(g:PD z ns ss)(G:mF ns A B x.p)(hl:ns.length<400)(hg:J4 x.p=true)(hp:x.p≠[47])(hu:∃u∈ns,u.p=II x.p/\u.o=0)
  (hd:x.d.length<=256) (hz:0<=z) (hc:x.c=z) (hm:x.m=z) (hq:x.q=z) (hv:x.v=0) (hk:x.k=0) (hn:x.n=0) (ho:x.o=0\/x.o∈ss):PD z (tJ z ns x) ss:=by
 have hins:=G.ins;have iQ:(tJ z ns x).map Nd.p=(A++x::B).map Nd.p:=by rw[tJ,WA,hins]
 have hmem:∀m∈ns,m∈A++x::B:=by
  intro m h;rw[G.eq]at h;rcases BZ.1 h with h|h<;>simp[h]
 have CQ8:∀y,NV (tJ z ns x) y=NV ns y+(if II x.p=y then 1 else 0):=by
  intro y;rw[PS,iQ,<-PS,G.eq];simp only[NV,List.countP_append,List.countP_cons,decide_eq_true_eq];omega
 have hno:NV ns x.p=0:=by
  apply List.countP_eq_zero.2
  intro m hm;simp only[decide_eq_true_eq];intro e;have k:=g.ok m hm;by_cases h:m.p=[47]
  .rw[h,TV]at e;rw[<-e,AU1]at hg
   cases hg
  .obtain⟨u,hu,he⟩:=k.up h;exact G.no u hu (he.trans e)
 obtain⟨r,rest,hr,hr1,hr2⟩:=g.root;refine⟨?_,?_,?_,?_⟩
 .have h2:(tJ z ns x).length=(A++x::B).length:=by have:=congrArg List.length iQ;simpa using this
  rw[G.eq]at hl;simp at hl h2⊢;omega
 .cases A with
  |nil=>
   exfalso;have hB:=G.eq;simp at hB;have h1:=G.hi r (by rw[<-hB,hr];simp);rw[hr1]at h1;obtain⟨s,hs⟩:=YQ hg;rw[hs]at h1 hp
   cases s with
   |nil=>exact hp rfl
   |cons c s=>simp[bl,Op.bytesLess]at h1
  |cons a A'=>
   have:=G.eq;rw[hr]at this
   cases this
   rw[tJ,hins,NZ];refine⟨_,_,List.map_cons,by rw[YC];exact hr1,?_⟩
   split
   .exact hr2
   .exact hr2
 .rw[OG,iQ,<-OG];have h:=g.asc;rw[G.eq]at h;unfold sF at h⊢;rw[DK]at h;rw[DK,List.pairwise_cons];refine⟨h.1,⟨G.hi,h.2.1⟩,fun a ha b hb=>?_⟩;rcases BP.1 hb with rfl|hb
  .exact G.lo a ha
  .exact h.2.2 a ha b hb
 .have hin:∀m∈A++x::B,(if m.p=II x.p then bump z 1 m else m)∈tJ z ns x:=fun m h=>by rw[tJ,hins,NZ];exact EW.2 ⟨m,h,rfl⟩
  intro m' hm';rw[tJ,hins,NZ]at hm';obtain⟨m,hm2,rfl⟩:=EW.1 hm';have hcase:m=x\/m∈ns:=by
   rcases BZ.1 hm2 with h|h
   .exact .inr (by rw[G.eq];simp[h])
   .rcases BP.1 h with h|h
    .exact .inl h
    .exact .inr (by rw[G.eq];simp[h])
  rcases hcase with rfl|hms
  .rw[if_neg (fun h=>(oZ hg hp).1 h.symm)];obtain⟨u,hu1,hu2,_⟩:=hu;have hkm:=CQ8 m.p;rw[if_neg (oZ hg hp).1,hno]at hkm;refine⟨hd,hg,fun _=>⟨_,hin u (hmem u hu1),by rw[YC];exact hu2⟩,by omega,by omega,by omega,by omega,by omega,by omega,by omega,by omega,by omega,?_⟩;rcases ho with h|h
   .exact .inl h
   .exact .inr ⟨h,hn⟩
  .have k:=g.ok m hms;have hup:m.p≠[47]->∃u∈tJ z ns x,u.p=II m.p:=fun h=>by
    obtain⟨u,hu,he⟩:=k.up h;exact⟨_,hin u (hmem u hu),by rw[YC];exact he⟩
   have hkm:=CQ8 m.p;have:=k.kids;have:=k.cq;have:=k.qz;have:=k.k0
   split
   .rename_i e
    rw[if_pos e.symm]at hkm;refine⟨k.data,k.path,hup,k.c0,k.cm,?_,k.mz,Int.le_refl _,k.v0,k.v1,?_,?_,?_⟩
    .show m.c<=z;omega
    .show 0<=m.k+1;omega
    .show m.n+1=((NV (tJ z ns x) m.p:Nat):Int);omega
    .obtain⟨u,hu1,hu2,hu3⟩:=hu;have:m=u:=TY g.asc hms hu1 (by rw[e,hu2]);exact .inl (by rw[this];exact hu3)
   .rename_i e
    rw[if_neg (fun h=>e h.symm)]at hkm;exact⟨k.data,k.path,hup,k.c0,k.cm,k.cq,k.mz,k.qz,k.v0,k.v1,k.k0,by omega,k.own⟩
theorem BF1(g:PD z ns ss)(p d:List UInt8)(v:Int)(hd:d.length<=256)(hv:0<=v/\v<=2147483647)(hz:∀n∈ns,n.c<=z):PD z (AU3 p d v z ns) ss:=by
 refine BF0 g _ (fun n=>by split<;>rfl) (fun n hn k=>?_)
 split
 .exact⟨⟨hd,k.path,k.up,k.c0,hz n hn,k.cq,Int.le_refl _,k.qz,hv.1,hv.2,k.k0,k.kids,k.own⟩,fun _=>rfl⟩
 .exact⟨k,fun _=>rfl⟩
def OH(ns:List Nd)(s:Int):List (List UInt8):=(ns.filter fun n=>decide (n.o=s)).map Nd.p
def QS(z:Int)(ns:List Nd)(ps:List (List UInt8)):List Nd:=ps.foldl (rmN z) ns
def AU7(ps:List (List UInt8)):List Ev:=ps.flatMap fun p=>[⟨2,p⟩,⟨4,II p⟩]
def Y6(ns:List Nd):Bool:=ns.any fun n=>decide (2147483647<n.k)
def A73(x:GK):Nd:=⟨x.p,x.d,x.z,x.z,x.z,0,0,x.w,0⟩
noncomputable def VO(t:Tr)(x:GK):Int:=
 if TW t=false then 3 else if gdE x≠0 then gdE x else if x.z<=t.z then 13 else if x.o=1/\x.s∈t.ss then 8 else if x.o≠1/\x.s∉t.ss then 12 else 0
def AG5(t:Tr)(x:GK):Int:=if(LQ t.ns x.p).isSome=true then 8 else(match LQ t.ns (II x.p)with
 |none=>7
 |some u=>if u.o≠0 then 11 else if x.w≠0/\x.w≠x.s then 12 else if t.ns.length=400 then 6 else 0)
def BF2(t:Tr)(x:GK):Int:=match LQ t.ns x.p with
 |none=>7
 |some n=>if n.n≠0 then 10 else 0
def CE1(t:Tr)(x:GK):Int:=match LQ t.ns x.p with
 |none=>7
 |some n=>if x.v≠n.v+1 then 9 else 0
def l9(t:Tr)(x:GK):Int:=if x.o=3 then AG5 t x else if x.o=4 then BF2 t x else if x.o=5 then CE1 t x else 0
def fF(t:Tr)(x:GK):List Nd:=if x.o=2 then QS x.z t.ns (OH t.ns x.s)else if x.o=3 then tJ x.z t.ns (A73 x)else if x.o=4 then rmN x.z t.ns x.p else if x.o=5 then AU3 x.p x.d x.v x.z t.ns else t.ns
def pG(t:Tr)(x:GK):List Int:=if x.o=1 then BZ7 t.ss x.s else if x.o=2 then AG4 t.ss x.s else t.ss
def pI(t:Tr)(x:GK):List Ev:=if x.o=2 then AU7 (OH t.ns x.s)else if x.o=3 then [⟨1,x.p⟩,⟨4,II x.p⟩]else if x.o=4 then [⟨2,x.p⟩,⟨4,II x.p⟩]else if x.o=5 then [⟨3,x.p⟩]else []
noncomputable def Y7(t:Tr)(x:GK):Int:=if VO t x≠0 then VO t x else if l9 t x≠0 then l9 t x else if Y6 (fF t x)=true then 6 else 0
noncomputable def iR(t:Tr)(x:GK):Tr:=if Y7 t x=0 then⟨x.z,fF t x,pG t x⟩else tr0
noncomputable def YD(t:Tr)(x:GK):List Ev:=if Y7 t x=0 then pI t x else []
theorem OC:Y6 ns=false↔∀n∈ns,n.k<=2147483647:=by
 rw[Y6,List.any_eq_false];constructor
 .intro h n hn;have:=h n hn;simp at this;omega
 .intro h n hn;have:=h n hn;simp;omega
theorem mJ:Y6 ns=true↔∃n∈ns,2147483647<n.k:=by
 rw[Y6,List.any_eq_true];constructor
 .rintro⟨n,hn,h⟩;exact⟨n,hn,by simpa using h⟩
 .rintro⟨n,hn,h⟩;exact⟨n,hn,by simpa using h⟩
structure CF9(s:Int)(cur:List Nd)(ps:List (List UInt8)):Prop where
 s0:s≠0
 nd:ps.Nodup
 there:∀p∈ps,∃n∈cur,n.p=p/\n.o=s
theorem BV2(h:n∈rmN z ns p):∃m∈ns,m.p≠p/\n=(if m.p=II p then bump z (-1) m else m):=by
 rw[rmN,NZ]at h;obtain⟨m,hm,rfl⟩:=EW.1 h;rw[yX]at hm;obtain⟨h1,h2⟩:=EI.1 hm;exact⟨m,h1,by simpa using h2,rfl⟩
theorem AU8{m:Nd}(h:m∈ns)(hp:m.p≠p):(if m.p=II p then bump z (-1) m else m)∈rmN z ns p:=by
 rw[rmN,NZ];exact EW.2 ⟨m,by rw[yX];exact EI.2 ⟨h,by simpa using hp⟩,rfl⟩
theorem AU9(q:List UInt8)(z more:Int)(n:Nd):(if n.p=q then bump z more n else n).o=n.o:=by split<;>rfl
theorem BV3(q:List UInt8)(z more:Int)(n:Nd):(if n.p=q then bump z more n else n).d=n.d:=by split<;>rfl
theorem BV4(q:List UInt8)(z more:Int)(n:Nd):(if n.p=q then bump z more n else n).v=n.v:=by split<;>rfl
theorem CG1(q:List UInt8)(z more:Int)(n:Nd):n.k<=(if n.p=q then bump z more n else n).k:=by
 split
 .show n.k<=n.k+1;omega
 .exact Int.le_refl _
theorem tK{cur:List Nd}(g:PD z cur ss)(R:CF9 s cur (p::ps)):
  ∃A n B u,KG cur A n B p/\n.o=s/\n.n=0/\p≠[47]/\J4 p=true/\LQ cur (II p)=G5 u/\u∈cur/\u.p=II p/\u.p≠p/\u.o=0/\u.p∉ps/\PD z (rmN z cur p) ss/\CF9 s (rmN z cur p) ps:=by
 obtain⟨n,hn,rfl,ho⟩:=R.there p (by simp);obtain⟨A,B,T⟩:=RD g.asc (ZQ g.asc hn);have h0:n.o≠0:=by rw[ho];exact R.s0
 have hk:n.n=0:=by
  rcases(g.ok n hn).own with h|⟨_,h⟩
  .exact absurd h h0
  .exact h
 have hr:=CF8 g hn h0;obtain⟨u,hu1,hu2,hu3,hu4,hu5⟩:=AU5 g hn hr;refine⟨A,n,B,u,T,ho,hk,hr,(g.ok n hn).path,hu1,hu2,hu3,hu4,hu5,?_,AU6 g T hk hr,R.s0,(List.nodup_cons.1 R.nd).2,?_⟩
 .intro hm;obtain⟨m,hm1,hm2,hm3⟩:=R.there u.p (by simp[hm]);have:m=u:=TY g.asc hm1 hu2 hm2;rw[this,hu5]at hm3;exact R.s0 hm3.symm
 .intro q hq;obtain⟨m,hm1,hm2,hm3⟩:=R.there q (by simp[hq]);have hne:m.p≠n.p:=by
   rw[hm2];rintro rfl;exact(List.nodup_cons.1 R.nd).1 hq
  exact⟨_,AU8 hm1 hne,by rw[YC];exact hm2,by rw[AU9];exact hm3⟩
theorem mM(g:PD z ns ss)(h:s≠0):CF9 s ns (OH ns s):=by
 refine⟨h,?_,fun p hp=>?_⟩
 .have h1:(ns.filter fun n=>decide (n.o=s)).Pairwise fun a b=>bl a.p b.p=true:=g.asc.filter _;rw[List.Nodup,OH,List.pairwise_map];exact h1.imp fun h=>VW h
 .obtain⟨n,hn,rfl⟩:=EW.1 hp;obtain⟨h1,h2⟩:=EI.1 hn;exact⟨n,h1,rfl,by simpa using h2⟩
theorem mO:∀ (ps:List (List UInt8)) (cur:List Nd),PD z cur ss->CF9 s cur ps->PD z (QS z cur ps) ss
 |[],_,g,_=>g
 |p::ps,cur,g,R=>by
  obtain⟨_,_,_,_,_,_,_,_,_,_,_,_,_,_,_,g',R'⟩:=tK g R;exact mO ps (rmN z cur p) g' R'
theorem tN:∀ (ps:List (List UInt8)) (cur:List Nd) (n:Nd),n∈QS z cur ps->∃m∈cur,m.p=n.p/\m.o=n.o/\m.d=n.d/\m.v=n.v/\m.p∉ps
 |[],cur,n,h=>⟨n,h,rfl,rfl,rfl,rfl,by simp⟩
 |p::ps,cur,n,h=>by
  obtain⟨m,h1,h2,h3,h4,h5,h6⟩:=tN ps (rmN z cur p) n h;obtain⟨m',h1',hne,rfl⟩:=BV2 h1;rw[YC]at h2 h6;rw[AU9]at h3;rw[BV3]at h4;rw[BV4]at h5;exact⟨m',h1',h2,h3,h4,h5,by simp[hne,h6]⟩
theorem tV:∀ (ps:List (List UInt8)) (cur:List Nd) (m:Nd),m∈cur->m.p∉ps->∃n∈QS z cur ps,n.p=m.p/\n.o=m.o/\n.d=m.d/\n.v=m.v/\m.k<=n.k
 |[],_,m,h,_=>⟨m,h,rfl,rfl,rfl,rfl,Int.le_refl _⟩
 |p::ps,cur,m,h,hp=>by
  simp only[BP,not_or]at hp;have h':=AU8 (z:=z) h hp.1;obtain⟨n,h1,h2,h3,h4,h5,h6⟩:=tV ps (rmN z cur p) _ h' (by rw[YC];exact hp.2);exact⟨n,h1,by rw[h2,YC],by rw[h3,AU9],by rw[h4,BV3],by rw[h5,BV4],Int.le_trans (CG1 _ _ _ _) h6⟩
theorem AG6(ps:List (List UInt8))(cur:List Nd)(h:∃u∈cur,u.p∉ps/\2147483647<u.k):Y6 (QS z cur ps)=true:=by
 obtain⟨u,h1,h2,h3⟩:=h;obtain⟨n,hn,_,_,_,_,hk⟩:=tV (z:=z) ps cur u h1 h2;exact mJ.2 ⟨n,hn,by omega⟩
theorem BV5(ha:sF ns)(hu:u∈ns)(hp:u.p=II p)(hk:u.k<2147483647)(h:∀n∈ns,n.k<=2147483647):∀n∈rmN z ns p,n.k<=2147483647:=by
 intro n hn;obtain⟨m,hm,_,rfl⟩:=BV2 hn
 split
 .rename_i e
  have:m=u:=TY ha hm hu (by rw[e,hp]);subst this;show m.k+1<=_;omega
 .exact h m hm
theorem AV0(hu:u∈ns)(hp:u.p=II p)(hne:u.p≠p)(hk:u.k=2147483647)(ps:List (List UInt8))(hps:u.p∉ps):Y6 (QS z (rmN z ns p) ps)=true:=
 AG6 ps _ ⟨bump z (-1) u,by have:=AU8 (z:=z) hu hne;rwa[if_pos hp]at this,hps,by show 2147483647<u.k+1;omega⟩
theorem yY(z:Int)(ns:List Nd)(ps:List (List UInt8))(k:Nat):QS z ns ps=QS z (QS z ns (ps.take k)) (ps.drop k):=by
 rw[QS,QS,QS,<-List.foldl_append,List.take_append_drop]
theorem AG7(z:Int)(ns:List Nd){k:Nat}(h:ps[k]?=G5 p):QS z ns (ps.take (k+1))=rmN z (QS z ns (ps.take k)) p:=by
 rw[QS,List.take_add_one,h,List.foldl_append];rfl
theorem AV1{k:Nat}(h:ps[k]?=G5 p):AU7 (ps.take (k+1))=AU7 (ps.take k)++[⟨2,p⟩,⟨4,II p⟩]:=by
 rw[AU7,List.take_add_one,h,List.flatMap_append];rfl
theorem A74(ps:List (List UInt8)):(AU7 ps).length=2*ps.length:=by
 induction ps with
 |nil=>rfl
 |cons p ps ih=>
  rw[AU7]at ih;simp only[AU7,List.flatMap_cons,AO,BG,EU,ih];omega
theorem WC(p:List UInt8):(II p).length<=200:=by
 cases hgb:J4 p with
 |false=>rw[ZP hgb];simp
 |true=>
  by_cases hr:p=[47]
  .rw[hr,TV];simp
  .obtain⟨a,c,he,hc⟩:=ZN hgb;have:=MP hgb;rw[he]at hgb hr this⊢;rw[ZO hgb hr hc,CF6]
   split
   .simp
   .simp at this;omega
theorem mP{cur:List Nd}{q:List UInt8}(ha:sF cur)(T:KG cur A n B p)(hu:u∈cur)(hq:u.p=q)(hne:u.p≠p):∃A' B',KG (A++B) A' u B' q:=by
 have hm:u∈A++B:=by rw[<-T.drop,yX];exact EI.2 ⟨hu,by simpa using hne⟩
 have hs:sF (A++B):=ha.sublist (by rw[T.eq];exact(List.Sublist.refl A).append (List.sublist_cons_self n B));rw[<-hq];exact RD hs (ZQ hs hm)
theorem PZ{x:GK}(h:VO t x=0):QZ t/\gdE x=0/\t.z<x.z/\(x.o=1->x.s∉t.ss)/\(x.o≠1->x.s∈t.ss):=by
 unfold VO at h
 split at h
 .omega
 .rename_i h1
  split at h
  .omega
  .rename_i h2
   split at h
   .omega
   .rename_i h3
    split at h
    .omega
    .rename_i h4
     split at h
     .omega
     .rename_i h5
      refine⟨RV.1 (by simpa using h1),by omega,by omega,fun e hm=>h4 ⟨e,hm⟩,fun e=>?_⟩;by_cases hm:x.s∈t.ss
      .exact hm
      .exact absurd ⟨e,hm⟩ h5
theorem pJ{x:GK}(h:Y7 t x=0):VO t x=0/\l9 t x=0/\Y6 (fF t x)=false:=by
 unfold Y7 at h
 split at h
 .rename_i h1;exact absurd h h1
 .rename_i h1
  split at h
  .rename_i h2;exact absurd h h2
  .rename_i h2
   split at h
   .omega
   .rename_i h3;exact⟨by omega,by omega,by simpa using h3⟩
theorem BF3{x:GK}(h:AG5 t x=0):LQ t.ns x.p=FZ/\(∃u,LQ t.ns (II x.p)=G5 u/\u.o=0)/\(x.w=0\/x.w=x.s)/\t.ns.length≠400:=by
 unfold AG5 at h
 split at h
 .omega
 .rename_i h1
  split at h
  .omega
  .rename_i u hu
   split at h
   .omega
   .rename_i h2
    split at h
    .omega
    .rename_i h3
     split at h
     .omega
     .rename_i h4
      refine⟨by simpa using h1,⟨u,hu,by omega⟩,?_,h4⟩;by_cases e:x.w=0
      .exact .inl e
      .by_cases e':x.w=x.s
       .exact .inr e'
       .exact absurd ⟨e,e'⟩ h3
theorem BF4{x:GK}(h:BF2 t x=0):∃n,LQ t.ns x.p=G5 n/\n.n=0:=by
 unfold BF2 at h
 split at h
 .omega
 .rename_i n hn
  split at h
  .omega
  .exact⟨n,hn,by omega⟩
structure Fine(x:GK):Prop where
 op:1<=x.o/\x.o<=5
 z:0<=x.z/\KL x.z=true
 s:1<=x.s/\x.s<=2147483647
 v:0<=x.v/\x.v<=2147483647
 w:0<=x.w/\x.w<=2147483647
 d:x.d.length<=256
 path:x.o=3\/x.o=4->J4 x.p=true/\x.p≠[47]
 CS5:x.o=5->J4 x.p=true
 data:x.o≠3->x.o≠5->x.d=[]
theorem YS{x:GK}(h:gdE x=0):Fine x:=by
 obtain⟨h1,h2,h3,h4⟩:=fO h;obtain⟨n1,n2,n3,n4⟩:=oU.1 h2;have o:=iL.1 h1;have z:=n1;simp only[KL,Bool.and_eq_true,decide_eq_true_eq]at z;refine⟨o,⟨z.1,n1⟩,UH.1 n2,UH.1 n3,UH.1 n4,h3,?_,?_,?_⟩
 .rintro(e|e)
  .simp[fmB,e]at h4;exact⟨h4.1.1,h4.1.2⟩
  .simp[fmB,e]at h4;exact⟨h4.1.1.1.1,h4.1.1.1.2⟩
 .intro e;simp[fmB,e]at h4;exact h4.1
 .intro e3 e5;by_cases e4:x.o=4
  .simp[fmB,e4]at h4;exact h4.1.1.2
  .simp[fmB,e3,e4,e5]at h4;exact h4.1.1.2
theorem ZT{x:GK}(h:Y7 t x=0):QZ (iR t x)/\(iR t x).z=x.z/\t.z<x.z:=by
 obtain⟨ha,hc,hf⟩:=pJ h;obtain⟨g,hg,hz,h1,h2⟩:=PZ ha;have f:=YS hg;have hs:=g.ses;have gn:PD x.z t.ns t.ss:=g.nod.mono (by omega);rw[iR,if_pos h];refine⟨⟨f.z.2,?_,?_,OC.1 hf⟩,rfl,hz⟩
 .show pF (pG t x);rw[pG]
  split
  .rename_i e;exact A71 hs f.s (h1 e)
  .split
   .exact AU4 _ hs
   .exact hs
 .show PD x.z (fF t x) (pG t x);rw[fF,pG];by_cases e1:x.o=1
  .rw[if_neg (by omega),if_neg (by omega),if_neg (by omega),if_neg (by omega),if_pos e1];exact gn.more (fun n _ _ h=>BE9 h)
  .rw[if_neg e1];have hm:=h2 e1;by_cases e2:x.o=2
   .rw[if_pos e2,if_pos e2];have R:=mM gn (s:=x.s) (by have:=f.s;omega);refine(mO _ _ gn R).more (fun n hn h0 hi=>?_);rw[AG4];refine EI.2 ⟨hi,?_⟩;simp only[decide_eq_true_eq];intro e;obtain⟨m,hm1,hm2,hm3,_,_,hm4⟩:=tN _ _ n hn
    apply hm4
    rw[OH];exact EW.2 ⟨m,EI.2 ⟨hm1,by simp only[decide_eq_true_eq];rw[hm3,e]⟩,rfl⟩
   .rw[if_neg e2,if_neg e2];by_cases e3:x.o=3
    .rw[if_pos e3];rw[l9,if_pos e3]at hc;obtain⟨c1,⟨u,c2,c3⟩,c4,c5⟩:=BF3 hc;obtain⟨A,B,G⟩:=yV g.nod.asc c1;obtain⟨p1,p2⟩:=f.path (.inl e3);have hu:=XK c2;refine A72 (x:=A73 x) gn G (by have:=g.nod.few;omega) p1 p2 ⟨u,hu.1,hu.2,c3⟩ f.d f.z.1 rfl rfl rfl rfl rfl rfl ?_;rcases c4 with c|c
     .exact .inl c
     .exact .inr (by show x.w∈t.ss;rw[c];exact hm)
    .rw[if_neg e3];by_cases e4:x.o=4
     .rw[if_pos e4];rw[l9,if_neg e3,if_pos e4]at hc;obtain⟨n,c1,c2⟩:=BF4 hc;obtain⟨A,B,T⟩:=RD g.nod.asc c1;exact AU6 gn T c2 (f.path (.inr e4)).2
     .rw[if_neg e4];by_cases e5:x.o=5
      .rw[if_pos e5];exact BF1 gn x.p x.d x.v f.d f.v (fun n hn=>by have k:=g.nod.ok n hn;have:=k.cm;have:=k.mz;omega)
      .have:=f.op;omega
def MG(n:Nd):List FW:=[S0 n.p,S0 n.d,I0 n.c,I0 n.m,I0 n.q,I0 n.v,I0 n.k,I0 n.o,I0 n.n]
def C11(n:Nd):FW:=.agg #[I0 n.c,I0 n.m,I0 n.q,I0 n.v,I0 n.k,I0 n.o,I0 n.n]
def TM(n:Nd):FW:=.agg #[S0 n.p,S0 n.d,I0 n.c,I0 n.m,I0 n.q,I0 n.v,I0 n.k,I0 n.o,I0 n.n]
instance layN:Lay Nd:=⟨9,MG,67,fun _=>rfl,fun x u hu=>by simp[MG]at hu;rcases hu with rfl|rfl|rfl|rfl|rfl|rfl|rfl|rfl|rfl<;>rfl⟩
theorem IC.nd(h:IC w b off (GH xs))(hi:xs[i]?=G5 x)(c:Nat)(hc:c<9):∀v,(MG x)[c]?=G5 v->w.cell? ⟨b,off+i*9+c,FZ⟩=G5 v:=fun v hv=>by
 rw[Nat.add_assoc];exact h (i*9+c) v ((GV xs i x hi c hc).trans hv)
theorem IC.n0(h:IC w b off (GH xs))(hi:xs[i]?=G5 x):w.cell? ⟨b,off+i*9,FZ⟩=G5 (S0 x.p):=h.nd hi 0 (by omega) _ rfl
theorem IC.n1(h:IC w b off (GH xs))(hi:xs[i]?=G5 x):w.cell? ⟨b,off+i*9+1,FZ⟩=G5 (S0 x.d):=h.nd hi 1 (by omega) _ rfl
theorem IC.n2(h:IC w b off (GH xs))(hi:xs[i]?=G5 x):w.cell? ⟨b,off+i*9+2,FZ⟩=G5 (I0 x.c):=h.nd hi 2 (by omega) _ rfl
theorem IC.n3(h:IC w b off (GH xs))(hi:xs[i]?=G5 x):w.cell? ⟨b,off+i*9+3,FZ⟩=G5 (I0 x.m):=h.nd hi 3 (by omega) _ rfl
theorem IC.n4(h:IC w b off (GH xs))(hi:xs[i]?=G5 x):w.cell? ⟨b,off+i*9+4,FZ⟩=G5 (I0 x.q):=h.nd hi 4 (by omega) _ rfl
theorem IC.n5(h:IC w b off (GH xs))(hi:xs[i]?=G5 x):w.cell? ⟨b,off+i*9+5,FZ⟩=G5 (I0 x.v):=h.nd hi 5 (by omega) _ rfl
theorem IC.n6(h:IC w b off (GH xs))(hi:xs[i]?=G5 x):w.cell? ⟨b,off+i*9+6,FZ⟩=G5 (I0 x.k):=h.nd hi 6 (by omega) _ rfl
theorem IC.n7(h:IC w b off (GH xs))(hi:xs[i]?=G5 x):w.cell? ⟨b,off+i*9+7,FZ⟩=G5 (I0 x.o):=h.nd hi 7 (by omega) _ rfl
theorem IC.n8(h:IC w b off (GH xs))(hi:xs[i]?=G5 x):w.cell? ⟨b,off+i*9+8,FZ⟩=G5 (I0 x.n):=h.nd hi 8 (by omega) _ rfl
theorem ND(p:List UInt8)(w:FV):
  FX prog 196 #[S0 p] w fun e w'=>
   e=.returned (.tuple #[S0 (II p),S0 (NQ p),I0 (AR2 p)])/\B0 w w':=by
 cases hg:J4 p with
 |false=>
  rw[ZP hg,AG3 hg,A69 hg];exact AV7 p w hg
 |true=>
  by_cases hr:p=[47]
  .subst hr;rw[TV,yU,sZ];exact AH5 w
  .obtain⟨a,b,rfl,hb⟩:=ZN hg;rw[ZO hg hr hb,AG2 hg hr hb,AU2 hg hr];exact AH4 a b w hb hg hr
theorem A90(n:Nd)(p:List UInt8)(w:FV):
  FX prog 132 #[TM n,S0 p] w (R0 w (I0 (ER n.p p))):=by
 unfold TM;go_enter func132,ntmps132;go_wp2_with fail;refine(strings_Compare _ _ _).mono ?_;rintro e w1 ⟨rfl,rfl⟩;go_wp2_with fail;go_ret;exact⟨rfl,G8 _ _⟩
def qB(R:List Nd)(p:List UInt8):Bool:=match R with
 |[]=>false
 |f::_=>decide (f.p=p)
theorem AJ3(A R:List Nd)(p:List UInt8)(lo:∀a∈A,bl a.p p=true)(hi:∀a∈R,bl a.p p=false)(i:Nat)(h:i<A.length+R.length):∃y,(A++R)[i]?=G5 y/\bl y.p p=decide (i<A.length):=by
 by_cases h1:i<A.length
 .refine⟨A[i],by rw[BK h1,AL h1],?_⟩;rw[lo _ (List.getElem_mem h1)];simp[h1]
 .have h2:i-A.length<R.length:=by omega
  refine⟨R[i-A.length],by rw[BA (by omega),AL h2],?_⟩;rw[hi _ (List.getElem_mem h2)];simp[h1]
theorem BH9(b off cap:Nat)(A R:List Nd)(p:List UInt8)(w:FV)(hcap:A.length+R.length<=100000)(hb:b<w.heap.size)(h:IC w b off (GH (A++R)))
  (lo:∀a∈A,bl a.p p=true) (hi:∀a∈R,bl a.p p=false):
  FX prog 131 #[FT (G5 ⟨b,off,FZ⟩) (A.length+R.length) cap,S0 p,.func (.func 132) #[] #[]] w fun e w'=>
   e=.returned (.tuple #[I0 A.length,.bool (qB R p)])/\B0 w w':=by
 have H:=G7 h;have SG:=G7 (AJ3 A R p lo hi);obtain⟨fin,hfin⟩:∃x,qB R p=x:=⟨_,rfl⟩;have HF:=G7 hfin;rw[hfin];clear h hfin lo hi;go_enter func131,ntmps131;go_wp2_with fail
 go_loopg [9,10] (A.length+R.length) (fun kx s9 s10 wr=>∃lo hi:Nat,s9=I0 lo/\s10=I0 hi/\lo<=A.length/\A.length<=hi/\hi<=A.length+R.length/\hi-lo<=kx/\Hid (B0 w wr))
 case atStart=>exact⟨0,A.length+R.length,rfl,rfl,AY _,by omega,A8 _,by omega,G7 (Below.refl _ _)⟩
 case round=>
  obtain⟨lo,hi,rfl,rfl,h1,h2,h3,hg,hB⟩:=hrel;by_cases hlt:lo<hi
  .obtain⟨y,hy,hyn⟩:=G6 SG ((lo+hi)/2) (by omega);have HY:=G7 hyn;have r:=(G6 H).kept (G6 hB) hb;have e0:=r.n0 hy;have e1:=r.n1 hy;have e2:=r.n2 hy;have e3:=r.n3 hy;have e4:=r.n4 hy;have e5:=r.n5 hy;have e6:=r.n6 hy;have e7:=r.n7 hy;have e8:=r.n8 hy;clear hyn hy r;have hc:=A65 y.p p;rw[G6 HY]at hc;have CM:=fun W=>A90 y p W;generalize ER y.p p=cv at hc CM;by_cases hm:(lo+hi)/2<A.length
   .have hn:cv<0:=by simpa [hm]using hc
    clear hc;go_wp2_with fail;refine(CM _).mono ?_;rintro e w1 ⟨rfl,hb1⟩;have hB2:B0 w w1:=(G6 hB).trans (hb1.mono (G6 hB).size);clear CM;go_wp2_with fail
    go_roundg (hi-((lo+hi)/2+1))
    case measure=>omega
    case rel=>exact⟨(lo+hi)/2+1,hi,by rw[show ((lo:Int)+(hi:Int))/2+1=(((lo+hi)/2+1:Nat):Int) by omega],rfl,by omega,h2,h3,A8 _,G7 hB2⟩
   .have hn:¬cv<0:=by simpa [hm]using hc
    clear hc;go_wp2_with fail;refine(CM _).mono ?_;rintro e w1 ⟨rfl,hb1⟩;have hB2:B0 w w1:=(G6 hB).trans (hb1.mono (G6 hB).size);clear CM;go_wp2_with fail
    go_roundg ((lo+hi)/2-lo)
    case measure=>omega
    case rel=>exact⟨lo,(lo+hi)/2,rfl,by rw[show ((lo:Int)+(hi:Int))/2=(((lo+hi)/2:Nat):Int) by omega],h1,by omega,by omega,A8 _,G7 hB2⟩
  .obtain rfl:lo=A.length:=by omega
   obtain rfl:hi=A.length:=by omega
   cases R with
   |nil=>
    go_wp2_with fail
    go_ret2
    exact⟨by rw[<-G6 HF];rfl,G6 hB⟩
   |cons f R=>
    have r:=(G6 H).kept (G6 hB) hb;have hy:(A++f::R)[A.length]?=G5 f:=by simp
    have e0:=r.n0 hy;have e1:=r.n1 hy;have e2:=r.n2 hy;have e3:=r.n3 hy;have e4:=r.n4 hy;have e5:=r.n5 hy;have e6:=r.n6 hy;have e7:=r.n7 hy;have e8:=r.n8 hy;clear hy r;have hc:=fP f.p p;have CM:=fun W=>A90 f p W;have hf:fin=decide (f.p=p):=(G6 HF).symm;rw[<-hc]at hf;clear hc HF;generalize ER f.p p=cv at hf CM;subst hf;simp only[BG];go_wp2_with fail;refine(CM _).mono ?_;rintro e w1 ⟨rfl,hb1⟩;have hB2:B0 w w1:=(G6 hB).trans (hb1.mono (G6 hB).size);clear CM;go_wp2_with fail
    go_ret2
    exact⟨by rfl,hB2⟩
theorem AY9(a:Option Addr)(cap:Nat)(p:List UInt8)(w:FV):
  FX prog 131 #[FT a 0 cap,S0 p,.func (.func 132) #[] #[]] w fun e w'=>
   e=.returned (.tuple #[I0 0,.bool false])/\B0 w w':=by
 go_enter func131,ntmps131;go_wp2_with fail
 go_loopg [9,10] 1 (fun _ s9 s10 wr=>s9=I0 0/\s10=I0 0/\Hid (B0 w wr))
 case atStart=>exact⟨rfl,rfl,G7 (Below.refl _ _)⟩
 case round=>
  obtain⟨rfl,rfl,hB⟩:=hrel;go_wp2_with fail
  go_ret2
  exact⟨rfl,G6 hB⟩
theorem jJ(v:FW)(ns A R:List Nd)(p:List UInt8)(w:FV)(hv:IE w v ns)(hl:ns.length<=100000)(he:ns=A++R)(lo:∀a∈A,bl a.p p=true)(hi:∀a∈R,bl a.p p=false):
  FX prog 87 #[v,S0 p] w (R0 w (.tuple #[I0 A.length,.bool (qB R p)])):=by
 have C:∀W:FV,B0 w W->FX prog 131 #[v,S0 p,.func (.func 132) #[] #[]] W fun e w'=>
   e=.returned (.tuple #[I0 A.length,.bool (qB R p)])/\B0 W w':=fun W hW=>by
  rcases hv with⟨a,cap,rfl,h0,_⟩|⟨b,off,cap,rfl,_,_,hb,_,hr⟩
  .rw[h0]at he;obtain⟨rfl,rfl⟩:A=[]/\R=[]:=by
    have:=congrArg List.length he;simp at this;exact⟨BU (by omega),BU (by omega)⟩
   exact AY9 a cap p W
  .subst he;rw[AO];exact BH9 b off cap A R p W (by simpa using hl) (Nat.lt_of_lt_of_le hb hW.size) (hr.kept hW hb) lo hi
 have C':=G7 C;obtain⟨a,c,rfl⟩:=GL hv;clear C hv hl he lo hi;generalize qB R p=hd at C'⊢;go_enter func87,ntmps87;go_wp2_with fail;refine(G6 C' _ (Below.refl _ _)).mono ?_;rintro e w1 ⟨rfl,hb1⟩;go_wp2_with fail
 go_ret2
 exact⟨rfl,hb1⟩
theorem JR(v:FW)(ns A B:List Nd)(f:Nd)(p:List UInt8)(w:FV)(hv:IE w v ns)(hl:ns.length<=100000)(T:KG ns A f B p):
  FX prog 87 #[v,S0 p] w (R0 w (.tuple #[I0 A.length,.bool true])):=by
 have:=jJ v ns A (f::B) p w hv hl T.eq T.lo (fun a ha=>by
  rcases BP.1 ha with rfl|h
  .rw[T.nm];exact QF _
  .exact OB (T.hi a h))
 rwa[show qB (f::B) p=true from by simp[qB,T.nm]]at this
theorem NG(v:FW)(ns A B:List Nd)(p:List UInt8)(w:FV)(hv:IE w v ns)(hl:ns.length<=100000)(G:mF ns A B p):
  FX prog 87 #[v,S0 p] w (R0 w (.tuple #[I0 A.length,.bool false])):=by
 have:=jJ v ns A B p w hv hl G.eq G.lo (fun a ha=>OB (G.hi a ha));rwa[show qB B p=false from by
  cases B with
  |nil=>rfl
  |cons f B=>have:=VW (G.hi f (by simp));simp[qB,this.symm]]at this
theorem uV(v:FW)(ns:List Nd)(p:List UInt8)(w:FV)(hv:IE w v ns)(hl:ns.length<=100000)(ha:sF ns):
  ∃i:Nat,i<=ns.length/\FX prog 87 #[v,S0 p] w (R0 w (.tuple #[I0 i,.bool (LQ ns p).isSome])):=by
 rcases YB p ns ha with⟨A,n,B,T⟩|⟨A,B,G⟩
 .rw[T.look];exact⟨A.length,by rw[T.eq];simp,JR v ns A B n p w hv hl T⟩
 .rw[G.look];exact⟨A.length,by rw[G.eq];simp,NG v ns A B p w hv hl G⟩
theorem BI0(x:Int)(w:FV):FX prog 213 #[I0 x] w fun e w'=>e=.returned (.bool false)/\w'=w:=by
 go_enter func213,ntmps213
 go_wp2
 go_ret;exact⟨rfl,rfl⟩
theorem BI1(x:Int)(w:FV):FX prog 245 #[I0 x] w fun e w'=>e=.returned (.bool false)/\w'=w:=by
 go_enter func245,ntmps245
 go_wp2
 go_ret;exact⟨rfl,rfl⟩
theorem AZ0(x y:Int)(w:FV):FX prog 244 #[I0 x,I0 y] w fun e w'=>e=.returned (.bool (decide (x<y)))/\w'=w:=by
 go_enter func244,ntmps244;go_wp2_with fail;refine(BI0 _ _).mono ?_;rintro e w1 ⟨rfl,rfl⟩;go_wp2_with fail;go_ret;exact⟨rfl,rfl⟩
def AJ4(R:List Int)(s:Int):Bool:=match R with
 |[]=>false
 |f::_=>decide (f=s)
theorem AJ5(A R:List Int)(s:Int)(lo:∀a∈A,a<s)(hi:∀a∈R,¬a<s)(i:Nat)(h:i<A.length+R.length):∃y,(A++R)[i]?=G5 y/\decide (y<s)=decide (i<A.length):=by
 by_cases h1:i<A.length
 .refine⟨A[i],by rw[BK h1,AL h1],?_⟩;simp[h1,lo _ (List.getElem_mem h1)]
 .have h2:i-A.length<R.length:=by omega
  refine⟨R[i-A.length],by rw[BA (by omega),AL h2],?_⟩;simp only[h1,hi _ (List.getElem_mem h2)]
theorem C20(b off cap:Nat)(A R:List Int)(s:Int)(w:FV)(hcap:A.length+R.length<=281474976710656)(hb:b<w.heap.size)(h:IC w b off (GH (A++R)))
  (lo:∀a∈A,a<s) (hi:∀a∈R,¬a<s):
  FX prog 220 #[FT (G5 ⟨b,off,FZ⟩) (A.length+R.length) cap,I0 s] w fun e w'=>
   e=.returned (.tuple #[I0 A.length,.bool (AJ4 R s)])/\w'=w:=by
 have H:=G7 h;have SG:=G7 (AJ5 A R s lo hi);obtain⟨fin,hfin⟩:∃x,AJ4 R s=x:=⟨_,rfl⟩;have HF:=G7 hfin;rw[hfin];clear h hfin lo hi;go_enter func220,ntmps220;go_wp2_with fail
 go_loopg [7,8] (A.length+R.length) (fun kx s9 s10 wr=>∃lo hi:Nat,s9=I0 lo/\s10=I0 hi/\lo<=A.length/\A.length<=hi/\hi<=A.length+R.length/\hi-lo<=kx/\wr=w)
 case atStart=>exact⟨0,A.length+R.length,rfl,rfl,AY _,by omega,A8 _,by omega,rfl⟩
 case round=>
  obtain⟨lo,hi,rfl,rfl,h1,h2,h3,hg,rfl⟩:=hrel;by_cases hlt:lo<hi
  .obtain⟨y,hy,hyn⟩:=G6 SG ((lo+hi)/2) (by omega);have e0:=(G6 H).i0 hy;clear hy;have CM:=fun W=>AZ0 y s W;rw[hyn]at CM;clear hyn;by_cases hm:(lo+hi)/2<A.length
   .simp only[hm,decide_true]at CM;go_wp2_with fail;refine(CM _).mono ?_;rintro e w1 ⟨rfl,rfl⟩;clear CM;go_wp2_with fail
    go_roundg (hi-((lo+hi)/2+1))
    case measure=>omega
    case rel=>exact⟨(lo+hi)/2+1,hi,by rw[show ((lo:Int)+(hi:Int))/2+1=(((lo+hi)/2+1:Nat):Int) by omega],rfl,by omega,h2,h3,A8 _,rfl⟩
   .simp only[hm,decide_false]at CM;go_wp2_with fail;refine(CM _).mono ?_;rintro e w1 ⟨rfl,rfl⟩;clear CM;go_wp2_with fail
    go_roundg ((lo+hi)/2-lo)
    case measure=>omega
    case rel=>exact⟨lo,(lo+hi)/2,rfl,by rw[show ((lo:Int)+(hi:Int))/2=(((lo+hi)/2:Nat):Int) by omega],h1,by omega,by omega,A8 _,rfl⟩
  .obtain rfl:lo=A.length:=by omega
   obtain rfl:hi=A.length:=by omega
   cases R with
   |nil=>
    go_wp2_with fail
    go_ret2
    exact⟨by rw[<-G6 HF];rfl,rfl⟩
   |cons f R=>
    have e0:=(G6 H).i0 (show (A++f::R)[A.length]?=G5 f by simp);have hf:decide (f=s)=fin:=G6 HF;clear HF;simp only[BG];by_cases hfs:f=s
    .subst hfs;simp only[decide_true]at hf;subst hf;go_wp2_with fail
     go_ret2
     exact⟨rfl,rfl⟩
    .simp only[hfs,decide_false]at hf;subst hf;have hq:(f==s)=false:=by simpa using hfs
     clear hfs;go_wp2_with fail;refine(BI1 _ _).mono ?_;rintro e w1 ⟨rfl,rfl⟩;go_wp2_with fail
     go_ret2
     exact⟨rfl,rfl⟩
theorem BI2(a:Option Addr)(cap:Nat)(s:Int)(w:FV):
  FX prog 220 #[FT a 0 cap,I0 s] w fun e w'=>e=.returned (.tuple #[I0 0,.bool false])/\w'=w:=by
 go_enter func220,ntmps220;go_wp2_with fail
 go_loopg [7,8] 1 (fun _ s9 s10 wr=>s9=I0 0/\s10=I0 0/\wr=w)
 case atStart=>exact⟨rfl,rfl,rfl⟩
 case round=>
  obtain⟨rfl,rfl,rfl⟩:=hrel;go_wp2_with fail
  go_ret2
  exact⟨rfl,rfl⟩
theorem uX(v:FW)(ss A R:List Int)(s:Int)(w:FV)(hv:IE w v ss)(hl:ss.length<=2147483647)(he:ss=A++R)(lo:∀a∈A,a<s)(hi:∀a∈R,¬a<s):
  FX prog 220 #[v,I0 s] w fun e w'=>e=.returned (.tuple #[I0 A.length,.bool (AJ4 R s)])/\w'=w:=by
 rcases hv with⟨a,cap,rfl,h0,_⟩|⟨b,off,cap,rfl,_,_,hb,_,hr⟩
 .rw[h0]at he;obtain⟨rfl,rfl⟩:A=[]/\R=[]:=by
   have:=congrArg List.length he;simp at this;exact⟨BU (by omega),BU (by omega)⟩
  exact BI2 a cap s w
 .subst he;rw[AO];exact C20 b off cap A R s w (by simp at hl;omega) hb hr lo hi
theorem uY(v:FW)(ss A B:List Int)(s:Int)(w:FV)(hv:IE w v ss)(hl:ss.length<=2147483647)(T:iP ss A B s):
  FX prog 220 #[v,I0 s] w fun e w'=>e=.returned (.tuple #[I0 A.length,.bool true])/\w'=w:=by
 have:=uX v ss A (s::B) s w hv hl T.eq T.lo (fun a ha=>by
  rcases BP.1 ha with rfl|h
  .omega
  .have:=T.hi a h;omega)
 rwa[show AJ4 (s::B) s=true from by simp[AJ4]]at this
theorem AZ1(v:FW)(ss A B:List Int)(s:Int)(w:FV)(hv:IE w v ss)(hl:ss.length<=2147483647)(G:BZ8 ss A B s):
  FX prog 220 #[v,I0 s] w fun e w'=>e=.returned (.tuple #[I0 A.length,.bool false])/\w'=w:=by
 have:=uX v ss A B s w hv hl G.eq G.lo (fun a ha=>by have:=G.hi a ha;omega);rwa[show AJ4 B s=false from by
  cases B with
  |nil=>rfl
  |cons f B=>exact decide_eq_false (by have:=G.hi f (by simp);omega)]at this
theorem aH(z:Int)(vn vs:FW)(ss:List Int)(s:Int)(w:FV)(hv:IE w vs ss)(hs:pF ss):
  FX prog 197 #[.agg #[I0 z,vn,vs],I0 s] w (R0 w (.bool (decide (s∈ss)))):=by
 have C:∀W:FV,B0 w W->∃i:Nat,FX prog 220 #[vs,I0 s] W fun e w'=>e=.returned (.tuple #[I0 i,.bool (decide (s∈ss))])/\w'=W:=fun W hW=>by
  rcases tH s ss hs.1 with⟨A,B,T⟩|⟨A,B,G⟩
  .rw[show decide (s∈ss)=true from decide_eq_true T.mem];exact⟨A.length,uY vs ss A B s W (hv.next hW) (UO hs) T⟩
  .rw[show decide (s∈ss)=false from decide_eq_false G.not];exact⟨A.length,AZ1 vs ss A B s W (hv.next hW) (UO hs) G⟩
 have C':=G7 C;obtain⟨a,c,rfl⟩:=GL hv;clear C hv hs;generalize decide (s∈ss)=hd at C'⊢;generalize ss.length=n at C'⊢;go_enter func197,ntmps197;go_wp2_with fail;obtain⟨i,C2⟩:=G6 C' _ (G8 _ _);refine C2.mono ?_;rintro e w1 ⟨rfl,rfl⟩;go_wp2_with fail;go_ret;exact⟨rfl,G8 _ _⟩
theorem uZ(w:FV){o:Oper}{a:Act}{K:Act->FV->Prop}{Q:Exit->Act->FV->Prop}(d s:Operand)(t t':TypeId)
  (ho:o.op=.call {callee:=.builtin .copy,args:=#[d,s],argTypes:=#[t,t']}) (v u:FW) (hd:a.eval d=v) (hs:a.eval s=u) {v':FW} {w':FV}
  (hr:(DX #[t,t'] o.type #[v,u]).run prog w=.ok v' w') (h:K (a.put o.dst v') w'):o.wp prog a w K Q:=by
 unfold Oper.wp execOp;simp only[ho,resolve,invoke,builtin,Sem.run_bind,Sem.run_pure,Result.andThen_ok,List.map_toArray,List.map_cons,List.map_nil,hd,hs,hr];exact h
theorem LD(w:FV){ops:Array Oper}{rest:List Oper}{o:Oper}{a:Act}{Q:Exit->Act->FV->Prop}(hgd:o.guard=FZ)(d s:Operand)(t t':TypeId)
  (ho:o.op=.call {callee:=.builtin .copy,args:=#[d,s],argTypes:=#[t,t']}) (v u:FW) (hd:a.eval d=v) (hs:a.eval s=u) {v':FW} {w':FV}
  (hr:(DX #[t,t'] o.type #[v,u]).run prog w=.ok v' w') (h:wpList prog ops Q rest (a.put o.dst v') w'):wpList prog ops Q (o::rest) a w:=
 wpList_plain hgd fun _ hK=>uZ w d s t t' ho v u hd hs hr (hK _ _ h)
theorem MV{ops:Array Oper}{o:Oper}{a:Act}{w:FV}{K:Act->FV->Prop}{Q:Exit->Act->FV->Prop}{E:Prop}
  (hg:o.guard=FZ) (d x:Operand) (dT sT:TypeId) (hop:o.op=Op.call {callee:=Callee.builtin Builtin.copy,args:=#[d,x],argTypes:=#[dT,sT]})
  (v u:FW) (hd:a.eval d=v) (hx:a.eval x=u) {v':FW} {w':FV} (hr:(DX #[dT,sT] o.type #[v,u]).run prog w=.ok v' w') (hK:K (a.put o.dst v') w'):
  if Region.wanted o (yielded ops a.tmps)=true then Oper.wp prog o a w K Q else E:=by
 have hw:Region.wanted o (yielded ops a.tmps)=true:=by simp[Region.wanted,hg]
 rw[if_pos hw];unfold Oper.wp;simp[execOp,hop,resolve,invoke,builtin,hd,hx,hr,Result.andThen];exact hK
theorem JB(ns:List Nd):(GH ns).length=ns.length*9:=GN ns
theorem J9.qC{pre tl:List Nd}(h:J9 W g cap (pre++tl))(new:List Nd)(hfit:pre.length+new.length<=cap):J9 (W.setCells g (pre.length*9) (GH new)) g cap (pre++new):=h.splice new hfit
theorem J9.CH1{fs:List Nd}(h:J9 W g cap fs)(vs:List FW)(o:Nat)(ho:fs.length*9<=o)(hfit:o+vs.length<=cap*9):J9 (W.setCells g o vs) g cap fs:=h.spare vs o ho hfit
theorem J9.CS9{y:Nd}(h:J9 W g cap (A++y::B))(x:Nd):J9 (W.setCells g (A.length*9) (MG x)) g cap (A++x::B):=h.uI x
theorem J9.AJ6{fs:List Nd}(h:J9 W g cap fs){j:Nat}(hj:j<cap*9):(W.cell? ⟨g,j,FZ⟩).isSome=true:=h.some hj
theorem J9.qE{pre tl:List Int}(h:J9 W g cap (pre++tl))(new:List Int)(hfit:pre.length+new.length<=cap):J9 (W.setCells g pre.length (GH new)) g cap (pre++new):=by
 have:=h.splice new hfit;rwa[show pre.length*Lay.k Int=pre.length from Nat.mul_one _]at this
theorem J9.CH2{fs:List Int}(h:J9 W g cap fs)(vs:List FW)(o:Nat)(ho:fs.length<=o)(hfit:o+vs.length<=cap):J9 (W.setCells g o vs) g cap fs:=
 h.spare vs o (by rw[show fs.length*Lay.k Int=fs.length from Nat.mul_one _];exact ho) (by rw[show cap*Lay.k Int=cap from Nat.mul_one _];exact hfit)
theorem J9.CT1{A B:List Int}{y:Int}(h:J9 W g cap (A++y::B))(x:Int):J9 (W.setCells g A.length [I0 x]) g cap (A++x::B):=by
 have:=h.uI x;rwa[show A.length*Lay.k Int=A.length from Nat.mul_one _]at this
theorem J9.AJ7{fs:List Int}(h:J9 W g cap fs){j:Nat}(hj:j<cap):(W.cell? ⟨g,j,FZ⟩).isSome=true:=h.some (by rw[show cap*Lay.k Int=cap from Nat.mul_one _];exact hj)
theorem CH3:(prog.info? 67).map (fun i=>(i.zero,i.size,i.bytes))=G5 (G5 (.agg #[.string ⟨#[]⟩,.string ⟨#[]⟩,I0 0,I0 0,I0 0,I0 0,I0 0,I0 0,I0 0]),9,88):=by kernel_rfl
theorem AJ8:∃i0,prog.info? 67=G5 i0/\i0.zero=G5 (.agg #[.string ⟨#[]⟩,.string ⟨#[]⟩,I0 0,I0 0,I0 0,I0 0,I0 0,I0 0,I0 0])/\i0.size=9/\i0.bytes=88:=by
 obtain⟨i0,h,e⟩:=FM.1 CH3;simp only[Prod.mk.injEq]at e;exact⟨i0,h,e⟩
def WL:List FW:=[.string ⟨#[]⟩,.string ⟨#[]⟩,I0 0,I0 0,I0 0,I0 0,I0 0,I0 0,I0 0]
theorem C21(w:FV)(ty:TypeId)(b o c:Nat)(hc:∀j,j<9->(w.cell? ⟨b,o+j,FZ⟩).isSome=true)(hf:∀j,j<9->w.frozen? ⟨b,o+j,FZ⟩=false):
  (Builtin.clear_ #[55] ty #[FT (G5 ⟨b,o,FZ⟩) 1 c]).run prog w=.ok (.tuple #[]) (w.setCells b o WL):=by
 have hzc:(BH (Value.agg #[.string ⟨#[]⟩,.string ⟨#[]⟩,I0 0,I0 0,I0 0,I0 0,I0 0,I0 0,I0 0]).cells 1).toList=WL:=by kernel_rfl
 have hst:=run_storeCells_cells (P:=prog) b o WL 0 w (by simpa [WL]using hc) (by simpa [WL]using hf) (by simp[WL,Value.oneCell']);simp only[Nat.add_zero]at hst;simp[Builtin.clear_,run_underlying underlying55,hzc,hst]
theorem zS(g cap:Nat)(A B:List Nd)(f:Nd)(n:Nat)(w:FV)(ho:J9 w g cap (A++f::B))(hn:n=A.length+B.length+1)(hsm:n<=400):
  FX prog 229 #[FT (G5 ⟨g,0,FZ⟩) n cap,I0 A.length,I0 (A.length+1:Nat)] w fun e w'=>
   e=.returned (FT (G5 ⟨g,0,FZ⟩) (A.length+B.length) cap)/\J9 w' g cap (A++B)/\w.grownBy w' (G5 g):=by
 obtain⟨i0,hi0,hz0,hz1,hz2⟩:=AJ8;have hle:=ho.le;have hcl:=ho.capLe;simp only[maxLen]at hcl;rw[AO,BG]at hle;have hrow:=ho.row;obtain⟨AD,hAD,hsrc⟩:∃AD:Addr,(if cap=A.length+1 then G5 (⟨g,0,FZ⟩:Addr)else G5 ⟨g,(A.length+1)*9,FZ⟩)=G5 AD/\Hid (∀t u,(GH B)[t]?=G5 u->w.drew.cell? (AD.add t)=G5 u):=by
  by_cases h:cap=A.length+1
  .refine⟨⟨g,0,FZ⟩,by simp[h],fun t u hu=>?_⟩;have h0:B=[]:=BU (by omega);rw[h0]at hu;simp[RX]at hu
  .refine⟨⟨g,(A.length+1)*9,FZ⟩,by simp[h],fun t u hu=>?_⟩;rw[BJ];have:=hrow ((A.length+1)*9+t) u (by
    rw[H6,BA (by rw[JB];omega),JB,JK,BA (by rw[Lay.len];show 9<=_;omega)];rw[Lay.len,<-hu];congr 1;show _-9=_;omega)
   rw[BI]at this;exact this
 have s1:Hid ((GH B).length=B.length*9):=JB B;have s2:Hid (∀u∈GH B,u.oneCell'=true):=JF B;have s3:Hid (∀t,t<(GH B).length->(w.drew.cell? ⟨g,0+A.length*9+t,FZ⟩).isSome=true/\w.drew.frozen? ⟨g,0+A.length*9+t,FZ⟩=false):=by
  intro t ht;rw[JB]at ht;exact⟨ho.AJ6 (by omega),ho.frozen _⟩
 obtain⟨W1,hW1⟩:∃W1,W1=w.drew.setCells g (0+A.length*9) (GH B):=⟨_,rfl⟩;have ho1:J9 W1 g cap (A++B):=by rw[hW1,BI];exact ho.drew.qC B (by omega)
 have hg1:w.grownBy W1 (G5 g):=by rw[hW1];have:=H8 (g:=g) (GH B) (0+A.length*9) w.drew;exact⟨this.os,this.tape,this.output,this.size,this.block⟩
 have CR3:∀ty c,(Builtin.clear_ #[55] ty #[FT (G5 ⟨g,(A.length+B.length)*9,FZ⟩) 1 c]).run prog W1=.ok (.tuple #[]) (W1.setCells g ((A.length+B.length)*9) WL):=fun ty c=>
  C21 W1 ty g _ c (fun j hj=>ho1.AJ6 (by omega)) (fun j hj=>ho1.frozen _)
 have FIN:Hid (J9 (W1.setCells g ((A.length+B.length)*9) WL) g cap (A++B)/\w.grownBy (W1.setCells g ((A.length+B.length)*9) WL) (G5 g)):=
  ⟨ho1.CH1 WL _ (by rw[AO];omega) (by simp[WL];omega),IL hg1 (H8 _ _ _)⟩
 have hW:Hid (W1=w.drew.setCells g (0+A.length*9) (GH B)):=hW1;have hic:A.length<=cap:=by omega
 have hjc:A.length+1<=cap:=by omega
 have hne:¬ (cap=A.length+B.length):=by omega
 have hb1:(0:Int)<=(A.length:Int)+1:=by omega
 have hb2:(A.length:Int)<=(A.length:Int)+(B.length:Int):=by omega
 have hb3:(0:Int)<=(A.length:Int)+(B.length:Int):=by omega
 have hs1:A.length+B.length+1-(A.length+B.length)=1:=by omega
 clear hW1 ho1 hg1 hrow ho;subst hn;go_enter func229,ntmps229;go_wp2_with fail
 go_region_law (refine step_append_room rfl (.tmp 22) (.tmp 25) 55 rfl 67 i0 9 underlying55 hi0 hz1 g 0 A.length cap (by simp[Act.eval,Act.put]) AD B.length (cap-(A.length+1)) (GH B) (by simp[Act.eval,Act.put]) s1.out hsrc.out s2.out (by omega) s3.out ?_;rw[<-hW.out])
 go_wp2
 go_ret;exact⟨rfl,FIN.out⟩
theorem A91(w:FV)(ty:TypeId)(b o dLen dCap:Nat)(a:Addr)(sLen sCap:Nat)(cs:List FW)(hn:cs.length=Nat.min sLen dLen*9)
  (hsrc:∀j v,cs[j]?=G5 v->w.cell? (a.add j)=G5 v) (hc:∀j,j<cs.length->(w.cell? ⟨b,o+j,FZ⟩).isSome=true) (hf:∀j,j<cs.length->w.frozen? ⟨b,o+j,FZ⟩=false) (h1:∀v∈cs,v.oneCell'=true):
  (DX #[55,55] ty #[FT (G5 ⟨b,o,FZ⟩) dLen dCap,FT (G5 a) sLen sCap]).run prog w=.ok (goInt (Nat.min sLen dLen)) (w.setCells b o cs):=by
 have hl:=run_loadCells_list (P:=prog) w a cs hsrc;have hst:=run_storeCells_cells (P:=prog) b o cs 0 w (by simpa using hc) (by simpa using hf) h1;obtain⟨i0,hi0,hz0,hz1,hz2⟩:=AJ8;simp[DX,run_underlying underlying55,Builtin.lenOf,Builtin.firstCells,sizeOf,typeInfo,hi0,hz1,<-hn,hl,hst]
theorem zT(v:FW)(A:List Nd)(x:Nd)(B b:Nat)(w:FV)(ho:H7 w B v A)(hB:B<=w.heap.size)(hl:A.length<=400)(h1:JM w b x):
  FX prog 226 #[v,I0 A.length,FT (G5 ⟨b,0,FZ⟩) 1 1] w fun e w'=>
   ∃v',e=.returned v'/\H7 w' B v' (A++[x])/\w.grownBy w' v.ownBlock/\(v'.ownBlock=v.ownBlock\/v'.ownBlock=G5 w.heap.size):=by
 obtain⟨i0,hi0,hz0,hz1,hz2⟩:=AJ8;have hrow:=ho.row;have HR:=G7 hrow;have H1:=G7 h1.row;have V:∃a c,v=FT a A.length c/\A.length<=c:=by
  rcases ho with⟨rfl,rfl⟩|⟨g,cap,rfl,_,h⟩
  .exact⟨FZ,0,rfl,A8 _⟩
  .exact⟨_,cap,rfl,h.le⟩
 obtain⟨a,c,rfl,hc⟩:=V;clear ho hrow h1;rcases Nat.lt_or_ge A.length c with hcl|hcl
 .have hne:¬c=A.length:=by omega
  go_enter func226,ntmps226;go_wp2_with (at_builtin;refine wpList_append_own_at _ rfl _ _ 55 rfl B 67 i0 _ 9 88 underlying55 hi0 hz0 hz1 hz2 rfl (by decide) _ A.length (GH A) rfl (G6 HR) ⟨b,0,FZ⟩ 1 1 (MG x) rfl (by rfl) ?qc2 ((Lay.one x)) ?qc4 ?qc5 hB ?_)
  case qc2=>
   intro j u hj;rw[BJ];exact G6 H1 j u hj
  case qc4=>simp only[maxLen];omega
  case qc5=>omega
  intro v' w1 hown hgrow _ hloc
  go_wp2
  go_ret;exact⟨v',rfl,H7.L9 (by rw[AO,J8];exact hown),hgrow,hloc⟩
 .obtain rfl:c=A.length:=by omega
  go_enter func226,ntmps226;go_wp2_with (at_builtin;refine wpList_append_own_at _ rfl _ _ 55 rfl B 67 i0 _ 9 88 underlying55 hi0 hz0 hz1 hz2 rfl (by decide) _ A.length (GH A) rfl (G6 HR) ⟨b,0,FZ⟩ 1 1 (MG x) rfl (by rfl) ?qc2 ((Lay.one x)) ?qc4 ?qc5 hB ?_)
  case qc2=>
   intro j u hj;rw[BJ];exact G6 H1 j u hj
  case qc4=>simp only[maxLen];omega
  case qc5=>omega
  intro v' w1 hown hgrow _ hloc
  go_wp2
  go_ret;exact⟨v',rfl,H7.L9 (by rw[AO,J8];exact hown),hgrow,hloc⟩
theorem qF(g cap:Nat)(A R:List Nd)(y x:Nd)(n b:Nat)(w:FV)(ho:J9 w g cap (A++y::R))(hn:n=A.length+R.length+1)(hsm:n<=400)(hroom:n+1<=cap)(h1:JM w b x)(hbg:b≠g):
  FX prog 226 #[FT (G5 ⟨g,0,FZ⟩) n cap,I0 A.length,FT (G5 ⟨b,0,FZ⟩) 1 1] w fun e w'=>
   e=.returned (FT (G5 ⟨g,0,FZ⟩) (n+1) cap)/\J9 w' g cap (A++x::y::R)/\w.grownBy w' (G5 g):=by
 have hcl:=ho.capLe;simp only[maxLen]at hcl;have hrow:=ho.row;have AY2:w.shape? g=G5 (67,cap*9):=by
  obtain⟨rest,q1,q2,_⟩:=ho;rw[AO,BG]at q2;simp[World.shape?,q1,JB];exact⟨rfl,q2⟩
 have AY3:w.shape? b=G5 (67,9):=by unfold JM at h1;simp[World.shape?,h1];exact⟨rfl,rfl⟩
 have hfb:∀j,w.frozen? ⟨b,j,FZ⟩=false:=fun j=>by unfold JM at h1;simp[World.frozen?,h1]
 have hov:∀lb cb,(callFunc 250 #[FT (G5 ⟨b,0,FZ⟩) 1 1,FT (G5 ⟨g,(A.length+1)*9,FZ⟩) lb cb]).run prog w=.ok (.value (.bool false)) w:=fun lb cb=>by
  rw[run_callFunc_extern func250 (by kernel_rfl) (by kernel_rfl) (by kernel_rfl) (e:=Extern.SlicesOverlaps.overlaps #[55,55] #[4]) (by kernel_rfl),
   Lib.run_overlaps_apart w 55 4 67 underlying55 9 sizeOf67 ⟨b,0,FZ⟩ ⟨g,(A.length+1)*9,FZ⟩ 1 1 lb cb hbg 67 67 9 (cap*9) AY3 AY2 (by omega) (hfb 0) (hfb 9)]
  rfl
 obtain⟨W1,hW1⟩:∃W1,W1=w.drew.setCells g ((A.length+1)*9) (GH (y::R)):=⟨_,rfl⟩;have ho1:J9 W1 g cap (A++y::y::R):=by
  have h:J9 w.drew g cap ((A++[y])++R):=by rw[BR];exact ho
  have:=h.qC (y::R) (by simp;omega);rw[hW1];simpa using this
 have hg1:w.grownBy W1 (G5 g):=by rw[hW1];have:=H8 (g:=g) (GH (y::R)) ((A.length+1)*9) w.drew;exact⟨this.os,this.tape,this.output,this.size,this.block⟩
 have hcp1:∀ty dc sc,(DX #[55,55] ty #[FT (G5 ⟨g,(A.length+1)*9,FZ⟩) (n-A.length) dc,FT (G5 ⟨g,A.length*9,FZ⟩) (n+1-A.length) sc]).run prog w.drew=.ok (goInt (Nat.min (n+1-A.length) (n-A.length))) W1:=fun ty dc sc=>by
  rw[hW1];exact A91 w.drew ty g _ _ dc ⟨g,A.length*9,FZ⟩ _ sc (GH (y::R)) (by rw[JB];simp only[Nat.min_def,BG];split<;>omega)
   (fun j v hj=>by
    rw[BJ];have:=hrow (A.length*9+j) v (by rw[H6,BA (by rw[JB];omega),JB,FC];exact hj);rw[BI]at this;exact this)
   (fun j hj=>by rw[JB]at hj;exact ho.AJ6 (by simp at hj;omega)) (fun j _=>ho.frozen _) (JF _)
 have hcp2:∀ty dc,(DX #[55,55] ty #[FT (G5 ⟨g,A.length*9,FZ⟩) (n+1-A.length) dc,FT (G5 ⟨b,0,FZ⟩) 1 1]).run prog W1=.ok (goInt (Nat.min 1 (n+1-A.length))) (W1.setCells g (A.length*9) (MG x)):=fun ty dc=>
  A91 W1 ty g _ _ dc ⟨b,0,FZ⟩ 1 1 (MG x) (by simp only[Nat.min_def,MG,BG,EU];split<;>omega)
   (fun j v hj=>by
    rw[BJ];have hb2:W1.heap[b]?=w.heap[b]? :=hg1.block b (by unfold JM at h1;exact(AB.1 h1).1) (fun e=>hbg (Option.some.inj e));have h2:JM W1 b x:=hb2.trans h1;exact h2.row j v hj)
   (fun j hj=>ho1.AJ6 (by simp[MG]at hj;omega)) (fun j _=>ho1.frozen _) ((Lay.one x))
 have FIN:Hid (J9 (W1.setCells g (A.length*9) (MG x)) g cap (A++x::y::R)/\w.grownBy (W1.setCells g (A.length*9) (MG x)) (G5 g)):=
  ⟨ho1.CS9 x,IL hg1 (H8 _ _ _)⟩
 have hin:A.length<n:=by omega
 have C17:(A.length:Int)<(n:Int):=by omega
 have hw1:IntKind.i64.wrap ((A.length:Int)+1)=(A.length:Int)+1:=by rw[FH];omega
 have hb1:(0:Int)<=(A.length:Int)+1:=by omega
 have hb2:¬ (cap=A.length+1):=by omega
 have hb3:(A.length:Int)<=(n:Int)+1:=by omega
 have hb4:¬ (cap=A.length):=by omega
 have hb5:(A.length:Int)+1<=(n:Int)+1:=by omega
 have hb6:¬ ((cap:Int)<(n:Int)+1):=by omega
 have hz2:¬ ((A.length:Int)=(n:Int)):=by omega
 have htn:((A.length:Int)+1).toNat=A.length+1:=by omega
 clear hW1 ho1 hg1 hrow AY2 AY3 hfb ho h1 hn;go_enter func226,ntmps226;go_wp2_with (simp only[hov])
 go_region_law (refine MV rfl (.tmp 73) (.tmp 76) 55 55 rfl (FT (G5 ⟨g,(A.length+1)*9,FZ⟩) (n-A.length) (cap-(A.length+1))) (FT (G5 ⟨g,A.length*9,FZ⟩) (n+1-A.length) (cap-A.length)) (by simp[Act.eval,Act.put]) (by simp[Act.eval,Act.put]) (hcp1 _ _ _) ?_)
 go_wp2_with (at_builtin;refine LD _ rfl _ _ 55 55 rfl _ _ rfl rfl (hcp2 _ _) ?_);go_ret;exact⟨rfl,FIN.out⟩
theorem CH4(k:Nat):(BH (Value.agg #[.string ⟨#[]⟩,.string ⟨#[]⟩,I0 0,I0 0,I0 0,I0 0,I0 0,I0 0,I0 0]).cells k).size=k*9:=by
 simp[BH,Value.cells]
theorem vC(g cap:Nat)(A R:List Nd)(y x:Nd)(n b:Nat)(w:FV)(ho:J9 w g cap (A++y::R))(hn:n=A.length+R.length+1)(hsm:n<=400)(hroom:cap<n+1)(h1:JM w b x):
  FX prog 226 #[FT (G5 ⟨g,0,FZ⟩) n cap,I0 A.length,FT (G5 ⟨b,0,FZ⟩) 1 1] w fun e w'=>
   ∃cap',e=.returned (FT (G5 ⟨w.heap.size,0,FZ⟩) (n+1) cap')/\J9 w' w.heap.size cap' (A++x::y::R)/\B0 w w':=by
 have hcap:cap=n:=by have:=ho.le;simp at this;omega
 obtain⟨i0,hi0,hz0,hz1,hz2⟩:=AJ8;have hrow:=ho.row;have hgw:=ho.lt;have hbw:b<w.heap.size:=by unfold JM at h1;exact(AB.1 h1).1
 have hold:(Builtin.firstCells i0.size A.length (FT (G5 ⟨g,0,FZ⟩) A.length cap)).run prog w.drew=.ok (GH A).toArray w.drew:=by
  rw[hz1];exact run_firstCells_some w.drew 9 A.length ⟨g,0,FZ⟩ A.length cap (GH A) (JB A) (fun j v hj=>by
   rw[BJ];exact hrow j v (by rw[H6,BK (AU.1 hj).1];exact hj))
 obtain⟨G,hG⟩:∃G,G=grownCap w (n+1) cap 67:=⟨_,rfl⟩;have hGn:n+1<=G:=by rw[hG];exact grownCap_ge w _ _ _
 have hGm:G<=maxLen:=by rw[hG];exact grownCap_le_maxLen w (n+1) cap _ (by unfold maxLen;omega)
 have hG63:G<=9223372036854775807:=by have:=hGm;unfold maxLen at this;omega
 obtain⟨ROW,hROW⟩:∃ROW:Array FW,ROW=(GH A).toArray++BH (Value.agg #[.string ⟨#[]⟩,.string ⟨#[]⟩,I0 0,I0 0,I0 0,I0 0,I0 0,I0 0,I0 0]).cells (n+1-A.length)++BH (Value.agg #[.string ⟨#[]⟩,.string ⟨#[]⟩,I0 0,I0 0,I0 0,I0 0,I0 0,I0 0,I0 0]).cells (G-(n+1)):=⟨_,rfl⟩;obtain⟨W1,hW1⟩:∃W1,W1=w.drew.alloc (.cells ROW 67):=⟨_,rfl⟩;have hik:A.length+(n+1-A.length)=n+1:=by omega
 have hrz:∀ty,(Builtin.append_ #[55,3] ty #[FT (G5 ⟨g,0,FZ⟩) A.length cap,I0 ((n:Int)+1-(A.length:Int))]).run prog w=
   .ok (FT (G5 ⟨w.heap.size,0,FZ⟩) (n+1) G) W1:=fun ty=>by
  have h:=Lib.run_append_grow_zeros w 55 3 ty 67 i0 _ .i64 .i64 underlying55 underlying3 hi0 hz0 (G5 ⟨g,0,FZ⟩) A.length cap (GH A) hold (n+1-A.length) (by omega) (by omega) (by omega) (by omega) (by rw[hz2];omega) (by rw[hz2,hik];exact growslice_fits hroom (by omega));rw[hik,<-hG,<-hROW,<-hW1]at h;rw[show (n:Int)+1-(A.length:Int)=((n+1-A.length:Nat):Int) by omega];exact h
 have ho1:J9 W1 w.heap.size G A:=by
  refine⟨(BH (Value.agg #[.string ⟨#[]⟩,.string ⟨#[]⟩,I0 0,I0 0,I0 0,I0 0,I0 0,I0 0,I0 0]).cells (n+1-A.length)++BH (Value.agg #[.string ⟨#[]⟩,.string ⟨#[]⟩,I0 0,I0 0,I0 0,I0 0,I0 0,I0 0,I0 0]).cells (G-(n+1))).toList,?_,?_,by omega,hGm⟩
  .rw[hW1,hROW];have:=heap_alloc_new w.drew (.cells ((GH A).toArray++BH (Value.agg #[.string ⟨#[]⟩,.string ⟨#[]⟩,I0 0,I0 0,I0 0,I0 0,I0 0,I0 0,I0 0]).cells (n+1-A.length)++BH (Value.agg #[.string ⟨#[]⟩,.string ⟨#[]⟩,I0 0,I0 0,I0 0,I0 0,I0 0,I0 0,I0 0]).cells (G-(n+1))) 67);refine Eq.trans this ?_
   congr 2
   apply Array.toList_inj.1
   simp
  .simp only[show Lay.k Nd=9 from rfl,Array.length_toList,Array.size_append,CH4];omega
 have hB1:B0 w W1:=by rw[hW1];exact((Below.refl _ w).drew).alloc (A8 _) _
 obtain⟨W2,hW2⟩:∃W2,W2=W1.setCells w.heap.size (A.length*9) (MG x):=⟨_,rfl⟩;have ho2:J9 W2 w.heap.size G (A++[x]):=by
  have h:J9 W1 w.heap.size G (A++[]):=by rw[DN];exact ho1
  have:=h.qC [x] (by simp;omega);rw[hW2];rw[JK,RX,DN]at this;exact this
 have hg2:W1.grownBy W2 (G5 w.heap.size):=by rw[hW2];exact H8 _ _ _
 have hB2:B0 w W2:=hB1.grown hg2 hB1.size (fun k e=>by cases e;exact A8 _);have hcpA:∀ty dc,(DX #[55,55] ty #[FT (G5 ⟨w.heap.size,A.length*9,FZ⟩) (n+1-A.length) dc,FT (G5 ⟨b,0,FZ⟩) 1 1]).run prog W1=.ok (goInt (Nat.min 1 (n+1-A.length))) W2:=fun ty dc=>by
  rw[hW2];exact A91 W1 ty w.heap.size _ _ dc ⟨b,0,FZ⟩ 1 1 (MG x) (by simp only[Nat.min_def,MG,BG,EU];split<;>omega)
   (fun j v hj=>by rw[BJ];exact(show JM W1 b x from(hB1.block b hbw).trans h1).row j v hj)
   (fun j hj=>ho1.AJ6 (by simp[MG]at hj;omega)) (fun j _=>ho1.frozen _) ((Lay.one x))
 obtain⟨W3,hW3⟩:∃W3,W3=W2.drew.setCells w.heap.size ((A.length+1)*9) (GH (y::R)):=⟨_,rfl⟩;have hcpB:∀ty dc sc,(DX #[55,55] ty #[FT (G5 ⟨w.heap.size,(A.length+1)*9,FZ⟩) (n-A.length) dc,FT (G5 ⟨g,A.length*9,FZ⟩) (n-A.length) sc]).run prog W2.drew=.ok (goInt (Nat.min (n-A.length) (n-A.length))) W3:=fun ty dc sc=>by
  rw[hW3];exact A91 W2.drew ty w.heap.size _ _ dc ⟨g,A.length*9,FZ⟩ _ sc (GH (y::R)) (by rw[JB];simp only[Nat.min_self,BG];omega)
   (fun j v hj=>by
    rw[BJ];have:=hrow (A.length*9+j) v (by rw[H6,BA (by rw[JB];omega),JB,FC];exact hj);rw[BI]at this;exact(hB2.cell (p:=⟨g,A.length*9+j,FZ⟩) hgw).trans this)
   (fun j hj=>by rw[JB]at hj;exact ho2.drew.AJ6 (by simp at hj;omega)) (fun j _=>ho2.drew.frozen _) (JF _)
 have FIN:Hid (J9 W3 w.heap.size G (A++x::y::R)/\B0 w W3):=by
  refine⟨?_,?_⟩
  .have h:J9 W2.drew w.heap.size G ((A++[x])++[]):=by rw[DN];exact ho2
   have:=h.qC (y::R) (by simp;omega);rw[hW3];simpa using this
  .rw[hW3];exact hB2.drew.grown (H8 _ _ _) hB2.size (fun k e=>by cases e;exact A8 _)
 have hin:A.length<n:=by omega
 have C17:(A.length:Int)<(n:Int):=by omega
 have hw1:IntKind.i64.wrap ((A.length:Int)+1)=(A.length:Int)+1:=by rw[FH];omega
 have hb1:(0:Int)<=(A.length:Int)+1:=by omega
 have hb2:¬ (G=A.length+1):=by omega
 have hb3:(A.length:Int)<=(n:Int)+1:=by omega
 have hb4:¬ (n=A.length):=by omega
 have hb5:(A.length:Int)+1<=(n:Int)+1:=by omega
 have hb6:¬ (G=A.length):=by omega
 have hb7:(A.length:Int)<=(n:Int):=by omega
 have hz3:¬ ((A.length:Int)=(n:Int)):=by omega
 have htn:((A.length:Int)+1).toNat=A.length+1:=by omega
 subst hcap;clear hn hROW hW1 hW2 hW3 hG hrow ho h1 ho1 ho2 hB1 hB2 hg2 hold hik;go_enter func226,ntmps226;go_wp2_with (first
  |(at_builtin;refine Lib.wpList_append_run _ rfl _ _ _ _ rfl _ _ rfl rfl _ _ (hrz _) ?_)
  |(at_builtin;refine LD _ rfl _ _ 55 55 rfl _ _ rfl rfl (hcpA _ _) ?_))
 go_region_law (refine MV rfl (.tmp 50) (.tmp 53) 55 55 rfl (FT (G5 ⟨w.heap.size,(A.length+1)*9,FZ⟩) (cap-A.length) (G-(A.length+1))) (FT (G5 ⟨g,A.length*9,FZ⟩) (cap-A.length) (cap-A.length)) (by simp[Act.eval,Act.put]) (by simp[Act.eval,Act.put]) (hcpB _ _ _) ?_)
 go_wp2
 go_ret;exact⟨G,rfl,FIN.out⟩
theorem zU(v:FW)(A R:List Nd)(x:Nd)(q:Nat)(w:FV)(ho:H7 w 0 v (A++R))(hl:(A++R).length<=400)(h1:JM w q x)(hq:v.ownBlock≠G5 q):
  FX prog 226 #[v,I0 A.length,FT (G5 ⟨q,0,FZ⟩) 1 1] w fun e w'=>
   ∃v',e=.returned v'/\H7 w' 0 v' (A++x::R)/\w.grownBy w' v.ownBlock/\(v'.ownBlock=v.ownBlock\/∃k,w.heap.size<=k/\v'.ownBlock=G5 k):=by
 cases R with
 |nil=>
  rw[DN]at ho hl;refine(zT v A x 0 q w ho (AY _) hl h1).mono ?_;rintro e w' ⟨v',rfl,h2,h3,h4⟩;refine⟨v',rfl,h2,h3,?_⟩;rcases h4 with h|h
  .exact .inl h
  .exact .inr ⟨_,A8 _,h⟩
 |cons y R=>
  rcases ho with⟨_,h⟩|⟨g,cap,rfl,_,ho⟩
  .simp at h
  .have hn:(A++y::R).length=A.length+R.length+1:=by simp;omega
   by_cases hc:(A++y::R).length+1<=cap
   .refine(qF g cap A R y x _ q w ho hn hl hc h1 (fun e=>hq (by rw[e];rfl))).mono ?_;rintro e w' ⟨rfl,h2,h3⟩;exact⟨_,rfl,.inr ⟨g,cap,by simp;omega,AY _,h2⟩,h3,.inl rfl⟩
   .refine(vC g cap A R y x _ q w ho hn hl (by omega) h1).mono ?_;rintro e w' ⟨cap',rfl,h2,h3⟩;exact⟨_,rfl,.inr ⟨w.heap.size,cap',by simp;omega,AY _,h2⟩,⟨h3.os,h3.tape,h3.output,h3.size,fun k hk _=>h3.block k hk⟩,.inr ⟨_,A8 _,rfl⟩⟩
theorem CH5:(prog.info? 3).map (fun i=>(i.zero,i.size,i.bytes))=G5 (G5 (I0 0),1,8):=by kernel_rfl
theorem zX:∃i0,prog.info? 3=G5 i0/\i0.zero=G5 (I0 0)/\i0.size=1/\i0.bytes=8:=by
 obtain⟨i0,h,e⟩:=FM.1 CH5;simp only[Prod.mk.injEq]at e;exact⟨i0,h,e⟩
def WM:List FW:=[I0 0]
theorem C29(w:FV)(ty:TypeId)(b o c:Nat)(hc:∀j,j<1->(w.cell? ⟨b,o+j,FZ⟩).isSome=true)(hf:∀j,j<1->w.frozen? ⟨b,o+j,FZ⟩=false):
  (Builtin.clear_ #[56] ty #[FT (G5 ⟨b,o,FZ⟩) 1 c]).run prog w=.ok (.tuple #[]) (w.setCells b o WM):=by
 have hzc:(BH (I0 0).cells 1).toList=WM:=by kernel_rfl
 have hst:=run_storeCells_cells (P:=prog) b o WM 0 w (fun j hj=>hc j (by simpa [WM]using hj)) (fun j hj=>hf j (by simpa [WM]using hj)) (by simp[WM,Value.oneCell']);simp only[Nat.add_zero]at hst;simp[Builtin.clear_,run_underlying underlying56,hzc,hst]
theorem zY(g cap:Nat)(A B:List Int)(f:Int)(n:Nat)(w:FV)(ho:J9 w g cap (A++f::B))(hn:n=A.length+B.length+1)(hsm:n<=2147483647):
  FX prog 224 #[FT (G5 ⟨g,0,FZ⟩) n cap,I0 A.length,I0 (A.length+1:Nat)] w fun e w'=>
   e=.returned (FT (G5 ⟨g,0,FZ⟩) (A.length+B.length) cap)/\J9 w' g cap (A++B)/\w.grownBy w' (G5 g):=by
 obtain⟨i0,hi0,hz0,hz1,hz2⟩:=zX;have hle:=ho.le;have hcl:=ho.capLe;simp only[maxLen]at hcl;rw[AO,BG]at hle;have hrow:=ho.row;obtain⟨AD,hAD,hsrc⟩:∃AD:Addr,(if cap=A.length+1 then G5 (⟨g,0,FZ⟩:Addr)else G5 ⟨g,(A.length+1),FZ⟩)=G5 AD/\Hid (∀t u,(GH B)[t]?=G5 u->w.drew.cell? (AD.add t)=G5 u):=by
  by_cases h:cap=A.length+1
  .refine⟨⟨g,0,FZ⟩,by simp[h],fun t u hu=>?_⟩;have h0:B=[]:=BU (by omega);rw[h0]at hu;simp[RX]at hu
  .refine⟨⟨g,(A.length+1),FZ⟩,by simp[h],fun t u hu=>?_⟩;rw[BJ];have:=hrow ((A.length+1)+t) u (by
    rw[H6,BA (by rw[J5];omega),J5,JK,BA (by rw[Lay.len];show 1<=_;omega)];rw[Lay.len,<-hu];congr 1;show _-1=_;omega)
   rw[BI]at this;exact this
 have s1:Hid ((GH B).length=B.length*1):=(J5 B).trans (Nat.mul_one _).symm;have s2:Hid (∀u∈GH B,u.oneCell'=true):=JF B;have s3:Hid (∀t,t<(GH B).length->(w.drew.cell? ⟨g,0+A.length*1+t,FZ⟩).isSome=true/\w.drew.frozen? ⟨g,0+A.length*1+t,FZ⟩=false):=by
  intro t ht;rw[J5]at ht;exact⟨ho.AJ7 (by omega),ho.frozen _⟩
 obtain⟨W1,hW1⟩:∃W1,W1=w.drew.setCells g (0+A.length*1) (GH B):=⟨_,rfl⟩;have ho1:J9 W1 g cap (A++B):=by rw[hW1,BI,Nat.mul_one];exact ho.drew.qE B (by omega)
 have hg1:w.grownBy W1 (G5 g):=by rw[hW1];have:=H8 (g:=g) (GH B) (0+A.length*1) w.drew;exact⟨this.os,this.tape,this.output,this.size,this.block⟩
 have CR3:∀ty c,(Builtin.clear_ #[56] ty #[FT (G5 ⟨g,(A.length+B.length),FZ⟩) 1 c]).run prog W1=.ok (.tuple #[]) (W1.setCells g ((A.length+B.length)) WM):=fun ty c=>
  C29 W1 ty g _ c (fun j hj=>ho1.AJ7 (by omega)) (fun j hj=>ho1.frozen _)
 have FIN:Hid (J9 (W1.setCells g ((A.length+B.length)) WM) g cap (A++B)/\w.grownBy (W1.setCells g ((A.length+B.length)) WM) (G5 g)):=
  ⟨ho1.CH2 WM _ (by rw[AO];omega) (by simp[WM];omega),IL hg1 (H8 _ _ _)⟩
 have hW:Hid (W1=w.drew.setCells g (0+A.length*1) (GH B)):=hW1;have hic:A.length<=cap:=by omega
 have hjc:A.length+1<=cap:=by omega
 have hne:¬ (cap=A.length+B.length):=by omega
 have hb1:(0:Int)<=(A.length:Int)+1:=by omega
 have hb2:(A.length:Int)<=(A.length:Int)+(B.length:Int):=by omega
 have hb3:(0:Int)<=(A.length:Int)+(B.length:Int):=by omega
 have hs1:A.length+B.length+1-(A.length+B.length)=1:=by omega
 clear hW1 ho1 hg1 hrow ho;subst hn;go_enter func224,ntmps224;go_wp2_with fail
 go_region_law (refine step_append_room rfl (.tmp 22) (.tmp 25) 56 rfl 3 i0 1 underlying56 hi0 hz1 g 0 A.length cap (by simp[Act.eval,Act.put]) AD B.length (cap-(A.length+1)) (GH B) (by simp[Act.eval,Act.put]) s1.out hsrc.out s2.out (by omega) s3.out ?_;rw[<-hW.out])
 go_wp2
 go_ret;exact⟨rfl,FIN.out⟩
theorem A97(w:FV)(ty:TypeId)(b o dLen dCap:Nat)(a:Addr)(sLen sCap:Nat)(cs:List FW)(hn:cs.length=Nat.min sLen dLen)
  (hsrc:∀j v,cs[j]?=G5 v->w.cell? (a.add j)=G5 v) (hc:∀j,j<cs.length->(w.cell? ⟨b,o+j,FZ⟩).isSome=true) (hf:∀j,j<cs.length->w.frozen? ⟨b,o+j,FZ⟩=false) (h1:∀v∈cs,v.oneCell'=true):
  (DX #[56,56] ty #[FT (G5 ⟨b,o,FZ⟩) dLen dCap,FT (G5 a) sLen sCap]).run prog w=.ok (goInt (Nat.min sLen dLen)) (w.setCells b o cs):=by
 have hl:=run_loadCells_list (P:=prog) w a cs hsrc;have hst:=run_storeCells_cells (P:=prog) b o cs 0 w (by simpa using hc) (by simpa using hf) h1;obtain⟨i0,hi0,hz0,hz1,hz2⟩:=zX;simp[DX,run_underlying underlying56,Builtin.lenOf,Builtin.firstCells,sizeOf,typeInfo,hi0,hz1,<-hn,hl,hst]
theorem zZ(v:FW)(A:List Int)(x:Int)(B b:Nat)(w:FV)(ho:H7 w B v A)(hB:B<=w.heap.size)(hl:A.length<=2147483647)(h1:JM w b x):
  FX prog 223 #[v,I0 A.length,FT (G5 ⟨b,0,FZ⟩) 1 1] w fun e w'=>
   ∃v',e=.returned v'/\H7 w' B v' (A++[x])/\w.grownBy w' v.ownBlock/\(v'.ownBlock=v.ownBlock\/v'.ownBlock=G5 w.heap.size):=by
 obtain⟨i0,hi0,hz0,hz1,hz2⟩:=zX;have hrow:=ho.row;have HR:=G7 hrow;have H1:=G7 h1.row;have V:∃a c,v=FT a A.length c/\A.length<=c:=by
  rcases ho with⟨rfl,rfl⟩|⟨g,cap,rfl,_,h⟩
  .exact⟨FZ,0,rfl,A8 _⟩
  .exact⟨_,cap,rfl,h.le⟩
 obtain⟨a,c,rfl,hc⟩:=V;clear ho hrow h1;rcases Nat.lt_or_ge A.length c with hcl|hcl
 .have hne:¬c=A.length:=by omega
  go_enter func223,ntmps223;go_wp2_with (at_builtin;refine wpList_append_own_at _ rfl _ _ 56 rfl B 3 i0 _ 1 8 underlying56 hi0 hz0 hz1 hz2 rfl (by decide) _ A.length (GH A) rfl (G6 HR) ⟨b,0,FZ⟩ 1 1 [I0 x] rfl (by rfl) ?qc2 ((Lay.one x)) ?qc4 ?qc5 hB ?_)
  case qc2=>
   intro j u hj;rw[BJ];exact G6 H1 j u hj
  case qc4=>simp only[maxLen];omega
  case qc5=>omega
  intro v' w1 hown hgrow _ hloc
  go_wp2
  go_ret;exact⟨v',rfl,H7.L9 (by rw[AO,J8];exact hown),hgrow,hloc⟩
 .obtain rfl:c=A.length:=by omega
  go_enter func223,ntmps223;go_wp2_with (at_builtin;refine wpList_append_own_at _ rfl _ _ 56 rfl B 3 i0 _ 1 8 underlying56 hi0 hz0 hz1 hz2 rfl (by decide) _ A.length (GH A) rfl (G6 HR) ⟨b,0,FZ⟩ 1 1 [I0 x] rfl (by rfl) ?qc2 ((Lay.one x)) ?qc4 ?qc5 hB ?_)
  case qc2=>
   intro j u hj;rw[BJ];exact G6 H1 j u hj
  case qc4=>simp only[maxLen];omega
  case qc5=>omega
  intro v' w1 hown hgrow _ hloc
  go_wp2
  go_ret;exact⟨v',rfl,H7.L9 (by rw[AO,J8];exact hown),hgrow,hloc⟩
theorem qH(g cap:Nat)(A R:List Int)(y x:Int)(n b:Nat)(w:FV)(ho:J9 w g cap (A++y::R))(hn:n=A.length+R.length+1)(hsm:n<=2147483647)(hroom:n+1<=cap)(h1:JM w b x)(hbg:b≠g):
  FX prog 223 #[FT (G5 ⟨g,0,FZ⟩) n cap,I0 A.length,FT (G5 ⟨b,0,FZ⟩) 1 1] w fun e w'=>
   e=.returned (FT (G5 ⟨g,0,FZ⟩) (n+1) cap)/\J9 w' g cap (A++x::y::R)/\w.grownBy w' (G5 g):=by
 have hcl:=ho.capLe;simp only[maxLen]at hcl;have hrow:=ho.row;have AY2:w.shape? g=G5 (3,cap):=by
  obtain⟨rest,q1,q2,_⟩:=ho;rw[AO,BG,show Lay.k Int=1 from rfl,Nat.mul_one,Nat.mul_one]at q2;simp[World.shape?,q1,J5];exact⟨rfl,q2⟩
 have AY3:w.shape? b=G5 (3,1):=by unfold JM at h1;simp[World.shape?,h1];exact⟨rfl,rfl⟩
 have hfb:∀j,w.frozen? ⟨b,j,FZ⟩=false:=fun j=>by unfold JM at h1;simp[World.frozen?,h1]
 have hov:∀lb cb,(callFunc 248 #[FT (G5 ⟨b,0,FZ⟩) 1 1,FT (G5 ⟨g,(A.length+1),FZ⟩) lb cb]).run prog w=.ok (.value (.bool false)) w:=fun lb cb=>by
  rw[run_callFunc_extern func248 (by kernel_rfl) (by kernel_rfl) (by kernel_rfl) (e:=Extern.SlicesOverlaps.overlaps #[56,56] #[4]) (by kernel_rfl),
   Lib.run_overlaps_apart w 56 4 3 underlying56 1 sizeOf3 ⟨b,0,FZ⟩ ⟨g,(A.length+1),FZ⟩ 1 1 lb cb hbg 3 3 1 cap AY3 AY2 (by omega) (hfb 0) (hfb 1)]
  rfl
 obtain⟨W1,hW1⟩:∃W1,W1=w.drew.setCells g ((A.length+1)) (GH (y::R)):=⟨_,rfl⟩;have ho1:J9 W1 g cap (A++y::y::R):=by
  have h:J9 w.drew g cap ((A++[y])++R):=by rw[BR];exact ho
  have:=h.qE (y::R) (by simp;omega);rw[hW1];simpa using this
 have hg1:w.grownBy W1 (G5 g):=by rw[hW1];have:=H8 (g:=g) (GH (y::R)) ((A.length+1)) w.drew;exact⟨this.os,this.tape,this.output,this.size,this.block⟩
 have hcp1:∀ty dc sc,(DX #[56,56] ty #[FT (G5 ⟨g,(A.length+1),FZ⟩) (n-A.length) dc,FT (G5 ⟨g,A.length,FZ⟩) (n+1-A.length) sc]).run prog w.drew=.ok (goInt (Nat.min (n+1-A.length) (n-A.length))) W1:=fun ty dc sc=>by
  rw[hW1];exact A97 w.drew ty g _ _ dc ⟨g,A.length,FZ⟩ _ sc (GH (y::R)) (by rw[J5];simp only[Nat.min_def,BG];split<;>omega)
   (fun j v hj=>by
    rw[BJ];have:=hrow (A.length+j) v (by rw[H6,BA (by rw[J5];omega),J5,FC];exact hj);rw[BI]at this;exact this)
   (fun j hj=>by rw[J5]at hj;exact ho.AJ7 (by simp at hj;omega)) (fun j _=>ho.frozen _) (JF _)
 have hcp2:∀ty dc,(DX #[56,56] ty #[FT (G5 ⟨g,A.length,FZ⟩) (n+1-A.length) dc,FT (G5 ⟨b,0,FZ⟩) 1 1]).run prog W1=.ok (goInt (Nat.min 1 (n+1-A.length))) (W1.setCells g (A.length) [I0 x]):=fun ty dc=>
  A97 W1 ty g _ _ dc ⟨b,0,FZ⟩ 1 1 [I0 x] (by simp only[Nat.min_def,BG,EU];split<;>omega)
   (fun j v hj=>by
    rw[BJ];have hb2:W1.heap[b]?=w.heap[b]? :=hg1.block b (by unfold JM at h1;exact(AB.1 h1).1) (fun e=>hbg (Option.some.inj e));have h2:JM W1 b x:=hb2.trans h1;exact h2.row j v hj)
   (fun j hj=>ho1.AJ7 (by simp at hj;omega)) (fun j _=>ho1.frozen _) ((Lay.one x))
 have FIN:Hid (J9 (W1.setCells g (A.length) [I0 x]) g cap (A++x::y::R)/\w.grownBy (W1.setCells g (A.length) [I0 x]) (G5 g)):=
  ⟨ho1.CT1 x,IL hg1 (H8 _ _ _)⟩
 have hin:A.length<n:=by omega
 have C17:(A.length:Int)<(n:Int):=by omega
 have hw1:IntKind.i64.wrap ((A.length:Int)+1)=(A.length:Int)+1:=by rw[FH];omega
 have hb1:(0:Int)<=(A.length:Int)+1:=by omega
 have hb2:¬ (cap=A.length+1):=by omega
 have hb3:(A.length:Int)<=(n:Int)+1:=by omega
 have hb4:¬ (cap=A.length):=by omega
 have hb5:(A.length:Int)+1<=(n:Int)+1:=by omega
 have hb6:¬ ((cap:Int)<(n:Int)+1):=by omega
 have hz2:¬ ((A.length:Int)=(n:Int)):=by omega
 have htn:((A.length:Int)+1).toNat=A.length+1:=by omega
 clear hW1 ho1 hg1 hrow AY2 AY3 hfb ho h1 hn;go_enter func223,ntmps223;go_wp2_with (simp only[hov])
 go_region_law (refine MV rfl (.tmp 73) (.tmp 76) 56 56 rfl (FT (G5 ⟨g,(A.length+1),FZ⟩) (n-A.length) (cap-(A.length+1))) (FT (G5 ⟨g,A.length,FZ⟩) (n+1-A.length) (cap-A.length)) (by simp[Act.eval,Act.put]) (by simp[Act.eval,Act.put]) (hcp1 _ _ _) ?_)
 go_wp2_with (at_builtin;refine LD _ rfl _ _ 56 56 rfl _ _ rfl rfl (hcp2 _ _) ?_);go_ret;exact⟨rfl,FIN.out⟩
theorem CH6(k:Nat):(BH (I0 0).cells k).size=k:=by
 simp[BH,Value.cells]
theorem vH(g cap:Nat)(A R:List Int)(y x:Int)(n b:Nat)(w:FV)(ho:J9 w g cap (A++y::R))(hn:n=A.length+R.length+1)(hsm:n<=2147483647)(hroom:cap<n+1)(h1:JM w b x):
  FX prog 223 #[FT (G5 ⟨g,0,FZ⟩) n cap,I0 A.length,FT (G5 ⟨b,0,FZ⟩) 1 1] w fun e w'=>
   ∃cap',e=.returned (FT (G5 ⟨w.heap.size,0,FZ⟩) (n+1) cap')/\J9 w' w.heap.size cap' (A++x::y::R)/\B0 w w':=by
 have hcap:cap=n:=by have:=ho.le;simp at this;omega
 obtain⟨i0,hi0,hz0,hz1,hz2⟩:=zX;have hrow:=ho.row;have hgw:=ho.lt;have hbw:b<w.heap.size:=by unfold JM at h1;exact(AB.1 h1).1
 have hold:(Builtin.firstCells i0.size A.length (FT (G5 ⟨g,0,FZ⟩) A.length cap)).run prog w.drew=.ok (GH A).toArray w.drew:=by
  rw[hz1];exact run_firstCells_some w.drew 1 A.length ⟨g,0,FZ⟩ A.length cap (GH A) ((J5 A).trans (Nat.mul_one _).symm) (fun j v hj=>by
   rw[BJ];exact hrow j v (by rw[H6,BK (AU.1 hj).1];exact hj))
 obtain⟨G,hG⟩:∃G,G=grownCap w (n+1) cap 3:=⟨_,rfl⟩;have hGn:n+1<=G:=by rw[hG];exact grownCap_ge w _ _ _
 have hGm:G<=maxLen:=by rw[hG];exact grownCap_le_maxLen w (n+1) cap _ (by unfold maxLen;omega)
 have hG63:G<=9223372036854775807:=by have:=hGm;unfold maxLen at this;omega
 obtain⟨ROW,hROW⟩:∃ROW:Array FW,ROW=(GH A).toArray++BH (I0 0).cells (n+1-A.length)++BH (I0 0).cells (G-(n+1)):=⟨_,rfl⟩;obtain⟨W1,hW1⟩:∃W1,W1=w.drew.alloc (.cells ROW 3):=⟨_,rfl⟩;have hik:A.length+(n+1-A.length)=n+1:=by omega
 have hrz:∀ty,(Builtin.append_ #[56,3] ty #[FT (G5 ⟨g,0,FZ⟩) A.length cap,I0 ((n:Int)+1-(A.length:Int))]).run prog w=
   .ok (FT (G5 ⟨w.heap.size,0,FZ⟩) (n+1) G) W1:=fun ty=>by
  have h:=Lib.run_append_grow_zeros w 56 3 ty 3 i0 _ .i64 .i64 underlying56 underlying3 hi0 hz0 (G5 ⟨g,0,FZ⟩) A.length cap (GH A) hold (n+1-A.length) (by omega) (by omega) (by omega) (by omega) (by rw[hz2];omega) (by rw[hz2,hik];exact growslice_fits hroom (by omega));rw[hik,<-hG,<-hROW,<-hW1]at h;rw[show (n:Int)+1-(A.length:Int)=((n+1-A.length:Nat):Int) by omega];exact h
 have ho1:J9 W1 w.heap.size G A:=by
  refine⟨(BH (I0 0).cells (n+1-A.length)++BH (I0 0).cells (G-(n+1))).toList,?_,?_,by omega,hGm⟩
  .rw[hW1,hROW];have:=heap_alloc_new w.drew (.cells ((GH A).toArray++BH (I0 0).cells (n+1-A.length)++BH (I0 0).cells (G-(n+1))) 3);refine Eq.trans this ?_
   congr 2
   apply Array.toList_inj.1
   simp
  .simp only[show Lay.k Int=1 from rfl,Array.length_toList,Array.size_append,CH6,Nat.mul_one];omega
 have hB1:B0 w W1:=by rw[hW1];exact((Below.refl _ w).drew).alloc (A8 _) _
 obtain⟨W2,hW2⟩:∃W2,W2=W1.setCells w.heap.size (A.length) [I0 x]:=⟨_,rfl⟩;have ho2:J9 W2 w.heap.size G (A++[x]):=by
  have h:J9 W1 w.heap.size G (A++[]):=by rw[DN];exact ho1
  have:=h.qE [x] (by simp;omega);rw[hW2];rw[JK,RX,DN]at this;exact this
 have hg2:W1.grownBy W2 (G5 w.heap.size):=by rw[hW2];exact H8 _ _ _
 have hB2:B0 w W2:=hB1.grown hg2 hB1.size (fun k e=>by cases e;exact A8 _);have hcpA:∀ty dc,(DX #[56,56] ty #[FT (G5 ⟨w.heap.size,A.length,FZ⟩) (n+1-A.length) dc,FT (G5 ⟨b,0,FZ⟩) 1 1]).run prog W1=.ok (goInt (Nat.min 1 (n+1-A.length))) W2:=fun ty dc=>by
  rw[hW2];exact A97 W1 ty w.heap.size _ _ dc ⟨b,0,FZ⟩ 1 1 [I0 x] (by simp only[Nat.min_def,BG,EU];split<;>omega)
   (fun j v hj=>by rw[BJ];exact(show JM W1 b x from(hB1.block b hbw).trans h1).row j v hj)
   (fun j hj=>ho1.AJ7 (by simp at hj;omega)) (fun j _=>ho1.frozen _) ((Lay.one x))
 obtain⟨W3,hW3⟩:∃W3,W3=W2.drew.setCells w.heap.size ((A.length+1)) (GH (y::R)):=⟨_,rfl⟩;have hcpB:∀ty dc sc,(DX #[56,56] ty #[FT (G5 ⟨w.heap.size,(A.length+1),FZ⟩) (n-A.length) dc,FT (G5 ⟨g,A.length,FZ⟩) (n-A.length) sc]).run prog W2.drew=.ok (goInt (Nat.min (n-A.length) (n-A.length))) W3:=fun ty dc sc=>by
  rw[hW3];exact A97 W2.drew ty w.heap.size _ _ dc ⟨g,A.length,FZ⟩ _ sc (GH (y::R)) (by rw[J5];simp only[Nat.min_self,BG];omega)
   (fun j v hj=>by
    rw[BJ];have:=hrow (A.length+j) v (by rw[H6,BA (by rw[J5];omega),J5,FC];exact hj);rw[BI]at this;exact(hB2.cell (p:=⟨g,A.length+j,FZ⟩) hgw).trans this)
   (fun j hj=>by rw[J5]at hj;exact ho2.drew.AJ7 (by simp at hj;omega)) (fun j _=>ho2.drew.frozen _) (JF _)
 have FIN:Hid (J9 W3 w.heap.size G (A++x::y::R)/\B0 w W3):=by
  refine⟨?_,?_⟩
  .have h:J9 W2.drew w.heap.size G ((A++[x])++[]):=by rw[DN];exact ho2
   have:=h.qE (y::R) (by simp;omega);rw[hW3];simpa using this
  .rw[hW3];exact hB2.drew.grown (H8 _ _ _) hB2.size (fun k e=>by cases e;exact A8 _)
 have hin:A.length<n:=by omega
 have C17:(A.length:Int)<(n:Int):=by omega
 have hw1:IntKind.i64.wrap ((A.length:Int)+1)=(A.length:Int)+1:=by rw[FH];omega
 have hb1:(0:Int)<=(A.length:Int)+1:=by omega
 have hb2:¬ (G=A.length+1):=by omega
 have hb3:(A.length:Int)<=(n:Int)+1:=by omega
 have hb4:¬ (n=A.length):=by omega
 have hb5:(A.length:Int)+1<=(n:Int)+1:=by omega
 have hb6:¬ (G=A.length):=by omega
 have hb7:(A.length:Int)<=(n:Int):=by omega
 have hz3:¬ ((A.length:Int)=(n:Int)):=by omega
 have htn:((A.length:Int)+1).toNat=A.length+1:=by omega
 subst hcap;clear hn hROW hW1 hW2 hW3 hG hrow ho h1 ho1 ho2 hB1 hB2 hg2 hold hik;go_enter func223,ntmps223;go_wp2_with (first
  |(at_builtin;refine Lib.wpList_append_run _ rfl _ _ _ _ rfl _ _ rfl rfl _ _ (hrz _) ?_)
  |(at_builtin;refine LD _ rfl _ _ 56 56 rfl _ _ rfl rfl (hcpA _ _) ?_))
 go_region_law (refine MV rfl (.tmp 50) (.tmp 53) 56 56 rfl (FT (G5 ⟨w.heap.size,(A.length+1),FZ⟩) (cap-A.length) (G-(A.length+1))) (FT (G5 ⟨g,A.length,FZ⟩) (cap-A.length) (cap-A.length)) (by simp[Act.eval,Act.put]) (by simp[Act.eval,Act.put]) (hcpB _ _ _) ?_)
 go_wp2
 go_ret;exact⟨G,rfl,FIN.out⟩
theorem A00(v:FW)(A R:List Int)(x:Int)(q:Nat)(w:FV)(ho:H7 w 0 v (A++R))(hl:(A++R).length<=2147483647)(h1:JM w q x)(hq:v.ownBlock≠G5 q):
  FX prog 223 #[v,I0 A.length,FT (G5 ⟨q,0,FZ⟩) 1 1] w fun e w'=>
   ∃v',e=.returned v'/\H7 w' 0 v' (A++x::R)/\w.grownBy w' v.ownBlock/\(v'.ownBlock=v.ownBlock\/∃k,w.heap.size<=k/\v'.ownBlock=G5 k):=by
 cases R with
 |nil=>
  rw[DN]at ho hl;refine(zZ v A x 0 q w ho (AY _) hl h1).mono ?_;rintro e w' ⟨v',rfl,h2,h3,h4⟩;refine⟨v',rfl,h2,h3,?_⟩;rcases h4 with h|h
  .exact .inl h
  .exact .inr ⟨_,A8 _,h⟩
 |cons y R=>
  rcases ho with⟨_,h⟩|⟨g,cap,rfl,_,ho⟩
  .simp at h
  .have hn:(A++y::R).length=A.length+R.length+1:=by simp;omega
   by_cases hc:(A++y::R).length+1<=cap
   .refine(qH g cap A R y x _ q w ho hn hl hc h1 (fun e=>hq (by rw[e];rfl))).mono ?_;rintro e w' ⟨rfl,h2,h3⟩;exact⟨_,rfl,.inr ⟨g,cap,by simp;omega,AY _,h2⟩,h3,.inl rfl⟩
   .refine(vH g cap A R y x _ q w ho hn hl (by omega) h1).mono ?_;rintro e w' ⟨cap',rfl,h2,h3⟩;exact⟨_,rfl,.inr ⟨w.heap.size,cap',by simp;omega,AY _,h2⟩,⟨h3.os,h3.tape,h3.output,h3.size,fun k hk _=>h3.block k hk⟩,.inr ⟨_,A8 _,rfl⟩⟩
