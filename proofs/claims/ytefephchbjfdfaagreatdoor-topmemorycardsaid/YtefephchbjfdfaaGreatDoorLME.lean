/-
  Part.
-/
import Derived.Test.YtefephchbjfdfaaGreatDoorLMD
import Derived.Lib.JoinLaws
import Derived.Deep.RegionHeld3
import Derived.Lib.AppendZerosOnto
import Derived.Lib.Overlaps
set_option maxRecDepth 20000
set_option maxHeartbeats 8000000
namespace Go.Proofs.YtefephchbjfdfaaGreatDoor
open Go.RowKit Go.Proofs.Tryz
open _root_.Nat renaming le_refl->AA,zero_le->AZ,zero_add->BK,add_sub_cancel_left->FH
open _root_.Array renaming getElem?_eq_some_iff->AL
open _root_.List renaming getElem?_eq_getElem->AO,length_append->AP,getElem?_eq_some_iff->AV,getElem?_append_right->BD,length_cons->BH,getElem?_append_left->BN,mem_cons->BR,append_assoc->BZ,eq_nil_of_length_eq_zero->C9,mem_append->D8,pairwise_append->DN,append_nil->DV,mem_filter->EK,length_nil->EZ,mem_map->F5
open Go.Builtin renaming zeroCells->BJ,copy_->EC
open Go.Addr renaming add_lit->BM
open Go.Lib renaming compareBytes->EU
open Go.IntKind renaming wrap_i64->FK
open _root_.Option renaming map_eq_some_iff->FQ,none->G6,some->G8
open Go.Value renaming slice->FV
open Go renaming World->FX,Value->FZ,Calls->G5
variable{z s:Int}{ns A B xs:List Nd}{ss:List Int}{n u x:Nd}{p:List UInt8}{ps:List (List UInt8)}{t:Tr}{w W:FX}{b off i g cap:Nat}
theorem PZ.mono{z':Int}(g:PZ z ns ss)(h:z<=z'):PZ z' ns ss:=
 ⟨g.few,g.root,g.asc,fun n hn=>by
  have k:=g.ok n hn;have:=k.mz;have:=k.qz;exact⟨k.data,k.path,k.up,k.c0,k.cm,k.cq,by omega,by omega,k.v0,k.v1,k.k0,k.kids,k.own⟩⟩
theorem PZ.more{ss':List Int}(g:PZ z ns ss)(h:∀n∈ns,n.o≠0->n.o∈ss->n.o∈ss'):PZ z ns ss':=
 ⟨g.few,g.root,g.asc,fun n hn=>by
  have k:=g.ok n hn;refine⟨k.data,k.path,k.up,k.c0,k.cm,k.cq,k.mz,k.qz,k.v0,k.v1,k.k0,k.kids,?_⟩;rcases k.own with h'|⟨h1,h2⟩
  .exact .inl h'
  .by_cases h0:n.o=0
   .exact .inl h0
   .exact .inr ⟨h n hn h0 h1,h2⟩⟩
theorem AV4(g:PZ z ns ss)(hn:n∈ns)(hp:n.p≠[47]):∃u,LW ns (IL n.p)=G8 u/\u∈ns/\u.p=IL n.p/\u.p≠n.p/\u.o=0:=by
 obtain⟨u,hu,he⟩:=(g.ok n hn).up hp;have hne:u.p≠n.p:=by rw[he];exact(qH (g.ok n hn).path hp).1
 refine⟨u,by rw[<-he];exact aQ g.asc hu,hu,he,hne,?_⟩;rcases(g.ok u hu).own with h|⟨_,h⟩
 .exact h
 .exfalso;have h1:=(g.ok u hu).kids;have h2:0<OG ns u.p:=List.countP_pos_iff.2 ⟨n,hn,by simp[he]⟩;omega
theorem CG9(g:PZ z ns ss)(hn:n∈ns)(h:n.o≠0):n.p≠[47]:=by
 intro e;obtain⟨r,rest,hr,hp,ho⟩:=g.root;have:n=r:=UL g.asc hn (by rw[hr];simp) (by rw[e,hp]);exact h (by rw[this];exact ho)
theorem BF9(g:PZ z ns ss)(f:Nd->Nd)(hf:∀n,(f n).p=n.p)(hk:∀n∈ns,NOk z ns ss n->NOk z ns ss (f n)/\(n.p=[47]->(f n).o=n.o)):PZ z (ns.map f) ss:=by
 have hp:(ns.map f).map Nd.p=ns.map Nd.p:=by rw[List.map_map];exact List.map_congr_left fun n _=>hf n
 have hkd:∀p,OG (ns.map f) p=OG ns p:=fun p=>by rw[QD,hp,<-QD]
 refine⟨by simpa using g.few,?_,by rw[OZ,hp,<-OZ];exact g.asc,?_⟩
 .obtain⟨r,rest,h,h1,h2⟩:=g.root;exact⟨f r,rest.map f,by rw[h];rfl,by rw[hf,h1],by rw[(hk r (by rw[h];simp) (g.ok r (by rw[h];simp))).2 h1,h2]⟩
 .intro n hn;obtain⟨m,hm,rfl⟩:=F5.1 hn;have k:=(hk m hm (g.ok m hm)).1;refine⟨k.data,k.path,fun h=>?_,k.c0,k.cm,k.cq,k.mz,k.qz,k.v0,k.v1,k.k0,by rw[hkd];exact k.kids,k.own⟩;obtain⟨u,hu,he⟩:=k.up h;exact⟨f u,F5.2 ⟨u,hu,rfl⟩,by rw[hf];exact he⟩
def rmN(z:Int)(ns:List Nd)(p:List UInt8):List Nd:=OL (IL p) z (-1) (zS ns p)
theorem AV5(g:PZ z ns ss)(T:KL ns A n B p)(hk:n.n=0)(hp:p≠[47]):PZ z (rmN z ns p) ss:=by
 have hn:n∈ns:=by rw[T.eq];simp
 have hnp:=T.nm;have hdrop:=T.drop;have jH:(rmN z ns p).map Nd.p=(A++B).map Nd.p:=by rw[rmN,WY,hdrop]
 have hsub:(A++B).Sublist ns:=by rw[T.eq];exact(List.Sublist.refl A).append (List.sublist_cons_self n B)
 have CR9:∀x,OG (rmN z ns p) x+(if IL p=x then 1 else 0)=OG ns x:=by
  intro x;rw[QD,jH,<-QD,T.eq];simp only[OG,List.countP_append,List.countP_cons,decide_eq_true_eq,hnp];omega
 have hno:∀m∈ns,IL m.p≠p:=by
  intro m hm e;have h1:=(g.ok n hn).kids;have h2:0<OG ns n.p:=List.countP_pos_iff.2 ⟨m,hm,by simp[e,hnp]⟩;omega
 have hmem:∀m∈ns,m.p≠p->m∈A++B:=by
  intro m hm h;rw[<-hdrop,zS];exact EK.2 ⟨hm,by simpa using h⟩
 refine⟨?_,?_,?_,?_⟩
 .have h1:=g.few;have h2:(rmN z ns p).length=(A++B).length:=by have:=congrArg List.length jH;simpa using this
  rw[T.eq]at h1;simp at h1 h2⊢;omega
 .obtain⟨r,rest,h,h1,h2⟩:=g.root
  cases A with
  |nil=>
   have:=T.eq;rw[h]at this
   cases this
   exact absurd (hnp.symm.trans h1) hp
  |cons a A'=>
   have:=T.eq;rw[h]at this
   cases this
   rw[rmN,hdrop,OL];refine⟨_,_,List.map_cons,by rw[YV];exact h1,?_⟩
   split
   .exact h2
   .exact h2
 .rw[OZ,jH,<-OZ];exact g.asc.sublist hsub
 .intro m' hm';rw[rmN,hdrop,OL]at hm';obtain⟨m,hm,rfl⟩:=F5.1 hm';have hms:=hsub.mem hm;have k:=g.ok m hms;have hup:m.p≠[47]->∃u∈rmN z ns p,u.p=IL m.p:=by
   intro h;obtain⟨u,hu,he⟩:=k.up h;have h1:=hmem u hu (by rw[he];exact hno m hms);exact⟨_,by rw[rmN,hdrop,OL];exact F5.2 ⟨u,h1,rfl⟩,by rw[YV];exact he⟩
  have hkm:=CR9 m.p;have:=k.kids;have:=k.c0;have:=k.cq;have:=k.qz;have:=k.k0
  split
  .rename_i e
   rw[if_pos e.symm]at hkm;refine⟨k.data,k.path,hup,k.c0,k.cm,?_,k.mz,?_,k.v0,k.v1,?_,?_,?_⟩
   .show m.c<=z;omega
   .exact Int.le_refl _
   .show 0<=m.k+1;omega
   .show m.n+ -1=_;show _=((OG (rmN z ns p) m.p:Nat):Int);omega
   .rcases k.own with h|⟨h1,h2⟩
    .exact .inl h
    .omega
  .rename_i e
   rw[if_neg (fun h=>e h.symm)]at hkm;exact⟨k.data,k.path,hup,k.c0,k.cm,k.cq,k.mz,k.qz,k.v0,k.v1,k.k0,by omega,k.own⟩
def uU(z:Int)(ns:List Nd)(x:Nd):List Nd:=OL (IL x.p) z 1 (CR8 ns x)
theorem A83{z:Int}{ns A B:List Nd}{ss:List Int}{x:Nd}(g:PZ z ns ss)(G:nJ ns A B x.p)(hl:ns.length<400)(hg:J8 x.p=true)(hp:x.p≠[47])(hu:∃u∈ns,u.p=IL x.p/\u.o=0)
  (hd:x.d.length<=256) (hz:0<=z) (hc:x.c=z) (hm:x.m=z) (hq:x.q=z) (hv:x.v=0) (hk:x.k=0) (hn:x.n=0) (ho:x.o=0\/x.o∈ss):PZ z (uU z ns x) ss:=by
 have hins:=G.ins;have jH:(uU z ns x).map Nd.p=(A++x::B).map Nd.p:=by rw[uU,WY,hins]
 have hmem:∀m∈ns,m∈A++x::B:=by
  intro m h;rw[G.eq]at h;rcases D8.1 h with h|h<;>simp[h]
 have CR9:∀y,OG (uU z ns x) y=OG ns y+(if IL x.p=y then 1 else 0):=by
  intro y;rw[QD,jH,<-QD,G.eq];simp only[OG,List.countP_append,List.countP_cons,decide_eq_true_eq];omega
 have hno:OG ns x.p=0:=by
  apply List.countP_eq_zero.2
  intro m hm;simp only[decide_eq_true_eq];intro e;have k:=g.ok m hm;by_cases h:m.p=[47]
  .rw[h,UJ]at e;rw[<-e,AV0]at hg
   cases hg
  .obtain⟨u,hu,he⟩:=k.up h;exact G.no u hu (he.trans e)
 obtain⟨r,rest,hr,hr1,hr2⟩:=g.root;refine⟨?_,?_,?_,?_⟩
 .have h2:(uU z ns x).length=(A++x::B).length:=by have:=congrArg List.length jH;simpa using this
  rw[G.eq]at hl;simp at hl h2⊢;omega
 .cases A with
  |nil=>
   exfalso;have hB:=G.eq;simp at hB;have h1:=G.hi r (by rw[<-hB,hr];simp);rw[hr1]at h1;obtain⟨s,hs⟩:=jF hg;rw[hs]at h1 hp
   cases s with
   |nil=>exact hp rfl
   |cons c s=>simp[bl,Op.bytesLess]at h1
  |cons a A'=>
   have:=G.eq;rw[hr]at this
   cases this
   rw[uU,hins,OL];refine⟨_,_,List.map_cons,by rw[YV];exact hr1,?_⟩
   split
   .exact hr2
   .exact hr2
 .rw[OZ,jH,<-OZ];have h:=g.asc;rw[G.eq]at h;unfold uD at h⊢;rw[DN]at h;rw[DN,List.pairwise_cons];refine⟨h.1,⟨G.hi,h.2.1⟩,fun a ha b hb=>?_⟩;rcases BR.1 hb with rfl|hb
  .exact G.lo a ha
  .exact h.2.2 a ha b hb
 .have hin:∀m∈A++x::B,(if m.p=IL x.p then bump z 1 m else m)∈uU z ns x:=fun m h=>by rw[uU,hins,OL];exact F5.2 ⟨m,h,rfl⟩
  intro m' hm';rw[uU,hins,OL]at hm';obtain⟨m,hm2,rfl⟩:=F5.1 hm';have hcase:m=x\/m∈ns:=by
   rcases D8.1 hm2 with h|h
   .exact .inr (by rw[G.eq];simp[h])
   .rcases BR.1 h with h|h
    .exact .inl h
    .exact .inr (by rw[G.eq];simp[h])
  rcases hcase with rfl|hms
  .rw[if_neg (fun h=>(qH hg hp).1 h.symm)];obtain⟨u,hu1,hu2,_⟩:=hu;have hkm:=CR9 m.p;rw[if_neg (qH hg hp).1,hno]at hkm;refine⟨hd,hg,fun _=>⟨_,hin u (hmem u hu1),by rw[YV];exact hu2⟩,by omega,by omega,by omega,by omega,by omega,by omega,by omega,by omega,by omega,?_⟩;rcases ho with h|h
   .exact .inl h
   .exact .inr ⟨h,hn⟩
  .have k:=g.ok m hms;have hup:m.p≠[47]->∃u∈uU z ns x,u.p=IL m.p:=fun h=>by
    obtain⟨u,hu,he⟩:=k.up h;exact⟨_,hin u (hmem u hu),by rw[YV];exact he⟩
   have hkm:=CR9 m.p;have:=k.kids;have:=k.cq;have:=k.qz;have:=k.k0
   split
   .rename_i e
    rw[if_pos e.symm]at hkm;refine⟨k.data,k.path,hup,k.c0,k.cm,?_,k.mz,Int.le_refl _,k.v0,k.v1,?_,?_,?_⟩
    .show m.c<=z;omega
    .show 0<=m.k+1;omega
    .show m.n+1=((OG (uU z ns x) m.p:Nat):Int);omega
    .obtain⟨u,hu1,hu2,hu3⟩:=hu;have:m=u:=UL g.asc hms hu1 (by rw[e,hu2]);exact .inl (by rw[this];exact hu3)
   .rename_i e
    rw[if_neg (fun h=>e h.symm)]at hkm;exact⟨k.data,k.path,hup,k.c0,k.cm,k.cq,k.mz,k.qz,k.v0,k.v1,k.k0,by omega,k.own⟩
theorem BG0(g:PZ z ns ss)(p d:List UInt8)(v:Int)(hd:d.length<=256)(hv:0<=v/\v<=2147483647)(hz:∀n∈ns,n.c<=z):PZ z (AV2 p d v z ns) ss:=by
 refine BF9 g _ (fun n=>by split<;>rfl) (fun n hn k=>?_)
 split
 .exact⟨⟨hd,k.path,k.up,k.c0,hz n hn,k.cq,Int.le_refl _,k.qz,hv.1,hv.2,k.k0,k.kids,k.own⟩,fun _=>rfl⟩
 .exact⟨k,fun _=>rfl⟩
def P6(ns:List Nd)(s:Int):List (List UInt8):=(ns.filter fun n=>decide (n.o=s)).map Nd.p
def RJ(z:Int)(ns:List Nd)(ps:List (List UInt8)):List Nd:=ps.foldl (rmN z) ns
def AV6(ps:List (List UInt8)):List Ev:=ps.flatMap fun p=>[⟨2,p⟩,⟨4,IL p⟩]
def YQ(ns:List Nd):Bool:=ns.any fun n=>decide (2147483647<n.k)
def A84(x:GV):Nd:=⟨x.p,x.d,x.z,x.z,x.z,0,0,x.w,0⟩
noncomputable def WL(t:Tr)(x:GV):Int:=
 if UK t=false then 3 else if gdE x≠0 then gdE x else if x.z<=t.z then 13 else if x.o=1/\x.s∈t.ss then 8 else if x.o≠1/\x.s∉t.ss then 12 else 0
def AH3(t:Tr)(x:GV):Int:=if(LW t.ns x.p).isSome=true then 8 else(match LW t.ns (IL x.p)with
 |none=>7
 |some u=>if u.o≠0 then 11 else if x.w≠0/\x.w≠x.s then 12 else if t.ns.length=400 then 6 else 0)
def BG1(t:Tr)(x:GV):Int:=match LW t.ns x.p with
 |none=>7
 |some n=>if n.n≠0 then 10 else 0
def CF3(t:Tr)(x:GV):Int:=match LW t.ns x.p with
 |none=>7
 |some n=>if x.v≠n.v+1 then 9 else 0
def lY(t:Tr)(x:GV):Int:=if x.o=3 then AH3 t x else if x.o=4 then BG1 t x else if x.o=5 then CF3 t x else 0
def gQ(t:Tr)(x:GV):List Nd:=if x.o=2 then RJ x.z t.ns (P6 t.ns x.s)else if x.o=3 then uU x.z t.ns (A84 x)else if x.o=4 then rmN x.z t.ns x.p else if x.o=5 then AV2 x.p x.d x.v x.z t.ns else t.ns
def qJ(t:Tr)(x:GV):List Int:=if x.o=1 then C09 t.ss x.s else if x.o=2 then AH2 t.ss x.s else t.ss
def qK(t:Tr)(x:GV):List Ev:=if x.o=2 then AV6 (P6 t.ns x.s)else if x.o=3 then [⟨1,x.p⟩,⟨4,IL x.p⟩]else if x.o=4 then [⟨2,x.p⟩,⟨4,IL x.p⟩]else if x.o=5 then [⟨3,x.p⟩]else []
noncomputable def YR(t:Tr)(x:GV):Int:=if WL t x≠0 then WL t x else if lY t x≠0 then lY t x else if YQ (gQ t x)=true then 6 else 0
noncomputable def jI(t:Tr)(x:GV):Tr:=if YR t x=0 then⟨x.z,gQ t x,qJ t x⟩else tr0
noncomputable def YW(t:Tr)(x:GV):List Ev:=if YR t x=0 then qK t x else []
theorem OW:YQ ns=false↔∀n∈ns,n.k<=2147483647:=by
 rw[YQ,List.any_eq_false];constructor
 .intro h n hn;have:=h n hn;simp at this;omega
 .intro h n hn;have:=h n hn;simp;omega
theorem nM:YQ ns=true↔∃n∈ns,2147483647<n.k:=by
 rw[YQ,List.any_eq_true];constructor
 .rintro⟨n,hn,h⟩;exact⟨n,hn,by simpa using h⟩
 .rintro⟨n,hn,h⟩;exact⟨n,hn,by simpa using h⟩
structure CH0(s:Int)(cur:List Nd)(ps:List (List UInt8)):Prop where
 s0:s≠0
 nd:ps.Nodup
 there:∀p∈ps,∃n∈cur,n.p=p/\n.o=s
theorem BW5(h:n∈rmN z ns p):∃m∈ns,m.p≠p/\n=(if m.p=IL p then bump z (-1) m else m):=by
 rw[rmN,OL]at h;obtain⟨m,hm,rfl⟩:=F5.1 h;rw[zS]at hm;obtain⟨h1,h2⟩:=EK.1 hm;exact⟨m,h1,by simpa using h2,rfl⟩
theorem AV7{m:Nd}(h:m∈ns)(hp:m.p≠p):(if m.p=IL p then bump z (-1) m else m)∈rmN z ns p:=by
 rw[rmN,OL];exact F5.2 ⟨m,by rw[zS];exact EK.2 ⟨h,by simpa using hp⟩,rfl⟩
theorem AV8(q:List UInt8)(z more:Int)(n:Nd):(if n.p=q then bump z more n else n).o=n.o:=by split<;>rfl
theorem BW6(q:List UInt8)(z more:Int)(n:Nd):(if n.p=q then bump z more n else n).d=n.d:=by split<;>rfl
theorem BW7(q:List UInt8)(z more:Int)(n:Nd):(if n.p=q then bump z more n else n).v=n.v:=by split<;>rfl
theorem CH1(q:List UInt8)(z more:Int)(n:Nd):n.k<=(if n.p=q then bump z more n else n).k:=by
 split
 .show n.k<=n.k+1;omega
 .exact Int.le_refl _
theorem uV{cur:List Nd}(g:PZ z cur ss)(R:CH0 s cur (p::ps)):
  ∃A n B u,KL cur A n B p/\n.o=s/\n.n=0/\p≠[47]/\J8 p=true/\LW cur (IL p)=G8 u/\u∈cur/\u.p=IL p/\u.p≠p/\u.o=0/\u.p∉ps/\PZ z (rmN z cur p) ss/\CH0 s (rmN z cur p) ps:=by
 obtain⟨n,hn,rfl,ho⟩:=R.there p (by simp);obtain⟨A,B,T⟩:=RY g.asc (aQ g.asc hn);have h0:n.o≠0:=by rw[ho];exact R.s0
 have hk:n.n=0:=by
  rcases(g.ok n hn).own with h|⟨_,h⟩
  .exact absurd h h0
  .exact h
 have hr:=CG9 g hn h0;obtain⟨u,hu1,hu2,hu3,hu4,hu5⟩:=AV4 g hn hr;refine⟨A,n,B,u,T,ho,hk,hr,(g.ok n hn).path,hu1,hu2,hu3,hu4,hu5,?_,AV5 g T hk hr,R.s0,(List.nodup_cons.1 R.nd).2,?_⟩
 .intro hm;obtain⟨m,hm1,hm2,hm3⟩:=R.there u.p (by simp[hm]);have:m=u:=UL g.asc hm1 hu2 hm2;rw[this,hu5]at hm3;exact R.s0 hm3.symm
 .intro q hq;obtain⟨m,hm1,hm2,hm3⟩:=R.there q (by simp[hq]);have hne:m.p≠n.p:=by
   rw[hm2];rintro rfl;exact(List.nodup_cons.1 R.nd).1 hq
  exact⟨_,AV7 hm1 hne,by rw[YV];exact hm2,by rw[AV8];exact hm3⟩
theorem nO(g:PZ z ns ss)(h:s≠0):CH0 s ns (P6 ns s):=by
 refine⟨h,?_,fun p hp=>?_⟩
 .have h1:(ns.filter fun n=>decide (n.o=s)).Pairwise fun a b=>bl a.p b.p=true:=g.asc.filter _;rw[List.Nodup,P6,List.pairwise_map];exact h1.imp fun h=>WT h
 .obtain⟨n,hn,rfl⟩:=F5.1 hp;obtain⟨h1,h2⟩:=EK.1 hn;exact⟨n,h1,rfl,by simpa using h2⟩
theorem nP:∀ (ps:List (List UInt8)) (cur:List Nd),PZ z cur ss->CH0 s cur ps->PZ z (RJ z cur ps) ss
 |[],_,g,_=>g
 |p::ps,cur,g,R=>by
  obtain⟨_,_,_,_,_,_,_,_,_,_,_,_,_,_,_,g',R'⟩:=uV g R;exact nP ps (rmN z cur p) g' R'
theorem uX:∀ (ps:List (List UInt8)) (cur:List Nd) (n:Nd),n∈RJ z cur ps->∃m∈cur,m.p=n.p/\m.o=n.o/\m.d=n.d/\m.v=n.v/\m.p∉ps
 |[],cur,n,h=>⟨n,h,rfl,rfl,rfl,rfl,by simp⟩
 |p::ps,cur,n,h=>by
  obtain⟨m,h1,h2,h3,h4,h5,h6⟩:=uX ps (rmN z cur p) n h;obtain⟨m',h1',hne,rfl⟩:=BW5 h1;rw[YV]at h2 h6;rw[AV8]at h3;rw[BW6]at h4;rw[BW7]at h5;exact⟨m',h1',h2,h3,h4,h5,by simp[hne,h6]⟩
theorem uY:∀ (ps:List (List UInt8)) (cur:List Nd) (m:Nd),m∈cur->m.p∉ps->∃n∈RJ z cur ps,n.p=m.p/\n.o=m.o/\n.d=m.d/\n.v=m.v/\m.k<=n.k
 |[],_,m,h,_=>⟨m,h,rfl,rfl,rfl,rfl,Int.le_refl _⟩
 |p::ps,cur,m,h,hp=>by
  simp only[BR,not_or]at hp;have h':=AV7 (z:=z) h hp.1;obtain⟨n,h1,h2,h3,h4,h5,h6⟩:=uY ps (rmN z cur p) _ h' (by rw[YV];exact hp.2);exact⟨n,h1,by rw[h2,YV],by rw[h3,AV8],by rw[h4,BW6],by rw[h5,BW7],Int.le_trans (CH1 _ _ _ _) h6⟩
theorem AH4(ps:List (List UInt8))(cur:List Nd)(h:∃u∈cur,u.p∉ps/\2147483647<u.k):YQ (RJ z cur ps)=true:=by
 obtain⟨u,h1,h2,h3⟩:=h;obtain⟨n,hn,_,_,_,_,hk⟩:=uY (z:=z) ps cur u h1 h2;exact nM.2 ⟨n,hn,by omega⟩
theorem BW8(ha:uD ns)(hu:u∈ns)(hp:u.p=IL p)(hk:u.k<2147483647)(h:∀n∈ns,n.k<=2147483647):∀n∈rmN z ns p,n.k<=2147483647:=by
 intro n hn;obtain⟨m,hm,_,rfl⟩:=BW5 hn
 split
 .rename_i e
  have:m=u:=UL ha hm hu (by rw[e,hp]);subst this;show m.k+1<=_;omega
 .exact h m hm
theorem AV9(hu:u∈ns)(hp:u.p=IL p)(hne:u.p≠p)(hk:u.k=2147483647)(ps:List (List UInt8))(hps:u.p∉ps):YQ (RJ z (rmN z ns p) ps)=true:=
 AH4 ps _ ⟨bump z (-1) u,by have:=AV7 (z:=z) hu hne;rwa[if_pos hp]at this,hps,by show 2147483647<u.k+1;omega⟩
theorem zT(z:Int)(ns:List Nd)(ps:List (List UInt8))(k:Nat):RJ z ns ps=RJ z (RJ z ns (ps.take k)) (ps.drop k):=by
 rw[RJ,RJ,RJ,<-List.foldl_append,List.take_append_drop]
theorem AH5(z:Int)(ns:List Nd){k:Nat}(h:ps[k]?=G8 p):RJ z ns (ps.take (k+1))=rmN z (RJ z ns (ps.take k)) p:=by
 rw[RJ,List.take_add_one,h,List.foldl_append];rfl
theorem AW4{k:Nat}(h:ps[k]?=G8 p):AV6 (ps.take (k+1))=AV6 (ps.take k)++[⟨2,p⟩,⟨4,IL p⟩]:=by
 rw[AV6,List.take_add_one,h,List.flatMap_append];rfl
theorem A85(ps:List (List UInt8)):(AV6 ps).length=2*ps.length:=by
 induction ps with
 |nil=>rfl
 |cons p ps ih=>
  rw[AV6]at ih;simp only[AV6,List.flatMap_cons,AP,BH,EZ,ih];omega
theorem WZ(p:List UInt8):(IL p).length<=200:=by
 cases hgb:J8 p with
 |false=>rw[aP hgb];simp
 |true=>
  by_cases hr:p=[47]
  .rw[hr,UJ];simp
  .obtain⟨a,c,he,hc⟩:=aK hgb;have:=MV hgb;rw[he]at hgb hr this⊢;rw[aO hgb hr hc,CG7]
   split
   .simp
   .simp at this;omega
theorem nR{cur:List Nd}{q:List UInt8}(ha:uD cur)(T:KL cur A n B p)(hu:u∈cur)(hq:u.p=q)(hne:u.p≠p):∃A' B',KL (A++B) A' u B' q:=by
 have hm:u∈A++B:=by rw[<-T.drop,zS];exact EK.2 ⟨hu,by simpa using hne⟩
 have hs:uD (A++B):=ha.sublist (by rw[T.eq];exact(List.Sublist.refl A).append (List.sublist_cons_self n B));rw[<-hq];exact RY hs (aQ hs hm)
theorem QK{x:GV}(h:WL t x=0):RX t/\gdE x=0/\t.z<x.z/\(x.o=1->x.s∉t.ss)/\(x.o≠1->x.s∈t.ss):=by
 unfold WL at h
 split at h
 .omega
 .rename_i h1
  split at h
  .omega
  .rename_i h2
   split at h
   .omega
   .rename_i h3
    split at h
    .omega
    .rename_i h4
     split at h
     .omega
     .rename_i h5
      refine⟨SV.1 (by simpa using h1),by omega,by omega,fun e hm=>h4 ⟨e,hm⟩,fun e=>?_⟩;by_cases hm:x.s∈t.ss
      .exact hm
      .exact absurd ⟨e,hm⟩ h5
theorem qL{x:GV}(h:YR t x=0):WL t x=0/\lY t x=0/\YQ (gQ t x)=false:=by
 unfold YR at h
 split at h
 .rename_i h1;exact absurd h h1
 .rename_i h1
  split at h
  .rename_i h2;exact absurd h h2
  .rename_i h2
   split at h
   .omega
   .rename_i h3;exact⟨by omega,by omega,by simpa using h3⟩
theorem BG2{x:GV}(h:AH3 t x=0):LW t.ns x.p=G6/\(∃u,LW t.ns (IL x.p)=G8 u/\u.o=0)/\(x.w=0\/x.w=x.s)/\t.ns.length≠400:=by
 unfold AH3 at h
 split at h
 .omega
 .rename_i h1
  split at h
  .omega
  .rename_i u hu
   split at h
   .omega
   .rename_i h2
    split at h
    .omega
    .rename_i h3
     split at h
     .omega
     .rename_i h4
      refine⟨by simpa using h1,⟨u,hu,by omega⟩,?_,h4⟩;by_cases e:x.w=0
      .exact .inl e
      .by_cases e':x.w=x.s
       .exact .inr e'
       .exact absurd ⟨e,e'⟩ h3
theorem BG3{x:GV}(h:BG1 t x=0):∃n,LW t.ns x.p=G8 n/\n.n=0:=by
 unfold BG1 at h
 split at h
 .omega
 .rename_i n hn
  split at h
  .omega
  .exact⟨n,hn,by omega⟩
structure Fine(x:GV):Prop where
 op:1<=x.o/\x.o<=5
 z:0<=x.z/\KP x.z=true
 s:1<=x.s/\x.s<=2147483647
 v:0<=x.v/\x.v<=2147483647
 w:0<=x.w/\x.w<=2147483647
 d:x.d.length<=256
 path:x.o=3\/x.o=4->J8 x.p=true/\x.p≠[47]
 CT9:x.o=5->J8 x.p=true
 data:x.o≠3->x.o≠5->x.d=[]
theorem ZJ{x:GV}(h:gdE x=0):Fine x:=by
 obtain⟨h1,h2,h3,h4⟩:=gY h;obtain⟨n1,n2,n3,n4⟩:=qE.1 h2;have o:=jC.1 h1;have z:=n1;simp only[KP,Bool.and_eq_true,decide_eq_true_eq]at z;refine⟨o,⟨z.1,n1⟩,VB.1 n2,VB.1 n3,VB.1 n4,h3,?_,?_,?_⟩
 .rintro(e|e)
  .simp[fmB,e]at h4;exact⟨h4.1.1,h4.1.2⟩
  .simp[fmB,e]at h4;exact⟨h4.1.1.1.1,h4.1.1.1.2⟩
 .intro e;simp[fmB,e]at h4;exact h4.1
 .intro e3 e5;by_cases e4:x.o=4
  .simp[fmB,e4]at h4;exact h4.1.1.2
  .simp[fmB,e3,e4,e5]at h4;exact h4.1.1.2
theorem aT{x:GV}(h:YR t x=0):RX (jI t x)/\(jI t x).z=x.z/\t.z<x.z:=by
 obtain⟨ha,hc,hf⟩:=qL h;obtain⟨g,hg,hz,h1,h2⟩:=QK ha;have f:=ZJ hg;have hs:=g.ses;have gn:PZ x.z t.ns t.ss:=g.nod.mono (by omega);rw[jI,if_pos h];refine⟨⟨f.z.2,?_,?_,OW.1 hf⟩,rfl,hz⟩
 .show qI (qJ t x);rw[qJ]
  split
  .rename_i e;exact A82 hs f.s (h1 e)
  .split
   .exact AV3 _ hs
   .exact hs
 .show PZ x.z (gQ t x) (qJ t x);rw[gQ,qJ];by_cases e1:x.o=1
  .rw[if_neg (by omega),if_neg (by omega),if_neg (by omega),if_neg (by omega),if_pos e1];exact gn.more (fun n _ _ h=>BF8 h)
  .rw[if_neg e1];have hm:=h2 e1;by_cases e2:x.o=2
   .rw[if_pos e2,if_pos e2];have R:=nO gn (s:=x.s) (by have:=f.s;omega);refine(nP _ _ gn R).more (fun n hn h0 hi=>?_);rw[AH2];refine EK.2 ⟨hi,?_⟩;simp only[decide_eq_true_eq];intro e;obtain⟨m,hm1,hm2,hm3,_,_,hm4⟩:=uX _ _ n hn
    apply hm4
    rw[P6];exact F5.2 ⟨m,EK.2 ⟨hm1,by simp only[decide_eq_true_eq];rw[hm3,e]⟩,rfl⟩
   .rw[if_neg e2,if_neg e2];by_cases e3:x.o=3
    .rw[if_pos e3];rw[lY,if_pos e3]at hc;obtain⟨c1,⟨u,c2,c3⟩,c4,c5⟩:=BG2 hc;obtain⟨A,B,G⟩:=zQ g.nod.asc c1;obtain⟨p1,p2⟩:=f.path (.inl e3);have hu:=YE c2;refine A83 (x:=A84 x) gn G (by have:=g.nod.few;omega) p1 p2 ⟨u,hu.1,hu.2,c3⟩ f.d f.z.1 rfl rfl rfl rfl rfl rfl ?_;rcases c4 with c|c
     .exact .inl c
     .exact .inr (by show x.w∈t.ss;rw[c];exact hm)
    .rw[if_neg e3];by_cases e4:x.o=4
     .rw[if_pos e4];rw[lY,if_neg e3,if_pos e4]at hc;obtain⟨n,c1,c2⟩:=BG3 hc;obtain⟨A,B,T⟩:=RY g.nod.asc c1;exact AV5 gn T c2 (f.path (.inr e4)).2
     .rw[if_neg e4];by_cases e5:x.o=5
      .rw[if_pos e5];exact BG0 gn x.p x.d x.v f.d f.v (fun n hn=>by have k:=g.nod.ok n hn;have:=k.cm;have:=k.mz;omega)
      .have:=f.op;omega
def MI(n:Nd):List FZ:=[S0 n.p,S0 n.d,I0 n.c,I0 n.m,I0 n.q,I0 n.v,I0 n.k,I0 n.o,I0 n.n]
def C24(n:Nd):FZ:=.agg #[I0 n.c,I0 n.m,I0 n.q,I0 n.v,I0 n.k,I0 n.o,I0 n.n]
def U8(n:Nd):FZ:=.agg #[S0 n.p,S0 n.d,I0 n.c,I0 n.m,I0 n.q,I0 n.v,I0 n.k,I0 n.o,I0 n.n]
instance layN:Lay Nd:=⟨9,MI,61,fun _=>rfl,fun x u hu=>by simp[MI]at hu;rcases hu with rfl|rfl|rfl|rfl|rfl|rfl|rfl|rfl|rfl<;>rfl⟩
theorem II.nd(h:II w b off (GL xs))(hi:xs[i]?=G8 x)(c:Nat)(hc:c<9):∀v,(MI x)[c]?=G8 v->w.cell? ⟨b,off+i*9+c,G6⟩=G8 v:=fun v hv=>by
 rw[Nat.add_assoc];exact h (i*9+c) v ((GZ xs i x hi c hc).trans hv)
theorem II.n0(h:II w b off (GL xs))(hi:xs[i]?=G8 x):w.cell? ⟨b,off+i*9,G6⟩=G8 (S0 x.p):=h.nd hi 0 (by omega) _ rfl
theorem II.n1(h:II w b off (GL xs))(hi:xs[i]?=G8 x):w.cell? ⟨b,off+i*9+1,G6⟩=G8 (S0 x.d):=h.nd hi 1 (by omega) _ rfl
theorem II.n2(h:II w b off (GL xs))(hi:xs[i]?=G8 x):w.cell? ⟨b,off+i*9+2,G6⟩=G8 (I0 x.c):=h.nd hi 2 (by omega) _ rfl
theorem II.n3(h:II w b off (GL xs))(hi:xs[i]?=G8 x):w.cell? ⟨b,off+i*9+3,G6⟩=G8 (I0 x.m):=h.nd hi 3 (by omega) _ rfl
theorem II.n4(h:II w b off (GL xs))(hi:xs[i]?=G8 x):w.cell? ⟨b,off+i*9+4,G6⟩=G8 (I0 x.q):=h.nd hi 4 (by omega) _ rfl
theorem II.n5(h:II w b off (GL xs))(hi:xs[i]?=G8 x):w.cell? ⟨b,off+i*9+5,G6⟩=G8 (I0 x.v):=h.nd hi 5 (by omega) _ rfl
theorem II.n6(h:II w b off (GL xs))(hi:xs[i]?=G8 x):w.cell? ⟨b,off+i*9+6,G6⟩=G8 (I0 x.k):=h.nd hi 6 (by omega) _ rfl
theorem II.n7(h:II w b off (GL xs))(hi:xs[i]?=G8 x):w.cell? ⟨b,off+i*9+7,G6⟩=G8 (I0 x.o):=h.nd hi 7 (by omega) _ rfl
theorem II.n8(h:II w b off (GL xs))(hi:xs[i]?=G8 x):w.cell? ⟨b,off+i*9+8,G6⟩=G8 (I0 x.n):=h.nd hi 8 (by omega) _ rfl
theorem NU(p:List UInt8)(w:FX):
  G5 prog 194 #[S0 p] w fun e w'=>
   e=.returned (.tuple #[S0 (IL p),S0 (OD p),I0 (AS1 p)])/\B0 w w':=by
 cases hg:J8 p with
 |false=>
  rw[aP hg,AH1 hg,A80 hg];exact AX0 p w hg
 |true=>
  by_cases hr:p=[47]
  .subst hr;rw[UJ,zN,uS];exact AI3 w
  .obtain⟨a,b,rfl,hb⟩:=aK hg;rw[aO hg hr hb,AH0 hg hr hb,AV1 hg hr];exact AI2 a b w hb hg hr
theorem AA1(n:Nd)(p:List UInt8)(w:FX):
  G5 prog 130 #[U8 n,S0 p] w (R0 w (I0 (EU n.p p))):=by
 unfold U8;go_enter func130,ntmps130;go_wp2_with fail;refine(strings_Compare _ _ _).mono ?_;rintro e w1 ⟨rfl,rfl⟩;go_wp2_with fail;go_ret;exact⟨rfl,GI _ _⟩
def qX(R:List Nd)(p:List UInt8):Bool:=match R with
 |[]=>false
 |f::_=>decide (f.p=p)
theorem AK2(A R:List Nd)(p:List UInt8)(lo:∀a∈A,bl a.p p=true)(hi:∀a∈R,bl a.p p=false)(i:Nat)(h:i<A.length+R.length):∃y,(A++R)[i]?=G8 y/\bl y.p p=decide (i<A.length):=by
 by_cases h1:i<A.length
 .refine⟨A[i],by rw[BN h1,AO h1],?_⟩;rw[lo _ (List.getElem_mem h1)];simp[h1]
 .have h2:i-A.length<R.length:=by omega
  refine⟨R[i-A.length],by rw[BD (by omega),AO h2],?_⟩;rw[hi _ (List.getElem_mem h2)];simp[h1]
theorem BI8(b off cap:Nat)(A R:List Nd)(p:List UInt8)(w:FX)(hcap:A.length+R.length<=100000)(hb:b<w.heap.size)(h:II w b off (GL (A++R)))
  (lo:∀a∈A,bl a.p p=true) (hi:∀a∈R,bl a.p p=false):
  G5 prog 129 #[FV (G8 ⟨b,off,G6⟩) (A.length+R.length) cap,S0 p,.func (.func 130) #[] #[]] w fun e w'=>
   e=.returned (.tuple #[I0 A.length,.bool (qX R p)])/\B0 w w':=by
 have H:=GH h;have SG:=GH (AK2 A R p lo hi);obtain⟨fin,hfin⟩:∃x,qX R p=x:=⟨_,rfl⟩;have HF:=GH hfin;rw[hfin];clear h hfin lo hi;go_enter func129,ntmps129;go_wp2_with fail
 go_loopg [9,10] (A.length+R.length) (fun kx s9 s10 wr=>∃lo hi:Nat,s9=I0 lo/\s10=I0 hi/\lo<=A.length/\A.length<=hi/\hi<=A.length+R.length/\hi-lo<=kx/\Hid (B0 w wr))
 case atStart=>exact⟨0,A.length+R.length,rfl,rfl,AZ _,by omega,AA _,by omega,GH (Below.refl _ _)⟩
 case round=>
  obtain⟨lo,hi,rfl,rfl,h1,h2,h3,hg,hB⟩:=hrel;by_cases hlt:lo<hi
  .obtain⟨y,hy,hyn⟩:=G9 SG ((lo+hi)/2) (by omega);have HY:=GH hyn;have r:=(G9 H).kept (G9 hB) hb;have e0:=r.n0 hy;have e1:=r.n1 hy;have e2:=r.n2 hy;have e3:=r.n3 hy;have e4:=r.n4 hy;have e5:=r.n5 hy;have e6:=r.n6 hy;have e7:=r.n7 hy;have e8:=r.n8 hy;clear hyn hy r;have hc:=A76 y.p p;rw[G9 HY]at hc;have CM:=fun W=>AA1 y p W;generalize EU y.p p=cv at hc CM;by_cases hm:(lo+hi)/2<A.length
   .have hn:cv<0:=by simpa [hm]using hc
    clear hc;go_wp2_with fail;refine(CM _).mono ?_;rintro e w1 ⟨rfl,hb1⟩;have hB2:B0 w w1:=(G9 hB).trans (hb1.mono (G9 hB).size);clear CM;go_wp2_with fail
    go_roundg (hi-((lo+hi)/2+1))
    case measure=>omega
    case rel=>exact⟨(lo+hi)/2+1,hi,by rw[show ((lo:Int)+(hi:Int))/2+1=(((lo+hi)/2+1:Nat):Int) by omega],rfl,by omega,h2,h3,AA _,GH hB2⟩
   .have hn:¬cv<0:=by simpa [hm]using hc
    clear hc;go_wp2_with fail;refine(CM _).mono ?_;rintro e w1 ⟨rfl,hb1⟩;have hB2:B0 w w1:=(G9 hB).trans (hb1.mono (G9 hB).size);clear CM;go_wp2_with fail
    go_roundg ((lo+hi)/2-lo)
    case measure=>omega
    case rel=>exact⟨lo,(lo+hi)/2,rfl,by rw[show ((lo:Int)+(hi:Int))/2=(((lo+hi)/2:Nat):Int) by omega],h1,by omega,by omega,AA _,GH hB2⟩
  .obtain rfl:lo=A.length:=by omega
   obtain rfl:hi=A.length:=by omega
   cases R with
   |nil=>
    go_wp2_with fail
    go_ret2
    exact⟨by rw[<-G9 HF];rfl,G9 hB⟩
   |cons f R=>
    have r:=(G9 H).kept (G9 hB) hb;have hy:(A++f::R)[A.length]?=G8 f:=by simp
    have e0:=r.n0 hy;have e1:=r.n1 hy;have e2:=r.n2 hy;have e3:=r.n3 hy;have e4:=r.n4 hy;have e5:=r.n5 hy;have e6:=r.n6 hy;have e7:=r.n7 hy;have e8:=r.n8 hy;clear hy r;have hc:=gZ f.p p;have CM:=fun W=>AA1 f p W;have hf:fin=decide (f.p=p):=(G9 HF).symm;rw[<-hc]at hf;clear hc HF;generalize EU f.p p=cv at hf CM;subst hf;simp only[BH];go_wp2_with fail;refine(CM _).mono ?_;rintro e w1 ⟨rfl,hb1⟩;have hB2:B0 w w1:=(G9 hB).trans (hb1.mono (G9 hB).size);clear CM;go_wp2_with fail
    go_ret2
    exact⟨by rfl,hB2⟩
theorem AZ7(a:Option Addr)(cap:Nat)(p:List UInt8)(w:FX):
  G5 prog 129 #[FV a 0 cap,S0 p,.func (.func 130) #[] #[]] w fun e w'=>
   e=.returned (.tuple #[I0 0,.bool false])/\B0 w w':=by
 go_enter func129,ntmps129;go_wp2_with fail
 go_loopg [9,10] 1 (fun _ s9 s10 wr=>s9=I0 0/\s10=I0 0/\Hid (B0 w wr))
 case atStart=>exact⟨rfl,rfl,GH (Below.refl _ _)⟩
 case round=>
  obtain⟨rfl,rfl,hB⟩:=hrel;go_wp2_with fail
  go_ret2
  exact⟨rfl,G9 hB⟩
theorem jZ(v:FZ)(ns A R:List Nd)(p:List UInt8)(w:FX)(hv:IV w v ns)(hl:ns.length<=100000)(he:ns=A++R)(lo:∀a∈A,bl a.p p=true)(hi:∀a∈R,bl a.p p=false):
  G5 prog 85 #[v,S0 p] w (R0 w (.tuple #[I0 A.length,.bool (qX R p)])):=by
 have C:∀W:FX,B0 w W->G5 prog 129 #[v,S0 p,.func (.func 130) #[] #[]] W fun e w'=>
   e=.returned (.tuple #[I0 A.length,.bool (qX R p)])/\B0 W w':=fun W hW=>by
  rcases hv with⟨a,cap,rfl,h0,_⟩|⟨b,off,cap,rfl,_,_,hb,_,hr⟩
  .rw[h0]at he;obtain⟨rfl,rfl⟩:A=[]/\R=[]:=by
    have:=congrArg List.length he;simp at this;exact⟨C9 (by omega),C9 (by omega)⟩
   exact AZ7 a cap p W
  .subst he;rw[AP];exact BI8 b off cap A R p W (by simpa using hl) (Nat.lt_of_lt_of_le hb hW.size) (hr.kept hW hb) lo hi
 have C':=GH C;obtain⟨a,c,rfl⟩:=GU hv;clear C hv hl he lo hi;generalize qX R p=hd at C'⊢;go_enter func85,ntmps85;go_wp2_with fail;refine(G9 C' _ (Below.refl _ _)).mono ?_;rintro e w1 ⟨rfl,hb1⟩;go_wp2_with fail
 go_ret2
 exact⟨rfl,hb1⟩
theorem JY(v:FZ)(ns A B:List Nd)(f:Nd)(p:List UInt8)(w:FX)(hv:IV w v ns)(hl:ns.length<=100000)(T:KL ns A f B p):
  G5 prog 85 #[v,S0 p] w (R0 w (.tuple #[I0 A.length,.bool true])):=by
 have:=jZ v ns A (f::B) p w hv hl T.eq T.lo (fun a ha=>by
  rcases BR.1 ha with rfl|h
  .rw[T.nm];exact QT _
  .exact OT (T.hi a h))
 rwa[show qX (f::B) p=true from by simp[qX,T.nm]]at this
theorem NV(v:FZ)(ns A B:List Nd)(p:List UInt8)(w:FX)(hv:IV w v ns)(hl:ns.length<=100000)(G:nJ ns A B p):
  G5 prog 85 #[v,S0 p] w (R0 w (.tuple #[I0 A.length,.bool false])):=by
 have:=jZ v ns A B p w hv hl G.eq G.lo (fun a ha=>OT (G.hi a ha));rwa[show qX B p=false from by
  cases B with
  |nil=>rfl
  |cons f B=>have:=WT (G.hi f (by simp));simp[qX,this.symm]]at this
theorem wB(v:FZ)(ns:List Nd)(p:List UInt8)(w:FX)(hv:IV w v ns)(hl:ns.length<=100000)(ha:uD ns):
  ∃i:Nat,i<=ns.length/\G5 prog 85 #[v,S0 p] w (R0 w (.tuple #[I0 i,.bool (LW ns p).isSome])):=by
 rcases YU p ns ha with⟨A,n,B,T⟩|⟨A,B,G⟩
 .rw[T.look];exact⟨A.length,by rw[T.eq];simp,JY v ns A B n p w hv hl T⟩
 .rw[G.look];exact⟨A.length,by rw[G.eq];simp,NV v ns A B p w hv hl G⟩
theorem BI9(x:Int)(w:FX):G5 prog 211 #[I0 x] w fun e w'=>e=.returned (.bool false)/\w'=w:=by
 go_enter func211,ntmps211
 go_wp2
 go_ret;exact⟨rfl,rfl⟩
theorem BJ0(x:Int)(w:FX):G5 prog 243 #[I0 x] w fun e w'=>e=.returned (.bool false)/\w'=w:=by
 go_enter func243,ntmps243
 go_wp2
 go_ret;exact⟨rfl,rfl⟩
theorem AZ8(x y:Int)(w:FX):G5 prog 242 #[I0 x,I0 y] w fun e w'=>e=.returned (.bool (decide (x<y)))/\w'=w:=by
 go_enter func242,ntmps242;go_wp2_with fail;refine(BI9 _ _).mono ?_;rintro e w1 ⟨rfl,rfl⟩;go_wp2_with fail;go_ret;exact⟨rfl,rfl⟩
def AK3(R:List Int)(s:Int):Bool:=match R with
 |[]=>false
 |f::_=>decide (f=s)
theorem AK4(A R:List Int)(s:Int)(lo:∀a∈A,a<s)(hi:∀a∈R,¬a<s)(i:Nat)(h:i<A.length+R.length):∃y,(A++R)[i]?=G8 y/\decide (y<s)=decide (i<A.length):=by
 by_cases h1:i<A.length
 .refine⟨A[i],by rw[BN h1,AO h1],?_⟩;simp[h1,lo _ (List.getElem_mem h1)]
 .have h2:i-A.length<R.length:=by omega
  refine⟨R[i-A.length],by rw[BD (by omega),AO h2],?_⟩;simp only[h1,hi _ (List.getElem_mem h2)]
theorem C30(b off cap:Nat)(A R:List Int)(s:Int)(w:FX)(hcap:A.length+R.length<=281474976710656)(hb:b<w.heap.size)(h:II w b off (GL (A++R)))
  (lo:∀a∈A,a<s) (hi:∀a∈R,¬a<s):
  G5 prog 218 #[FV (G8 ⟨b,off,G6⟩) (A.length+R.length) cap,I0 s] w fun e w'=>
   e=.returned (.tuple #[I0 A.length,.bool (AK3 R s)])/\w'=w:=by
 have H:=GH h;have SG:=GH (AK4 A R s lo hi);obtain⟨fin,hfin⟩:∃x,AK3 R s=x:=⟨_,rfl⟩;have HF:=GH hfin;rw[hfin];clear h hfin lo hi;go_enter func218,ntmps218;go_wp2_with fail
 go_loopg [7,8] (A.length+R.length) (fun kx s9 s10 wr=>∃lo hi:Nat,s9=I0 lo/\s10=I0 hi/\lo<=A.length/\A.length<=hi/\hi<=A.length+R.length/\hi-lo<=kx/\wr=w)
 case atStart=>exact⟨0,A.length+R.length,rfl,rfl,AZ _,by omega,AA _,by omega,rfl⟩
 case round=>
  obtain⟨lo,hi,rfl,rfl,h1,h2,h3,hg,rfl⟩:=hrel;by_cases hlt:lo<hi
  .obtain⟨y,hy,hyn⟩:=G9 SG ((lo+hi)/2) (by omega);have e0:=(G9 H).i0 hy;clear hy;have CM:=fun W=>AZ8 y s W;rw[hyn]at CM;clear hyn;by_cases hm:(lo+hi)/2<A.length
   .simp only[hm,decide_true]at CM;go_wp2_with fail;refine(CM _).mono ?_;rintro e w1 ⟨rfl,rfl⟩;clear CM;go_wp2_with fail
    go_roundg (hi-((lo+hi)/2+1))
    case measure=>omega
    case rel=>exact⟨(lo+hi)/2+1,hi,by rw[show ((lo:Int)+(hi:Int))/2+1=(((lo+hi)/2+1:Nat):Int) by omega],rfl,by omega,h2,h3,AA _,rfl⟩
   .simp only[hm,decide_false]at CM;go_wp2_with fail;refine(CM _).mono ?_;rintro e w1 ⟨rfl,rfl⟩;clear CM;go_wp2_with fail
    go_roundg ((lo+hi)/2-lo)
    case measure=>omega
    case rel=>exact⟨lo,(lo+hi)/2,rfl,by rw[show ((lo:Int)+(hi:Int))/2=(((lo+hi)/2:Nat):Int) by omega],h1,by omega,by omega,AA _,rfl⟩
  .obtain rfl:lo=A.length:=by omega
   obtain rfl:hi=A.length:=by omega
   cases R with
   |nil=>
    go_wp2_with fail
    go_ret2
    exact⟨by rw[<-G9 HF];rfl,rfl⟩
   |cons f R=>
    have e0:=(G9 H).i0 (show (A++f::R)[A.length]?=G8 f by simp);have hf:decide (f=s)=fin:=G9 HF;clear HF;simp only[BH];by_cases hfs:f=s
    .subst hfs;simp only[decide_true]at hf;subst hf;go_wp2_with fail
     go_ret2
     exact⟨rfl,rfl⟩
    .simp only[hfs,decide_false]at hf;subst hf;have hq:(f==s)=false:=by simpa using hfs
     clear hfs;go_wp2_with fail;refine(BJ0 _ _).mono ?_;rintro e w1 ⟨rfl,rfl⟩;go_wp2_with fail
     go_ret2
     exact⟨rfl,rfl⟩
theorem BJ1(a:Option Addr)(cap:Nat)(s:Int)(w:FX):
  G5 prog 218 #[FV a 0 cap,I0 s] w fun e w'=>e=.returned (.tuple #[I0 0,.bool false])/\w'=w:=by
 go_enter func218,ntmps218;go_wp2_with fail
 go_loopg [7,8] 1 (fun _ s9 s10 wr=>s9=I0 0/\s10=I0 0/\wr=w)
 case atStart=>exact⟨rfl,rfl,rfl⟩
 case round=>
  obtain⟨rfl,rfl,rfl⟩:=hrel;go_wp2_with fail
  go_ret2
  exact⟨rfl,rfl⟩
theorem wC(v:FZ)(ss A R:List Int)(s:Int)(w:FX)(hv:IV w v ss)(hl:ss.length<=2147483647)(he:ss=A++R)(lo:∀a∈A,a<s)(hi:∀a∈R,¬a<s):
  G5 prog 218 #[v,I0 s] w fun e w'=>e=.returned (.tuple #[I0 A.length,.bool (AK3 R s)])/\w'=w:=by
 rcases hv with⟨a,cap,rfl,h0,_⟩|⟨b,off,cap,rfl,_,_,hb,_,hr⟩
 .rw[h0]at he;obtain⟨rfl,rfl⟩:A=[]/\R=[]:=by
   have:=congrArg List.length he;simp at this;exact⟨C9 (by omega),C9 (by omega)⟩
  exact BJ1 a cap s w
 .subst he;rw[AP];exact C30 b off cap A R s w (by simp at hl;omega) hb hr lo hi
theorem wF(v:FZ)(ss A B:List Int)(s:Int)(w:FX)(hv:IV w v ss)(hl:ss.length<=2147483647)(T:jG ss A B s):
  G5 prog 218 #[v,I0 s] w fun e w'=>e=.returned (.tuple #[I0 A.length,.bool true])/\w'=w:=by
 have:=wC v ss A (s::B) s w hv hl T.eq T.lo (fun a ha=>by
  rcases BR.1 ha with rfl|h
  .omega
  .have:=T.hi a h;omega)
 rwa[show AK3 (s::B) s=true from by simp[AK3]]at this
theorem AZ9(v:FZ)(ss A B:List Int)(s:Int)(w:FX)(hv:IV w v ss)(hl:ss.length<=2147483647)(G:C11 ss A B s):
  G5 prog 218 #[v,I0 s] w fun e w'=>e=.returned (.tuple #[I0 A.length,.bool false])/\w'=w:=by
 have:=wC v ss A B s w hv hl G.eq G.lo (fun a ha=>by have:=G.hi a ha;omega);rwa[show AK3 B s=false from by
  cases B with
  |nil=>rfl
  |cons f B=>exact decide_eq_false (by have:=G.hi f (by simp);omega)]at this
theorem bI(z:Int)(vn vs:FZ)(ss:List Int)(s:Int)(w:FX)(hv:IV w vs ss)(hs:qI ss):
  G5 prog 195 #[.agg #[I0 z,vn,vs],I0 s] w (R0 w (.bool (decide (s∈ss)))):=by
 have C:∀W:FX,B0 w W->∃i:Nat,G5 prog 218 #[vs,I0 s] W fun e w'=>e=.returned (.tuple #[I0 i,.bool (decide (s∈ss))])/\w'=W:=fun W hW=>by
  rcases uT s ss hs.1 with⟨A,B,T⟩|⟨A,B,G⟩
  .rw[show decide (s∈ss)=true from decide_eq_true T.mem];exact⟨A.length,wF vs ss A B s W (hv.next hW) (TW hs) T⟩
  .rw[show decide (s∈ss)=false from decide_eq_false G.not];exact⟨A.length,AZ9 vs ss A B s W (hv.next hW) (TW hs) G⟩
 have C':=GH C;obtain⟨a,c,rfl⟩:=GU hv;clear C hv hs;generalize decide (s∈ss)=hd at C'⊢;generalize ss.length=n at C'⊢;go_enter func195,ntmps195;go_wp2_with fail;obtain⟨i,C2⟩:=G9 C' _ (GI _ _);refine C2.mono ?_;rintro e w1 ⟨rfl,rfl⟩;go_wp2_with fail;go_ret;exact⟨rfl,GI _ _⟩
theorem wG(w:FX){o:Oper}{a:Act}{K:Act->FX->Prop}{Q:Exit->Act->FX->Prop}(d s:Operand)(t t':TypeId)
  (ho:o.op=.call {callee:=.builtin .copy,args:=#[d,s],argTypes:=#[t,t']}) (v u:FZ) (hd:a.eval d=v) (hs:a.eval s=u) {v':FZ} {w':FX}
  (hr:(EC #[t,t'] o.type #[v,u]).run prog w=.ok v' w') (h:K (a.put o.dst v') w'):o.wp prog a w K Q:=by
 unfold Oper.wp execOp;simp only[ho,resolve,invoke,builtin,Sem.run_bind,Sem.run_pure,Result.andThen_ok,List.map_toArray,List.map_cons,List.map_nil,hd,hs,hr];exact h
theorem LH(w:FX){ops:Array Oper}{rest:List Oper}{o:Oper}{a:Act}{Q:Exit->Act->FX->Prop}(hgd:o.guard=G6)(d s:Operand)(t t':TypeId)
  (ho:o.op=.call {callee:=.builtin .copy,args:=#[d,s],argTypes:=#[t,t']}) (v u:FZ) (hd:a.eval d=v) (hs:a.eval s=u) {v':FZ} {w':FX}
  (hr:(EC #[t,t'] o.type #[v,u]).run prog w=.ok v' w') (h:wpList prog ops Q rest (a.put o.dst v') w'):wpList prog ops Q (o::rest) a w:=
 wpList_plain hgd fun _ hK=>wG w d s t t' ho v u hd hs hr (hK _ _ h)
theorem N7{ops:Array Oper}{o:Oper}{a:Act}{w:FX}{K:Act->FX->Prop}{Q:Exit->Act->FX->Prop}{E:Prop}
  (hg:o.guard=G6) (d x:Operand) (dT sT:TypeId) (hop:o.op=Op.call {callee:=Callee.builtin Builtin.copy,args:=#[d,x],argTypes:=#[dT,sT]})
  (v u:FZ) (hd:a.eval d=v) (hx:a.eval x=u) {v':FZ} {w':FX} (hr:(EC #[dT,sT] o.type #[v,u]).run prog w=.ok v' w') (hK:K (a.put o.dst v') w'):
  if Region.wanted o (yielded ops a.tmps)=true then Oper.wp prog o a w K Q else E:=by
 have hw:Region.wanted o (yielded ops a.tmps)=true:=by simp[Region.wanted,hg]
 rw[if_pos hw];unfold Oper.wp;simp[execOp,hop,resolve,invoke,builtin,hd,hx,hr,Result.andThen];exact hK
theorem JG(ns:List Nd):(GL ns).length=ns.length*9:=GX ns
theorem JD.qY{pre tl:List Nd}(h:JD W g cap (pre++tl))(new:List Nd)(hfit:pre.length+new.length<=cap):JD (W.setCells g (pre.length*9) (GL new)) g cap (pre++new):=h.splice new hfit
theorem JD.CI2{fs:List Nd}(h:JD W g cap fs)(vs:List FZ)(o:Nat)(ho:fs.length*9<=o)(hfit:o+vs.length<=cap*9):JD (W.setCells g o vs) g cap fs:=h.spare vs o ho hfit
theorem JD.CU3{y:Nd}(h:JD W g cap (A++y::B))(x:Nd):JD (W.setCells g (A.length*9) (MI x)) g cap (A++x::B):=h.vK x
theorem JD.AK5{fs:List Nd}(h:JD W g cap fs){j:Nat}(hj:j<cap*9):(W.cell? ⟨g,j,G6⟩).isSome=true:=h.some hj
theorem JD.qZ{pre tl:List Int}(h:JD W g cap (pre++tl))(new:List Int)(hfit:pre.length+new.length<=cap):JD (W.setCells g pre.length (GL new)) g cap (pre++new):=by
 have:=h.splice new hfit;rwa[show pre.length*Lay.k Int=pre.length from Nat.mul_one _]at this
theorem JD.CI3{fs:List Int}(h:JD W g cap fs)(vs:List FZ)(o:Nat)(ho:fs.length<=o)(hfit:o+vs.length<=cap):JD (W.setCells g o vs) g cap fs:=
 h.spare vs o (by rw[show fs.length*Lay.k Int=fs.length from Nat.mul_one _];exact ho) (by rw[show cap*Lay.k Int=cap from Nat.mul_one _];exact hfit)
theorem JD.CU4{A B:List Int}{y:Int}(h:JD W g cap (A++y::B))(x:Int):JD (W.setCells g A.length [I0 x]) g cap (A++x::B):=by
 have:=h.vK x;rwa[show A.length*Lay.k Int=A.length from Nat.mul_one _]at this
theorem JD.AK6{fs:List Int}(h:JD W g cap fs){j:Nat}(hj:j<cap):(W.cell? ⟨g,j,G6⟩).isSome=true:=h.some (by rw[show cap*Lay.k Int=cap from Nat.mul_one _];exact hj)
theorem CI4:(prog.info? 61).map (fun i=>(i.zero,i.size,i.bytes))=G8 (G8 (.agg #[.string ⟨#[]⟩,.string ⟨#[]⟩,I0 0,I0 0,I0 0,I0 0,I0 0,I0 0,I0 0]),9,88):=by kernel_rfl
theorem AK7:∃i0,prog.info? 61=G8 i0/\i0.zero=G8 (.agg #[.string ⟨#[]⟩,.string ⟨#[]⟩,I0 0,I0 0,I0 0,I0 0,I0 0,I0 0,I0 0])/\i0.size=9/\i0.bytes=88:=by
 obtain⟨i0,h,e⟩:=FQ.1 CI4;simp only[Prod.mk.injEq]at e;exact⟨i0,h,e⟩
def XF:List FZ:=[.string ⟨#[]⟩,.string ⟨#[]⟩,I0 0,I0 0,I0 0,I0 0,I0 0,I0 0,I0 0]
theorem C31(w:FX)(ty:TypeId)(b o c:Nat)(hc:∀j,j<9->(w.cell? ⟨b,o+j,G6⟩).isSome=true)(hf:∀j,j<9->w.frozen? ⟨b,o+j,G6⟩=false):
  (Builtin.clear_ #[49] ty #[FV (G8 ⟨b,o,G6⟩) 1 c]).run prog w=.ok (.tuple #[]) (w.setCells b o XF):=by
 have hzc:(BJ (Value.agg #[.string ⟨#[]⟩,.string ⟨#[]⟩,I0 0,I0 0,I0 0,I0 0,I0 0,I0 0,I0 0]).cells 1).toList=XF:=by kernel_rfl
 have hst:=run_storeCells_cells (P:=prog) b o XF 0 w (by simpa [XF]using hc) (by simpa [XF]using hf) (by simp[XF,Value.oneCell']);simp only[Nat.add_zero]at hst;simp[Builtin.clear_,run_underlying underlying49,hzc,hst]
theorem A10(g cap:Nat)(A B:List Nd)(f:Nd)(n:Nat)(w:FX)(ho:JD w g cap (A++f::B))(hn:n=A.length+B.length+1)(hsm:n<=400):
  G5 prog 227 #[FV (G8 ⟨g,0,G6⟩) n cap,I0 A.length,I0 (A.length+1:Nat)] w fun e w'=>
   e=.returned (FV (G8 ⟨g,0,G6⟩) (A.length+B.length) cap)/\JD w' g cap (A++B)/\w.grownBy w' (G8 g):=by
 obtain⟨i0,hi0,hz0,hz1,hz2⟩:=AK7;have hle:=ho.le;have hcl:=ho.capLe;simp only[maxLen]at hcl;rw[AP,BH]at hle;have hrow:=ho.row;obtain⟨AD,hAD,hsrc⟩:∃AD:Addr,(if cap=A.length+1 then G8 (⟨g,0,G6⟩:Addr)else G8 ⟨g,(A.length+1)*9,G6⟩)=G8 AD/\Hid (∀t u,(GL B)[t]?=G8 u->w.drew.cell? (AD.add t)=G8 u):=by
  by_cases h:cap=A.length+1
  .refine⟨⟨g,0,G6⟩,by simp[h],fun t u hu=>?_⟩;have h0:B=[]:=C9 (by omega);rw[h0]at hu;simp[SX]at hu
  .refine⟨⟨g,(A.length+1)*9,G6⟩,by simp[h],fun t u hu=>?_⟩;rw[BM];have:=hrow ((A.length+1)*9+t) u (by
    rw[I8,BD (by rw[JG];omega),JG,JW,BD (by rw[Lay.len];show 9<=_;omega)];rw[Lay.len,<-hu];congr 1;show _-9=_;omega)
   rw[BK]at this;exact this
 have s1:Hid ((GL B).length=B.length*9):=JG B;have s2:Hid (∀u∈GL B,u.oneCell'=true):=JK B;have s3:Hid (∀t,t<(GL B).length->(w.drew.cell? ⟨g,0+A.length*9+t,G6⟩).isSome=true/\w.drew.frozen? ⟨g,0+A.length*9+t,G6⟩=false):=by
  intro t ht;rw[JG]at ht;exact⟨ho.AK5 (by omega),ho.frozen _⟩
 obtain⟨W1,hW1⟩:∃W1,W1=w.drew.setCells g (0+A.length*9) (GL B):=⟨_,rfl⟩;have ho1:JD W1 g cap (A++B):=by rw[hW1,BK];exact ho.drew.qY B (by omega)
 have hg1:w.grownBy W1 (G8 g):=by rw[hW1];have:=IC (g:=g) (GL B) (0+A.length*9) w.drew;exact⟨this.os,this.tape,this.output,this.size,this.block⟩
 have CS4:∀ty c,(Builtin.clear_ #[49] ty #[FV (G8 ⟨g,(A.length+B.length)*9,G6⟩) 1 c]).run prog W1=.ok (.tuple #[]) (W1.setCells g ((A.length+B.length)*9) XF):=fun ty c=>
  C31 W1 ty g _ c (fun j hj=>ho1.AK5 (by omega)) (fun j hj=>ho1.frozen _)
 have FIN:Hid (JD (W1.setCells g ((A.length+B.length)*9) XF) g cap (A++B)/\w.grownBy (W1.setCells g ((A.length+B.length)*9) XF) (G8 g)):=
  ⟨ho1.CI2 XF _ (by rw[AP];omega) (by simp[XF];omega),IW hg1 (IC _ _ _)⟩
 have hW:Hid (W1=w.drew.setCells g (0+A.length*9) (GL B)):=hW1;have hic:A.length<=cap:=by omega
 have hjc:A.length+1<=cap:=by omega
 have hne:¬ (cap=A.length+B.length):=by omega
 have hb1:(0:Int)<=(A.length:Int)+1:=by omega
 have hb2:(A.length:Int)<=(A.length:Int)+(B.length:Int):=by omega
 have hb3:(0:Int)<=(A.length:Int)+(B.length:Int):=by omega
 have hs1:A.length+B.length+1-(A.length+B.length)=1:=by omega
 clear hW1 ho1 hg1 hrow ho;subst hn;go_enter func227,ntmps227;go_wp2_with fail
 go_region_law (refine step_append_room rfl (.tmp 22) (.tmp 25) 49 rfl 61 i0 9 underlying49 hi0 hz1 g 0 A.length cap (by simp[Act.eval,Act.put]) AD B.length (cap-(A.length+1)) (GL B) (by simp[Act.eval,Act.put]) s1.out hsrc.out s2.out (by omega) s3.out ?_;rw[<-hW.out])
 go_wp2
 go_ret;exact⟨rfl,FIN.out⟩
theorem AA2(w:FX)(ty:TypeId)(b o dLen dCap:Nat)(a:Addr)(sLen sCap:Nat)(cs:List FZ)(hn:cs.length=Nat.min sLen dLen*9)
  (hsrc:∀j v,cs[j]?=G8 v->w.cell? (a.add j)=G8 v) (hc:∀j,j<cs.length->(w.cell? ⟨b,o+j,G6⟩).isSome=true) (hf:∀j,j<cs.length->w.frozen? ⟨b,o+j,G6⟩=false) (h1:∀v∈cs,v.oneCell'=true):
  (EC #[49,49] ty #[FV (G8 ⟨b,o,G6⟩) dLen dCap,FV (G8 a) sLen sCap]).run prog w=.ok (goInt (Nat.min sLen dLen)) (w.setCells b o cs):=by
 have hl:=run_loadCells_list (P:=prog) w a cs hsrc;have hst:=run_storeCells_cells (P:=prog) b o cs 0 w (by simpa using hc) (by simpa using hf) h1;obtain⟨i0,hi0,hz0,hz1,hz2⟩:=AK7;simp[EC,run_underlying underlying49,Builtin.lenOf,Builtin.firstCells,sizeOf,typeInfo,hi0,hz1,<-hn,hl,hst]
theorem A11(v:FZ)(A:List Nd)(x:Nd)(B b:Nat)(w:FX)(ho:I5 w B v A)(hB:B<=w.heap.size)(hl:A.length<=400)(h1:JU w b x):
  G5 prog 224 #[v,I0 A.length,FV (G8 ⟨b,0,G6⟩) 1 1] w fun e w'=>
   ∃v',e=.returned v'/\I5 w' B v' (A++[x])/\w.grownBy w' v.ownBlock/\(v'.ownBlock=v.ownBlock\/v'.ownBlock=G8 w.heap.size):=by
 obtain⟨i0,hi0,hz0,hz1,hz2⟩:=AK7;have hrow:=ho.row;have HR:=GH hrow;have H1:=GH h1.row;have V:∃a c,v=FV a A.length c/\A.length<=c:=by
  rcases ho with⟨rfl,rfl⟩|⟨g,cap,rfl,_,h⟩
  .exact⟨G6,0,rfl,AA _⟩
  .exact⟨_,cap,rfl,h.le⟩
 obtain⟨a,c,rfl,hc⟩:=V;clear ho hrow h1;rcases Nat.lt_or_ge A.length c with hcl|hcl
 .have hne:¬c=A.length:=by omega
  go_enter func224,ntmps224;go_wp2_with (at_builtin;refine wpList_append_own_at _ rfl _ _ 49 rfl B 61 i0 _ 9 88 underlying49 hi0 hz0 hz1 hz2 rfl (by decide) _ A.length (GL A) rfl (G9 HR) ⟨b,0,G6⟩ 1 1 (MI x) rfl (by rfl) ?qc2 ((Lay.one x)) ?qc4 ?qc5 hB ?_)
  case qc2=>
   intro j u hj;rw[BM];exact G9 H1 j u hj
  case qc4=>simp only[maxLen];omega
  case qc5=>omega
  intro v' w1 hown hgrow _ hloc
  go_wp2
  go_ret;exact⟨v',rfl,I5.LD (by rw[AP,JJ];exact hown),hgrow,hloc⟩
 .obtain rfl:c=A.length:=by omega
  go_enter func224,ntmps224;go_wp2_with (at_builtin;refine wpList_append_own_at _ rfl _ _ 49 rfl B 61 i0 _ 9 88 underlying49 hi0 hz0 hz1 hz2 rfl (by decide) _ A.length (GL A) rfl (G9 HR) ⟨b,0,G6⟩ 1 1 (MI x) rfl (by rfl) ?qc2 ((Lay.one x)) ?qc4 ?qc5 hB ?_)
  case qc2=>
   intro j u hj;rw[BM];exact G9 H1 j u hj
  case qc4=>simp only[maxLen];omega
  case qc5=>omega
  intro v' w1 hown hgrow _ hloc
  go_wp2
  go_ret;exact⟨v',rfl,I5.LD (by rw[AP,JJ];exact hown),hgrow,hloc⟩
theorem rC(g cap:Nat)(A R:List Nd)(y x:Nd)(n b:Nat)(w:FX)(ho:JD w g cap (A++y::R))(hn:n=A.length+R.length+1)(hsm:n<=400)(hroom:n+1<=cap)(h1:JU w b x)(hbg:b≠g):
  G5 prog 224 #[FV (G8 ⟨g,0,G6⟩) n cap,I0 A.length,FV (G8 ⟨b,0,G6⟩) 1 1] w fun e w'=>
   e=.returned (FV (G8 ⟨g,0,G6⟩) (n+1) cap)/\JD w' g cap (A++x::y::R)/\w.grownBy w' (G8 g):=by
 have hcl:=ho.capLe;simp only[maxLen]at hcl;have hrow:=ho.row;have AZ0:w.shape? g=G8 (61,cap*9):=by
  obtain⟨rest,q1,q2,_⟩:=ho;rw[AP,BH]at q2;simp[World.shape?,q1,JG];exact⟨rfl,q2⟩
 have AZ1:w.shape? b=G8 (61,9):=by unfold JU at h1;simp[World.shape?,h1];exact⟨rfl,rfl⟩
 have hfb:∀j,w.frozen? ⟨b,j,G6⟩=false:=fun j=>by unfold JU at h1;simp[World.frozen?,h1]
 have hov:∀lb cb,(callFunc 248 #[FV (G8 ⟨b,0,G6⟩) 1 1,FV (G8 ⟨g,(A.length+1)*9,G6⟩) lb cb]).run prog w=.ok (.value (.bool false)) w:=fun lb cb=>by
  rw[run_callFunc_extern func248 (by kernel_rfl) (by kernel_rfl) (by kernel_rfl) (e:=Extern.SlicesOverlaps.overlaps #[49,49] #[4]) (by kernel_rfl),
   Lib.run_overlaps_apart w 49 4 61 underlying49 9 sizeOf61 ⟨b,0,G6⟩ ⟨g,(A.length+1)*9,G6⟩ 1 1 lb cb hbg 61 61 9 (cap*9) AZ1 AZ0 (by omega) (hfb 0) (hfb 9)]
  rfl
 obtain⟨W1,hW1⟩:∃W1,W1=w.drew.setCells g ((A.length+1)*9) (GL (y::R)):=⟨_,rfl⟩;have ho1:JD W1 g cap (A++y::y::R):=by
  have h:JD w.drew g cap ((A++[y])++R):=by rw[BZ];exact ho
  have:=h.qY (y::R) (by simp;omega);rw[hW1];simpa using this
 have hg1:w.grownBy W1 (G8 g):=by rw[hW1];have:=IC (g:=g) (GL (y::R)) ((A.length+1)*9) w.drew;exact⟨this.os,this.tape,this.output,this.size,this.block⟩
 have hcp1:∀ty dc sc,(EC #[49,49] ty #[FV (G8 ⟨g,(A.length+1)*9,G6⟩) (n-A.length) dc,FV (G8 ⟨g,A.length*9,G6⟩) (n+1-A.length) sc]).run prog w.drew=.ok (goInt (Nat.min (n+1-A.length) (n-A.length))) W1:=fun ty dc sc=>by
  rw[hW1];exact AA2 w.drew ty g _ _ dc ⟨g,A.length*9,G6⟩ _ sc (GL (y::R)) (by rw[JG];simp only[Nat.min_def,BH];split<;>omega)
   (fun j v hj=>by
    rw[BM];have:=hrow (A.length*9+j) v (by rw[I8,BD (by rw[JG];omega),JG,FH];exact hj);rw[BK]at this;exact this)
   (fun j hj=>by rw[JG]at hj;exact ho.AK5 (by simp at hj;omega)) (fun j _=>ho.frozen _) (JK _)
 have hcp2:∀ty dc,(EC #[49,49] ty #[FV (G8 ⟨g,A.length*9,G6⟩) (n+1-A.length) dc,FV (G8 ⟨b,0,G6⟩) 1 1]).run prog W1=.ok (goInt (Nat.min 1 (n+1-A.length))) (W1.setCells g (A.length*9) (MI x)):=fun ty dc=>
  AA2 W1 ty g _ _ dc ⟨b,0,G6⟩ 1 1 (MI x) (by simp only[Nat.min_def,MI,BH,EZ];split<;>omega)
   (fun j v hj=>by
    rw[BM];have hb2:W1.heap[b]?=w.heap[b]? :=hg1.block b (by unfold JU at h1;exact(AL.1 h1).1) (fun e=>hbg (Option.some.inj e));have h2:JU W1 b x:=hb2.trans h1;exact h2.row j v hj)
   (fun j hj=>ho1.AK5 (by simp[MI]at hj;omega)) (fun j _=>ho1.frozen _) ((Lay.one x))
 have FIN:Hid (JD (W1.setCells g (A.length*9) (MI x)) g cap (A++x::y::R)/\w.grownBy (W1.setCells g (A.length*9) (MI x)) (G8 g)):=
  ⟨ho1.CU3 x,IW hg1 (IC _ _ _)⟩
 have hin:A.length<n:=by omega
 have C27:(A.length:Int)<(n:Int):=by omega
 have hw1:IntKind.i64.wrap ((A.length:Int)+1)=(A.length:Int)+1:=by rw[FK];omega
 have hb1:(0:Int)<=(A.length:Int)+1:=by omega
 have hb2:¬ (cap=A.length+1):=by omega
 have hb3:(A.length:Int)<=(n:Int)+1:=by omega
 have hb4:¬ (cap=A.length):=by omega
 have hb5:(A.length:Int)+1<=(n:Int)+1:=by omega
 have hb6:¬ ((cap:Int)<(n:Int)+1):=by omega
 have hz2:¬ ((A.length:Int)=(n:Int)):=by omega
 have htn:((A.length:Int)+1).toNat=A.length+1:=by omega
 clear hW1 ho1 hg1 hrow AZ0 AZ1 hfb ho h1 hn;go_enter func224,ntmps224;go_wp2_with (simp only[hov])
 go_region_law (refine N7 rfl (.tmp 73) (.tmp 76) 49 49 rfl (FV (G8 ⟨g,(A.length+1)*9,G6⟩) (n-A.length) (cap-(A.length+1))) (FV (G8 ⟨g,A.length*9,G6⟩) (n+1-A.length) (cap-A.length)) (by simp[Act.eval,Act.put]) (by simp[Act.eval,Act.put]) (hcp1 _ _ _) ?_)
 go_wp2_with (at_builtin;refine LH _ rfl _ _ 49 49 rfl _ _ rfl rfl (hcp2 _ _) ?_);go_ret;exact⟨rfl,FIN.out⟩
theorem CI5(k:Nat):(BJ (Value.agg #[.string ⟨#[]⟩,.string ⟨#[]⟩,I0 0,I0 0,I0 0,I0 0,I0 0,I0 0,I0 0]).cells k).size=k*9:=by
 simp[BJ,Value.cells]
theorem wH(g cap:Nat)(A R:List Nd)(y x:Nd)(n b:Nat)(w:FX)(ho:JD w g cap (A++y::R))(hn:n=A.length+R.length+1)(hsm:n<=400)(hroom:cap<n+1)(h1:JU w b x):
  G5 prog 224 #[FV (G8 ⟨g,0,G6⟩) n cap,I0 A.length,FV (G8 ⟨b,0,G6⟩) 1 1] w fun e w'=>
   ∃cap',e=.returned (FV (G8 ⟨w.heap.size,0,G6⟩) (n+1) cap')/\JD w' w.heap.size cap' (A++x::y::R)/\B0 w w':=by
 have hcap:cap=n:=by have:=ho.le;simp at this;omega
 obtain⟨i0,hi0,hz0,hz1,hz2⟩:=AK7;have hrow:=ho.row;have hgw:=ho.lt;have hbw:b<w.heap.size:=by unfold JU at h1;exact(AL.1 h1).1
 have hold:(Builtin.firstCells i0.size A.length (FV (G8 ⟨g,0,G6⟩) A.length cap)).run prog w.drew=.ok (GL A).toArray w.drew:=by
  rw[hz1];exact run_firstCells_some w.drew 9 A.length ⟨g,0,G6⟩ A.length cap (GL A) (JG A) (fun j v hj=>by
   rw[BM];exact hrow j v (by rw[I8,BN (AV.1 hj).1];exact hj))
 obtain⟨G,hG⟩:∃G,G=grownCap w (n+1) cap 61:=⟨_,rfl⟩;have hGn:n+1<=G:=by rw[hG];exact grownCap_ge w _ _ _
 have hGm:G<=maxLen:=by rw[hG];exact grownCap_le_maxLen w (n+1) cap _ (by unfold maxLen;omega)
 have hG63:G<=9223372036854775807:=by have:=hGm;unfold maxLen at this;omega
 obtain⟨ROW,hROW⟩:∃ROW:Array FZ,ROW=(GL A).toArray++BJ (Value.agg #[.string ⟨#[]⟩,.string ⟨#[]⟩,I0 0,I0 0,I0 0,I0 0,I0 0,I0 0,I0 0]).cells (n+1-A.length)++BJ (Value.agg #[.string ⟨#[]⟩,.string ⟨#[]⟩,I0 0,I0 0,I0 0,I0 0,I0 0,I0 0,I0 0]).cells (G-(n+1)):=⟨_,rfl⟩;obtain⟨W1,hW1⟩:∃W1,W1=w.drew.alloc (.cells ROW 61):=⟨_,rfl⟩;have hik:A.length+(n+1-A.length)=n+1:=by omega
 have hrz:∀ty,(Builtin.append_ #[49,3] ty #[FV (G8 ⟨g,0,G6⟩) A.length cap,I0 ((n:Int)+1-(A.length:Int))]).run prog w=
   .ok (FV (G8 ⟨w.heap.size,0,G6⟩) (n+1) G) W1:=fun ty=>by
  have h:=Lib.run_append_grow_zeros w 49 3 ty 61 i0 _ .i64 .i64 underlying49 underlying3 hi0 hz0 (G8 ⟨g,0,G6⟩) A.length cap (GL A) hold (n+1-A.length) (by omega) (by omega) (by omega) (by omega) (by rw[hz2];omega) (by rw[hz2,hik];exact growslice_fits hroom (by omega));rw[hik,<-hG,<-hROW,<-hW1]at h;rw[show (n:Int)+1-(A.length:Int)=((n+1-A.length:Nat):Int) by omega];exact h
 have ho1:JD W1 w.heap.size G A:=by
  refine⟨(BJ (Value.agg #[.string ⟨#[]⟩,.string ⟨#[]⟩,I0 0,I0 0,I0 0,I0 0,I0 0,I0 0,I0 0]).cells (n+1-A.length)++BJ (Value.agg #[.string ⟨#[]⟩,.string ⟨#[]⟩,I0 0,I0 0,I0 0,I0 0,I0 0,I0 0,I0 0]).cells (G-(n+1))).toList,?_,?_,by omega,hGm⟩
  .rw[hW1,hROW];have:=heap_alloc_new w.drew (.cells ((GL A).toArray++BJ (Value.agg #[.string ⟨#[]⟩,.string ⟨#[]⟩,I0 0,I0 0,I0 0,I0 0,I0 0,I0 0,I0 0]).cells (n+1-A.length)++BJ (Value.agg #[.string ⟨#[]⟩,.string ⟨#[]⟩,I0 0,I0 0,I0 0,I0 0,I0 0,I0 0,I0 0]).cells (G-(n+1))) 61);refine Eq.trans this ?_
   congr 2
   apply Array.toList_inj.1
   simp
  .simp only[show Lay.k Nd=9 from rfl,Array.length_toList,Array.size_append,CI5];omega
 have hB1:B0 w W1:=by rw[hW1];exact((Below.refl _ w).drew).alloc (AA _) _
 obtain⟨W2,hW2⟩:∃W2,W2=W1.setCells w.heap.size (A.length*9) (MI x):=⟨_,rfl⟩;have ho2:JD W2 w.heap.size G (A++[x]):=by
  have h:JD W1 w.heap.size G (A++[]):=by rw[DV];exact ho1
  have:=h.qY [x] (by simp;omega);rw[hW2];rw[JW,SX,DV]at this;exact this
 have hg2:W1.grownBy W2 (G8 w.heap.size):=by rw[hW2];exact IC _ _ _
 have hB2:B0 w W2:=hB1.grown hg2 hB1.size (fun k e=>by cases e;exact AA _);have hcpA:∀ty dc,(EC #[49,49] ty #[FV (G8 ⟨w.heap.size,A.length*9,G6⟩) (n+1-A.length) dc,FV (G8 ⟨b,0,G6⟩) 1 1]).run prog W1=.ok (goInt (Nat.min 1 (n+1-A.length))) W2:=fun ty dc=>by
  rw[hW2];exact AA2 W1 ty w.heap.size _ _ dc ⟨b,0,G6⟩ 1 1 (MI x) (by simp only[Nat.min_def,MI,BH,EZ];split<;>omega)
   (fun j v hj=>by rw[BM];exact(show JU W1 b x from(hB1.block b hbw).trans h1).row j v hj)
   (fun j hj=>ho1.AK5 (by simp[MI]at hj;omega)) (fun j _=>ho1.frozen _) ((Lay.one x))
 obtain⟨W3,hW3⟩:∃W3,W3=W2.drew.setCells w.heap.size ((A.length+1)*9) (GL (y::R)):=⟨_,rfl⟩;have hcpB:∀ty dc sc,(EC #[49,49] ty #[FV (G8 ⟨w.heap.size,(A.length+1)*9,G6⟩) (n-A.length) dc,FV (G8 ⟨g,A.length*9,G6⟩) (n-A.length) sc]).run prog W2.drew=.ok (goInt (Nat.min (n-A.length) (n-A.length))) W3:=fun ty dc sc=>by
  rw[hW3];exact AA2 W2.drew ty w.heap.size _ _ dc ⟨g,A.length*9,G6⟩ _ sc (GL (y::R)) (by rw[JG];simp only[Nat.min_self,BH];omega)
   (fun j v hj=>by
    rw[BM];have:=hrow (A.length*9+j) v (by rw[I8,BD (by rw[JG];omega),JG,FH];exact hj);rw[BK]at this;exact(hB2.cell (p:=⟨g,A.length*9+j,G6⟩) hgw).trans this)
   (fun j hj=>by rw[JG]at hj;exact ho2.drew.AK5 (by simp at hj;omega)) (fun j _=>ho2.drew.frozen _) (JK _)
 have FIN:Hid (JD W3 w.heap.size G (A++x::y::R)/\B0 w W3):=by
  refine⟨?_,?_⟩
  .have h:JD W2.drew w.heap.size G ((A++[x])++[]):=by rw[DV];exact ho2
   have:=h.qY (y::R) (by simp;omega);rw[hW3];simpa using this
  .rw[hW3];exact hB2.drew.grown (IC _ _ _) hB2.size (fun k e=>by cases e;exact AA _)
 have hin:A.length<n:=by omega
 have C27:(A.length:Int)<(n:Int):=by omega
 have hw1:IntKind.i64.wrap ((A.length:Int)+1)=(A.length:Int)+1:=by rw[FK];omega
 have hb1:(0:Int)<=(A.length:Int)+1:=by omega
 have hb2:¬ (G=A.length+1):=by omega
 have hb3:(A.length:Int)<=(n:Int)+1:=by omega
 have hb4:¬ (n=A.length):=by omega
 have hb5:(A.length:Int)+1<=(n:Int)+1:=by omega
 have hb6:¬ (G=A.length):=by omega
 have hb7:(A.length:Int)<=(n:Int):=by omega
 have hz3:¬ ((A.length:Int)=(n:Int)):=by omega
 have htn:((A.length:Int)+1).toNat=A.length+1:=by omega
 subst hcap;clear hn hROW hW1 hW2 hW3 hG hrow ho h1 ho1 ho2 hB1 hB2 hg2 hold hik;go_enter func224,ntmps224;go_wp2_with (first
  |(at_builtin;refine Lib.wpList_append_run _ rfl _ _ _ _ rfl _ _ rfl rfl _ _ (hrz _) ?_)
  |(at_builtin;refine LH _ rfl _ _ 49 49 rfl _ _ rfl rfl (hcpA _ _) ?_))
 go_region_law (refine N7 rfl (.tmp 50) (.tmp 53) 49 49 rfl (FV (G8 ⟨w.heap.size,(A.length+1)*9,G6⟩) (cap-A.length) (G-(A.length+1))) (FV (G8 ⟨g,A.length*9,G6⟩) (cap-A.length) (cap-A.length)) (by simp[Act.eval,Act.put]) (by simp[Act.eval,Act.put]) (hcpB _ _ _) ?_)
 go_wp2
 go_ret;exact⟨G,rfl,FIN.out⟩
theorem A12(v:FZ)(A R:List Nd)(x:Nd)(q:Nat)(w:FX)(ho:I5 w 0 v (A++R))(hl:(A++R).length<=400)(h1:JU w q x)(hq:v.ownBlock≠G8 q):
  G5 prog 224 #[v,I0 A.length,FV (G8 ⟨q,0,G6⟩) 1 1] w fun e w'=>
   ∃v',e=.returned v'/\I5 w' 0 v' (A++x::R)/\w.grownBy w' v.ownBlock/\(v'.ownBlock=v.ownBlock\/∃k,w.heap.size<=k/\v'.ownBlock=G8 k):=by
 cases R with
 |nil=>
  rw[DV]at ho hl;refine(A11 v A x 0 q w ho (AZ _) hl h1).mono ?_;rintro e w' ⟨v',rfl,h2,h3,h4⟩;refine⟨v',rfl,h2,h3,?_⟩;rcases h4 with h|h
  .exact .inl h
  .exact .inr ⟨_,AA _,h⟩
 |cons y R=>
  rcases ho with⟨_,h⟩|⟨g,cap,rfl,_,ho⟩
  .simp at h
  .have hn:(A++y::R).length=A.length+R.length+1:=by simp;omega
   by_cases hc:(A++y::R).length+1<=cap
   .refine(rC g cap A R y x _ q w ho hn hl hc h1 (fun e=>hq (by rw[e];rfl))).mono ?_;rintro e w' ⟨rfl,h2,h3⟩;exact⟨_,rfl,.inr ⟨g,cap,by simp;omega,AZ _,h2⟩,h3,.inl rfl⟩
   .refine(wH g cap A R y x _ q w ho hn hl (by omega) h1).mono ?_;rintro e w' ⟨cap',rfl,h2,h3⟩;exact⟨_,rfl,.inr ⟨w.heap.size,cap',by simp;omega,AZ _,h2⟩,⟨h3.os,h3.tape,h3.output,h3.size,fun k hk _=>h3.block k hk⟩,.inr ⟨_,AA _,rfl⟩⟩
theorem CI7:(prog.info? 3).map (fun i=>(i.zero,i.size,i.bytes))=G8 (G8 (I0 0),1,8):=by kernel_rfl
theorem A13:∃i0,prog.info? 3=G8 i0/\i0.zero=G8 (I0 0)/\i0.size=1/\i0.bytes=8:=by
 obtain⟨i0,h,e⟩:=FQ.1 CI7;simp only[Prod.mk.injEq]at e;exact⟨i0,h,e⟩
def XG:List FZ:=[I0 0]
theorem C36(w:FX)(ty:TypeId)(b o c:Nat)(hc:∀j,j<1->(w.cell? ⟨b,o+j,G6⟩).isSome=true)(hf:∀j,j<1->w.frozen? ⟨b,o+j,G6⟩=false):
  (Builtin.clear_ #[50] ty #[FV (G8 ⟨b,o,G6⟩) 1 c]).run prog w=.ok (.tuple #[]) (w.setCells b o XG):=by
 have hzc:(BJ (I0 0).cells 1).toList=XG:=by kernel_rfl
 have hst:=run_storeCells_cells (P:=prog) b o XG 0 w (fun j hj=>hc j (by simpa [XG]using hj)) (fun j hj=>hf j (by simpa [XG]using hj)) (by simp[XG,Value.oneCell']);simp only[Nat.add_zero]at hst;simp[Builtin.clear_,run_underlying underlying50,hzc,hst]
theorem A14(g cap:Nat)(A B:List Int)(f:Int)(n:Nat)(w:FX)(ho:JD w g cap (A++f::B))(hn:n=A.length+B.length+1)(hsm:n<=2147483647):
  G5 prog 222 #[FV (G8 ⟨g,0,G6⟩) n cap,I0 A.length,I0 (A.length+1:Nat)] w fun e w'=>
   e=.returned (FV (G8 ⟨g,0,G6⟩) (A.length+B.length) cap)/\JD w' g cap (A++B)/\w.grownBy w' (G8 g):=by
 obtain⟨i0,hi0,hz0,hz1,hz2⟩:=A13;have hle:=ho.le;have hcl:=ho.capLe;simp only[maxLen]at hcl;rw[AP,BH]at hle;have hrow:=ho.row;obtain⟨AD,hAD,hsrc⟩:∃AD:Addr,(if cap=A.length+1 then G8 (⟨g,0,G6⟩:Addr)else G8 ⟨g,(A.length+1),G6⟩)=G8 AD/\Hid (∀t u,(GL B)[t]?=G8 u->w.drew.cell? (AD.add t)=G8 u):=by
  by_cases h:cap=A.length+1
  .refine⟨⟨g,0,G6⟩,by simp[h],fun t u hu=>?_⟩;have h0:B=[]:=C9 (by omega);rw[h0]at hu;simp[SX]at hu
  .refine⟨⟨g,(A.length+1),G6⟩,by simp[h],fun t u hu=>?_⟩;rw[BM];have:=hrow ((A.length+1)+t) u (by
    rw[I8,BD (by rw[J9];omega),J9,JW,BD (by rw[Lay.len];show 1<=_;omega)];rw[Lay.len,<-hu];congr 1;show _-1=_;omega)
   rw[BK]at this;exact this
 have s1:Hid ((GL B).length=B.length*1):=(J9 B).trans (Nat.mul_one _).symm;have s2:Hid (∀u∈GL B,u.oneCell'=true):=JK B;have s3:Hid (∀t,t<(GL B).length->(w.drew.cell? ⟨g,0+A.length*1+t,G6⟩).isSome=true/\w.drew.frozen? ⟨g,0+A.length*1+t,G6⟩=false):=by
  intro t ht;rw[J9]at ht;exact⟨ho.AK6 (by omega),ho.frozen _⟩
 obtain⟨W1,hW1⟩:∃W1,W1=w.drew.setCells g (0+A.length*1) (GL B):=⟨_,rfl⟩;have ho1:JD W1 g cap (A++B):=by rw[hW1,BK,Nat.mul_one];exact ho.drew.qZ B (by omega)
 have hg1:w.grownBy W1 (G8 g):=by rw[hW1];have:=IC (g:=g) (GL B) (0+A.length*1) w.drew;exact⟨this.os,this.tape,this.output,this.size,this.block⟩
 have CS4:∀ty c,(Builtin.clear_ #[50] ty #[FV (G8 ⟨g,(A.length+B.length),G6⟩) 1 c]).run prog W1=.ok (.tuple #[]) (W1.setCells g ((A.length+B.length)) XG):=fun ty c=>
  C36 W1 ty g _ c (fun j hj=>ho1.AK6 (by omega)) (fun j hj=>ho1.frozen _)
 have FIN:Hid (JD (W1.setCells g ((A.length+B.length)) XG) g cap (A++B)/\w.grownBy (W1.setCells g ((A.length+B.length)) XG) (G8 g)):=
  ⟨ho1.CI3 XG _ (by rw[AP];omega) (by simp[XG];omega),IW hg1 (IC _ _ _)⟩
 have hW:Hid (W1=w.drew.setCells g (0+A.length*1) (GL B)):=hW1;have hic:A.length<=cap:=by omega
 have hjc:A.length+1<=cap:=by omega
 have hne:¬ (cap=A.length+B.length):=by omega
 have hb1:(0:Int)<=(A.length:Int)+1:=by omega
 have hb2:(A.length:Int)<=(A.length:Int)+(B.length:Int):=by omega
 have hb3:(0:Int)<=(A.length:Int)+(B.length:Int):=by omega
 have hs1:A.length+B.length+1-(A.length+B.length)=1:=by omega
 clear hW1 ho1 hg1 hrow ho;subst hn;go_enter func222,ntmps222;go_wp2_with fail
 go_region_law (refine step_append_room rfl (.tmp 22) (.tmp 25) 50 rfl 3 i0 1 underlying50 hi0 hz1 g 0 A.length cap (by simp[Act.eval,Act.put]) AD B.length (cap-(A.length+1)) (GL B) (by simp[Act.eval,Act.put]) s1.out hsrc.out s2.out (by omega) s3.out ?_;rw[<-hW.out])
 go_wp2
 go_ret;exact⟨rfl,FIN.out⟩
theorem AA8(w:FX)(ty:TypeId)(b o dLen dCap:Nat)(a:Addr)(sLen sCap:Nat)(cs:List FZ)(hn:cs.length=Nat.min sLen dLen)
  (hsrc:∀j v,cs[j]?=G8 v->w.cell? (a.add j)=G8 v) (hc:∀j,j<cs.length->(w.cell? ⟨b,o+j,G6⟩).isSome=true) (hf:∀j,j<cs.length->w.frozen? ⟨b,o+j,G6⟩=false) (h1:∀v∈cs,v.oneCell'=true):
  (EC #[50,50] ty #[FV (G8 ⟨b,o,G6⟩) dLen dCap,FV (G8 a) sLen sCap]).run prog w=.ok (goInt (Nat.min sLen dLen)) (w.setCells b o cs):=by
 have hl:=run_loadCells_list (P:=prog) w a cs hsrc;have hst:=run_storeCells_cells (P:=prog) b o cs 0 w (by simpa using hc) (by simpa using hf) h1;obtain⟨i0,hi0,hz0,hz1,hz2⟩:=A13;simp[EC,run_underlying underlying50,Builtin.lenOf,Builtin.firstCells,sizeOf,typeInfo,hi0,hz1,<-hn,hl,hst]
theorem A15(v:FZ)(A:List Int)(x:Int)(B b:Nat)(w:FX)(ho:I5 w B v A)(hB:B<=w.heap.size)(hl:A.length<=2147483647)(h1:JU w b x):
  G5 prog 221 #[v,I0 A.length,FV (G8 ⟨b,0,G6⟩) 1 1] w fun e w'=>
   ∃v',e=.returned v'/\I5 w' B v' (A++[x])/\w.grownBy w' v.ownBlock/\(v'.ownBlock=v.ownBlock\/v'.ownBlock=G8 w.heap.size):=by
 obtain⟨i0,hi0,hz0,hz1,hz2⟩:=A13;have hrow:=ho.row;have HR:=GH hrow;have H1:=GH h1.row;have V:∃a c,v=FV a A.length c/\A.length<=c:=by
  rcases ho with⟨rfl,rfl⟩|⟨g,cap,rfl,_,h⟩
  .exact⟨G6,0,rfl,AA _⟩
  .exact⟨_,cap,rfl,h.le⟩
 obtain⟨a,c,rfl,hc⟩:=V;clear ho hrow h1;rcases Nat.lt_or_ge A.length c with hcl|hcl
 .have hne:¬c=A.length:=by omega
  go_enter func221,ntmps221;go_wp2_with (at_builtin;refine wpList_append_own_at _ rfl _ _ 50 rfl B 3 i0 _ 1 8 underlying50 hi0 hz0 hz1 hz2 rfl (by decide) _ A.length (GL A) rfl (G9 HR) ⟨b,0,G6⟩ 1 1 [I0 x] rfl (by rfl) ?qc2 ((Lay.one x)) ?qc4 ?qc5 hB ?_)
  case qc2=>
   intro j u hj;rw[BM];exact G9 H1 j u hj
  case qc4=>simp only[maxLen];omega
  case qc5=>omega
  intro v' w1 hown hgrow _ hloc
  go_wp2
  go_ret;exact⟨v',rfl,I5.LD (by rw[AP,JJ];exact hown),hgrow,hloc⟩
 .obtain rfl:c=A.length:=by omega
  go_enter func221,ntmps221;go_wp2_with (at_builtin;refine wpList_append_own_at _ rfl _ _ 50 rfl B 3 i0 _ 1 8 underlying50 hi0 hz0 hz1 hz2 rfl (by decide) _ A.length (GL A) rfl (G9 HR) ⟨b,0,G6⟩ 1 1 [I0 x] rfl (by rfl) ?qc2 ((Lay.one x)) ?qc4 ?qc5 hB ?_)
  case qc2=>
   intro j u hj;rw[BM];exact G9 H1 j u hj
  case qc4=>simp only[maxLen];omega
  case qc5=>omega
  intro v' w1 hown hgrow _ hloc
  go_wp2
  go_ret;exact⟨v',rfl,I5.LD (by rw[AP,JJ];exact hown),hgrow,hloc⟩
theorem rF(g cap:Nat)(A R:List Int)(y x:Int)(n b:Nat)(w:FX)(ho:JD w g cap (A++y::R))(hn:n=A.length+R.length+1)(hsm:n<=2147483647)(hroom:n+1<=cap)(h1:JU w b x)(hbg:b≠g):
  G5 prog 221 #[FV (G8 ⟨g,0,G6⟩) n cap,I0 A.length,FV (G8 ⟨b,0,G6⟩) 1 1] w fun e w'=>
   e=.returned (FV (G8 ⟨g,0,G6⟩) (n+1) cap)/\JD w' g cap (A++x::y::R)/\w.grownBy w' (G8 g):=by
 have hcl:=ho.capLe;simp only[maxLen]at hcl;have hrow:=ho.row;have AZ0:w.shape? g=G8 (3,cap):=by
  obtain⟨rest,q1,q2,_⟩:=ho;rw[AP,BH,show Lay.k Int=1 from rfl,Nat.mul_one,Nat.mul_one]at q2;simp[World.shape?,q1,J9];exact⟨rfl,q2⟩
 have AZ1:w.shape? b=G8 (3,1):=by unfold JU at h1;simp[World.shape?,h1];exact⟨rfl,rfl⟩
 have hfb:∀j,w.frozen? ⟨b,j,G6⟩=false:=fun j=>by unfold JU at h1;simp[World.frozen?,h1]
 have hov:∀lb cb,(callFunc 246 #[FV (G8 ⟨b,0,G6⟩) 1 1,FV (G8 ⟨g,(A.length+1),G6⟩) lb cb]).run prog w=.ok (.value (.bool false)) w:=fun lb cb=>by
  rw[run_callFunc_extern func246 (by kernel_rfl) (by kernel_rfl) (by kernel_rfl) (e:=Extern.SlicesOverlaps.overlaps #[50,50] #[4]) (by kernel_rfl),
   Lib.run_overlaps_apart w 50 4 3 underlying50 1 sizeOf3 ⟨b,0,G6⟩ ⟨g,(A.length+1),G6⟩ 1 1 lb cb hbg 3 3 1 cap AZ1 AZ0 (by omega) (hfb 0) (hfb 1)]
  rfl
 obtain⟨W1,hW1⟩:∃W1,W1=w.drew.setCells g ((A.length+1)) (GL (y::R)):=⟨_,rfl⟩;have ho1:JD W1 g cap (A++y::y::R):=by
  have h:JD w.drew g cap ((A++[y])++R):=by rw[BZ];exact ho
  have:=h.qZ (y::R) (by simp;omega);rw[hW1];simpa using this
 have hg1:w.grownBy W1 (G8 g):=by rw[hW1];have:=IC (g:=g) (GL (y::R)) ((A.length+1)) w.drew;exact⟨this.os,this.tape,this.output,this.size,this.block⟩
 have hcp1:∀ty dc sc,(EC #[50,50] ty #[FV (G8 ⟨g,(A.length+1),G6⟩) (n-A.length) dc,FV (G8 ⟨g,A.length,G6⟩) (n+1-A.length) sc]).run prog w.drew=.ok (goInt (Nat.min (n+1-A.length) (n-A.length))) W1:=fun ty dc sc=>by
  rw[hW1];exact AA8 w.drew ty g _ _ dc ⟨g,A.length,G6⟩ _ sc (GL (y::R)) (by rw[J9];simp only[Nat.min_def,BH];split<;>omega)
   (fun j v hj=>by
    rw[BM];have:=hrow (A.length+j) v (by rw[I8,BD (by rw[J9];omega),J9,FH];exact hj);rw[BK]at this;exact this)
   (fun j hj=>by rw[J9]at hj;exact ho.AK6 (by simp at hj;omega)) (fun j _=>ho.frozen _) (JK _)
 have hcp2:∀ty dc,(EC #[50,50] ty #[FV (G8 ⟨g,A.length,G6⟩) (n+1-A.length) dc,FV (G8 ⟨b,0,G6⟩) 1 1]).run prog W1=.ok (goInt (Nat.min 1 (n+1-A.length))) (W1.setCells g (A.length) [I0 x]):=fun ty dc=>
  AA8 W1 ty g _ _ dc ⟨b,0,G6⟩ 1 1 [I0 x] (by simp only[Nat.min_def,BH,EZ];split<;>omega)
   (fun j v hj=>by
    rw[BM];have hb2:W1.heap[b]?=w.heap[b]? :=hg1.block b (by unfold JU at h1;exact(AL.1 h1).1) (fun e=>hbg (Option.some.inj e));have h2:JU W1 b x:=hb2.trans h1;exact h2.row j v hj)
   (fun j hj=>ho1.AK6 (by simp at hj;omega)) (fun j _=>ho1.frozen _) ((Lay.one x))
 have FIN:Hid (JD (W1.setCells g (A.length) [I0 x]) g cap (A++x::y::R)/\w.grownBy (W1.setCells g (A.length) [I0 x]) (G8 g)):=
  ⟨ho1.CU4 x,IW hg1 (IC _ _ _)⟩
 have hin:A.length<n:=by omega
 have C27:(A.length:Int)<(n:Int):=by omega
 have hw1:IntKind.i64.wrap ((A.length:Int)+1)=(A.length:Int)+1:=by rw[FK];omega
 have hb1:(0:Int)<=(A.length:Int)+1:=by omega
 have hb2:¬ (cap=A.length+1):=by omega
 have hb3:(A.length:Int)<=(n:Int)+1:=by omega
 have hb4:¬ (cap=A.length):=by omega
 have hb5:(A.length:Int)+1<=(n:Int)+1:=by omega
 have hb6:¬ ((cap:Int)<(n:Int)+1):=by omega
 have hz2:¬ ((A.length:Int)=(n:Int)):=by omega
 have htn:((A.length:Int)+1).toNat=A.length+1:=by omega
 clear hW1 ho1 hg1 hrow AZ0 AZ1 hfb ho h1 hn;go_enter func221,ntmps221;go_wp2_with (simp only[hov])
 go_region_law (refine N7 rfl (.tmp 73) (.tmp 76) 50 50 rfl (FV (G8 ⟨g,(A.length+1),G6⟩) (n-A.length) (cap-(A.length+1))) (FV (G8 ⟨g,A.length,G6⟩) (n+1-A.length) (cap-A.length)) (by simp[Act.eval,Act.put]) (by simp[Act.eval,Act.put]) (hcp1 _ _ _) ?_)
 go_wp2_with (at_builtin;refine LH _ rfl _ _ 50 50 rfl _ _ rfl rfl (hcp2 _ _) ?_);go_ret;exact⟨rfl,FIN.out⟩
theorem CI8(k:Nat):(BJ (I0 0).cells k).size=k:=by
 simp[BJ,Value.cells]
theorem wK(g cap:Nat)(A R:List Int)(y x:Int)(n b:Nat)(w:FX)(ho:JD w g cap (A++y::R))(hn:n=A.length+R.length+1)(hsm:n<=2147483647)(hroom:cap<n+1)(h1:JU w b x):
  G5 prog 221 #[FV (G8 ⟨g,0,G6⟩) n cap,I0 A.length,FV (G8 ⟨b,0,G6⟩) 1 1] w fun e w'=>
   ∃cap',e=.returned (FV (G8 ⟨w.heap.size,0,G6⟩) (n+1) cap')/\JD w' w.heap.size cap' (A++x::y::R)/\B0 w w':=by
 have hcap:cap=n:=by have:=ho.le;simp at this;omega
 obtain⟨i0,hi0,hz0,hz1,hz2⟩:=A13;have hrow:=ho.row;have hgw:=ho.lt;have hbw:b<w.heap.size:=by unfold JU at h1;exact(AL.1 h1).1
 have hold:(Builtin.firstCells i0.size A.length (FV (G8 ⟨g,0,G6⟩) A.length cap)).run prog w.drew=.ok (GL A).toArray w.drew:=by
  rw[hz1];exact run_firstCells_some w.drew 1 A.length ⟨g,0,G6⟩ A.length cap (GL A) ((J9 A).trans (Nat.mul_one _).symm) (fun j v hj=>by
   rw[BM];exact hrow j v (by rw[I8,BN (AV.1 hj).1];exact hj))
 obtain⟨G,hG⟩:∃G,G=grownCap w (n+1) cap 3:=⟨_,rfl⟩;have hGn:n+1<=G:=by rw[hG];exact grownCap_ge w _ _ _
 have hGm:G<=maxLen:=by rw[hG];exact grownCap_le_maxLen w (n+1) cap _ (by unfold maxLen;omega)
 have hG63:G<=9223372036854775807:=by have:=hGm;unfold maxLen at this;omega
 obtain⟨ROW,hROW⟩:∃ROW:Array FZ,ROW=(GL A).toArray++BJ (I0 0).cells (n+1-A.length)++BJ (I0 0).cells (G-(n+1)):=⟨_,rfl⟩;obtain⟨W1,hW1⟩:∃W1,W1=w.drew.alloc (.cells ROW 3):=⟨_,rfl⟩;have hik:A.length+(n+1-A.length)=n+1:=by omega
 have hrz:∀ty,(Builtin.append_ #[50,3] ty #[FV (G8 ⟨g,0,G6⟩) A.length cap,I0 ((n:Int)+1-(A.length:Int))]).run prog w=
   .ok (FV (G8 ⟨w.heap.size,0,G6⟩) (n+1) G) W1:=fun ty=>by
  have h:=Lib.run_append_grow_zeros w 50 3 ty 3 i0 _ .i64 .i64 underlying50 underlying3 hi0 hz0 (G8 ⟨g,0,G6⟩) A.length cap (GL A) hold (n+1-A.length) (by omega) (by omega) (by omega) (by omega) (by rw[hz2];omega) (by rw[hz2,hik];exact growslice_fits hroom (by omega));rw[hik,<-hG,<-hROW,<-hW1]at h;rw[show (n:Int)+1-(A.length:Int)=((n+1-A.length:Nat):Int) by omega];exact h
 have ho1:JD W1 w.heap.size G A:=by
  refine⟨(BJ (I0 0).cells (n+1-A.length)++BJ (I0 0).cells (G-(n+1))).toList,?_,?_,by omega,hGm⟩
  .rw[hW1,hROW];have:=heap_alloc_new w.drew (.cells ((GL A).toArray++BJ (I0 0).cells (n+1-A.length)++BJ (I0 0).cells (G-(n+1))) 3);refine Eq.trans this ?_
   congr 2
   apply Array.toList_inj.1
   simp
  .simp only[show Lay.k Int=1 from rfl,Array.length_toList,Array.size_append,CI8,Nat.mul_one];omega
 have hB1:B0 w W1:=by rw[hW1];exact((Below.refl _ w).drew).alloc (AA _) _
 obtain⟨W2,hW2⟩:∃W2,W2=W1.setCells w.heap.size (A.length) [I0 x]:=⟨_,rfl⟩;have ho2:JD W2 w.heap.size G (A++[x]):=by
  have h:JD W1 w.heap.size G (A++[]):=by rw[DV];exact ho1
  have:=h.qZ [x] (by simp;omega);rw[hW2];rw[JW,SX,DV]at this;exact this
 have hg2:W1.grownBy W2 (G8 w.heap.size):=by rw[hW2];exact IC _ _ _
 have hB2:B0 w W2:=hB1.grown hg2 hB1.size (fun k e=>by cases e;exact AA _);have hcpA:∀ty dc,(EC #[50,50] ty #[FV (G8 ⟨w.heap.size,A.length,G6⟩) (n+1-A.length) dc,FV (G8 ⟨b,0,G6⟩) 1 1]).run prog W1=.ok (goInt (Nat.min 1 (n+1-A.length))) W2:=fun ty dc=>by
  rw[hW2];exact AA8 W1 ty w.heap.size _ _ dc ⟨b,0,G6⟩ 1 1 [I0 x] (by simp only[Nat.min_def,BH,EZ];split<;>omega)
   (fun j v hj=>by rw[BM];exact(show JU W1 b x from(hB1.block b hbw).trans h1).row j v hj)
   (fun j hj=>ho1.AK6 (by simp at hj;omega)) (fun j _=>ho1.frozen _) ((Lay.one x))
 obtain⟨W3,hW3⟩:∃W3,W3=W2.drew.setCells w.heap.size ((A.length+1)) (GL (y::R)):=⟨_,rfl⟩;have hcpB:∀ty dc sc,(EC #[50,50] ty #[FV (G8 ⟨w.heap.size,(A.length+1),G6⟩) (n-A.length) dc,FV (G8 ⟨g,A.length,G6⟩) (n-A.length) sc]).run prog W2.drew=.ok (goInt (Nat.min (n-A.length) (n-A.length))) W3:=fun ty dc sc=>by
  rw[hW3];exact AA8 W2.drew ty w.heap.size _ _ dc ⟨g,A.length,G6⟩ _ sc (GL (y::R)) (by rw[J9];simp only[Nat.min_self,BH];omega)
   (fun j v hj=>by
    rw[BM];have:=hrow (A.length+j) v (by rw[I8,BD (by rw[J9];omega),J9,FH];exact hj);rw[BK]at this;exact(hB2.cell (p:=⟨g,A.length+j,G6⟩) hgw).trans this)
   (fun j hj=>by rw[J9]at hj;exact ho2.drew.AK6 (by simp at hj;omega)) (fun j _=>ho2.drew.frozen _) (JK _)
 have FIN:Hid (JD W3 w.heap.size G (A++x::y::R)/\B0 w W3):=by
  refine⟨?_,?_⟩
  .have h:JD W2.drew w.heap.size G ((A++[x])++[]):=by rw[DV];exact ho2
   have:=h.qZ (y::R) (by simp;omega);rw[hW3];simpa using this
  .rw[hW3];exact hB2.drew.grown (IC _ _ _) hB2.size (fun k e=>by cases e;exact AA _)
 have hin:A.length<n:=by omega
 have C27:(A.length:Int)<(n:Int):=by omega
 have hw1:IntKind.i64.wrap ((A.length:Int)+1)=(A.length:Int)+1:=by rw[FK];omega
 have hb1:(0:Int)<=(A.length:Int)+1:=by omega
 have hb2:¬ (G=A.length+1):=by omega
 have hb3:(A.length:Int)<=(n:Int)+1:=by omega
 have hb4:¬ (n=A.length):=by omega
 have hb5:(A.length:Int)+1<=(n:Int)+1:=by omega
 have hb6:¬ (G=A.length):=by omega
 have hb7:(A.length:Int)<=(n:Int):=by omega
 have hz3:¬ ((A.length:Int)=(n:Int)):=by omega
 have htn:((A.length:Int)+1).toNat=A.length+1:=by omega
 subst hcap;clear hn hROW hW1 hW2 hW3 hG hrow ho h1 ho1 ho2 hB1 hB2 hg2 hold hik;go_enter func221,ntmps221;go_wp2_with (first
  |(at_builtin;refine Lib.wpList_append_run _ rfl _ _ _ _ rfl _ _ rfl rfl _ _ (hrz _) ?_)
  |(at_builtin;refine LH _ rfl _ _ 50 50 rfl _ _ rfl rfl (hcpA _ _) ?_))
 go_region_law (refine N7 rfl (.tmp 50) (.tmp 53) 50 50 rfl (FV (G8 ⟨w.heap.size,(A.length+1),G6⟩) (cap-A.length) (G-(A.length+1))) (FV (G8 ⟨g,A.length,G6⟩) (cap-A.length) (cap-A.length)) (by simp[Act.eval,Act.put]) (by simp[Act.eval,Act.put]) (hcpB _ _ _) ?_)
 go_wp2
 go_ret;exact⟨G,rfl,FIN.out⟩
theorem A16(v:FZ)(A R:List Int)(x:Int)(q:Nat)(w:FX)(ho:I5 w 0 v (A++R))(hl:(A++R).length<=2147483647)(h1:JU w q x)(hq:v.ownBlock≠G8 q):
  G5 prog 221 #[v,I0 A.length,FV (G8 ⟨q,0,G6⟩) 1 1] w fun e w'=>
   ∃v',e=.returned v'/\I5 w' 0 v' (A++x::R)/\w.grownBy w' v.ownBlock/\(v'.ownBlock=v.ownBlock\/∃k,w.heap.size<=k/\v'.ownBlock=G8 k):=by
 cases R with
 |nil=>
  rw[DV]at ho hl;refine(A15 v A x 0 q w ho (AZ _) hl h1).mono ?_;rintro e w' ⟨v',rfl,h2,h3,h4⟩;refine⟨v',rfl,h2,h3,?_⟩;rcases h4 with h|h
  .exact .inl h
  .exact .inr ⟨_,AA _,h⟩
 |cons y R=>
  rcases ho with⟨_,h⟩|⟨g,cap,rfl,_,ho⟩
  .simp at h
  .have hn:(A++y::R).length=A.length+R.length+1:=by simp;omega
   by_cases hc:(A++y::R).length+1<=cap
   .refine(rF g cap A R y x _ q w ho hn hl hc h1 (fun e=>hq (by rw[e];rfl))).mono ?_;rintro e w' ⟨rfl,h2,h3⟩;exact⟨_,rfl,.inr ⟨g,cap,by simp;omega,AZ _,h2⟩,h3,.inl rfl⟩
   .refine(wK g cap A R y x _ q w ho hn hl (by omega) h1).mono ?_;rintro e w' ⟨cap',rfl,h2,h3⟩;exact⟨_,rfl,.inr ⟨w.heap.size,cap',by simp;omega,AZ _,h2⟩,⟨h3.os,h3.tape,h3.output,h3.size,fun k hk _=>h3.block k hk⟩,.inr ⟨_,AA _,rfl⟩⟩
