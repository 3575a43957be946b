/-
  Part.
-/
import Derived.Test.YthcncjimjclfpaaGreatDoorLSAI
set_option maxRecDepth 20000
set_option maxHeartbeats 8000000
namespace Go.Proofs.YthcncjimjclfpaaGreatDoor
open Go.RowKit Go.Proofs.Tryz
open _root_.List renaming getElem?_eq_some_iff->AU,getElem?_append_left->BK,mem_append->BU,mem_map->EU
variable{m:List GI}{x:GI}
def lP:List UInt8:=[47,108]
def nPl:List UInt8:=[47,108,47,110]
def CT6(t:Tr)(x:GI):Prop:=x.o=1\/(x.o=3/\x.p=lP)\/(x.o=3/\IB x.p=lP/\∃u,KJ t.ns lP=some u/\0<=u.k/\u.k<=2147483647/\x.p=nPl++ten u.k.toNat)
def BD6(m:List GI):Prop:=∀i x,m[i]?=some x->CT6 (OE m i) x
theorem BD6.take(h:BD6 m)(j:Nat):BD6 (m.take j):=by
 intro i x hi;have hlt:=(AU.1 hi).1;simp at hlt;rw[dA m (by omega)];rw[List.getElem?_take_of_lt (by omega)]at hi;exact h i x hi
theorem BD6.snoc(h:BD6 m)(hx:CT6 (OE m m.length) x):BD6 (m++[x]):=by
 intro i y hi;by_cases e:i<m.length
 .rw[BK e]at hi;rw[VN m x (by omega)];exact h i y hi
 .have hlt:=(AU.1 hi).1;simp at hlt;obtain rfl:i=m.length:=by omega
  simp at hi;subst hi;rw[VN m x (Nat.le_refl _)];exact hx
theorem AI3{t:Tr}(ha:WG t x=0)(hx:CT6 t x){u:Nd}(hu:KJ t.ns lP=some u):∃v,KJ (WY t x).ns lP=some v/\u.k<=v.k/\(x.o=3->x.p≠lP->v.k=u.k+1):=by
 have ga:=(YK ha).1;obtain⟨hum,hup⟩:=SC hu;rcases hx with ho|hx
 .refine⟨u,?_,Int.le_refl _,fun h=>by omega⟩;rw[show (WY t x).ns=t.ns by rw[WY,if_pos ha];simp[aT,ho]];exact hu
 have ho:x.o=3:=by rcases hx with h|h<;>exact h.1
 obtain⟨_,_,_,⟨A,B,G⟩,_,hns,_⟩:=AS8 ha ho;have hmi:u∈CF5 t.ns (uI x):=by
  rw[G.ins (x:=uI x)];rw[G.eq]at hum;rcases BU.1 hum with h1|h1
  .exact BU.2 (.inl h1)
  .exact BU.2 (.inr (List.mem_cons_of_mem _ h1))
 by_cases hd:IB x.p=lP
 .have huu:bump x.z 1 u∈(WY t x).ns:=by
   rw[hns,hd];exact oO hmi hup
  have hl:=VE ga.nod.asc huu;rw[show (bump x.z 1 u).p=lP from hup]at hl;exact⟨_,hl,by show u.k<=u.k+1;omega,fun _ _=>rfl⟩
 .have huu:u∈(WY t x).ns:=by
   rw[hns,NG];exact EU.2 ⟨u,hmi,by rw[if_neg (by rw[hup];exact fun e=>hd e.symm)]⟩
  have hl:=VE ga.nod.asc huu;rw[hup]at hl;refine⟨u,hl,Int.le_refl _,fun _ hne=>?_⟩;rcases hx with h|h
  .exact absurd h.2 hne
  .exact absurd h.2.1 hd
theorem BW2(hp:yK m)(hs:BD6 m){i:Nat}{u:Nd}(hu:KJ (OE m i).ns lP=some u):∀j,i<=j->j<=m.length->∃v,KJ (OE m j).ns lP=some v/\u.k<=v.k:=by
 intro j
 induction j with
 |zero=>
  intro h _;obtain rfl:i=0:=by omega
  exact⟨u,hu,Int.le_refl _⟩
 |succ j ih=>
  intro h1 h2;by_cases e:i=j+1
  .subst e;exact⟨u,hu,Int.le_refl _⟩
  .obtain⟨v,hv,hle⟩:=ih (by omega) (by omega);obtain⟨x,hx⟩:∃x,m[j]?=some x:=⟨_,List.getElem?_eq_getElem (by omega)⟩;obtain⟨w,hw,hl2,_⟩:=AI3 (hp j x hx) (hs j x hx) hv;rw[XY hx];exact⟨w,hw,by omega⟩
theorem BW3(hp:yK m)(hs:BD6 m){i j:Nat}{y:GI}(hij:i<j)(hx:m[i]?=some x)(hy:m[j]?=some y)(ox:x.o=3/\x.p≠lP)(oy:y.o=3/\y.p≠lP):Op.bytesLess x.p y.p=true/\x.p.length=14/\y.p.length=14:=by
 have hj:=(AU.1 hy).1;have sx:∃u,KJ (OE m i).ns lP=some u/\0<=u.k/\u.k<=2147483647/\x.p=nPl++ten u.k.toNat:=by
  rcases hs i x hx with h|h|h
  .omega
  .exact absurd h.2 ox.2
  .exact h.2.2
 have sy:∃u,KJ (OE m j).ns lP=some u/\0<=u.k/\u.k<=2147483647/\y.p=nPl++ten u.k.toNat:=by
  rcases hs j y hy with h|h|h
  .omega
  .exact absurd h.2 oy.2
  .exact h.2.2
 obtain⟨u,hu,u0,u1,ex⟩:=sx;obtain⟨w,hw,w0,w1,ey⟩:=sy;obtain⟨v,hv,_,hv2⟩:=AI3 (hp i x hx) (hs i x hx) hu;rw[<-XY hx]at hv;obtain⟨w',hw',hle⟩:=BW2 hp hs hv j (by omega) (by omega);rw[hw]at hw';obtain rfl:=Option.some.inj hw';have:=hv2 ox.1 ox.2;rw[ex,ey];refine⟨?_,by simp[nPl,UE],by simp[nPl,UE]⟩;rw[A06 _ _ _ (by omega) (by omega)];simp only[decide_eq_true_eq];omega
def CY4(d:Dd):Prop:=d.k≠2/\(d.k=1->d.q.o=1\/(d.q.o=3/\d.q.p=lP/\d.q.f=0)\/(d.q.o=3/\d.q.p=nPl/\2<=d.q.f/\d.q.f<=3))
theorem CR5{p:Pw}{d:Dd}{b:Nat}(w:Wr p d b)(h:PX p)(hq:d.q.o=1\/(d.q.o=3/\d.q.p=lP/\d.q.f=0)\/(d.q.o=3/\d.q.p=nPl/\2<=d.q.f/\d.q.f<=3)):CT6 (OE (p.s b).m (p.s b).m.length) (wX p d)/\((d.q.o=3/\d.q.p=nPl)->(wX p d).o=3/\(wX p d).p≠lP):=by
 have hE:fM (wTr p) (wZ p) (wQ p d)=0:=w.e;rw[w.tr h]at hE;have hX:wX p d=AK2 (OE (p.s b).m (p.s b).m.length) (wZ p) (wQ p d):=by rw[wX,w.tr h]
 rw[hX];generalize OE (p.s b).m (p.s b).m.length=t at*;obtain⟨hh,hfe,ha⟩:=AB4 hE;rw[jS hE];rcases hq with ho|⟨ho,hp,hf⟩|⟨ho,hp,hf,hf2⟩
 .refine⟨.inl ?_,fun h=>by omega⟩;have hr:(wQ p d).o=1:=ho;rw[(qW (t:=t) (z:=wZ p) (r:=wQ p d) (.inl hr)).2];exact hr
 .have hr:(wQ p d).o=3:=ho;rw[(jQ (z:=wZ p) hr).2];refine⟨.inr (.inl ⟨hr,?_⟩),fun h=>?_⟩
  .show (if 2<=d.q.f then _ else d.q.p)=lP;rw[if_neg (by omega),hp]
  .rw[hp]at h;exact absurd h.2 (by decide)
 .have hr:(wQ p d).o=3:=ho;rw[(jQ (z:=wZ p) hr).1]at hfe;rw[(jQ (z:=wZ p) hr).2];obtain⟨hfl,hp2,ms,hnum⟩:=BI3 hfe;have hpp:(wQ p d).p=nPl:=hp;obtain⟨u,hu,k0,k1,hP,hD⟩:=BI6 hp2.1 hp2.2 (hnum hf);have hdir:IB (wQ p d).p=lP:=by rw[hpp];decide
  rw[hdir]at hu hD;have hxp:(CF7 t (wZ p) (wQ p d)).p=nPl++ten u.k.toNat:=by
   show (if 2<=d.q.f then BE9 t (wQ p d)else d.q.p)=_;rw[if_pos hf,hP,hpp]
  refine⟨.inr (.inr ⟨hr,?_,u,hu,k0,by omega,hxp⟩),fun _=>⟨hr,fun e=>?_⟩⟩
  .show IB (if 2<=d.q.f then BE9 t (wQ p d)else d.q.p)=lP;rw[if_pos hf];exact hD
  .rw[hxp]at e;have:=congrArg List.length e;simp[nPl,lP,UE]at this
structure BD7(p:Pw)(last:List UInt8):Prop where
 m:∀i,i<3->BD6 (p.s i).m
 l:last=[]\/∃y∈p.D,y.o=3/\y.p≠lP/\y.p=last
theorem C08{p:Pw}{d:Dd}{last:List UInt8}(h:PX p)(hs:BD7 p last)(hq:CY4 d):
  ((doP p d).1.E=0->(doP p d).1.p≠[]->d.k=1/\((d.q.o=3/\d.q.p=nPl)->Op.bytesLess last (doP p d).1.p=true/\(doP p d).1.p.length=14/\BD7 (doP p d).2 (doP p d).1.p))/\BD7 (doP p d).2 last:=by
 have hx:∀b,Wr p d b->d.k=1->BD6 ((p.s b).m++[wX p d]):=fun b w h1=>(hs.m b w.lt).snoc (CR5 w h (hq.2 h1)).1;have hm:∀i,i<3->BD6 ((doP p d).2.s i).m:=CF0 h (fun m j hm=>hm.take j) hx hs.m;rcases CF1 (p:=p) d hq.1 with⟨e1,e2⟩|⟨b,w,e1,e2,_,h1⟩
 .refine⟨fun h0 hne=>absurd (e2 h0) hne,hm,?_⟩;rw[e1];exact hs.l
 .refine⟨fun _ _=>⟨h1,fun hn=>?_⟩,hm,?_⟩
  .obtain⟨_,hx3⟩:=CR5 w h (hq.2 h1);have hx4:=hx3 hn;have hD:∀y∈p.D,y∈(p.s b).m:=by
    obtain⟨a1,_,_,_,_,_,a7⟩:=h.a.lead b (cZ h w.lt w.two).1;rw[LQ a1]at a7;exact a7
   have hpl:yK ((p.s b).m++[wX p d]):=(h.s b w.lt).play.snoc (w.fit h).app;have hsm:=hx b w h1;have hend:((p.s b).m++[wX p d])[(p.s b).m.length]?=some (wX p d):=by simp
   rw[e2];have hlen:(wX p d).p.length=14:=by
    rcases hsm _ _ hend with h'|h'|h'
    .omega
    .exact absurd h'.2 hx4.2
    .obtain⟨u,_,_,_,e⟩:=h'.2.2;rw[e];simp[nPl,UE]
   refine⟨?_,hlen,hm,.inr ⟨wX p d,by rw[e1];simp,hx4.1,hx4.2,rfl⟩⟩;rcases hs.l with rfl|⟨y,hy,o3,op,rfl⟩
   .cases hc:(wX p d).p with
    |nil=>rw[hc]at hlen;simp at hlen
    |cons a r=>rfl
   .obtain⟨i,hi⟩:=List.mem_iff_getElem?.1 (hD y hy);have hlt:=(AU.1 hi).1;exact(BW3 hpl hsm hlt (by rw[BK hlt];exact hi) hend ⟨o3,op⟩ hx4).1
  .rw[e1];rcases hs.l with e|⟨y,hy,h3⟩
   .exact .inl e
   .exact .inr ⟨y,BU.2 (.inl hy),h3⟩
theorem BD8(k:Nat):BD7 (pw0 k) []:=⟨fun i _ j x hx=>by simp[pw0,ps0]at hx,.inl rfl⟩
def BF3(c:Nat):Dd:=⟨1,c,0,⟨1,0,[],[],0,0⟩,0,0,0,false⟩
def dMk:Dd:=⟨1,0,0,⟨3,0,lP,[],0,0⟩,0,0,0,false⟩
def ss0(j:Nat):List Int:=(List.range j).map fun i=>((i+1:Nat):Int)
structure GS(p:Pw)(j:Nat):Prop where
 n:p.n=1+j
 r0:p.r 0=1
 r1:p.r 1=1
 r2:p.r 2=2
 l:(p.s 2).dn=(p.s 2).m.length
 ss:(OE (p.s 2).m (p.s 2).m.length).ss=ss0 j
 ns:(OE (p.s 2).m (p.s 2).m.length).ns=[gU]
 c:∀i,(p.c i).s=i+1
theorem BW4(k:Nat):(doP (pw0 k) dEl).1.E=0/\GS (doP (pw0 k) dEl).2 0:=by
 obtain⟨f,c,e,hf,hc⟩:=AI1 k;rw[e];have hm:(f 2).m=[]/\(f 2).dn=0:=by rw[hf 2 (by omega)];exact⟨rfl,rfl⟩
 refine⟨rfl,rfl,rfl,rfl,rfl,?_,?_,?_,hc⟩
 .show (f 2).dn=(f 2).m.length;rw[hm.1,hm.2];rfl
 .show (OE (f 2).m (f 2).m.length).ss=ss0 0;rw[hm.1];rfl
 .show (OE (f 2).m (f 2).m.length).ns=[gU];rw[hm.1];rfl
section
variable {p:Pw} {j:Nat} {d:Dd}
theorem GS.ld(g:GS p j):ldP p.r=2/\ldN p.r=2:=by
 have h:ldP p.r=2:=by rw[ldP,g.r0,g.r1,g.r2];rfl
 exact⟨h,by rw[ldN,h];rfl⟩
theorem GS.tr(g:GS p j):wTr p=OE (p.s 2).m (p.s 2).m.length:=by rw[wTr,g.ld.2,g.l]
theorem GS.z(g:GS p j)(h:PX p)(hj:j<=4):KD (wZ p)=true/\0<wZ p/\(wTr p).z<wZ p:=by
 have hn:=g.n;obtain⟨_,h1,h2,h3,_⟩:=AG4 h (by omega) (b:=2) (by omega) g.r2;have e:wZ p=nxN (p.s 2).e (J4 (p.s 2).m):=by rw[wZ,g.ld.2]
 rw[<-e]at h1 h2 h3;refine⟨h1,h2,?_⟩;rw[g.tr];by_cases hm:(p.s 2).m=[]
 .rw[hm];show (0:Int)<_;exact h2
 .obtain⟨l,x,hl⟩:∃l x,(p.s 2).m=l++[x]:=⟨_,_,(List.dropLast_concat_getLast hm).symm⟩;have hz:=(h.s 2 (by omega)).play.z (i:=l.length) (x:=x) (by rw[hl];simp);rw[show (p.s 2).m.length=l.length+1 by rw[hl];simp,hz];rw[hl,SA]at h3;exact h3
theorem GS.write(g:GS p j)(_h:PX p)(hj:j<=4)(hk:d.k=1)(hc:0<=d.c/\d.c<16)(hl:d.lo=0)(hs:d.sl=0)(hE:wE p d=0):
  (doP p d).1.E=0/\(doP p d).2.n=p.n+1/\(∀i,i<3->(doP p d).2.r i=p.r i)/\((doP p d).2.s 2).m=(p.s 2).m++[wX p d]/\((doP p d).2.s 2).dn=(p.s 2).m.length+1/\∀i,((doP p d).2.c i).s=(p.c i).s:=by
 have hn:=g.n;have hT:∀i,i<3->wT p d i=true/\wS p d i=true:=fun i hi=>by
  have e:p.r i=2\/p.r i=1:=by rcases(show i=0\/i=1\/i=2 by omega)with rfl|rfl|rfl<;>simp[g.r0,g.r1,g.r2]
  have b:zL 0 i=false:=by simp[zL]
  have e1:wT p d i=true:=by
   rw[wT,hl,b];rcases e with e|e<;>simp[e]
  exact⟨e1,by rw[wS,e1,hs,b];simp⟩
 have hL:wL p d=[0,1,2]:=by
  rw[wL];simp[(hT 0 (by omega)).2,(hT 1 (by omega)).2,(hT 2 (by omega)).2]
 have hd:doP p d=PU (MR p) d:=by
  rw[doP,if_neg (by omega),if_neg (by rw[UO,if_pos hk,if_pos (by simp[pU,hc])];simp),lQ,if_pos hk]
 rw[hd,PU,if_neg (show ¬ldP (MR p).r=-1 by show ¬ldP p.r=-1;rw[g.ld.1];decide),if_neg (show ¬wE (MR p) d≠0 by show ¬wE p d≠0;rw[hE];simp),if_neg (show ¬ (wL (MR p) d).length<2 by show ¬ (wL p d).length<2;rw[hL];decide)];have hv:wSv p d 2=TA (wX p d) (wS p d 2) (p.s 2):=by rw[wSv,if_pos (hT 2 (by omega)).1]
 have hcom:(LV (wSv p d) (wL p d)).1 2=gX 2 (wSv p d 2):=by rw[yN,if_pos ⟨by omega,(hT 2 (by omega)).2⟩]
 refine⟨rfl,rfl,fun i hi=>?_,?_,?_,fun i=>?_⟩
 .show wRo p d i=p.r i;rw[wRo,if_pos (hT i hi).1]
 .show ((LV (wSv p d) (wL p d)).1 2).m=_;rw[hcom,hv];rfl
 .show ((LV (wSv p d) (wL p d)).1 2).dn=_;rw[hcom,hv];show ((p.s 2).m++[wX p d]).length=_;simp
 .show (wCl p d (LV (wSv p d) (wL p d)).2 i).s=_;unfold wCl;by_cases e:i=d.c.toNat
  .subst e;rw[IG];rfl
  .rw[GH _ _ e];rfl
theorem A82{j:Nat}{x:Int}:x∈ss0 j↔1<=x/\x<=j:=by
 unfold ss0;simp only[EU,List.mem_range];constructor
 .rintro⟨i,hi,rfl⟩;omega
 .intro h;exact⟨(x-1).toNat,by omega,by omega⟩
theorem CF2(j:Nat):BE7 (ss0 j) (j+1)=ss0 (j+1):=by
 have h1:((ss0 j).filter fun x=>decide (x<(j:Int)+1))=ss0 j:=List.filter_eq_self.2 (fun x hx=>by have:=A82.1 hx;simp;omega);have h2:((ss0 j).filter fun x=>decide ((j:Int)+1<x))=[]:=List.filter_eq_nil_iff.2 (fun x hx=>by have:=A82.1 hx;simp;omega);rw[BE7,h1,h2];simp[ss0,List.range_succ]
theorem GS.open(g:GS p j)(h:PX p)(hj:j<4):(doP p (BF3 j)).1.E=0/\GS (doP p (BF3 j)).2 (j+1):=by
 obtain⟨z1,z2,z3⟩:=g.z h (by omega);have hgt:QA (wTr p):=by rw[g.tr];exact(h.s 2 (by omega)).play.good (Nat.le_refl _)
 have hq:wQ p (BF3 j)=⟨1,j+1,[],[],0,0⟩:=by
  show (⟨1,(p.c ((j:Int)).toNat).s,[],[],0,0⟩:Rq)=_;rw[g.c];simp
 have hss:(wTr p).ss=ss0 j:=by rw[g.tr];exact g.ss
 have hns:(wTr p).ns=[gU]:=by rw[g.tr];exact g.ns
 obtain⟨e1,e2⟩:=qW (t:=wTr p) (z:=wZ p) (r:=⟨1,j+1,[],[],0,0⟩) (.inl rfl);have hgd:gdE ⟨wZ p,1,j+1,[],[],0,0⟩=0:=AT8 (show opB 1=true by decide) (aG.2 ⟨z1,show mP (j+1) 1=true from TK.2 ⟨by omega,by omega⟩,show mP 0 0=true by decide,show mP 0 0=true by decide⟩) (by simp) (by simp[fmB]);have ha:WG (wTr p) ⟨wZ p,1,j+1,[],[],0,0⟩=0:=by
  have hA:UZ (wTr p) ⟨wZ p,1,j+1,[],[],0,0⟩=0:=by
   rw[UZ,if_neg (by rw[OL.2 hgt];simp),if_neg (by rw[hgd];simp),if_neg (by simp only;omega),if_neg (by simp only[hss,A82];omega),if_neg (by simp)]
  rw[iM hA];exact XK rfl (MQ.2 hgt.cap)
 have hE:wE p (BF3 j)=0:=by
  rw[wE,hq,jR (YL.2 ⟨hgt,z1,by simp only;omega,by simp only;omega⟩) e1,e2];exact ha
 have hX:wX p (BF3 j)=⟨wZ p,1,j+1,[],[],0,0⟩:=by
  have h:=hE;rw[wE,hq]at h;rw[wX,hq,jS h,e2]
 obtain⟨w1,w2,w3,w4,w5,w6⟩:=g.write h (by omega) (d:=BF3 j) rfl ⟨by show (0:Int)<=j;omega,by show (j:Int)<16;omega⟩ rfl rfl hE;have ht:OE ((doP p (BF3 j)).2.s 2).m ((doP p (BF3 j)).2.s 2).m.length=WY (wTr p) ⟨wZ p,1,j+1,[],[],0,0⟩:=by
  rw[w4,hX,g.tr];rw[show ((p.s 2).m++[(⟨wZ p,1,j+1,[],[],0,0⟩:GI)]).length=(p.s 2).m.length+1 by simp,XY (x:=⟨wZ p,1,j+1,[],[],0,0⟩) (by simp),VN _ _ (Nat.le_refl _)]
 refine⟨w1,by rw[w2,g.n];omega,by rw[w3 0 (by omega)];exact g.r0,by rw[w3 1 (by omega)];exact g.r1,by rw[w3 2 (by omega)];exact g.r2,by rw[w5,w4];simp,?_,?_,fun i=>by rw[w6];exact g.c i⟩
 .rw[ht,WY,if_pos ha];show BE7 (wTr p).ss (j+1)=_;rw[hss];exact CF2 j
 .rw[ht,WY,if_pos ha];exact hns
theorem GS.make(g:GS p 4)(h:PX p):(doP p dMk).1.E=0:=by
 obtain⟨z1,z2,z3⟩:=g.z h (by omega);have hgt:QA (wTr p):=by rw[g.tr];exact(h.s 2 (by omega)).play.good (Nat.le_refl _)
 have hq:wQ p dMk=⟨3,1,lP,[],0,0⟩:=by
  show (⟨3,(p.c 0).s,lP,[],0,0⟩:Rq)=_;rw[g.c];simp
 have hss:(wTr p).ss=ss0 4:=by rw[g.tr];exact g.ss
 have hns:(wTr p).ns=[gU]:=by rw[g.tr];exact g.ns
 obtain⟨e1,e2⟩:=jQ (t:=wTr p) (z:=wZ p) (r:=⟨3,1,lP,[],0,0⟩) rfl;have hx:CF7 (wTr p) (wZ p) ⟨3,1,lP,[],0,0⟩=⟨wZ p,3,1,lP,[],0,0⟩:=rfl;rw[jO (by decide) (by decide) (by rw[hss];decide) (by decide)]at e1;rw[hx]at e2;have hgd:gdE ⟨wZ p,3,1,lP,[],0,0⟩=0:=AT8 (show opB 3=true by decide) (aG.2 ⟨z1,show mP 1 1=true by decide,show mP 0 0=true by decide,show mP 0 0=true by decide⟩) (by simp) (show fmB ⟨0,3,1,lP,[],0,0⟩=true by decide);have ha:WG (wTr p) ⟨wZ p,3,1,lP,[],0,0⟩=0:=by
  have hA:UZ (wTr p) ⟨wZ p,3,1,lP,[],0,0⟩=0:=by
   rw[UZ,if_neg (by rw[OL.2 hgt];simp),if_neg (by rw[hgd];simp),if_neg (by simp only;omega),if_neg (by simp),if_neg (by simp only[hss];decide)]
  rw[iM hA];refine XK ?_ (MQ.2 ?_)
  .rw[iF,if_pos rfl,A98];simp only[hns];decide
  .rw[aT,if_neg (by simp),if_pos rfl];simp only[hns];have e:(qU (wZ p) [gU] (uI ⟨wZ p,3,1,lP,[],0,0⟩)).map (·.k)=[1,0]:=rfl;intro n hn;have hk:n.k∈[(1:Int),0]:=by rw[<-e];exact EU.2 ⟨n,hn,rfl⟩
   simp at hk;omega
 have hE:wE p dMk=0:=by
  rw[wE,hq,jR (YL.2 ⟨hgt,z1,by decide,by decide⟩) e1,e2];exact ha
 exact(g.write h (by omega) (d:=dMk) rfl ⟨by decide,by decide⟩ rfl rfl hE).1
end
theorem qJ(k:Nat):∀j,j<=4->GS (OZ (pw0 k) (gD.take (j+1))) j:=by
 intro j
 induction j with
 |zero=>intro _;exact(BW4 k).2
 |succ j ih=>
  intro hj;have g:=ih (by omega);have hd:gD[j+1]?=some (BF3 j):=by
   rcases(show j=0\/j=1\/j=2\/j=3 by omega)with rfl|rfl|rfl|rfl<;>rfl
  rw[mJ (pw0 k) hd];exact(g.open (QW _ _ (MZ k)) (by omega)).2
theorem BD9(k j:Nat)(d:Dd)(hd:gD[j+1]?=some d):(doP (OZ (pw0 k) (gD.take (j+1))) d).1.E=0:=by
 have hj:=(AU.1 hd).1;have hl:gD.length=6:=rfl;by_cases h4:j<4
 .have e:gD[j+1]?=some (BF3 j):=by
   rcases(show j=0\/j=1\/j=2\/j=3 by omega)with rfl|rfl|rfl|rfl<;>rfl
  rw[e]at hd
  cases hd
  exact((qJ k j (by omega)).open (QW _ _ (MZ k)) h4).1
 .obtain rfl:j=4:=by omega
  have e:gD[5]?=some dMk:=rfl;rw[show 4+1=5 from rfl,e]at hd
  cases hd
  exact(qJ k 4 (by omega)).make (QW _ _ (MZ k))
theorem AI4:∀ (l:List Dd) (p:Pw),PX p->BD7 p []->(∀d∈l,CY4 d)->BD7 (OZ p l) []
 |[],_,_,h,_=>h
 |d::l,p,hw,h,hq=>AI4 l _ (U1 d hw) (C08 hw h (hq d (by simp))).2 (fun x hx=>hq x (by simp[hx]))
theorem BW5(k:Nat):BD7 (OZ (pw0 k) gD) []:=by
 refine AI4 gD _ (MZ k) (BD8 k) fun d hd=>?_;simp only[gD,List.mem_cons,List.not_mem_nil,or_false]at hd;rcases hd with rfl|rfl|rfl|rfl|rfl|rfl
 .exact⟨by decide,fun h=>by simp[C06]at h⟩
 .exact⟨by decide,fun _=>.inl rfl⟩
 .exact⟨by decide,fun _=>.inl rfl⟩
 .exact⟨by decide,fun _=>.inl rfl⟩
 .exact⟨by decide,fun _=>.inl rfl⟩
 .exact⟨by decide,fun _=>.inr (.inl ⟨rfl,rfl,rfl⟩)⟩
theorem BE0(p:Pw)(last:List UInt8)(d:Dd)(h:PX p)(hs:BD7 p last)(hg:CR3 d):((doP p d).1.E=0->(doP p d).1.p≠[]->Op.bytesLess last (doP p d).1.p=true/\(doP p d).1.p.length=14/\BD7 (doP p d).2 (doP p d).1.p)/\BD7 (doP p d).2 last:=by
 have hn:d.k=1->d.q.o=3/\d.q.p=nPl/\2<=d.q.f/\d.q.f<=3:=fun h1=>by
  rcases hg with e|e|e|⟨_,κ,hκ,e⟩
  .omega
  .omega
  .omega
  .rw[e];exact BV5 hκ
 have hq:CY4 d:=⟨by rcases hg with e|e|e|⟨e,_⟩<;>omega,fun h1=>.inr (.inr (hn h1))⟩;obtain⟨a,b⟩:=C08 h hs hq;refine⟨fun e0 e1=>?_,b⟩;obtain⟨h1,h2⟩:=a e0 e1;exact h2 ⟨(hn h1).1,(hn h1).2.1⟩
theorem mM(is:List Int)(v:Value)(W:World)(hv:IU W v is)(hr:∀x∈is,-9223372036854775808<=x/\x<=9223372036854775807)(hT:ZV W):Calls prog 4 #[v] W (R0 W (.bool true)):=by
 have hg:=A48 hT;have hA:=G7 W (.cells #[.string ⟨#[]⟩] 9);have hs1:(W.alloc (.cells #[.string ⟨#[]⟩] 9)).heap.size=W.heap.size+1:=by simp
 have h1:CE7 W.heap.size [] (W.alloc (.cells #[.string ⟨#[]⟩] 9)):=heap_alloc_new W _;have hbl:∀V,Touch (· =W.heap.size) (W.alloc (.cells #[.string ⟨#[]⟩] 9)) V->B0 W V:=fun V hV=>hA.trans (hV.below (by rw[hs1];omega) (fun k e=>by omega));have C:=G6 (BD5 (J:=BD7) W.heap.size is v (fun V hV=>hv.next (hbl V hV)) (hT.next hA) hr (by omega) h1 BD9 BW5 BE0);have HB:=G6 hbl;clear hv hr hT hg hA hs1 h1 hbl;go_enter func4,ntmps4;go_wp2_with fail;refine(G5 C).mono ?_;rintro e V ⟨rfl,hp⟩;have HP:=G6 (G5 HB V hp);clear hp C HB;go_wp2_with fail;go_ret;exact⟨rfl,G5 HP⟩
