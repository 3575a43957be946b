/-
  Part.
-/
import Derived.Test.YtenkgjfahcgppaaGreatDoorLOZ
set_option maxRecDepth 20000
set_option maxHeartbeats 8000000
namespace Go.Proofs.YtenkgjfahcgppaaGreatDoor
open Go.RowKit Go.Proofs.Tryz
variable{e z:Int}{b q:Ps}{i j k g B:Nat}{s:Nat->Ps}{p:Pw}{W V w:World}{vd vl vn vs vw v:Value}{r:Rq}
theorem BK3{m:List AQ}{t:AQ}(e:Int)(h:Logs (m++[t]))(hl:m.length<=300):VP 209 (fun x=>#[x,DW t,.bool true]) [VD e,KU m] [VD e,KU (m++[t])] 0:=by
 have hg:=(Logs.at (a:=m) (b:=[]) h).1;have hx:=nS e;have h1:=nP h.left hl;have h2:=dG hg;have g0:H6 [VD e,KU m]:=PI hx (by simp;omega);have g1:H6 [VD e,⟨JI,BM m,NH t⟩]:=PI hx (by omega);refine kD [VD e,KU m] [VD e,⟨JI,BM m,NH t⟩] [VD e,KU (m++[t])] t 0 hg (IW fun v W hv=>?_) (ZC fun v W hv=>?_)
 .have:=dY v [VD e,KU m] [VD e] [] (KU m) JI (NH t) W hv (F8 g0) g0 (gB _ _ _ _) (by simp only[KU,List.length_nil];omega);simpa [KU]using this
 .have:=UR v [VD e,⟨JI,BM m,NH t⟩] [VD e] [] ⟨JI,BM m,NH t⟩ JI W hv (F8 g1) g1 (gB _ _ _ _);simpa [KU,LU]using this
theorem CG5{m:List AQ}{e0:Int}(he:zIn e=true)(hm:(BM m).length<=1048576):fP 162 (fun x=>#[x,I0 e]) (epD e0++[KU m]) [VD e,KU m] 0:=by
 by_cases h0:e0=0
 .subst h0;rw[A58];exact C01 he hm
 .rw[yR h0];have hx:=XO (G6 e 0);have g0:H6 [VD e0,KU m]:=PI (nS e0) (by simpa using hm);have gl:H6 [KU m]:=Y7 (by simpa using hm);have g1:H6 [⟨EM,[],MV (G6 e 0)⟩,KU m]:=PI (by simp;omega) (by simpa using hm);refine yI [VD e0,KU m] [KU m] [⟨EM,[],MV (G6 e 0)⟩,KU m] [VD e,KU m] e 0 (PW he (by decide)).2 (IW fun v W hv=>?_) (IW fun v W hv=>?_) (IW fun v W hv=>?_)
  .exact qP v [VD e0,KU m] [] [KU m] (VD e0) EM W hv (F8 g0) g0 (Y9 _ _ _ _)
  .exact XV v [KU m] [] [KU m] EM (MV (G6 e 0)) W hv (F8 gl) gl WC (by simp) (ZG (BM m) []) (by omega)
  .have:=UR v _ [] [KU m] ⟨EM,[],MV (G6 e 0)⟩ EM W hv (F8 g1) g1 (Y9 [] (MV (G6 e 0)) (BM m) []);simpa [VD]using this
theorem B16{a b:List AQ}(ha:Logs a)(hp:∀x∈a,0<x.z)(hz:CO9 b (G5 a b) z):OY z a=a.take (G5 a b):=by
 rcases hz with⟨h0,rfl⟩|⟨x,h0,hx,rfl⟩
 .rw[h0,List.take_zero]
  cases a with
  |nil=>rfl
  |cons t r=>
   have:=hp t (by simp);unfold OY;rw[List.takeWhile_cons_of_neg (by simp;omega)]
 .obtain⟨x',y',h1,h2,h3⟩:=fE a b (G5 a b-1) (by omega);rw[hx]at h2
  cases h2
  rw[<-h3,C02 ha h1,show G5 a b-1+1=G5 a b by omega]
theorem CG6(a b:List AQ):∃z,CO9 b (G5 a b) z:=by
 by_cases h0:G5 a b=0
 .exact⟨-1,.inl ⟨h0,rfl⟩⟩
 .obtain⟨x,y,_,h2,_⟩:=fE a b (G5 a b-1) (by omega);exact⟨y.z,.inr ⟨y,by omega,h2,rfl⟩⟩
theorem BK4{a b:List AQ}(h:∀x∈a,∀y∈b,x.z=y.z->x=y):a.take (G5 a b)=b.take (G5 a b):=by
 obtain⟨k1,k2⟩:=TV a b
 apply List.ext_getElem?
 intro i;by_cases hi:i<G5 a b
 .obtain⟨x,y,h1,h2,h3⟩:=fE a b i hi;rw[List.getElem?_take_of_lt hi,List.getElem?_take_of_lt hi,h1,h2,h x (List.mem_of_getElem? h1) y (List.mem_of_getElem? h2) h3]
 .rw[List.getElem?_eq_none (by simp;omega),List.getElem?_eq_none (by simp;omega)]
theorem B17(ok:IK 300 q)(hu:q.up=true)(okb:IK 300 b)(he:1<=e/\e<=300)(hd:q.dn<=G5 q.m b.m)(h1:∀x∈q.m,∀y∈b.m,x.z=y.z->x=y)(v vl:Value)(w:World)(hv:SvV w v (svP i q))(hvl:J8 w vl b.m)(ht:VQ w):
  Calls prog 118 #[v,vl,I0 e] w (ZE w (svP i (nJ e b.m q)) 0):=by
 obtain⟨r1,r2⟩:=ok.small;obtain⟨b1,b2⟩:=okb.small;have r3:=QM q.m q.a;obtain⟨z,hz⟩:=CG6 q.m b.m;have hzi:zIn e=true:=LQ.2 ⟨by omega,by omega⟩;have hs:=BK4 h1;obtain⟨k1,k2⟩:=TV q.m b.m;have hts:(svP i q).ts=q.m:=by rw[D8 hu]
 have G:J9 161 (fun g=>#[g,I0 z]) (svP i q).fs (epD q.e++[KU (q.m.take (G5 q.m b.m))]) 0:=by
  have R:VO (epD q.e++[⟨JI,BM (q.m.take q.a),BM (q.m.drop q.a)⟩]) q.m (epD q.e) []:=⟨WM (by omega),ok.log,.inr ⟨_,[],bK _ _ _,by
   have:=pK ok.log;rw[<-GL,List.take_append_drop];exact this⟩⟩
  have:=BH3 R z;rw[B16 ok.log ok.pos hz]at this;rw[D8 hu];exact this
 have hlk:Logs (q.m.take (G5 q.m b.m)):=ok.log.take _;have hrk:(BM (q.m.take (G5 q.m b.m))).length<=146100:=nP hlk (by simp;omega);have R:=CG5 (e0:=q.e) hzi (show (BM (q.m.take (G5 q.m b.m))).length<=1048576 by omega);have gd:H6 [VD e,KU (q.m.take (G5 q.m b.m))]:=PI (nS e) (by simp;omega);have hbb:b.m=b.m.take (G5 q.m b.m)++b.m.drop (G5 q.m b.m):=(List.take_append_drop _ _).symm;have step:∀j x,(b.m.drop (G5 q.m b.m))[j]?=some x->CE3 ⟨true,[VD e,KU (q.m.take (G5 q.m b.m)++(b.m.drop (G5 q.m b.m)).take j)],i,e,q.m.take (G5 q.m b.m)++(b.m.drop (G5 q.m b.m)).take j,q.dn,JX q.m q.dn,q.ws⟩ x ⟨true,[VD e,KU (q.m.take (G5 q.m b.m)++(b.m.drop (G5 q.m b.m)).take (j+1))],i,e,q.m.take (G5 q.m b.m)++(b.m.drop (G5 q.m b.m)).take (j+1),q.dn,JX q.m q.dn,q.ws⟩:=by
  intro j x hx;have e1:b.m=(q.m.take (G5 q.m b.m)++(b.m.drop (G5 q.m b.m)).take j)++x::(b.m.drop (G5 q.m b.m)).drop (j+1):=by
   rw[hs,List.append_assoc,<-BH4 hx];exact hbb
  have e2:q.m.take (G5 q.m b.m)++(b.m.drop (G5 q.m b.m)).take (j+1)=(q.m.take (G5 q.m b.m)++(b.m.drop (G5 q.m b.m)).take j)++[x]:=by rw[LV hx,List.append_assoc]
  have hL:=okb.log;rw[e1]at hL;have hg:=hL.good x (by simp);have hL1:Logs ((q.m.take (G5 q.m b.m)++(b.m.drop (G5 q.m b.m)).take j)++[x]):=by
   have:Logs (((q.m.take (G5 q.m b.m)++(b.m.drop (G5 q.m b.m)).take j)++[x])++(b.m.drop (G5 q.m b.m)).drop (j+1)):=by simpa using hL
   exact this.left
  have hx2:=QN hg;have hlen:(q.m.take (G5 q.m b.m)++(b.m.drop (G5 q.m b.m)).take j).length<=300:=by
   have:=congrArg List.length e1;rw[List.length_append]at this;omega
  have hlast:¬x.z<=DU (q.m.take (G5 q.m b.m)++(b.m.drop (G5 q.m b.m)).take j):=by
   intro hle;by_cases hn:q.m.take (G5 q.m b.m)++(b.m.drop (G5 q.m b.m)).take j=[]
   .rw[hn,SX]at hle;have:=okb.pos x (List.mem_of_mem_drop (List.mem_of_getElem? hx));omega
   .obtain⟨y,hy,hyz⟩:=XC hn;have:=(List.pairwise_append.1 hL1.rise).2.2 y hy x (by simp);omega
  refine⟨hlast,by omega,by omega,Nat.le_trans hlen (by decide),[VD e,KU ((q.m.take (G5 q.m b.m)++(b.m.drop (G5 q.m b.m)).take j)++[x])],by rw[e2],BK3 e hL1 hlen⟩
 have main:=AY3 (svP i q) v vl b.m e w hv hvl (ok.fits hu) (by omega) ht (by rw[hts,D8 hu];show ¬ ((G5 q.m b.m:Nat):Int)<(q.dn:Int);omega) z _ _ (by rw[hts];exact hz) G R gd (fun j=>⟨true,[VD e,KU (q.m.take (G5 q.m b.m)++(b.m.drop (G5 q.m b.m)).take j)],i,e,q.m.take (G5 q.m b.m)++(b.m.drop (G5 q.m b.m)).take j,q.dn,JX q.m q.dn,q.ws⟩) (by rw[hts,D8 hu];simp) (by rw[hts];exact step);rw[hts]at main;have e3:svP i (nJ e b.m q)=⟨true,[VD e,KU (q.m.take (G5 q.m b.m)++(b.m.drop (G5 q.m b.m)).take (b.m.drop (G5 q.m b.m)).length)],i,e,q.m.take (G5 q.m b.m)++(b.m.drop (G5 q.m b.m)).take (b.m.drop (G5 q.m b.m)).length,q.dn,JX q.m q.dn,q.ws⟩:=by
  have et:JX q.m q.dn=JX b.m q.dn:=by
   rw[<-gU q.m hd,<-gU b.m hd,hs]
  rw[List.take_length,hs,List.take_append_drop,et,D8 (p:=nJ e b.m q) rfl];simp[nJ,yR (show e≠0 by omega),KU,BM]
 rw[e3];exact main
theorem tX(ok:IK 300 q)(hu:q.up=true)(okb:IK 300 b)(hd:G5 q.m b.m<q.dn)(v vl:Value)(w:World)(hv:SvV w v (svP i q))(hvl:J8 w vl b.m):
  Calls prog 118 #[v,vl,I0 e] w (kE w 13):=by
 obtain⟨b1,b2⟩:=okb.small;exact AG7 (svP i q) v vl b.m e w hv hvl (ok.fits hu) (by omega) (by rw[D8 hu];show ((G5 q.m b.m:Nat):Int)<(q.dn:Int);omega)
structure El(p:Pw):Prop where
 ok:∀i,i<3->IK 300 (p.s i)
 cl:∀i,i<16->oV 300 p.H i (p.c i)
 en:1<=eN p.s/\eN p.s<=300
 one:∀i j,i<3->j<3->∀x∈(p.s i).m,∀y∈(p.s j).m,x.z=y.z->x=y
 fol:¬ (F5 p.s).length<2->yS p.s=false->∀i,i<3->IK 300 (eS p.s i)
 fin:¬ (F5 p.s).length<2->yS p.s=false->∀i,i<3->IK 300 ((GH (eS p.s) (F5 p.s)).1 i)
theorem IK.fol{N:Int}(hq:IK N q)(hb:IK N b)(he:0<=e/\e<=N)(hd:q.dn<=G5 q.m b.m):IK N (nJ e b.m q):=
 ⟨hb.log,hb.pos,hb.len,Nat.le_refl _,he.1,he.2,Nat.le_trans hd (TV q.m b.m).2,hb.play,hq.wl,hq.wk,fun h=>by simp[nJ]at h,fun _=>rfl⟩
theorem CQ0{q:Pw}(h:ND q)(hn:q.n<300):El (GY q):=by
 have hok:∀i,i<3->IK 300 (q.s i):=fun i hi=>(h.s i hi).more (by omega);refine⟨hok,fun i hi=>(h.c i hi).more (by omega) (fun _ hx=>hx),?_,fun i j hi hj x hx y hy e=>h.a.one x (h.a.hist i hi x (by rw[I5 hi];exact hx)) y (h.a.hist j hj y (by rw[I5 hj];exact hy)) e,fun h2 hb i hi=>?_,fun h2 hb i hi=>?_⟩
 .have:=C20 h;show 1<=eN q.s/\eN q.s<=300;omega
 .show IK 300 (eS q.s i);have hB:=FI.1 (A70 (s:=q.s) (show 2<=(F5 q.s).length from Nat.le_of_not_lt h2));unfold eS
  split
  .rename_i hu
   have:=C20 h;exact IK.fol (hok i hi) (hok _ hB.1) (by omega) (B01 (s:=q.s) hb (FI.2 ⟨hi,hu.1⟩))
  .exact hok i hi
 .exact((kQ h hn h2 hb).s i hi).more (by show q.n+1<=300;omega)
theorem A76(h:∀i,i<3->IK 300 (s i)):BR0 (MZ s) 0:=by
 refine .inl ⟨rfl,fun i k hi=>?_⟩;have hlt:i<(F5 s).length:=by have:=(List.getElem?_eq_some_iff.1 hi).1;rwa[YH]at this
 unfold MZ at hi;rw[List.getElem?_map,List.getElem?_eq_getElem hlt]at hi;simp only[Option.map_some,Option.some.injEq]at hi;subst hi;have hm:=List.getElem_mem hlt;obtain⟨h3,_⟩:=FI.1 hm;have ok:=h _ h3;have h0:=ok.e0;have h1:=ok.e1;unfold A57;rw[if_neg,if_neg (by simp only;omega),if_neg (by simp only;omega)];intro ha;rw[List.any_eq_true]at ha;obtain⟨q,hq,e⟩:=ha;rw[MZ,<-List.map_take]at hq;obtain⟨j,hj,rfl⟩:=List.mem_map.1 hq;have e':j=(F5 s)[i]:=by
  have:(j:Int)=((F5 s)[i]:Nat):=by simpa using e
  omega
 have hnd:=N8 s;rw[<-List.take_append_drop i (F5 s)]at hnd;have hd:(F5 s)[i]∈(F5 s).drop i:=List.mem_of_getElem? (i:=0) (by rw[List.getElem?_drop];simp[List.getElem?_eq_getElem hlt]);exact(List.pairwise_append.1 hnd).2.2 j hj _ hd e'
theorem BK5(h:∀i,i<3->IK 300 (s i))(h2:(F5 s).length<2):CP3 (MZ s) 0 0 14:=⟨0,A76 h,.inr ⟨rfl,.inl ⟨by rw[YH];exact h2,rfl,rfl,rfl⟩⟩⟩
theorem B18(h:El p)(h2:¬ (F5 p.s).length<2):CP3 (MZ p.s) (IJ (MZ p.s) (F5 p.s).length:Nat) (eN p.s) 0:=
 ⟨0,A76 h.ok,.inr ⟨rfl,.inr ⟨by rw[YH];omega,.inr ⟨by have:=h.en;unfold eN at this;omega,by rw[YH],rfl,rfl⟩⟩⟩⟩
theorem B19(h2:¬ (F5 s).length<2):IJ (MZ s) (F5 s).length<(F5 s).length:=by
 have:=U5 (MZ s) (F5 s).length;omega
theorem C32(h2:¬ (F5 s).length<2):(F5 s)[IJ (MZ s) (F5 s).length]?=some (eB s):=by
 have:=B19 h2;rw[eB,List.getD_eq_getElem?_getD,List.getElem?_eq_getElem this];rfl
def elS(s:Nat->Ps)(j:Nat):Nat->Ps:=fun k=>if k∈(F5 s).take j then nJ (eN s) (s (eB s)).m (s k)else s k
def elR(s:Nat->Ps)(j:Nat):Nat->Int:=fun k=>if k∈(F5 s).take j then 1 else 0
theorem BK6(s:Nat->Ps):elS s 0=s:=by funext k;simp[elS]
theorem BK7(s:Nat->Ps):elR s 0=fun _=>0:=by funext k;simp[elR]
theorem BK8(h:(F5 s)[j]?=some i):elS s (j+1)=GX (elS s j) i (nJ (eN s) (s (eB s)).m (s i)):=by
 funext k
 unfold elS GX;rw[MC h];by_cases e:k=i
 .subst e;rw[if_pos (by simp),if_pos rfl]
 .rw[if_neg e];congr 1;simp[e]
theorem BK9(h:(F5 s)[j]?=some i):elR s (j+1)=GX (elR s j) i 1:=by
 funext k
 unfold elR GX;rw[MC h];by_cases e:k=i
 .subst e;rw[if_pos (by simp),if_pos rfl]
 .rw[if_neg e];congr 1;simp[e]
theorem C33(s:Nat->Ps):elS s (F5 s).length=eS s:=by
 funext k
 unfold elS eS;rw[List.take_length]
 congr 1
 rw[FI];exact propext ⟨fun h=>⟨h.2,h.1⟩,fun h=>⟨h.2,h.1⟩⟩
theorem C34:GX (elR s (F5 s).length) (eB s) 2=eR s:=by
 funext k
 unfold elR eR GX;rw[List.take_length];by_cases e:k=eB s
 .rw[if_pos e,if_pos e]
 .rw[if_neg e,if_neg e];show (if k∈F5 s then(1:Int)else 0)=_
  congr 1
  rw[FI];exact propext ⟨fun h=>⟨h.2,h.1⟩,fun h=>⟨h.2,h.1⟩⟩
theorem C35(h:(F5 s)[j]?=some i):elS s j i=s i:=by
 unfold elS;rw[if_neg];intro hm;have hnd:=N8 s;rw[<-List.take_append_drop j (F5 s)]at hnd;have hd:i∈(F5 s).drop j:=List.mem_of_getElem? (i:=0) (by rw[List.getElem?_drop];simpa using h);exact(List.pairwise_append.1 hnd).2.2 i hm i hd rfl
theorem C36(h:i∈F5 s)(hb:G5 (s i).m (s (eB s)).m<(s i).dn):yS s=true:=by
 unfold yS;rw[List.any_eq_true];exact⟨i,h,by simpa using hb⟩
theorem BR6(h:∀i∈F5 s,(s i).dn<=G5 (s i).m (s (eB s)).m):yS s=false:=by
 unfold yS;rw[List.any_eq_false];intro i hi;have:=h i hi;simp;omega
theorem ZO(s:Nat->Ps):(F5 s).length<=3:=Nat.le_trans (List.length_filter_le _ _) (by simp)
theorem CG7(h:VQ W)(hx:WX W k p):3≠k:=by
 intro e;have h1:=h.cell yH 0 (by decide);have h2:=hx.count;rw[<-e]at h2;rw[h2]at h1;simp[Lib.pow10Tab]at h1
theorem VQ.touch{F:Nat->Prop}(h:VQ W)(ht:Touch F W V)(hF:¬F 3):VQ V:=by
 have hlt:=AX7 h;unfold VQ Lib.TabIs World.var? at h⊢;simp only[yH,Option.bind_some]at h⊢;rw[ht.block _ hlt hF];exact h
theorem bP(h:VQ W)(hx:WX W k p)(ht:Touch (· =k) W V):VQ V:=h.touch ht (CG7 h hx)
structure BxS(w V:World)(q:Nat)(s:Sv)(vd vl vn vs vw:Value):Prop where
 b:Below w.heap.size w V
 le:w.heap.size<=q
 box:BO V q s.up vd s.id s.ep vl s.dn s.tr.z vn vs vw
theorem C37{w1:World}{s:Sv}(h:Below w.heap.size w w1):BxS w (w1.alloc (.cells #[.bool s.up,vd,.int .i64 s.id,.int .i64 s.ep,vl,.int .i64 s.dn,.int .i64 s.tr.z,vn,vs,vw] 43)) w1.heap.size s vd vl vn vs vw:=
 ⟨AL h (AB _ _),h.size,BO.new _ _ _ _ _ _ _ _ _ _ _⟩
theorem C38{w1:World}{q:Nat}{s:Sv}(h:Below w.heap.size w w1)(hq:w.heap.size<=q)(hz:BO w1 q false (.slice none 0 0) 0 0 (.slice none 0 0) 0 0 (.slice none 0 0) (.slice none 0 0) (.slice none 0 0)):BxS w (LC w1 q (.bool s.up) vd (.int .i64 s.id) (.int .i64 s.ep) vl (.int .i64 s.dn) (.int .i64 s.tr.z) vn vs vw) q s vd vl vn vs vw:=
 ⟨ES h hq _ _ _ _ _ _ _ _ _ _,hq,fZ hz _ _ _ _ _ _ _ _ _ _⟩
def RqB(W:World)(g:Nat)(r:Rq):Prop:=W.heap[g]?=some (.cells #[.int .i64 r.o,.int .i64 r.s,.string ⟨r.p.toArray⟩,.string ⟨r.d.toArray⟩,.int .i64 r.v,.int .i64 r.f] 58 (0,0))
theorem RqB.new(w:World)(r:Rq):RqB (w.alloc (.cells #[.int .i64 r.o,.int .i64 r.s,.string ⟨r.p.toArray⟩,.string ⟨r.d.toArray⟩,.int .i64 r.v,.int .i64 r.f] 58)) w.heap.size r:=heap_alloc_new w _
theorem RqB.lt(h:RqB W g r):g<W.heap.size:=(Array.getElem?_eq_some_iff.1 h).1
theorem RqB.next(h:RqB W g r)(hb:Below W.heap.size W V):RqB V g r:=(hb.block g h.lt).trans h
theorem RqB.cells(h:RqB W g r):W.cell? ⟨g,0,none⟩=some (.int .i64 r.o)/\W.cell? ⟨g,1,none⟩=some (.int .i64 r.s)/\W.cell? ⟨g,2,none⟩=some (.string ⟨r.p.toArray⟩)/\W.cell? ⟨g,3,none⟩=some (.string ⟨r.d.toArray⟩)/\W.cell? ⟨g,4,none⟩=some (.int .i64 r.v)/\W.cell? ⟨g,5,none⟩=some (.int .i64 r.f):=by
 unfold RqB at h;refine⟨?_,?_,?_,?_,?_,?_⟩<;>simp[World.cell?,h]
theorem RqB.AX(h:RqB W g r)(j:Nat):W.frozen? ⟨g,j,none⟩=false:=by
 unfold RqB at h;simp[World.frozen?,h]
theorem RqB.set(h:RqB W g r)(s:Int):RqB (W.setCell ⟨g,1,none⟩ (.int .i64 s)) g ⟨r.o,s,r.p,r.d,r.v,r.f⟩:=by
 unfold RqB at h⊢;rw[AV _ h];rfl
structure PP(w W:World)(d:Dd):Prop where
 b:Below w.heap.size w W
 a:TAt W (w.heap.size+1) t0
 d:EW W w.heap.size d
theorem PP.start(w:World)(d:Dd):PP w ((w.alloc (.cells #[.int .i64 d.k,.int .i64 d.c,.int .i64 d.s,.int .i64 d.q.o,.int .i64 d.q.s,.string ⟨d.q.p.toArray⟩,.string ⟨d.q.d.toArray⟩,.int .i64 d.q.v,.int .i64 d.q.f,.int .i64 d.lo,.int .i64 d.sl,.int .i64 d.ke,.bool d.wt] 60)).alloc (.cells #[.int .i64 0,.int .i64 0,.int .i64 0,.string ⟨#[]⟩,.string ⟨#[]⟩,.int .i64 0,.int .i64 0] 49)) d:=by
 exact⟨AL (AB _ _) (AB _ _),YE _ _ _,EW.QK (heap_alloc_new w _:EW (w.alloc _) w.heap.size d) (AB _ _) (by simp)⟩
theorem PP.next{d:Dd}(h:PP w W d)(hb:Below W.heap.size W V):PP w V d:=⟨AL h.b hb,h.a.next hb,h.d.QK hb h.d.ltz⟩
theorem A79{d:Dd}(h:EW W g d):(W.cell? ⟨g,0,none⟩=some (.int .i64 d.k)/\W.cell? ⟨g,1,none⟩=some (.int .i64 d.c)/\W.cell? ⟨g,2,none⟩=some (.int .i64 d.s)/\W.cell? ⟨g,3,none⟩=some (.int .i64 d.q.o)/\W.cell? ⟨g,4,none⟩=some (.int .i64 d.q.s)/\W.cell? ⟨g,5,none⟩=some (.string ⟨d.q.p.toArray⟩)/\W.cell? ⟨g,6,none⟩=some (.string ⟨d.q.d.toArray⟩))/\W.cell? ⟨g,7,none⟩=some (.int .i64 d.q.v)/\W.cell? ⟨g,8,none⟩=some (.int .i64 d.q.f)/\W.cell? ⟨g,9,none⟩=some (.int .i64 d.lo)/\W.cell? ⟨g,10,none⟩=some (.int .i64 d.sl)/\W.cell? ⟨g,11,none⟩=some (.int .i64 d.ke)/\W.cell? ⟨g,12,none⟩=some (.bool d.wt):=by
 have r:=h.row;simp only[Nat.zero_add]at r;exact⟨⟨r 0 _ rfl,r 1 _ rfl,r 2 _ rfl,r 3 _ rfl,r 4 _ rfl,r 5 _ rfl,r 6 _ rfl⟩,r 7 _ rfl,r 8 _ rfl,r 9 _ rfl,r 10 _ rfl,r 11 _ rfl,r 12 _ rfl⟩
theorem aH(p:Pw)(d:Dd)(k b:Nat)(W:World)(hx:WX W k p)(hT:VQ W)(hb:b<3)(hl:ldP p.r=b)(hu:(p.s b).up=true)(hok:IK 300 (p.s b))(hn:nxE (p.s b).e (DU (p.s b).m)=0)(hc:0<=d.c/\d.c<16)(hp:d.q.p.length<=140737488355328)(hd:d.q.d.length<=140737488355328):
  Calls prog 104 #[wP k,ddV d] W fun e w'=>e=.returned (.tuple #[DW (wX p d),.int .i64 (wE p d)])/\Below W.heap.size W w':=by
 have D0:=AA (PP.start W d);obtain⟨c,hc16,hdc⟩:∃c:Nat,c<16/\d.c=c:=⟨d.c.toNat,by omega,by omega⟩;obtain⟨ad,nd,cd,al,cl,an,cn,ai,ci,aw,cw,SS,hv,_⟩:=hx.srv hb rfl;obtain⟨ca,cc,k0,k1,k2,_⟩:=hx.cl hc16;have hsv:=D8 (i:=b) hu;have CL:=AA (fun V (hV:Below W.heap.size W V)=>MF p k V (hx.next hV));rw[hl]at CL;have HV:=AA (fun V (hV:Below W.heap.size W V)=>hv.next hV);have CN:=AA (fun V (hV:Below W.heap.size W V)=>BI4 ⟨(svP b (p.s b)).id,(svP b (p.s b)).ep,al,cl,(svP b (p.s b)).ts,(svP b (p.s b)).dn⟩ V (by
  obtain⟨_,_,_,_,_,e,_,r2,_,_,_⟩:=hv.next hV;simp only[Value.agg.injEq,Array.mk.injEq,List.cons.injEq,true_and,and_true]at e;rw[<-e.2.1]at r2;exact r2))
 have HT:=AA hT;have hgt:NI (svP b (p.s b)).tr:=by rw[hsv];exact hok.play.good hok.dn
 have CP:=AA (fun V (hV:Below W.heap.size W V) (z:Int)=>zH (svP b (p.s b)).tr z (.slice an (svP b (p.s b)).tr.ns.length cn) (.slice ai (svP b (p.s b)).tr.ss.length ci) (wQ p d) V (by
  obtain⟨_,_,_,_,_,e,_,_,r3,_,_⟩:=hv.next hV;simp only[Value.agg.injEq,Array.mk.injEq,List.cons.injEq,true_and,and_true]at e;rw[<-e.2.2.1]at r3;exact r3) (by
  obtain⟨_,_,_,_,_,e,_,_,_,r4,_⟩:=hv.next hV;simp only[Value.agg.injEq,Array.mk.injEq,List.cons.injEq,true_and,and_true]at e;rw[<-e.2.2.2.1]at r4;exact r4) hgt.pwf hp hd ((A8 HT).next hV))
 have HE:Hid (wX p d=AK6 (svP b (p.s b)).tr (nxN (svP b (p.s b)).ep (DU (svP b (p.s b)).ts)) (wQ p d)/\wE p d=aK (svP b (p.s b)).tr (nxN (svP b (p.s b)).ep (DU (svP b (p.s b)).ts)) (wQ p d)):=AA (by
  have hln:ldN p.r=b:=by rw[ldN,hl];simp
  rw[wX,wE,wTr,wZ,hln,hsv];exact⟨rfl,rfl⟩)
 have hne:nxE (svP b (p.s b)).ep (DU (svP b (p.s b)).ts)=0:=by rw[hsv];exact hn
 rw[hne]at CN;have hdn:(p.c d.c.toNat).s=(p.c c).s:=by rw[hdc];rfl
 have HQ:Hid (wQ p d=⟨d.q.o,(p.c c).s,d.q.p,d.q.d,d.q.v,d.q.f⟩):=AA (by rw[wQ,hdn]);have HX:=AA hx;obtain⟨dk,dc,ds,⟨o,s,pp,dd,v,f⟩,lo,sl,ke,wt⟩:=d;simp only at hdc HQ;subst hdc;rw[(A8 HE).1,(A8 HE).2];rw[A8 HQ]at CP⊢;clear HQ HE;generalize hs0:svP b (p.s b)=s0 at*;unfold wP ddV;have HS:=AA (fun V (hV:Below W.heap.size W V)=>SS.next hx.lt hV);simp only[Nat.mul_comm 10 b]at HS;have HC:=AA (And.intro k0 (And.intro k1 k2));have hk0:=hx.lt;have hb4:(b:Int)<3:=by omega
 have hc4:(c:Int)<16:=by omega
 unfold peV at CN;unfold rqV A78 DW at CP;clear SS hv k0 k1 k2 hsv hl hT hgt hn hne hc hp hd hx hs0 hok hu hdn;go_enter func104,ntmps104;go_upto_region 1 with fail;generalize ((W.alloc _).alloc _)=W1 at*;have hkW:k<W1.heap.size:=Nat.lt_of_lt_of_le hk0 (A8 D0).b.size;have HKS:Hid (∀V,Below W1.heap.size W1 V->V.cell? ⟨k,1+b*10,none⟩=some (.bool s0.up)/\V.cell? ⟨k,1+b*10+1,none⟩=some (.slice ad nd cd)/\V.cell? ⟨k,1+b*10+2,none⟩=some (.int .i64 s0.id)/\V.cell? ⟨k,1+b*10+3,none⟩=some (.int .i64 s0.ep)/\V.cell? ⟨k,1+b*10+4,none⟩=some (.slice al s0.ts.length cl)/\V.cell? ⟨k,1+b*10+5,none⟩=some (.int .i64 s0.dn)/\V.cell? ⟨k,1+b*10+6,none⟩=some (.int .i64 s0.tr.z)/\V.cell? ⟨k,1+b*10+7,none⟩=some (.slice an s0.tr.ns.length cn)/\V.cell? ⟨k,1+b*10+8,none⟩=some (.slice ai s0.tr.ss.length ci)/\V.cell? ⟨k,1+b*10+9,none⟩=some (.slice aw s0.ws.length cw)):=AA fun V hV=>by
  obtain⟨c0,c1,c2,c3,c4,c5,c6,c7,c8,c9⟩:=A8 HS V (AL (A8 D0).b hV);exact⟨c0,c1,c2,c3,c4,c5,c6,c7,c8,c9⟩
 replace CL:=AA (fun V (hV:Below W1.heap.size W1 V)=>A8 CL V (AL (A8 D0).b hV))
 go_cut [6]from 10 (fun t6 wx=>∃q,t6=.pointer (some ⟨q,0,none⟩)/\Hid (BxS W1 wx q s0 (.slice ad nd cd) (.slice al s0.ts.length cl) (.slice an s0.tr.ns.length cn) (.slice ai s0.tr.ss.length ci) (.slice aw s0.ws.length cw)))
 case first=>
  have hS0:=A8 HKS _ (Below.refl W1.heap.size W1).drew;refine wp_region_held (S:=fun V:World=>V.cell? ⟨k,1+b*10,none⟩=some (.bool s0.up)/\V.cell? ⟨k,1+b*10+1,none⟩=some (.slice ad nd cd)/\V.cell? ⟨k,1+b*10+2,none⟩=some (.int .i64 s0.id)/\V.cell? ⟨k,1+b*10+3,none⟩=some (.int .i64 s0.ep)/\V.cell? ⟨k,1+b*10+4,none⟩=some (.slice al s0.ts.length cl)/\V.cell? ⟨k,1+b*10+5,none⟩=some (.int .i64 s0.dn)/\V.cell? ⟨k,1+b*10+6,none⟩=some (.int .i64 s0.tr.z)/\V.cell? ⟨k,1+b*10+7,none⟩=some (.slice an s0.tr.ns.length cn)/\V.cell? ⟨k,1+b*10+8,none⟩=some (.slice ai s0.tr.ss.length ci)/\V.cell? ⟨k,1+b*10+9,none⟩=some (.slice aw s0.ws.length cw)) (by kernel_rfl) ?_;change wpAnyH _ _ _ _ _ _ _ _ W1.drew;refine tkH 0 hS0 ?_;refine tkH 1 hS0 ?_;refine tkH 3 hS0 ?_;refine tkH 4 hS0 ?_;refine rd2 2 7 (fun K hK=>?_) (fun K hK=>?_)
  .go_simp;refine(A8 CL _ (Below.refl _ _).drew).mono ?_;rintro e w1 ⟨rfl,hb1⟩;have aB1:Hid (Below W1.heap.size W1 w1):=AA (AL (Below.refl _ _).drew hb1);clear hb1;have hS1:=A8 HKS _ (A8 aB1);refine nxH hK hS1 ?_;clear hK K;refine tkH 5 hS1 ?_;refine tkH 6 hS1 ?_;refine rd1 7 (fun K hK=>?_);go_simp;have hS2:=A8 HKS _ (AL (A8 aB1) (AB w1 (.cells #[.bool false,.slice none 0 0,.int .i64 0,.int .i64 0,.slice none 0 0,.int .i64 0,.int .i64 0,.slice none 0 0,.slice none 0 0,.slice none 0 0] 43)));refine nxH hK hS2 ?_;clear hK K;refine rd1 8 (fun K hK=>?_);go_simp;have hX2:Hid (BxS W1 _ _ s0 (.slice ad nd cd) (.slice al s0.ts.length cl) (.slice an s0.tr.ns.length cn) (.slice ai s0.tr.ss.length ci) (.slice aw s0.ws.length cw)):=AA (C37 (A8 aB1));have hS3:=A8 HKS _ (A8 hX2).b;refine nxH hK hS3 ?_;clear hK K;refine wpAnyH_done (by kernel_rfl) ?_ _;go_wp2_with fail
   go_meet
   exact⟨_,rfl,hX2⟩
  .go_simp;have hS2:=A8 HKS _ (AL (Below.refl W1.heap.size W1).drew (AB W1.drew (.cells #[.bool false,.slice none 0 0,.int .i64 0,.int .i64 0,.slice none 0 0,.int .i64 0,.int .i64 0,.slice none 0 0,.slice none 0 0,.slice none 0 0] 43)));refine nxH hK hS2 ?_;clear hK K;refine rd1 2 (fun K hK=>?_);go_simp;refine(A8 CL _ (AL (Below.refl _ _).drew (AB _ _))).mono ?_;rintro e w1 ⟨rfl,hb1⟩;have aB1:Hid (Below W1.heap.size W1 w1):=AA (AL (AL (Below.refl _ _).drew (AB _ _)) hb1);have aZ1:Hid (BO w1 W1.heap.size false (.slice none 0 0) 0 0 (.slice none 0 0) 0 0 (.slice none 0 0) (.slice none 0 0) (.slice none 0 0)):=AA ((hb1.block _ (by simp)).trans (heap_alloc_new W1.drew _));clear hb1;have hS1:=A8 HKS _ (A8 aB1);refine nxH hK hS1 ?_;clear hK K;refine tkH 5 hS1 ?_;refine tkH 6 hS1 ?_;refine rd1 8 (fun K hK=>?_);have z0:=(A8 aZ1).AX 0;have z1:=(A8 aZ1).AX 1;have z2:=(A8 aZ1).AX 2;have z3:=(A8 aZ1).AX 3;have z4:=(A8 aZ1).AX 4;have z5:=(A8 aZ1).AX 5;have z6:=(A8 aZ1).AX 6;have z7:=(A8 aZ1).AX 7;have z8:=(A8 aZ1).AX 8;have z9:=(A8 aZ1).AX 9;obtain⟨x0,x1,x2,x3,x4,x5,x6,x7,x8,x9⟩:=(A8 aZ1).cells;go_simp;have hX2:Hid (BxS W1 _ _ s0 (.slice ad nd cd) (.slice al s0.ts.length cl) (.slice an s0.tr.ns.length cn) (.slice ai s0.tr.ss.length ci) (.slice aw s0.ws.length cw)):=AA (C38 (A8 aB1) (Nat.le_refl _) (A8 aZ1));have hS3:=A8 HKS _ (A8 hX2).b;refine nxH hK hS3 ?_;clear hK K;refine wpAnyH_done (by kernel_rfl) ?_ _;go_wp2_with fail
   go_meet
   exact⟨_,rfl,hX2⟩
 case rest=>
  obtain⟨q,rfl,HQ⟩:=hcut;have D1:=AA ((A8 D0).next (A8 HQ).b);have B1:=AA (A8 D1).b;obtain⟨q0,q1,q2,q3,q4,q5,q6,q7,q8,q9⟩:=(A8 HQ).box.cells;clear HKS CL D0;go_wp2_with fail;refine(A8 CN _ (A8 B1)).mono ?_;rintro e w2 ⟨rfl,hb2⟩;have D2:=AA ((A8 D1).next hb2);have Q2:=AA ((A8 HQ).box.next hb2);have hq2:=hb2.size;have hql:=(A8 HQ).le;have hqt:=(A8 HQ).box.lt;have hWg:=(Array.getElem?_eq_some_iff.1 (A8 D2).a).1;clear q0 q1 q2 q3 q4 q5 q6 q7 q8 q9 CN D1 B1 HQ hb2;obtain⟨⟨e0,e1,e2,e3,e4,e5,e6⟩,e7,e8,e9,e10,e11,e12⟩:=A79 (A8 D2).d;go_upto_region 6 with fail;have D3:=AA ((A8 D2).next (AB w2 (.cells #[.int .i64 o,.int .i64 s,.string ⟨pp.toArray⟩,.string ⟨dd.toArray⟩,.int .i64 v,.int .i64 f] 58)));have Q3:=AA ((A8 Q2).next (AB w2 (.cells #[.int .i64 o,.int .i64 s,.string ⟨pp.toArray⟩,.string ⟨dd.toArray⟩,.int .i64 v,.int .i64 f] 58)));have G3:=AA (RqB.new w2 ⟨o,s,pp,dd,v,f⟩);simp only at G3;generalize w2.alloc _=W3 at*;have hg3:w2.heap.size<W3.heap.size:=(A8 G3).lt;generalize hg:w2.heap.size=g at*;clear D2 Q2 e0 e1 e2 e3 e4 e5 e6 e7 e8 e9 e10 e11 e12 hg;obtain⟨⟨_,e1,_,_,_,_,_⟩,_,_,_,_,_,_⟩:=A79 (A8 D3).d;obtain⟨g0,g1,g2,g3,g4,g5⟩:=(A8 G3).cells;have gf:=(A8 G3).AX 1;have hdl:=(A8 D3).d.ltz;have hkW3:k<W3.heap.size:=Nat.lt_of_lt_of_le hk0 (A8 D3).b.size;have y0:W3.cell? ⟨k,34+c*3,none⟩=some (.int .i64 (p.c c).s):=by
   rw[World.cell?,(A8 D3).b.block k hk0,Nat.mul_comm c 3];exact(A8 HC).1
  have hgk:g≠k:=by omega
  have hgW:g≠W.heap.size:=by omega
  simp only at e1 g0 g1 g2 g3 g4 g5;go_region;have B4:=AA (((A8 D3).b.setCell (p:=⟨g,1,none⟩) (by simp only;omega) (.int .i64 (p.c c).s)).drew);have A4:=AA (TAt.next (W:=W3.setCell ⟨g,1,none⟩ (.int .i64 (p.c c).s)) ((Below.heap_setCell W3 ⟨g,1,none⟩ (.int .i64 (p.c c).s) _ (by simp only;omega)).trans (A8 D3).a) (Below.refl _ _).drew);have Q4:=AA (((A8 Q3).other (i:=g) (j:=1) (u:=.int .i64 (p.c c).s) (by omega)).next (Below.refl _ _).drew);have G4:=AA (((A8 G3).set (p.c c).s).next (Below.refl _ _).drew);generalize World.drew _=W4 at*;clear D3 Q3 G3 e1 g0 g1 g2 g3 g4 g5 gf y0 hgk hgW hkW3;obtain⟨q0,q1,q2,q3,q4,q5,q6,q7,q8,q9⟩:=(A8 Q4).cells;obtain⟨g0,g1,g2,g3,g4,g5⟩:=(A8 G4).cells;simp only at g0 g1 g2 g3 g4 g5;go_wp2_with fail;refine(A8 CP _ (A8 B4) _).mono ?_;rintro e w5 ⟨rfl,hb5⟩;have A5:=(A8 A4).next hb5;obtain⟨a0,a1,a2,a3,a4,a5,a6⟩:w5.cell? ⟨W.heap.size+1,0,none⟩=some (.int .i64 0)/\w5.cell? ⟨W.heap.size+1,1,none⟩=some (.int .i64 0)/\w5.cell? ⟨W.heap.size+1,2,none⟩=some (.int .i64 0)/\w5.cell? ⟨W.heap.size+1,3,none⟩=some (.string ⟨#[]⟩)/\w5.cell? ⟨W.heap.size+1,4,none⟩=some (.string ⟨#[]⟩)/\w5.cell? ⟨W.heap.size+1,5,none⟩=some (.int .i64 0)/\w5.cell? ⟨W.heap.size+1,6,none⟩=some (.int .i64 0):=⟨A5.c0,A5.c1,A5.c2,A5.c3,A5.c4,A5.c5,A5.c6⟩;have f0:=A5.f 0;have f1:=A5.f 1;have f2:=A5.f 2;have f3:=A5.f 3;have f4:=A5.f 4;have f5:=A5.f 5;have f6:=A5.f 6;generalize hXX:AK6 _ _ _=X at*;generalize hEE:aK _ _ _=E at*;have HXX:=AA hXX;have HEE:=AA hEE;clear hXX hEE;have B5:=AA (KN X (AL (A8 B4) hb5) (show W.heap.size<=W.heap.size+1 by omega));clear A5 hb5 B4 A4 Q4 G4 CP;unfold put7 at B5;go_wp2_with fail;exact bodyPost_ret (v:=.tuple #[.agg #[.int .i64 X.z,.int .i64 X.o,.int .i64 X.s,.string ⟨X.p.toArray⟩,.string ⟨X.d.toArray⟩,.int .i64 X.v,.int .i64 X.w],.int .i64 E]) (by simp[results,results104,go_sem,a0,a1,a2,a3,a4,a5,a6]) rfl ⟨by rw[A8 HXX,A8 HEE];rfl,A8 B5⟩
structure Off(f:Nat->Value)(p:Pw)(g:Nat):Prop where
 d:∀i,i<3->(svP i (p.s i)).fs≠[]->QT (f (1+10*i+1)) g
 l:∀i,i<3->(svP i (p.s i)).ts≠[]->QT (f (1+10*i+4)) g
 n:∀i,i<3->(svP i (p.s i)).tr.ns≠[]->QT (f (1+10*i+7)) g
 i:∀i,i<3->(svP i (p.s i)).tr.ss≠[]->QT (f (1+10*i+8)) g
 w:∀i,i<3->(svP i (p.s i)).ws≠[]->QT (f (1+10*i+9)) g
 c:∀i,i<16->(p.c i).es≠[]->QT (f (34+3*i+2)) g
 a:p.D≠[]->QT (f 82) g
def WXO(W:World)(k:Nat)(p:Pw)(v:Value):Prop:=∃f,WB W k f/\WdR W k f p/\∀g,v.ownBlock=some g->Off f p g
theorem WXO.x(h:WXO W k p v):WX W k p:=by
 obtain⟨f,h1,h2,_⟩:=h;exact⟨f,h1,h2⟩
theorem zI{f:Nat->Value}(h:WdR W k f p)(hg:W.heap.size<=g):Off f p g:=
 ⟨fun i hi h0=>(Row.new (h.s i hi).d.1 hg).2 h0,fun i hi h0=>(Row.new (h.s i hi).l.1 hg).2 h0,fun i hi h0=>(Row.new (h.s i hi).n.1 hg).2 h0,fun i hi h0=>(Row.new (h.s i hi).i.1 hg).2 h0,fun i hi h0=>(Row.new (h.s i hi).w.1 hg).2 h0,fun i hi h0=>(Row.new (h.c i hi).e.1 hg).2 h0,fun h0=>(Row.new h.d.1 hg).2 h0⟩
theorem WX.off(h:WX W k p):WXO W k p (N0):=by
 obtain⟨f,h1,h2⟩:=h;exact⟨f,h1,h2,fun g hg=>by simp[Value.ownBlock]at hg⟩
theorem WXO.far(h:WXO W k p v)(hv:v.ownBlock=some g)(hk:k≠g)(ht:Touch (· =g) W V):WXO V k p v:=by
 obtain⟨f,hb,hr,ho⟩:=h;have o:=ho g hv;refine⟨f,hb.touch ht hk,⟨hr.n,fun i hi=>?_,hr.r,fun i hi=>⟨(hr.c i hi).s,(hr.c i hi).z,(hr.c i hi).e.far ht (o.c i hi)⟩,hr.d.far ht o.a,hr.h,hr.hk⟩,ho⟩;have s:=hr.s i hi;exact⟨s.up,s.d.far ht (o.d i hi),s.id,s.ep,s.l.far ht (o.l i hi),s.dn,s.z,s.n.far ht (o.n i hi),s.i.far ht (o.i i hi),s.w.far ht (o.w i hi)⟩
theorem WXO.next(h:WXO W k p v)(hb:B0 W V):WXO V k p v:=by
 obtain⟨f,h1,h2,h3⟩:=h;exact⟨f,h1.next hb,h2.next hb,h3⟩
theorem WXO.grown{v':Value}(h:WXO W k p v)(hk:∀g,v.ownBlock=some g->k≠g)(hg:W.grownBy V v.ownBlock)(hn:∀g,v'.ownBlock=some g->v.ownBlock=some g\/W.heap.size<=g):WXO V k p v':=by
 have h1:WXO V k p v/\∀f,WB W k f->WdR W k f p->∀g,W.heap.size<=g->Off f p g:=⟨by
  cases e:v.ownBlock with
  |none=>exact h.next (by rw[e]at hg;exact⟨hg.os,hg.tape,hg.output,hg.size,fun b hb=>hg.block b hb (by simp)⟩)
  |some g=>exact h.far e (hk g e) ⟨hg.os,hg.tape,hg.output,hg.size,fun b hb hne=>hg.block b hb (by rw[e];intro e';exact hne (Option.some.inj e'))⟩,fun f _ hr g hg=>zI hr hg⟩
 obtain⟨f,hb,hr,ho⟩:=h;obtain⟨f1,hb1,hr1,ho1⟩:=h1.1;have ef:∀j,j<83->f1 j=f j:=fun j hj=>by
  have c1:=hb1.cell hj;have c2:=hb.cell hj;have:V.cell? ⟨k,j,none⟩=W.cell? ⟨k,j,none⟩:=by
   rw[World.cell?,World.cell?,hg.block k hb.lt (fun e=>hk k e.symm rfl)]
  rw[this,c2]at c1;exact(Option.some.inj c1).symm
 refine⟨f1,hb1,hr1,fun g hg'=>?_⟩;rcases hn g hg' with e|e
 .exact ho1 g e
 .have o:=zI hr e;exact⟨fun i hi h0=>by rw[ef _ (by omega)];exact o.d i hi h0,fun i hi h0=>by rw[ef _ (by omega)];exact o.l i hi h0,fun i hi h0=>by rw[ef _ (by omega)];exact o.n i hi h0,fun i hi h0=>by rw[ef _ (by omega)];exact o.i i hi h0,fun i hi h0=>by rw[ef _ (by omega)];exact o.w i hi h0,fun i hi h0=>by rw[ef _ (by omega)];exact o.c i hi h0,fun h0=>by rw[ef _ (by omega)];exact o.a h0⟩
structure Fr5(B:Nat)(vd vl vn vs vw:Value):Prop where
 d:∀g,g<B->QT vd g
 l:∀g,g<B->QT vl g
 n:∀g,g<B->QT vn g
 i:∀g,g<B->QT vs g
 w:∀g,g<B->QT vw g
theorem WXO.kM(h:WXO W k p v)(hi:i<3){s:Sv}(hq:svP i q=s)(hv:SvV W (.agg #[.bool s.up,vd,I0 s.id,I0 s.ep,vl,I0 s.dn,I0 s.tr.z,vn,vs,vw]) s)(hf:Fr5 B vd vl vn vs vw)(hk:k<B)(hg:∀g,v.ownBlock=some g->g<B):
  WXO (uZ W k (1+10*i) (.bool s.up) vd (I0 s.id) (I0 s.ep) vl (I0 s.dn) (I0 s.tr.z) vn vs vw) k ⟨p.n,GX p.s i q,p.r,p.c,p.D,p.H,p.h⟩ v:=by
 obtain⟨f,hb,hr,ho⟩:=h;have hA:SvA W k (C78 (.bool s.up) vd (I0 s.id) (I0 s.ep) vl (I0 s.dn) (I0 s.tr.z) vn vs vw) s:=SvA.of (hr.aP hb) hv (fun _=>hf.i k hk) rfl rfl rfl rfl rfl rfl rfl rfl rfl rfl;refine⟨_,hb.uZ (o:=1+10*i) (by omega) _ _ _ _ _ _ _ _ _ _,WdR.touch (W:=W) ?_ (U8 _ _ _ _ _ _ _ _ _ _ _ _ _),fun g e=>?_⟩
 .refine⟨by rw[EI (by omega)];exact hr.n,fun j hj=>?_,fun j hj=>by rw[EI (by omega)];exact hr.r j hj,fun j hj=>(hr.c j hj).congr fun q hq=>by rw[EI (by omega)],by rw[EI (by omega)];exact hr.d,fun j hj h0=>?_,hr.hk⟩
  .by_cases e:j=i
   .subst e;simp only[BP,hq];exact hA.congr fun q hq=>by rw[JQ hq]
   .simp only[AP _ _ e];exact(hr.s j hj).congr fun q hq=>by rw[EI (by omega)]
  .by_cases e:j=i
   .subst e;rw[JQ (by omega)];exact fun b hb=>hf.i b (Nat.lt_of_le_of_lt (Nat.le_trans hb hr.hk) hk)
   .simp only[AP _ _ e]at h0;rw[EI (by omega)];exact hr.h j hj h0
 .have o:=ho g e;have hgB:=hg g e;refine⟨fun j hj h0=>?_,fun j hj h0=>?_,fun j hj h0=>?_,fun j hj h0=>?_,fun j hj h0=>?_,fun j hj h0=>by rw[EI (by omega)];exact o.c j hj h0,fun h0=>by rw[EI (by omega)];exact o.a h0⟩
  all_goals
   by_cases e:j=i
   .subst e;rw[JQ (by omega)]
    first|exact hf.d g hgB|exact hf.l g hgB|exact hf.n g hgB|exact hf.i g hgB|exact hf.w g hgB
   .rw[EI (by omega)];simp only[AP _ _ e]at h0
    first|exact o.d j hj h0|exact o.l j hj h0|exact o.n j hj h0|exact o.i j hj h0|exact o.w j hj h0
def C39(w:World)(s:Sv)(T:List Nt)(e:Ending)(w':World):Prop:=
 ∃ad nd cd al cl an cn ai ci aw cw aN cN,e=.returned (.tuple #[.agg #[.bool s.up,.slice ad nd cd,I0 s.id,I0 s.ep,.slice al s.ts.length cl,I0 s.dn,I0 s.tr.z,.slice an s.tr.ns.length cn,.slice ai s.tr.ss.length ci,.slice aw s.ws.length cw],.slice aN T.length cN,I0 0])/\
  Hid (SvV w' (.agg #[.bool s.up,.slice ad nd cd,I0 s.id,I0 s.ep,.slice al s.ts.length cl,I0 s.dn,I0 s.tr.z,.slice an s.tr.ns.length cn,.slice ai s.tr.ss.length ci,.slice aw s.ws.length cw]) s/\Fr5 w.heap.size (.slice ad nd cd) (.slice al s.ts.length cl) (.slice an s.tr.ns.length cn) (.slice ai s.tr.ss.length ci) (.slice aw s.ws.length cw)/\BQ w' (.slice aN T.length cN) T/\∀g,g<w.heap.size->QT (.slice aN T.length cN) g)/\B0 w w'
theorem BL0{w':World}{s:Sv}{T:List Nt}{e:Ending}(h:fQ w s T 0 e w')(hf:FrS w e):C39 w s T e w':=by
 obtain⟨v,aN,cN,rfl,hs,hn,hb⟩:=h;obtain⟨ad,nd,cd,al,cl,an,cn,ai,ci,aw,cw,rfl,_⟩:=hs.five;obtain⟨f8,f1,f4,f7,f9,fy⟩:=hf _ _ _ _ _ _ _ _ _ _ _ _ rfl;exact⟨ad,nd,cd,al,cl,an,cn,ai,ci,aw,cw,aN,cN,rfl,AA ⟨hs,⟨fun g hg=>GK f1 hg,fun g hg=>GK f4 hg,fun g hg=>GK f7 hg,fun g hg=>GK f8 hg,fun g hg=>GK f9 hg⟩,hn,fun g hg=>GK fy hg⟩,hb⟩
theorem tY:∀ (l:List Nat) (s:Nat->Ps) (i:Nat),GH s (l++[i])=(GX (GH s l).1 i (ZH i ((GH s l).1 i)),(GH s l).2++(WU i ((GH s l).1 i)).2)
 |[],s,i=>by simp[GH]
 |j::l,s,i=>by
  show ((GH (GX s j (ZH j (s j))) (l++[i])).1,(WU j (s j)).2++(GH (GX s j (ZH j (s j))) (l++[i])).2)=_;rw[tY l _ i];simp[GH]
theorem nZ:∀ (l:List Nat) (s:Nat->Ps),l.Nodup->(∀i∈l,(s i).up=true)->(∀i∈l,((s i).ws.length:Int)<=300)->(GH s l).2.length<=l.length*300
 |[],s,_,_,_=>by simp[GH]
 |j::l,s,hn,hu,hw=>by
  obtain⟨h1,h2⟩:=List.nodup_cons.1 hn;have hj:=(yU (i:=j) (hu j (by simp))).2.1;have hwj:=hw j (by simp);have same:∀i∈l,GX s j (ZH j (s j)) i=s i:=fun i hi=>AP _ _ (by rintro rfl;exact h1 hi);have ih:=nZ l (GX s j (ZH j (s j))) h2 (fun i hi=>by rw[same i hi];exact hu i (by simp[hi])) (fun i hi=>by rw[same i hi];exact hw i (by simp[hi]));show ((WU j (s j)).2++_).length<=_;rw[List.length_append,List.length_cons];omega
theorem AI1(W:World)(ty:TypeId)(B:Nat)(v u:Value)(N T:List Nt)(hv:BD W B v N)(hu:BQ W u T)(hl:(N.length+T.length)*32<=140737488355328)(hB:B<=W.heap.size):
  ∃v' w',(Builtin.append_ #[63,63] ty #[v,u]).run prog W=.ok v' w'/\BD w' B v' (N++T)/\W.grownBy w' v.ownBlock/\∀g,v'.ownBlock=some g->v.ownBlock=some g\/W.heap.size<=g:=by
 obtain⟨i0,hi0,hz0,hz1,hz2⟩:=AQ5;have main:∀ (a:Addr) (c:Nat),(∀j x,(AO T)[j]?=some x->W.cell? (a.add j)=some x)->∃v' w',(Builtin.append_ #[63,63] ty #[v,.slice (some a) T.length c]).run prog W=.ok v' w'/\BD w' B v' (N++T)/\W.grownBy w' v.ownBlock/\∀g,v'.ownBlock=some g->v.ownBlock=some g\/W.heap.size<=g:=fun a c hc=>by
  obtain⟨v',w',h1,h2,h3,_,h5⟩:=run_append_own_at (P:=prog) W B 63 ty 69 i0 _ 3 32 underlying63 hi0 hz0 hz1 hz2 rfl (by decide) v N.length (AO N) hv.row a T.length c (AO T) (BA T) hc (EZ T) (by simp only[maxLen];omega) hl hB;refine⟨v',w',h1,BD.G8 (by rw[List.length_append,BH];exact h2),h3,fun g hg=>?_⟩;rcases h5 with e|e
  .rw[e]at hg;exact .inl hg
  .rw[e]at hg;simp only[Option.some.injEq]at hg;exact .inr (by omega)
 rcases hu with⟨a,cap,rfl,rfl,_⟩|⟨b,off,cap,rfl,_,_,_,_,hr⟩
 .cases a with
  |some a=>exact main a cap (fun j x hj=>by simp[AO]at hj)
  |none=>
   refine⟨v,W,?_,by rw[List.append_nil];exact hv,⟨rfl,rfl,rfl,Nat.le_refl _,fun _ _ _=>rfl⟩,fun g hg=>.inl hg⟩;have hown:=hv.row;rcases hown.2 with⟨rfl,_⟩|⟨g,cap',cur,rfl,_,_,hnc,_⟩
   .simp[Builtin.append_,run_underlying underlying63,sizeOf,typeInfo,hi0,Builtin.lenOf,Builtin.firstCells]
   .simp[Builtin.append_,run_underlying underlying63,sizeOf,typeInfo,hi0,Builtin.lenOf,Builtin.firstCells,hnc,storeCells]
 .exact main ⟨b,off,none⟩ cap (fun j x hj=>by rw[Addr.add_lit];exact hr j x hj)
theorem o7{w:World}{ops:Array Oper}{rest:List Oper}{o:Oper}{a:Act}{Q:Exit->Act->World->Prop}(hgd:o.guard=none)(s x:Operand)
  (ho:o.op=.call {callee:=.builtin .append,args:=#[s,x],argTypes:=#[63,63]})
  (B:Nat) (v u:Value) (N T:List Nt) (hs:a.eval s=v) (hx:a.eval x=u) (hv:BD w B v N) (hu:BQ w u T) (hl:(N.length+T.length)*32<=140737488355328) (hB:B<=w.heap.size)
  (h:∀a' c' w',BD w' B (.slice a' (N++T).length c') (N++T)->w.grownBy w' v.ownBlock->(∀g,(Value.slice a' (N++T).length c').ownBlock=some g->v.ownBlock=some g\/w.heap.size<=g)->wpList prog ops Q rest (a.put o.dst (.slice a' (N++T).length c')) w'):wpList prog ops Q (o::rest) a w:=by
 refine wpList_plain hgd fun K hK=>?_;obtain⟨v',w',hr,h2,h3,h4⟩:=AI1 w o.type B v u N T hv hu hl hB;obtain⟨a',c',rfl⟩:=BN h2;unfold Oper.wp execOp;simp only[ho,resolve,invoke,builtin,Sem.run_bind,Sem.run_pure,Result.andThen_ok,List.map_toArray,List.map_cons,List.map_nil,hs,hx,hr];exact hK _ _ (h a' c' w' h2 h3 h4)
noncomputable def spS(p:Pw)(d:Dd)(j:Nat):Nat->Ps:=fun k=>if k<j then wSv p d k else p.s k
def spR(p:Pw)(d:Dd)(j:Nat):Nat->Int:=fun k=>if k<j then wRo p d k else p.r k
def spL(p:Pw)(d:Dd)(j:Nat):List Int:=(([0,1,2].take j).filter fun i=>wS p d i).map fun i:Nat=>(i:Int)
section
variable {p:Pw} {d:Dd} {j:Nat}
theorem B22:spS p d 0=p.s/\spR p d 0=p.r:=by constructor<;>funext k<;>simp[spS,spR]
theorem BR7(h:wT p d j=false):spS p d (j+1)=spS p d j:=by
 funext k
 unfold spS;by_cases e:k=j
 .subst e;rw[if_pos (by omega),if_neg (by omega),wSv,if_neg (by simp[h])]
 .simp only[show (k<j+1)↔(k<j) by omega]
theorem C40(h:wT p d j=true):spS p d (j+1)=GX (spS p d j) j (OZ (wX p d) (wS p d j) (p.s j)):=by
 funext k
 unfold spS GX;by_cases e:k=j
 .subst e;rw[if_pos (by omega),if_pos rfl,wSv,if_pos h]
 .rw[if_neg e];simp only[show (k<j+1)↔(k<j) by omega]
theorem CG8:spS p d j j=p.s j:=by rw[spS,if_neg (by omega)]
theorem CG9:spR p d j j=p.r j:=by rw[spR,if_neg (by omega)]
theorem CH0(h:wT p d j=false):spR p d (j+1)=GX (spR p d j) j 0:=by
 funext k
 unfold spR GX;by_cases e:k=j
 .subst e;rw[if_pos (by omega),if_pos rfl,wRo,if_neg (by simp[h])]
 .rw[if_neg e];simp only[show (k<j+1)↔(k<j) by omega]
theorem A80(h:wRo p d j=p.r j):spR p d (j+1)=spR p d j:=by
 funext k
 unfold spR;by_cases e:k=j
 .subst e;rw[if_pos (by omega),if_neg (by omega),h]
 .simp only[show (k<j+1)↔(k<j) by omega]
theorem C41(hj:j<3)(h:wS p d j=true):spL p d (j+1)=spL p d j++[(j:Int)]:=by
 rcases(show j=0\/j=1\/j=2 by omega)with rfl|rfl|rfl<;>simp[spL,List.filter_cons,h]<;>(repeat' split)<;>simp
theorem B23(hj:j<3)(h:wS p d j=false):spL p d (j+1)=spL p d j:=by
 rcases(show j=0\/j=1\/j=2 by omega)with rfl|rfl|rfl<;>simp[spL,List.filter_cons,h]
theorem C42:(spL p d j).length<=3:=by
 rw[spL,List.length_map];exact Nat.le_trans (List.length_filter_le _ _) (by simp;omega)
theorem BR8(i:Nat)(hi:i<3):spS p d 3 i=wSv p d i/\spR p d 3 i=wRo p d i:=by rw[spS,spR,if_pos hi,if_pos hi];exact⟨rfl,rfl⟩
theorem C43:spL p d 3=(wL p d).map fun i:Nat=>(i:Int):=rfl
theorem C44(h:p.r j=0):wT p d j=false/\wS p d j=false:=by simp[wS,wT,h]
theorem C45(h:p.r j=1)(hb:A59 d.lo j=true):wT p d j=false/\wS p d j=false:=by simp[wS,wT,h,hb]
theorem YJ(h:p.r j=1)(hb:A59 d.lo j=false):wT p d j=true/\wS p d j= !A59 d.sl j:=by simp[wS,wT,h,hb]
theorem B24(h:p.r j=2):wT p d j=true/\wS p d j=true:=by simp[wS,wT,h]
theorem CH1(h:wT p d j=false):wRo p d j=0:=by rw[wRo,if_neg (by simp[h])]
theorem C46(h:wT p d j=true):wRo p d j=p.r j:=by rw[wRo,if_pos h]
end
theorem WX.CH2(h:WX W k p){r:Nat->Int}(hs:∀i,i<3->p.s i=s i)(hr:∀i,i<3->p.r i=r i):WX W k ⟨p.n,s,r,p.c,p.D,p.H,p.h⟩:=by
 obtain⟨f,hb,h⟩:=h;exact⟨f,hb,h.n,fun i hi=>by show SvA W k _ (svP i (s i));rw[<-hs i hi];exact h.s i hi,fun i hi=>by show f (31+i)=I0 (r i);rw[<-hr i hi];exact h.r i hi,h.c,h.d,fun i hi h0=>h.h i hi (by rw[hs i hi];exact h0),h.hk⟩
theorem WX.hist(h:WX W k p)(H:List AQ):WX W k ⟨p.n,p.s,p.r,p.c,p.D,H,p.h⟩:=by
 obtain⟨f,hb,h⟩:=h;exact⟨f,hb,h.n,h.s,h.r,h.c,h.d,h.h,h.hk⟩
theorem WXO.RS(h:WXO W k p v)(hi:i<3)(x:Int):WXO (W.setCell ⟨k,31+i,none⟩ (I0 x)) k ⟨p.n,p.s,GX p.r i x,p.c,p.D,p.H,p.h⟩ v:=by
 obtain⟨f,hb,hr,ho⟩:=h;refine⟨_,hb.set (j:=31+i) (by omega) _,WdR.touch (W:=W) ?_ (ER _ _ _ _),fun g e=>?_⟩
 .refine⟨by rw[AP _ _ (by omega)];exact hr.n,fun j hj=>(hr.s j hj).congr fun q hq=>by rw[AP _ _ (by omega)],fun j hj=>?_,fun j hj=>(hr.c j hj).congr fun q hq=>by rw[AP _ _ (by omega)],by rw[AP _ _ (by omega)];exact hr.d,fun j hj h0=>by rw[AP _ _ (by omega)];exact hr.h j hj h0,hr.hk⟩;by_cases e:j=i
  .subst e;rw[BP];simp only[BP]
  .rw[AP _ _ (by omega)];simp only[AP _ _ e];exact hr.r j hj
 .have o:=ho g e;exact⟨fun j hj h0=>by rw[AP _ _ (by omega)];exact o.d j hj h0,fun j hj h0=>by rw[AP _ _ (by omega)];exact o.l j hj h0,fun j hj h0=>by rw[AP _ _ (by omega)];exact o.n j hj h0,fun j hj h0=>by rw[AP _ _ (by omega)];exact o.i j hj h0,fun j hj h0=>by rw[AP _ _ (by omega)];exact o.w j hj h0,fun j hj h0=>by rw[AP _ _ (by omega)];exact o.c j hj h0,fun h0=>by rw[AP _ _ (by omega)];exact o.a h0⟩
def B25(w:World)(s:Sv)(E:Int)(e:Ending)(w':World):Prop:=
 ∃ad nd cd al cl an cn ai ci aw cw,e=.returned (.tuple #[.agg #[.bool s.up,.slice ad nd cd,I0 s.id,I0 s.ep,.slice al s.ts.length cl,I0 s.dn,I0 s.tr.z,.slice an s.tr.ns.length cn,.slice ai s.tr.ss.length ci,.slice aw s.ws.length cw],I0 E])/\
  Hid (SvV w' (.agg #[.bool s.up,.slice ad nd cd,I0 s.id,I0 s.ep,.slice al s.ts.length cl,I0 s.dn,I0 s.tr.z,.slice an s.tr.ns.length cn,.slice ai s.tr.ss.length ci,.slice aw s.ws.length cw]) s/\Fr5 w.heap.size (.slice ad nd cd) (.slice al s.ts.length cl) (.slice an s.tr.ns.length cn) (.slice ai s.tr.ss.length ci) (.slice aw s.ws.length cw))/\B0 w w'
theorem BL1{w':World}{s:Sv}{E:Int}{e:Ending}(h:ZE w s E e w')(hf:FrT w e):B25 w s E e w':=by
 obtain⟨ad,nd,cd,al,nl,cl,an,nn,cn,ai,ni,ci,aw,nw,cw,rfl,hs,hb⟩:=h;obtain⟨hv,h8⟩:=A8 hs;obtain⟨f1,f4,f7,f9⟩:=hf _ _ _ _ _ _ _ _ _ _ _ rfl;obtain⟨ad',nd',cd',al',cl',an',cn',ai',ci',aw',cw',e5,_⟩:=hv.five;simp only[Value.agg.injEq,Array.mk.injEq,List.cons.injEq,Value.slice.injEq,true_and,and_true]at e5;obtain⟨⟨rfl,rfl,rfl⟩,⟨rfl,rfl,rfl⟩,⟨rfl,rfl,rfl⟩,⟨rfl,rfl,rfl⟩,rfl,rfl,rfl⟩:=e5;exact⟨_,_,_,_,_,_,_,_,_,_,_,rfl,AA ⟨hv,⟨fun g hg=>GK f1 hg,fun g hg=>GK f4 hg,fun g hg=>GK f7 hg,fun g hg=>GK h8 hg,fun g hg=>GK f9 hg⟩⟩,hb⟩
theorem tZ{α:Type}[Lay α]{w:World}{ops:Array Oper}{rest:List Oper}{o:Oper}{a:Act}{Q:Exit->Act->World->Prop}(hgd:o.guard=none)(s x:Operand)(T:TypeId)
  (ho:o.op=.call {callee:=.builtin .append,args:=#[s,x],argTypes:=#[T,T]})
  (i0:TypeInfo) (z:Value) (bytes:Nat) (hU:prog.underlying T=some (.slice (Lay.ty α))) (hi0:prog.info? (Lay.ty α)=some i0) (hz0:i0.zero=some z) (hz1:i0.size=Lay.k α) (hz2:i0.bytes=bytes) (hzs:z.cells.size=Lay.k α) (hk0:0<Lay.k α)
  (v:Value) (ns:List α) (hs:a.eval s=v) (B:Nat) (hown:BD w B v ns) (q:Nat) (hx:a.eval x=.slice (some ⟨q,0,none⟩) 1 1) (t:α) (hnews:EW w q t) (hl:(ns.length+1)*bytes<=140737488355328) (hm:ns.length+1<=maxLen) (hB:B<=w.heap.size)
  (h:∀a' c' w',BD w' B (.slice a' (ns.length+1) c') (ns++[t])->w.grownBy w' v.ownBlock->(∀g,(Value.slice a' (ns.length+1) c').ownBlock=some g->v.ownBlock=some g\/w.heap.size<=g)->wpList prog ops Q rest (a.put o.dst (.slice a' (ns.length+1) c')) w'):
  wpList prog ops Q (o::rest) a w:=by
 refine wpList_plain hgd fun K hK=>?_;obtain⟨v',w',hr,h2,h3,_,h5⟩:=run_append_own_at (P:=prog) w B T o.type (Lay.ty α) i0 z (Lay.k α) bytes hU hi0 hz0 hz1 hz2 hzs hk0 v ns.length (AO ns) hown.row ⟨q,0,none⟩ 1 1 (Lay.cs t) (by rw[Lay.len,Nat.one_mul]) (O7 hnews) (Lay.one t) hm hl hB;have h2':BD w' B v' (ns++[t]):=BD.G8 (by rw[List.length_append,EK];exact h2);have h6:∀g,v'.ownBlock=some g->v.ownBlock=some g\/w.heap.size<=g:=fun g hg=>by
  rcases h5 with e|e
  .rw[e]at hg;exact .inl hg
  .rw[e]at hg;simp only[Option.some.injEq]at hg;exact .inr (by omega)
 obtain⟨a',c',rfl,_⟩:=h2'.slice;rw[List.length_append,List.length_singleton]at h2' hr h6;unfold Oper.wp execOp;simp only[ho,resolve,invoke,builtin,Sem.run_bind,Sem.run_pure,Result.andThen_ok,List.map_toArray,List.map_cons,List.map_nil,hs,hx,hr];exact hK _ _ (h a' c' w' h2' h3 h6)
theorem C47(r:Nat->Int)(m:Nat)(hm:m<3)(u:World):(Instr.index 85 (.agg #[I0 (r 0),I0 (r 1),I0 (r 2)]) (I0 m)).run prog u=.ok (I0 (r m)) u:=by
 rcases(show m=0\/m=1\/m=2 by omega)with rfl|rfl|rfl<;>kernel_rfl
theorem kU(d:Dd)(W:World):Calls prog 51 #[ddV d] W (R0 W (I0 (NU d))):=by
 have HB:=AA (fun o=>AB W o);have C:=AA (fun i m V=>U9 i m V);obtain⟨dk,dc,ds,⟨o,s,pp,dd,v,f⟩,lo,sl,ke,wt⟩:=d;unfold ddV;by_cases h1:dk=1
 .subst h1
  cases hc:ZI dc 16 with
  |true=>
   rw[show NU ⟨1,dc,ds,⟨o,s,pp,dd,v,f⟩,lo,sl,ke,wt⟩=0 by simp[NU,hc]];go_enter func51,ntmps51;go_wp2_with fail;refine(A8 C _ _ _).mono ?_;rintro e w1 ⟨rfl,rfl⟩;simp only[hc];go_wp2_with fail;go_ret;exact⟨rfl,A8 HB _⟩
  |false=>
   rw[show NU ⟨1,dc,ds,⟨o,s,pp,dd,v,f⟩,lo,sl,ke,wt⟩=3 by simp[NU,hc]];go_enter func51,ntmps51;go_wp2_with fail;refine(A8 C _ _ _).mono ?_;rintro e w1 ⟨rfl,rfl⟩;simp only[hc];go_wp2_with fail;go_ret;exact⟨rfl,A8 HB _⟩
 .by_cases h2:dk=2
  .subst h2
   cases hc:ZI dc 16 with
   |true=>
    cases hs:ZI ds 3 with
    |true=>
     rw[show NU ⟨2,dc,ds,⟨o,s,pp,dd,v,f⟩,lo,sl,ke,wt⟩=0 by simp[NU,hc,hs]];go_enter func51,ntmps51;go_wp2_with fail;refine(A8 C _ _ _).mono ?_;rintro e w1 ⟨rfl,rfl⟩;simp only[hc];go_wp2_with fail;refine(A8 C _ _ _).mono ?_;rintro e w1 ⟨rfl,rfl⟩;simp only[hs];go_wp2_with fail;go_ret;exact⟨rfl,A8 HB _⟩
    |false=>
     rw[show NU ⟨2,dc,ds,⟨o,s,pp,dd,v,f⟩,lo,sl,ke,wt⟩=3 by simp[NU,hc,hs]];go_enter func51,ntmps51;go_wp2_with fail;refine(A8 C _ _ _).mono ?_;rintro e w1 ⟨rfl,rfl⟩;simp only[hc];go_wp2_with fail;refine(A8 C _ _ _).mono ?_;rintro e w1 ⟨rfl,rfl⟩;simp only[hs];go_wp2_with fail;go_ret;exact⟨rfl,A8 HB _⟩
   |false=>
    rw[show NU ⟨2,dc,ds,⟨o,s,pp,dd,v,f⟩,lo,sl,ke,wt⟩=3 by simp[NU,hc]];go_enter func51,ntmps51;go_wp2_with fail;refine(A8 C _ _ _).mono ?_;rintro e w1 ⟨rfl,rfl⟩;simp only[hc];go_wp2_with fail;go_ret;exact⟨rfl,A8 HB _⟩
  .by_cases h3:dk=3\/dk=4
   .rcases h3 with rfl|rfl
    all_goals
     cases hs:ZI ds 3 with
     |true=>
      rw[show NU ⟨_,dc,ds,⟨o,s,pp,dd,v,f⟩,lo,sl,ke,wt⟩=0 by simp[NU,hs]];go_enter func51,ntmps51;go_wp2_with fail;refine(A8 C _ _ _).mono ?_;rintro e w1 ⟨rfl,rfl⟩;simp only[hs];go_wp2_with fail;go_ret;exact⟨rfl,A8 HB _⟩
     |false=>
      rw[show NU ⟨_,dc,ds,⟨o,s,pp,dd,v,f⟩,lo,sl,ke,wt⟩=3 by simp[NU,hs]];go_enter func51,ntmps51;go_wp2_with fail;refine(A8 C _ _ _).mono ?_;rintro e w1 ⟨rfl,rfl⟩;simp only[hs];go_wp2_with fail;go_ret;exact⟨rfl,A8 HB _⟩
   .by_cases h5:dk=5
    .subst h5;rw[show NU ⟨5,dc,ds,⟨o,s,pp,dd,v,f⟩,lo,sl,ke,wt⟩=0 by simp[NU]];go_enter func51,ntmps51;go_wp2_with fail;go_ret;exact⟨rfl,A8 HB _⟩
    .have h33:¬dk=3:=fun e=>h3 (.inl e);have h34:¬dk=4:=fun e=>h3 (.inr e);rw[show NU ⟨dk,dc,ds,⟨o,s,pp,dd,v,f⟩,lo,sl,ke,wt⟩=4 by simp[NU,h1,h2,h33,h34,h5]];clear h3;go_enter func51,ntmps51;go_wp2_with fail;go_ret;exact⟨rfl,A8 HB _⟩
theorem BL2(n:Int):bits .and .i64 n 1=n%2:=by
 show IntKind.i64.wrap ((BitVec.ofInt 64 n&&&BitVec.ofInt 64 1).toNat:Int)=_;rw[BitVec.toNat_and,show (BitVec.ofInt 64 1).toNat=1 by decide,Nat.and_one_is_mod,BitVec.toNat_ofInt,IntKind.wrap_i64];omega
theorem C48(n:Int)(i:Nat)(hi:i<3)(w:World):Calls prog 146 #[I0 n,I0 i] w fun e w'=>e=.returned (.bool (A59 n i))/\w'=w:=by
 have e:∀m:Int,(bits .and .i64 m 1==1)=decide (m%2=1):=fun m=>by rw[BL2];rfl
 have E:=AA e;clear e;unfold A59;rcases(show i=0\/i=1\/i=2 by omega)with rfl|rfl|rfl
 .go_enter func146,ntmps146;go_wp2_with fail;go_ret;exact⟨by show Ending.returned (.bool (bits .and .i64 n 1==1))=_;rw[A8 E,show n/2^0=n by simp],rfl⟩
 .go_enter func146,ntmps146;go_wp2_with fail;go_ret;exact⟨by show Ending.returned (.bool (bits .and .i64 (n/2) 1==1))=_;rw[A8 E];rfl,rfl⟩
 .go_enter func146,ntmps146;go_wp2_with fail;go_ret;exact⟨by show Ending.returned (.bool (bits .and .i64 (n/4) 1==1))=_;rw[A8 E];rfl,rfl⟩
structure BL3(w W:World)(q:Nat)(n:Nd):Prop where
 b:B0 w W
 le:w.heap.size<=q
 one:EW W q n
theorem A81(p d:List UInt8)(c m q v k o n:Int)(hb:B0 w W):BL3 w (W.alloc (.cells #[S0 p,S0 d,I0 c,I0 m,I0 q,I0 v,I0 k,I0 o,I0 n] 96)) W.heap.size ⟨p,d,c,m,q,v,k,o,n⟩:=
 ⟨AL hb (AB _ _),hb.size,mV W ⟨p,d,c,m,q,v,k,o,n⟩⟩
theorem o8{b:Nat}(p d:List UInt8)(c m q v k o n:Int)(hb:B0 w W)(hq:w.heap.size<=b)(hz:EW W b SC):
  BL3 w (((((((((W.setCell ⟨b,0,none⟩ (S0 p)).setCell ⟨b,1,none⟩ (S0 d)).setCell ⟨b,2,none⟩ (I0 c)).setCell ⟨b,3,none⟩ (I0 m)).setCell ⟨b,4,none⟩ (I0 q)).setCell ⟨b,5,none⟩ (I0 v)).setCell ⟨b,6,none⟩ (I0 k)).setCell ⟨b,7,none⟩ (I0 o)).setCell ⟨b,8,none⟩ (I0 n)) b ⟨p,d,c,m,q,v,k,o,n⟩:=by
 refine⟨((((((((hb.setCell hq _).setCell hq _).setCell hq _).setCell hq _).setCell hq _).setCell hq _).setCell hq _).setCell hq _).setCell hq _,hq,?_⟩;have h0:W.heap[b]?=some (.cells #[.string ⟨#[]⟩,.string ⟨#[]⟩,I0 0,I0 0,I0 0,I0 0,I0 0,I0 0,I0 0] 96 (0,0)):=hz;unfold EW;rw[AV _ (AV _ (AV _ (AV _ (AV _ (AV _ (AV _ (AV _ (AV _ h0))))))))];simp;exact⟨rfl,rfl⟩
theorem o9{q:Nat}(h:EW W q SC):(W.cell? ⟨q,0,none⟩=some (.string ⟨#[]⟩)/\W.cell? ⟨q,1,none⟩=some (.string ⟨#[]⟩)/\W.cell? ⟨q,2,none⟩=some (I0 0)/\W.cell? ⟨q,3,none⟩=some (I0 0)/\W.cell? ⟨q,4,none⟩=some (I0 0)/\W.cell? ⟨q,5,none⟩=some (I0 0)/\W.cell? ⟨q,6,none⟩=some (I0 0)/\W.cell? ⟨q,7,none⟩=some (I0 0)/\W.cell? ⟨q,8,none⟩=some (I0 0))/\W.frozen? ⟨q,0,none⟩=false/\W.frozen? ⟨q,1,none⟩=false/\W.frozen? ⟨q,2,none⟩=false/\W.frozen? ⟨q,3,none⟩=false/\W.frozen? ⟨q,4,none⟩=false/\W.frozen? ⟨q,5,none⟩=false/\W.frozen? ⟨q,6,none⟩=false/\W.frozen? ⟨q,7,none⟩=false/\W.frozen? ⟨q,8,none⟩=false:=
 ⟨⟨h.EO 0 _ rfl,h.EO 1 _ rfl,h.EO 2 _ rfl,h.EO 3 _ rfl,h.EO 4 _ rfl,h.EO 5 _ rfl,h.EO 6 _ rfl,h.EO 7 _ rfl,h.EO 8 _ rfl⟩,h.DX 0,h.DX 1,h.DX 2,h.DX 3,h.DX 4,h.DX 5,h.DX 6,h.DX 7,h.DX 8⟩
structure BS0(w W:World)(q:Nat)(s z:Int)(v:Value)(es:List En):Prop where
 b:B0 w W
 le:w.heap.size<=q
 box:JD W q s z v
 v:BQ W v es
theorem A82{s:Int}{es:List En}(h:B0 w W)(ho:BD W B v es):BS0 w (W.alloc (.cells #[I0 s,I0 z,v] 77)) W.heap.size s z v es:=
 ⟨AL h (AB _ _),h.size,JD.new W s z v,(ho.next (AB _ _)).seq⟩
theorem A83{v0:Value}{s:Int}{es:List En}(h:B0 w W)(hk:w.heap.size<=k)(hz:JD W k 0 0 v0)(ho:BD W B v es)(hB:k<B):BS0 w (((W.setCell ⟨k,0,none⟩ (I0 s)).setCell ⟨k,1,none⟩ (I0 z)).setCell ⟨k,2,none⟩ v) k s z v es:=
 ⟨((h.setCell hk _).setCell hk _).setCell hk _,hk,(hz.set0.set1).set2,(((ho.KJ hB _).KJ hB _).KJ hB _).seq⟩
def NQ(s z:Nat->Int)(a:Nat->Option Addr)(n c:Nat->Nat):Array Value:=#[I0 (s 0),I0 (z 0),.slice (a 0) (n 0) (c 0),I0 (s 1),I0 (z 1),.slice (a 1) (n 1) (c 1),I0 (s 2),I0 (z 2),.slice (a 2) (n 2) (c 2),I0 (s 3),I0 (z 3),.slice (a 3) (n 3) (c 3),I0 (s 4),I0 (z 4),.slice (a 4) (n 4) (c 4),I0 (s 5),I0 (z 5),.slice (a 5) (n 5) (c 5),I0 (s 6),I0 (z 6),.slice (a 6) (n 6) (c 6),I0 (s 7),I0 (z 7),.slice (a 7) (n 7) (c 7),I0 (s 8),I0 (z 8),.slice (a 8) (n 8) (c 8),I0 (s 9),I0 (z 9),.slice (a 9) (n 9) (c 9),I0 (s 10),I0 (z 10),.slice (a 10) (n 10) (c 10),I0 (s 11),I0 (z 11),.slice (a 11) (n 11) (c 11),I0 (s 12),I0 (z 12),.slice (a 12) (n 12) (c 12),I0 (s 13),I0 (z 13),.slice (a 13) (n 13) (c 13),I0 (s 14),I0 (z 14),.slice (a 14) (n 14) (c 14),I0 (s 15),I0 (z 15),.slice (a 15) (n 15) (c 15)]
theorem ix_0(s z:Nat->Int)(a:Nat->Option Addr)(n c:Nat->Nat):∀u:World,(Instr.index 86 (.agg (NQ s z a n c)) (I0 0)).run prog u=.ok (.agg #[I0 (s 0),I0 (z 0),.slice (a 0) (n 0) (c 0)]) u:=fun _=>by kernel_rfl
theorem ix_1(s z:Nat->Int)(a:Nat->Option Addr)(n c:Nat->Nat):∀u:World,(Instr.index 86 (.agg (NQ s z a n c)) (I0 1)).run prog u=.ok (.agg #[I0 (s 1),I0 (z 1),.slice (a 1) (n 1) (c 1)]) u:=fun _=>by kernel_rfl
theorem ix_2(s z:Nat->Int)(a:Nat->Option Addr)(n c:Nat->Nat):∀u:World,(Instr.index 86 (.agg (NQ s z a n c)) (I0 2)).run prog u=.ok (.agg #[I0 (s 2),I0 (z 2),.slice (a 2) (n 2) (c 2)]) u:=fun _=>by kernel_rfl
theorem ix_3(s z:Nat->Int)(a:Nat->Option Addr)(n c:Nat->Nat):∀u:World,(Instr.index 86 (.agg (NQ s z a n c)) (I0 3)).run prog u=.ok (.agg #[I0 (s 3),I0 (z 3),.slice (a 3) (n 3) (c 3)]) u:=fun _=>by kernel_rfl
theorem ix_4(s z:Nat->Int)(a:Nat->Option Addr)(n c:Nat->Nat):∀u:World,(Instr.index 86 (.agg (NQ s z a n c)) (I0 4)).run prog u=.ok (.agg #[I0 (s 4),I0 (z 4),.slice (a 4) (n 4) (c 4)]) u:=fun _=>by kernel_rfl
theorem ix_5(s z:Nat->Int)(a:Nat->Option Addr)(n c:Nat->Nat):∀u:World,(Instr.index 86 (.agg (NQ s z a n c)) (I0 5)).run prog u=.ok (.agg #[I0 (s 5),I0 (z 5),.slice (a 5) (n 5) (c 5)]) u:=fun _=>by kernel_rfl
theorem ix_6(s z:Nat->Int)(a:Nat->Option Addr)(n c:Nat->Nat):∀u:World,(Instr.index 86 (.agg (NQ s z a n c)) (I0 6)).run prog u=.ok (.agg #[I0 (s 6),I0 (z 6),.slice (a 6) (n 6) (c 6)]) u:=fun _=>by kernel_rfl
theorem ix_7(s z:Nat->Int)(a:Nat->Option Addr)(n c:Nat->Nat):∀u:World,(Instr.index 86 (.agg (NQ s z a n c)) (I0 7)).run prog u=.ok (.agg #[I0 (s 7),I0 (z 7),.slice (a 7) (n 7) (c 7)]) u:=fun _=>by kernel_rfl
theorem ix_8(s z:Nat->Int)(a:Nat->Option Addr)(n c:Nat->Nat):∀u:World,(Instr.index 86 (.agg (NQ s z a n c)) (I0 8)).run prog u=.ok (.agg #[I0 (s 8),I0 (z 8),.slice (a 8) (n 8) (c 8)]) u:=fun _=>by kernel_rfl
theorem ix_9(s z:Nat->Int)(a:Nat->Option Addr)(n c:Nat->Nat):∀u:World,(Instr.index 86 (.agg (NQ s z a n c)) (I0 9)).run prog u=.ok (.agg #[I0 (s 9),I0 (z 9),.slice (a 9) (n 9) (c 9)]) u:=fun _=>by kernel_rfl
theorem CQ1(s z:Nat->Int)(a:Nat->Option Addr)(n c:Nat->Nat):∀u:World,(Instr.index 86 (.agg (NQ s z a n c)) (I0 10)).run prog u=.ok (.agg #[I0 (s 10),I0 (z 10),.slice (a 10) (n 10) (c 10)]) u:=fun _=>by kernel_rfl
theorem CQ2(s z:Nat->Int)(a:Nat->Option Addr)(n c:Nat->Nat):∀u:World,(Instr.index 86 (.agg (NQ s z a n c)) (I0 11)).run prog u=.ok (.agg #[I0 (s 11),I0 (z 11),.slice (a 11) (n 11) (c 11)]) u:=fun _=>by kernel_rfl
theorem CQ3(s z:Nat->Int)(a:Nat->Option Addr)(n c:Nat->Nat):∀u:World,(Instr.index 86 (.agg (NQ s z a n c)) (I0 12)).run prog u=.ok (.agg #[I0 (s 12),I0 (z 12),.slice (a 12) (n 12) (c 12)]) u:=fun _=>by kernel_rfl
theorem CQ4(s z:Nat->Int)(a:Nat->Option Addr)(n c:Nat->Nat):∀u:World,(Instr.index 86 (.agg (NQ s z a n c)) (I0 13)).run prog u=.ok (.agg #[I0 (s 13),I0 (z 13),.slice (a 13) (n 13) (c 13)]) u:=fun _=>by kernel_rfl
theorem CQ5(s z:Nat->Int)(a:Nat->Option Addr)(n c:Nat->Nat):∀u:World,(Instr.index 86 (.agg (NQ s z a n c)) (I0 14)).run prog u=.ok (.agg #[I0 (s 14),I0 (z 14),.slice (a 14) (n 14) (c 14)]) u:=fun _=>by kernel_rfl
theorem CQ6(s z:Nat->Int)(a:Nat->Option Addr)(n c:Nat->Nat):∀u:World,(Instr.index 86 (.agg (NQ s z a n c)) (I0 15)).run prog u=.ok (.agg #[I0 (s 15),I0 (z 15),.slice (a 15) (n 15) (c 15)]) u:=fun _=>by kernel_rfl
theorem CH7(s z:Nat->Int)(a:Nat->Option Addr)(n c:Nat->Nat)(m:Nat)(hm:m<16)(u:World):(Instr.index 86 (.agg (NQ s z a n c)) (I0 m)).run prog u=.ok (.agg #[I0 (s m),I0 (z m),.slice (a m) (n m) (c m)]) u:=by
 rcases(show m=0\/m=1\/m=2\/m=3\/m=4\/m=5\/m=6\/m=7\/m=8\/m=9\/m=10\/m=11\/m=12\/m=13\/m=14\/m=15 by omega)with rfl|rfl|rfl|rfl|rfl|rfl|rfl|rfl|rfl|rfl|rfl|rfl|rfl|rfl|rfl|rfl
 .exact ix_0 s z a n c u
 .exact ix_1 s z a n c u
 .exact ix_2 s z a n c u
 .exact ix_3 s z a n c u
 .exact ix_4 s z a n c u
 .exact ix_5 s z a n c u
 .exact ix_6 s z a n c u
 .exact ix_7 s z a n c u
 .exact ix_8 s z a n c u
 .exact ix_9 s z a n c u
 .exact CQ1 s z a n c u
 .exact CQ2 s z a n c u
 .exact CQ3 s z a n c u
 .exact CQ4 s z a n c u
 .exact CQ5 s z a n c u
 .exact CQ6 s z a n c u
theorem WX.BL9(h:WX W k p){c:Nat->Cl}(he:∀i,i<16->p.c i=c i):WX W k ⟨p.n,p.s,p.r,c,p.D,p.H,p.h⟩:=by
 obtain⟨f,hb,hr⟩:=h;exact⟨f,hb,hr.n,hr.s,hr.r,fun i hi=>by have:=hr.c i hi;rw[he i hi]at this;exact this,hr.d,hr.h,hr.hk⟩
def oC(c:Nat->Cl)(l:List Nt)(m:Nat):Nat->Cl:=fun i=>if i<m then U6 c l i else c i
theorem B35(c:Nat->Cl)(l:List Nt)(hi:i<16):oC c l 16 i=U6 c l i:=by rw[oC,if_pos hi]
theorem kX(c:Nat->Cl)(l:List Nt)(m i:Nat):GX (oC c l m) m ⟨(c m).s,(c m).z,OU (c m).s l (c m).es⟩ i=oC c l (m+1) i:=by
 by_cases e:i=m
 .subst e;rw[BP,oC,if_pos (by omega)];rfl
 .rw[AP _ _ e,oC,oC];by_cases h:i<m
  .rw[if_pos h,if_pos (by omega)]
  .rw[if_neg h,if_neg (by omega)]
structure TlI(W wr wx:World)(k:Nat)(p:Pw)(R1:Nat->Ps)(NN:List Nt)(vn:Value)(m:Nat):Prop where
 x:WX wx k ⟨p.n,R1,p.r,oC p.c NN m,p.D,p.H,p.h⟩
 n:BD wx W.heap.size vn NN
 t:Touch (· =k) W wx
 r:Touch (· =k) wr wx
theorem BM0(s z:Nat->Int)(a:Nat->Option Addr)(n c:Nat->Nat)(m:Nat)(hm:m<16):(NQ s z a n c)[3*m]?=some (I0 (s m))/\(NQ s z a n c)[3*m+1]?=some (I0 (z m))/\(NQ s z a n c)[3*m+2]?=some (.slice (a m) (n m) (c m)):=by
 rcases(show m=0\/m=1\/m=2\/m=3\/m=4\/m=5\/m=6\/m=7\/m=8\/m=9\/m=10\/m=11\/m=12\/m=13\/m=14\/m=15 by omega)with rfl|rfl|rfl|rfl|rfl|rfl|rfl|rfl|rfl|rfl|rfl|rfl|rfl|rfl|rfl|rfl<;>exact⟨rfl,rfl,rfl⟩
theorem AI8(w:World)(k:Nat)(s z:Nat->Int)(a:Nat->Option Addr)(n c:Nat->Nat)(hc:∀m,m<16->w.cell? ⟨k,34+3*m,none⟩=some (I0 (s m))/\w.cell? ⟨k,34+3*m+1,none⟩=some (I0 (z m))/\w.cell? ⟨k,34+3*m+2,none⟩=some (.slice (a m) (n m) (c m))):
  (Instr.loadAt 86 (.pointer (some ⟨k,34,none⟩))).run prog w=.ok (.agg (NQ s z a n c)) w:=by
 have hl:=run_loadCells_list (P:=prog) (w:=w) ⟨k,34,none⟩ (NQ s z a n c).toList (fun j v hj=>by
  have hj48:j<48:=by
   have:=(List.getElem?_eq_some_iff.1 hj).1;simpa [NQ]using this
  rw[Array.getElem?_toList]at hj;have h:=BM0 s z a n c (j/3) (by omega);have hw:=hc (j/3) (by omega);rw[Addr.add_lit];show w.cell? ⟨k,34+j,none⟩=some v;rcases(show j=3*(j/3)\/j=3*(j/3)+1\/j=3*(j/3)+2 by omega)with e|e|e
  .rw[e]at hj⊢;rw[h.1]at hj;rw[<-hj];exact hw.1
  .rw[e]at hj⊢;rw[h.2.1]at hj;rw[<-hj,<-Nat.add_assoc];exact hw.2.1
  .rw[e]at hj⊢;rw[h.2.2]at hj;rw[<-hj,<-Nat.add_assoc];exact hw.2.2)
 have h48:(NQ s z a n c).toList.length=48:=rfl;rw[h48]at hl;simp only[Instr.loadAt,Instr.sureAddr,Sem.run_bind,Sem.run_pure,Result.andThen];unfold loadVar;simp only[Sem.run_bind,isAgg86,sizeOf86,Result.andThen,if_true];rw[hl];rfl
theorem oD{w:World}{ops:Array Oper}{rest:List Oper}{o:Oper}{a:Act}{Q:Exit->Act->World->Prop}(hgd:o.guard=none)(x:Operand)(ho:o.op=.load 86 x)(k:Nat)(s z:Nat->Int)(ad:Nat->Option Addr)(n c:Nat->Nat)
  (hx:a.eval x=.pointer (some ⟨k,34,none⟩)) (hc:∀m,m<16->w.cell? ⟨k,34+3*m,none⟩=some (I0 (s m))/\w.cell? ⟨k,34+3*m+1,none⟩=some (I0 (z m))/\w.cell? ⟨k,34+3*m+2,none⟩=some (.slice (ad m) (n m) (c m)))
  (h:wpList prog ops Q rest (a.put o.dst (.agg (NQ s z ad n c))) w):wpList prog ops Q (o::rest) a w:=by
 refine wpList_plain hgd fun K hK=>?_;have hr:=AI8 w k s z ad n c hc;unfold Oper.wp execOp;simp only[ho,Sem.run_bind,Sem.run_pure,Result.andThen_ok,hx,hr];exact hK _ _ h
