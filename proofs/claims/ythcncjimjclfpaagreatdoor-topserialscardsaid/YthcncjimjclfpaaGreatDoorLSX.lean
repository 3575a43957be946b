/-
  Part.
-/
import Derived.Test.YthcncjimjclfpaaGreatDoorLSW
set_option maxRecDepth 20000
set_option maxHeartbeats 8000000
namespace Go.Proofs.YthcncjimjclfpaaGreatDoor
open Go.RowKit Go.Proofs.Tryz
open _root_.Nat renaming le_refl->A8,lt_of_lt_of_le->AX,le_trans->BM,mul_comm->DC,add_assoc->EI
open Go.RowKit.Below renaming refl->AA
open _root_.List renaming getElem?_eq_getElem->AL,length_append->AO,getElem?_eq_some_iff->AU,mem_of_getElem?->AZ,pairwise_append->DJ,take_append_drop->DN,take_length->DU
open _root_.Option.some renaming injEq->BD,inj->BN
open Go.Sem renaming run_bind->DX,run_pure->EM
open Go.Result renaming andThen_ok->DY
open _root_.List.cons renaming injEq->EC
open Go.Value.agg renaming injEq->EK
open _root_.Array.mk renaming injEq->F5
open Go.Value renaming slice->FQ
open Go.Obj renaming cells->FT
open Go renaming World->FU,Value->FV
open _root_.Option renaming none->FX,some->FZ
variable{s:Nat->Ps}{p:Pw}{j i k g B:Nat}{W V w:FU}{vd vl vn vs vw v:FV}{r:Rq}
structure El(p:Pw):Prop where
 ok:∀i,i<3->ML 300 (p.s i)
 cl:∀i,i<16->uM 300 p.H i (p.c i)
 en:1<=eN p.s/\eN p.s<=300
 one:∀i j,i<3->j<3->∀x∈(p.s i).m,∀y∈(p.s j).m,x.z=y.z->x=y
 fol:¬ (JX p.s).length<2->AQ1 p.s=false->∀i,i<3->ML 300 (eS p.s i)
 fin:¬ (JX p.s).length<2->AQ1 p.s=false->∀i,i<3->ML 300 ((LV (eS p.s) (JX p.s)).1 i)
theorem ML.fol{N:Int}{q b:Ps}{e:Int}(hq:ML N q)(hb:ML N b)(he:0<=e/\e<=N)(hd:q.dn<=KY q.m b.m):ML N (yH e b.m q):=
 ⟨hb.log,hb.pos,hb.len,A8 _,he.1,he.2,BM hd (XP q.m b.m).2,hb.play,hq.wl,hq.wk,fun h=>by simp[yH]at h,fun _=>rfl⟩
theorem CW9{q:Pw}(h:PX q)(hn:q.n<300):El (MR q):=by
 have hok:∀i,i<3->ML 300 (q.s i):=fun i hi=>(h.s i hi).more (by omega);refine⟨hok,fun i hi=>(h.c i hi).more (by omega) (fun _ hx=>hx),?_,fun i j hi hj x hx y hy e=>h.a.one x (h.a.hist i hi x (by rw[LQ hi];exact hx)) y (h.a.hist j hj y (by rw[LQ hj];exact hy)) e,fun h2 hb i hi=>?_,fun h2 hb i hi=>?_⟩
 .have:=CA0 h;show 1<=eN q.s/\eN q.s<=300;omega
 .show ML 300 (eS q.s i);have hB:=KQ.1 (AG3 (s:=q.s) (show 2<=(JX q.s).length from Nat.le_of_not_lt h2));unfold eS
  split
  .rename_i hu
   have:=CA0 h;exact ML.fol (hok i hi) (hok _ hB.1) (by omega) (B81 (s:=q.s) hb (KQ.2 ⟨hi,hu.1⟩))
  .exact hok i hi
 .exact((pX h hn h2 hb).s i hi).more (by show q.n+1<=300;omega)
theorem AH0(h:∀i,i<3->ML 300 (s i)):BZ2 (QV s) 0:=by
 refine .inl ⟨rfl,fun i k hi=>?_⟩;have hlt:i<(JX s).length:=by have:=(AU.1 hi).1;rwa[dB]at this
 unfold QV at hi;rw[List.getElem?_map,AL hlt]at hi;simp only[Option.map_some,BD]at hi;subst hi;have hm:=List.getElem_mem hlt;obtain⟨h3,_⟩:=KQ.1 hm;have ok:=h _ h3;have h0:=ok.e0;have h1:=ok.e1;unfold AF1;rw[if_neg,if_neg (by simp only;omega),if_neg (by simp only;omega)];intro ha;rw[List.any_eq_true]at ha;obtain⟨q,hq,e⟩:=ha;rw[QV,<-List.map_take]at hq;obtain⟨j,hj,rfl⟩:=List.mem_map.1 hq;have e':j=(JX s)[i]:=by
  have:(j:Int)=((JX s)[i]:Nat):=by simpa using e
  omega
 have hnd:=TF s;rw[<-DN i (JX s)]at hnd;have hd:(JX s)[i]∈(JX s).drop i:=AZ (i:=0) (by rw[List.getElem?_drop];simp[AL hlt]);exact(DJ.1 hnd).2.2 j hj _ hd e'
theorem BS5(h:∀i,i<3->ML 300 (s i))(h2:(JX s).length<2):CW1 (QV s) 0 0 14:=⟨0,AH0 h,.inr ⟨rfl,.inl ⟨by rw[dB];exact h2,rfl,rfl,rfl⟩⟩⟩
theorem B94(h:El p)(h2:¬ (JX p.s).length<2):CW1 (QV p.s) (MJ (QV p.s) (JX p.s).length:Nat) (eN p.s) 0:=
 ⟨0,AH0 h.ok,.inr ⟨rfl,.inr ⟨by rw[dB];omega,.inr ⟨by have:=h.en;unfold eN at this;omega,by rw[dB],rfl,rfl⟩⟩⟩⟩
theorem B95(h2:¬ (JX s).length<2):MJ (QV s) (JX s).length<(JX s).length:=by
 have:=XZ (QV s) (JX s).length;omega
theorem CB2(h2:¬ (JX s).length<2):(JX s)[MJ (QV s) (JX s).length]?=FZ (eB s):=by
 have:=B95 h2;rw[eB,List.getD_eq_getElem?_getD,AL this];rfl
def elS(s:Nat->Ps)(j:Nat):Nat->Ps:=fun k=>if k∈(JX s).take j then yH (eN s) (s (eB s)).m (s k)else s k
def elR(s:Nat->Ps)(j:Nat):Nat->Int:=fun k=>if k∈(JX s).take j then 1 else 0
theorem BS6(s:Nat->Ps):elS s 0=s:=by funext k;simp[elS]
theorem BS7(s:Nat->Ps):elR s 0=fun _=>0:=by funext k;simp[elR]
theorem BS8(h:(JX s)[j]?=FZ i):elS s (j+1)=LU (elS s j) i (yH (eN s) (s (eB s)).m (s i)):=by
 funext k
 unfold elS LU;rw[QF h];by_cases e:k=i
 .subst e;rw[if_pos (by simp),if_pos rfl]
 .rw[if_neg e];congr 1;simp[e]
theorem BS9(h:(JX s)[j]?=FZ i):elR s (j+1)=LU (elR s j) i 1:=by
 funext k
 unfold elR LU;rw[QF h];by_cases e:k=i
 .subst e;rw[if_pos (by simp),if_pos rfl]
 .rw[if_neg e];congr 1;simp[e]
theorem CB3(s:Nat->Ps):elS s (JX s).length=eS s:=by
 funext k
 unfold elS eS;rw[DU]
 congr 1
 rw[KQ];exact propext ⟨fun h=>⟨h.2,h.1⟩,fun h=>⟨h.2,h.1⟩⟩
theorem CB5:LU (elR s (JX s).length) (eB s) 2=eR s:=by
 funext k
 unfold elR eR LU;rw[DU];by_cases e:k=eB s
 .rw[if_pos e,if_pos e]
 .rw[if_neg e,if_neg e];show (if k∈JX s then(1:Int)else 0)=_
  congr 1
  rw[KQ];exact propext ⟨fun h=>⟨h.2,h.1⟩,fun h=>⟨h.2,h.1⟩⟩
theorem CB6(h:(JX s)[j]?=FZ i):elS s j i=s i:=by
 unfold elS;rw[if_neg];intro hm;have hnd:=TF s;rw[<-DN j (JX s)]at hnd;have hd:i∈(JX s).drop j:=AZ (i:=0) (by rw[List.getElem?_drop];simpa using h);exact(DJ.1 hnd).2.2 i hm i hd rfl
theorem CB7(h:i∈JX s)(hb:KY (s i).m (s (eB s)).m<(s i).dn):AQ1 s=true:=by
 unfold AQ1;rw[List.any_eq_true];exact⟨i,h,by simpa using hb⟩
theorem CO5(h:∀i∈JX s,(s i).dn<=KY (s i).m (s (eB s)).m):AQ1 s=false:=by
 unfold AQ1;rw[List.any_eq_false];intro i hi;have:=h i hi;simp;omega
theorem fH(s:Nat->Ps):(JX s).length<=3:=BM (List.length_filter_le _ _) (by simp)
theorem CO6(h:ZV W)(hx:WX W k p):1≠k:=by
 intro e;have h1:=h.cell B58 0 (by decide);have h2:=hx.count;rw[<-e]at h2;rw[h2]at h1;simp[Lib.pow10Tab]at h1
theorem ZV.touch{F:Nat->Prop}(h:ZV W)(ht:Touch F W V)(hF:¬F 1):ZV V:=by
 have hlt:=A48 h;unfold ZV Lib.TabIs World.var? at h⊢;simp only[B58,Option.bind_some]at h⊢;rw[ht.block _ hlt hF];exact h
theorem dF(h:ZV W)(hx:WX W k p)(ht:Touch (· =k) W V):ZV V:=h.touch ht (CO6 h hx)
structure BxS(w V:FU)(q:Nat)(s:Sv)(vd vl vn vs vw:FV):Prop where
 b:Below w.heap.size w V
 le:w.heap.size<=q
 box:IK V q s.up vd s.id s.ep vl s.dn s.tr.z vn vs vw
theorem CB8{w1:FU}{s:Sv}(h:Below w.heap.size w w1):BxS w (w1.alloc (FT #[.bool s.up,vd,.int .i64 s.id,.int .i64 s.ep,vl,.int .i64 s.dn,.int .i64 s.tr.z,vn,vs,vw] 64)) w1.heap.size s vd vl vn vs vw:=
 ⟨G8 h (G7 _ _),h.size,IK.new _ _ _ _ _ _ _ _ _ _ _⟩
theorem CB9{w1:FU}{q:Nat}{s:Sv}(h:Below w.heap.size w w1)(hq:w.heap.size<=q)(hz:IK w1 q false (FQ FX 0 0) 0 0 (FQ FX 0 0) 0 0 (FQ FX 0 0) (FQ FX 0 0) (FQ FX 0 0)):BxS w (PL w1 q (.bool s.up) vd (.int .i64 s.id) (.int .i64 s.ep) vl (.int .i64 s.dn) (.int .i64 s.tr.z) vn vs vw) q s vd vl vn vs vw:=
 ⟨JU h hq _ _ _ _ _ _ _ _ _ _,hq,lI hz _ _ _ _ _ _ _ _ _ _⟩
def RqB(W:FU)(g:Nat)(r:Rq):Prop:=W.heap[g]?=FZ (FT #[.int .i64 r.o,.int .i64 r.s,.string ⟨r.p.toArray⟩,.string ⟨r.d.toArray⟩,.int .i64 r.v,.int .i64 r.f] 29 (0,0))
theorem RqB.new(w:FU)(r:Rq):RqB (w.alloc (FT #[.int .i64 r.o,.int .i64 r.s,.string ⟨r.p.toArray⟩,.string ⟨r.d.toArray⟩,.int .i64 r.v,.int .i64 r.f] 29)) w.heap.size r:=heap_alloc_new w _
theorem RqB.lt(h:RqB W g r):g<W.heap.size:=(Array.getElem?_eq_some_iff.1 h).1
theorem RqB.next(h:RqB W g r)(hb:Below W.heap.size W V):RqB V g r:=(hb.block g h.lt).trans h
theorem RqB.cells(h:RqB W g r):W.cell? ⟨g,0,FX⟩=FZ (.int .i64 r.o)/\W.cell? ⟨g,1,FX⟩=FZ (.int .i64 r.s)/\W.cell? ⟨g,2,FX⟩=FZ (.string ⟨r.p.toArray⟩)/\W.cell? ⟨g,3,FX⟩=FZ (.string ⟨r.d.toArray⟩)/\W.cell? ⟨g,4,FX⟩=FZ (.int .i64 r.v)/\W.cell? ⟨g,5,FX⟩=FZ (.int .i64 r.f):=by
 unfold RqB at h;refine⟨?_,?_,?_,?_,?_,?_⟩<;>simp[World.cell?,h]
theorem RqB.GN(h:RqB W g r)(j:Nat):W.frozen? ⟨g,j,FX⟩=false:=by
 unfold RqB at h;simp[World.frozen?,h]
theorem RqB.set(h:RqB W g r)(s:Int):RqB (W.setCell ⟨g,1,FX⟩ (.int .i64 s)) g ⟨r.o,s,r.p,r.d,r.v,r.f⟩:=by
 unfold RqB at h⊢;rw[GL _ h];rfl
structure PP(w W:FU)(d:Dd):Prop where
 b:Below w.heap.size w W
 a:TAt W (w.heap.size+1) t0
 d:JF W w.heap.size d
theorem PP.start(w:FU)(d:Dd):PP w ((w.alloc (FT #[.int .i64 d.k,.int .i64 d.c,.int .i64 d.s,.int .i64 d.q.o,.int .i64 d.q.s,.string ⟨d.q.p.toArray⟩,.string ⟨d.q.d.toArray⟩,.int .i64 d.q.v,.int .i64 d.q.f,.int .i64 d.lo,.int .i64 d.sl,.int .i64 d.ke,.bool d.wt] 31)).alloc (FT #[.int .i64 0,.int .i64 0,.int .i64 0,.string ⟨#[]⟩,.string ⟨#[]⟩,.int .i64 0,.int .i64 0] 93)) d:=by
 exact⟨G8 (G7 _ _) (G7 _ _),lU _ _ _,JF.Y0 (heap_alloc_new w _:JF (w.alloc _) w.heap.size d) (G7 _ _) (by simp)⟩
theorem PP.next{d:Dd}(h:PP w W d)(hb:Below W.heap.size W V):PP w V d:=⟨G8 h.b hb,h.a.next hb,h.d.Y0 hb h.d.ltz⟩
theorem AH3{d:Dd}(h:JF W g d):(W.cell? ⟨g,0,FX⟩=FZ (.int .i64 d.k)/\W.cell? ⟨g,1,FX⟩=FZ (.int .i64 d.c)/\W.cell? ⟨g,2,FX⟩=FZ (.int .i64 d.s)/\W.cell? ⟨g,3,FX⟩=FZ (.int .i64 d.q.o)/\W.cell? ⟨g,4,FX⟩=FZ (.int .i64 d.q.s)/\W.cell? ⟨g,5,FX⟩=FZ (.string ⟨d.q.p.toArray⟩)/\W.cell? ⟨g,6,FX⟩=FZ (.string ⟨d.q.d.toArray⟩))/\W.cell? ⟨g,7,FX⟩=FZ (.int .i64 d.q.v)/\W.cell? ⟨g,8,FX⟩=FZ (.int .i64 d.q.f)/\W.cell? ⟨g,9,FX⟩=FZ (.int .i64 d.lo)/\W.cell? ⟨g,10,FX⟩=FZ (.int .i64 d.sl)/\W.cell? ⟨g,11,FX⟩=FZ (.int .i64 d.ke)/\W.cell? ⟨g,12,FX⟩=FZ (.bool d.wt):=by
 have r:=h.row;simp only[Nat.zero_add]at r;exact⟨⟨r 0 _ rfl,r 1 _ rfl,r 2 _ rfl,r 3 _ rfl,r 4 _ rfl,r 5 _ rfl,r 6 _ rfl⟩,r 7 _ rfl,r 8 _ rfl,r 9 _ rfl,r 10 _ rfl,r 11 _ rfl,r 12 _ rfl⟩
theorem gK(p:Pw)(d:Dd)(k b:Nat)(W:FU)(hx:WX W k p)(hT:ZV W)(hb:b<3)(hl:ldP p.r=b)(hu:(p.s b).up=true)(hok:ML 300 (p.s b))(hn:nxE (p.s b).e (J4 (p.s b).m)=0)(hc:0<=d.c/\d.c<16)(hp:d.q.p.length<=140737488355328)(hd:d.q.d.length<=140737488355328):
  Calls prog 60 #[wP k,ddV d] W fun e w'=>e=.returned (.tuple #[J8 (wX p d),.int .i64 (wE p d)])/\Below W.heap.size W w':=by
 have D0:=G6 (PP.start W d);obtain⟨c,hc16,hdc⟩:∃c:Nat,c<16/\d.c=c:=⟨d.c.toNat,by omega,by omega⟩;obtain⟨ad,nd,cd,al,cl,an,cn,ai,ci,aw,cw,SS,hv,_⟩:=hx.srv hb rfl;obtain⟨ca,cc,k0,k1,k2,_⟩:=hx.cl hc16;have hsv:=J5 (i:=b) hu;have CL:=G6 (fun V (hV:Below W.heap.size W V)=>SI p k V (hx.next hV));rw[hl]at CL;have HV:=G6 (fun V (hV:Below W.heap.size W V)=>hv.next hV);have CN:=G6 (fun V (hV:Below W.heap.size W V)=>BQ3 ⟨(svP b (p.s b)).id,(svP b (p.s b)).ep,al,cl,(svP b (p.s b)).ts,(svP b (p.s b)).dn⟩ V (by
  obtain⟨_,_,_,_,_,e,_,r2,_,_,_⟩:=hv.next hV;simp only[EK,F5,EC,true_and,and_true]at e;rw[<-e.2.1]at r2;exact r2))
 have HT:=G6 hT;have hgt:QA (svP b (p.s b)).tr:=by rw[hsv];exact hok.play.good hok.dn
 have CP:=G6 (fun V (hV:Below W.heap.size W V) (z:Int)=>A69 (svP b (p.s b)).tr z (FQ an (svP b (p.s b)).tr.ns.length cn) (FQ ai (svP b (p.s b)).tr.ss.length ci) (wQ p d) V (by
  obtain⟨_,_,_,_,_,e,_,_,r3,_,_⟩:=hv.next hV;simp only[EK,F5,EC,true_and,and_true]at e;rw[<-e.2.2.1]at r3;exact r3) (by
  obtain⟨_,_,_,_,_,e,_,_,_,r4,_⟩:=hv.next hV;simp only[EK,F5,EC,true_and,and_true]at e;rw[<-e.2.2.2.1]at r4;exact r4) hgt.pwf hp hd ((G5 HT).next hV))
 have HE:Hid (wX p d=AK2 (svP b (p.s b)).tr (nxN (svP b (p.s b)).ep (J4 (svP b (p.s b)).ts)) (wQ p d)/\wE p d=fM (svP b (p.s b)).tr (nxN (svP b (p.s b)).ep (J4 (svP b (p.s b)).ts)) (wQ p d)):=G6 (by
  have hln:ldN p.r=b:=by rw[ldN,hl];simp
  rw[wX,wE,wTr,wZ,hln,hsv];exact⟨rfl,rfl⟩)
 have hne:nxE (svP b (p.s b)).ep (J4 (svP b (p.s b)).ts)=0:=by rw[hsv];exact hn
 rw[hne]at CN;have hdn:(p.c d.c.toNat).s=(p.c c).s:=by rw[hdc];rfl
 have HQ:Hid (wQ p d=⟨d.q.o,(p.c c).s,d.q.p,d.q.d,d.q.v,d.q.f⟩):=G6 (by rw[wQ,hdn]);have HX:=G6 hx;obtain⟨dk,dc,ds,⟨o,s,pp,dd,v,f⟩,lo,sl,ke,wt⟩:=d;simp only at hdc HQ;subst hdc;rw[(G5 HE).1,(G5 HE).2];rw[G5 HQ]at CP⊢;clear HQ HE;generalize hs0:svP b (p.s b)=s0 at*;unfold wP ddV;have HS:=G6 (fun V (hV:Below W.heap.size W V)=>SS.next hx.lt hV);simp only[DC 10 b]at HS;have HC:=G6 (And.intro k0 (And.intro k1 k2));have hk0:=hx.lt;have hb4:(b:Int)<3:=by omega
 have hc4:(c:Int)<16:=by omega
 unfold peV at CN;unfold rqV AH2 J8 at CP;clear SS hv k0 k1 k2 hsv hl hT hgt hn hne hc hp hd hx hs0 hok hu hdn;go_enter func60,ntmps60;go_upto_region 1 with fail;generalize ((W.alloc _).alloc _)=W1 at*;have hkW:k<W1.heap.size:=AX hk0 (G5 D0).b.size;have HKS:Hid (∀V,Below W1.heap.size W1 V->V.cell? ⟨k,1+b*10,FX⟩=FZ (.bool s0.up)/\V.cell? ⟨k,1+b*10+1,FX⟩=FZ (FQ ad nd cd)/\V.cell? ⟨k,1+b*10+2,FX⟩=FZ (.int .i64 s0.id)/\V.cell? ⟨k,1+b*10+3,FX⟩=FZ (.int .i64 s0.ep)/\V.cell? ⟨k,1+b*10+4,FX⟩=FZ (FQ al s0.ts.length cl)/\V.cell? ⟨k,1+b*10+5,FX⟩=FZ (.int .i64 s0.dn)/\V.cell? ⟨k,1+b*10+6,FX⟩=FZ (.int .i64 s0.tr.z)/\V.cell? ⟨k,1+b*10+7,FX⟩=FZ (FQ an s0.tr.ns.length cn)/\V.cell? ⟨k,1+b*10+8,FX⟩=FZ (FQ ai s0.tr.ss.length ci)/\V.cell? ⟨k,1+b*10+9,FX⟩=FZ (FQ aw s0.ws.length cw)):=G6 fun V hV=>by
  obtain⟨c0,c1,c2,c3,c4,c5,c6,c7,c8,c9⟩:=G5 HS V (G8 (G5 D0).b hV);exact⟨c0,c1,c2,c3,c4,c5,c6,c7,c8,c9⟩
 replace CL:=G6 (fun V (hV:Below W1.heap.size W1 V)=>G5 CL V (G8 (G5 D0).b hV))
 go_cut [6]from 10 (fun t6 wx=>∃q,t6=.pointer (FZ ⟨q,0,FX⟩)/\Hid (BxS W1 wx q s0 (FQ ad nd cd) (FQ al s0.ts.length cl) (FQ an s0.tr.ns.length cn) (FQ ai s0.tr.ss.length ci) (FQ aw s0.ws.length cw)))
 case first=>
  have hS0:=G5 HKS _ (AA W1.heap.size W1).drew;refine wp_region_held (S:=fun V:FU=>V.cell? ⟨k,1+b*10,FX⟩=FZ (.bool s0.up)/\V.cell? ⟨k,1+b*10+1,FX⟩=FZ (FQ ad nd cd)/\V.cell? ⟨k,1+b*10+2,FX⟩=FZ (.int .i64 s0.id)/\V.cell? ⟨k,1+b*10+3,FX⟩=FZ (.int .i64 s0.ep)/\V.cell? ⟨k,1+b*10+4,FX⟩=FZ (FQ al s0.ts.length cl)/\V.cell? ⟨k,1+b*10+5,FX⟩=FZ (.int .i64 s0.dn)/\V.cell? ⟨k,1+b*10+6,FX⟩=FZ (.int .i64 s0.tr.z)/\V.cell? ⟨k,1+b*10+7,FX⟩=FZ (FQ an s0.tr.ns.length cn)/\V.cell? ⟨k,1+b*10+8,FX⟩=FZ (FQ ai s0.tr.ss.length ci)/\V.cell? ⟨k,1+b*10+9,FX⟩=FZ (FQ aw s0.ws.length cw)) (by kernel_rfl) ?_;change wpAnyH _ _ _ _ _ _ _ _ W1.drew;refine tkH 0 hS0 ?_;refine tkH 1 hS0 ?_;refine tkH 3 hS0 ?_;refine tkH 4 hS0 ?_;refine rd2 2 7 (fun K hK=>?_) (fun K hK=>?_)
  .go_simp;refine(G5 CL _ (AA _ _).drew).mono ?_;rintro e w1 ⟨rfl,hb1⟩;have aB1:Hid (Below W1.heap.size W1 w1):=G6 (G8 (AA _ _).drew hb1);clear hb1;have hS1:=G5 HKS _ (G5 aB1);refine nxH hK hS1 ?_;clear hK K;refine tkH 5 hS1 ?_;refine tkH 6 hS1 ?_;refine rd1 7 (fun K hK=>?_);go_simp;have hS2:=G5 HKS _ (G8 (G5 aB1) (G7 w1 (FT #[.bool false,FQ FX 0 0,.int .i64 0,.int .i64 0,FQ FX 0 0,.int .i64 0,.int .i64 0,FQ FX 0 0,FQ FX 0 0,FQ FX 0 0] 64)));refine nxH hK hS2 ?_;clear hK K;refine rd1 8 (fun K hK=>?_);go_simp;have hX2:Hid (BxS W1 _ _ s0 (FQ ad nd cd) (FQ al s0.ts.length cl) (FQ an s0.tr.ns.length cn) (FQ ai s0.tr.ss.length ci) (FQ aw s0.ws.length cw)):=G6 (CB8 (G5 aB1));have hS3:=G5 HKS _ (G5 hX2).b;refine nxH hK hS3 ?_;clear hK K;refine wpAnyH_done (by kernel_rfl) ?_ _;go_wp2_with fail
   go_meet
   exact⟨_,rfl,hX2⟩
  .go_simp;have hS2:=G5 HKS _ (G8 (AA W1.heap.size W1).drew (G7 W1.drew (FT #[.bool false,FQ FX 0 0,.int .i64 0,.int .i64 0,FQ FX 0 0,.int .i64 0,.int .i64 0,FQ FX 0 0,FQ FX 0 0,FQ FX 0 0] 64)));refine nxH hK hS2 ?_;clear hK K;refine rd1 2 (fun K hK=>?_);go_simp;refine(G5 CL _ (G8 (AA _ _).drew (G7 _ _))).mono ?_;rintro e w1 ⟨rfl,hb1⟩;have aB1:Hid (Below W1.heap.size W1 w1):=G6 (G8 (G8 (AA _ _).drew (G7 _ _)) hb1);have aZ1:Hid (IK w1 W1.heap.size false (FQ FX 0 0) 0 0 (FQ FX 0 0) 0 0 (FQ FX 0 0) (FQ FX 0 0) (FQ FX 0 0)):=G6 ((hb1.block _ (by simp)).trans (heap_alloc_new W1.drew _));clear hb1;have hS1:=G5 HKS _ (G5 aB1);refine nxH hK hS1 ?_;clear hK K;refine tkH 5 hS1 ?_;refine tkH 6 hS1 ?_;refine rd1 8 (fun K hK=>?_);have z0:=(G5 aZ1).GN 0;have z1:=(G5 aZ1).GN 1;have z2:=(G5 aZ1).GN 2;have z3:=(G5 aZ1).GN 3;have z4:=(G5 aZ1).GN 4;have z5:=(G5 aZ1).GN 5;have z6:=(G5 aZ1).GN 6;have z7:=(G5 aZ1).GN 7;have z8:=(G5 aZ1).GN 8;have z9:=(G5 aZ1).GN 9;obtain⟨x0,x1,x2,x3,x4,x5,x6,x7,x8,x9⟩:=(G5 aZ1).cells;go_simp;have hX2:Hid (BxS W1 _ _ s0 (FQ ad nd cd) (FQ al s0.ts.length cl) (FQ an s0.tr.ns.length cn) (FQ ai s0.tr.ss.length ci) (FQ aw s0.ws.length cw)):=G6 (CB9 (G5 aB1) (A8 _) (G5 aZ1));have hS3:=G5 HKS _ (G5 hX2).b;refine nxH hK hS3 ?_;clear hK K;refine wpAnyH_done (by kernel_rfl) ?_ _;go_wp2_with fail
   go_meet
   exact⟨_,rfl,hX2⟩
 case rest=>
  obtain⟨q,rfl,HQ⟩:=hcut;have D1:=G6 ((G5 D0).next (G5 HQ).b);have B1:=G6 (G5 D1).b;obtain⟨q0,q1,q2,q3,q4,q5,q6,q7,q8,q9⟩:=(G5 HQ).box.cells;clear HKS CL D0;go_wp2_with fail;refine(G5 CN _ (G5 B1)).mono ?_;rintro e w2 ⟨rfl,hb2⟩;have D2:=G6 ((G5 D1).next hb2);have Q2:=G6 ((G5 HQ).box.next hb2);have hq2:=hb2.size;have hql:=(G5 HQ).le;have hqt:=(G5 HQ).box.lt;have hWg:=(Array.getElem?_eq_some_iff.1 (G5 D2).a).1;clear q0 q1 q2 q3 q4 q5 q6 q7 q8 q9 CN D1 B1 HQ hb2;obtain⟨⟨e0,e1,e2,e3,e4,e5,e6⟩,e7,e8,e9,e10,e11,e12⟩:=AH3 (G5 D2).d;go_upto_region 6 with fail;have D3:=G6 ((G5 D2).next (G7 w2 (FT #[.int .i64 o,.int .i64 s,.string ⟨pp.toArray⟩,.string ⟨dd.toArray⟩,.int .i64 v,.int .i64 f] 29)));have Q3:=G6 ((G5 Q2).next (G7 w2 (FT #[.int .i64 o,.int .i64 s,.string ⟨pp.toArray⟩,.string ⟨dd.toArray⟩,.int .i64 v,.int .i64 f] 29)));have G3:=G6 (RqB.new w2 ⟨o,s,pp,dd,v,f⟩);simp only at G3;generalize w2.alloc _=W3 at*;have hg3:w2.heap.size<W3.heap.size:=(G5 G3).lt;generalize hg:w2.heap.size=g at*;clear D2 Q2 e0 e1 e2 e3 e4 e5 e6 e7 e8 e9 e10 e11 e12 hg;obtain⟨⟨_,e1,_,_,_,_,_⟩,_,_,_,_,_,_⟩:=AH3 (G5 D3).d;obtain⟨g0,g1,g2,g3,g4,g5⟩:=(G5 G3).cells;have gf:=(G5 G3).GN 1;have hdl:=(G5 D3).d.ltz;have hkW3:k<W3.heap.size:=AX hk0 (G5 D3).b.size;have y0:W3.cell? ⟨k,34+c*3,FX⟩=FZ (.int .i64 (p.c c).s):=by
   rw[World.cell?,(G5 D3).b.block k hk0,DC c 3];exact(G5 HC).1
  have hgk:g≠k:=by omega
  have hgW:g≠W.heap.size:=by omega
  simp only at e1 g0 g1 g2 g3 g4 g5;go_region;have B4:=G6 (((G5 D3).b.setCell (p:=⟨g,1,FX⟩) (by simp only;omega) (.int .i64 (p.c c).s)).drew);have A4:=G6 (TAt.next (W:=W3.setCell ⟨g,1,FX⟩ (.int .i64 (p.c c).s)) ((Below.heap_setCell W3 ⟨g,1,FX⟩ (.int .i64 (p.c c).s) _ (by simp only;omega)).trans (G5 D3).a) (AA _ _).drew);have Q4:=G6 (((G5 Q3).other (i:=g) (j:=1) (u:=.int .i64 (p.c c).s) (by omega)).next (AA _ _).drew);have G4:=G6 (((G5 G3).set (p.c c).s).next (AA _ _).drew);generalize World.drew _=W4 at*;clear D3 Q3 G3 e1 g0 g1 g2 g3 g4 g5 gf y0 hgk hgW hkW3;obtain⟨q0,q1,q2,q3,q4,q5,q6,q7,q8,q9⟩:=(G5 Q4).cells;obtain⟨g0,g1,g2,g3,g4,g5⟩:=(G5 G4).cells;simp only at g0 g1 g2 g3 g4 g5;go_wp2_with fail;refine(G5 CP _ (G5 B4) _).mono ?_;rintro e w5 ⟨rfl,hb5⟩;have A5:=(G5 A4).next hb5;obtain⟨a0,a1,a2,a3,a4,a5,a6⟩:w5.cell? ⟨W.heap.size+1,0,FX⟩=FZ (.int .i64 0)/\w5.cell? ⟨W.heap.size+1,1,FX⟩=FZ (.int .i64 0)/\w5.cell? ⟨W.heap.size+1,2,FX⟩=FZ (.int .i64 0)/\w5.cell? ⟨W.heap.size+1,3,FX⟩=FZ (.string ⟨#[]⟩)/\w5.cell? ⟨W.heap.size+1,4,FX⟩=FZ (.string ⟨#[]⟩)/\w5.cell? ⟨W.heap.size+1,5,FX⟩=FZ (.int .i64 0)/\w5.cell? ⟨W.heap.size+1,6,FX⟩=FZ (.int .i64 0):=⟨A5.c0,A5.c1,A5.c2,A5.c3,A5.c4,A5.c5,A5.c6⟩;have f0:=A5.f 0;have f1:=A5.f 1;have f2:=A5.f 2;have f3:=A5.f 3;have f4:=A5.f 4;have f5:=A5.f 5;have f6:=A5.f 6;generalize hXX:AK2 _ _ _=X at*;generalize hEE:fM _ _ _=E at*;have HXX:=G6 hXX;have HEE:=G6 hEE;clear hXX hEE;have B5:=G6 (OW X (G8 (G5 B4) hb5) (show W.heap.size<=W.heap.size+1 by omega));clear A5 hb5 B4 A4 Q4 G4 CP;unfold put7 at B5;go_wp2_with fail;exact bodyPost_ret (v:=.tuple #[.agg #[.int .i64 X.z,.int .i64 X.o,.int .i64 X.s,.string ⟨X.p.toArray⟩,.string ⟨X.d.toArray⟩,.int .i64 X.v,.int .i64 X.w],.int .i64 E]) (by simp[results,results60,go_sem,a0,a1,a2,a3,a4,a5,a6]) rfl ⟨by rw[G5 HXX,G5 HEE];rfl,G5 B5⟩
structure Off(f:Nat->FV)(p:Pw)(g:Nat):Prop where
 d:∀i,i<3->(svP i (p.s i)).fs≠[]->UJ (f (1+10*i+1)) g
 l:∀i,i<3->(svP i (p.s i)).ts≠[]->UJ (f (1+10*i+4)) g
 n:∀i,i<3->(svP i (p.s i)).tr.ns≠[]->UJ (f (1+10*i+7)) g
 i:∀i,i<3->(svP i (p.s i)).tr.ss≠[]->UJ (f (1+10*i+8)) g
 w:∀i,i<3->(svP i (p.s i)).ws≠[]->UJ (f (1+10*i+9)) g
 c:∀i,i<16->(p.c i).es≠[]->UJ (f (34+3*i+2)) g
 a:p.D≠[]->UJ (f 82) g
def WXO(W:FU)(k:Nat)(p:Pw)(v:FV):Prop:=∃f,WB W k f/\WdR W k f p/\∀g,v.ownBlock=FZ g->Off f p g
theorem WXO.x(h:WXO W k p v):WX W k p:=by
 obtain⟨f,h1,h2,_⟩:=h;exact⟨f,h1,h2⟩
theorem A70{f:Nat->FV}(h:WdR W k f p)(hg:W.heap.size<=g):Off f p g:=
 ⟨fun i hi h0=>(Row.new (h.s i hi).d.1 hg).2 h0,fun i hi h0=>(Row.new (h.s i hi).l.1 hg).2 h0,fun i hi h0=>(Row.new (h.s i hi).n.1 hg).2 h0,fun i hi h0=>(Row.new (h.s i hi).i.1 hg).2 h0,fun i hi h0=>(Row.new (h.s i hi).w.1 hg).2 h0,fun i hi h0=>(Row.new (h.c i hi).e.1 hg).2 h0,fun h0=>(Row.new h.d.1 hg).2 h0⟩
theorem WX.off(h:WX W k p):WXO W k p (N0):=by
 obtain⟨f,h1,h2⟩:=h;exact⟨f,h1,h2,fun g hg=>by simp[Value.ownBlock]at hg⟩
theorem WXO.far(h:WXO W k p v)(hv:v.ownBlock=FZ g)(hk:k≠g)(ht:Touch (· =g) W V):WXO V k p v:=by
 obtain⟨f,hb,hr,ho⟩:=h;have o:=ho g hv;refine⟨f,hb.touch ht hk,⟨hr.n,fun i hi=>?_,hr.r,fun i hi=>⟨(hr.c i hi).s,(hr.c i hi).z,(hr.c i hi).e.far ht (o.c i hi)⟩,hr.d.far ht o.a,hr.h,hr.hk⟩,ho⟩;have s:=hr.s i hi;exact⟨s.up,s.d.far ht (o.d i hi),s.id,s.ep,s.l.far ht (o.l i hi),s.dn,s.z,s.n.far ht (o.n i hi),s.i.far ht (o.i i hi),s.w.far ht (o.w i hi)⟩
theorem WXO.next(h:WXO W k p v)(hb:B0 W V):WXO V k p v:=by
 obtain⟨f,h1,h2,h3⟩:=h;exact⟨f,h1.next hb,h2.next hb,h3⟩
theorem WXO.grown{v':FV}(h:WXO W k p v)(hk:∀g,v.ownBlock=FZ g->k≠g)(hg:W.grownBy V v.ownBlock)(hn:∀g,v'.ownBlock=FZ g->v.ownBlock=FZ g\/W.heap.size<=g):WXO V k p v':=by
 have h1:WXO V k p v/\∀f,WB W k f->WdR W k f p->∀g,W.heap.size<=g->Off f p g:=⟨by
  cases e:v.ownBlock with
  |none=>exact h.next (by rw[e]at hg;exact⟨hg.os,hg.tape,hg.output,hg.size,fun b hb=>hg.block b hb (by simp)⟩)
  |some g=>exact h.far e (hk g e) ⟨hg.os,hg.tape,hg.output,hg.size,fun b hb hne=>hg.block b hb (by rw[e];intro e';exact hne (BN e'))⟩,fun f _ hr g hg=>A70 hr hg⟩
 obtain⟨f,hb,hr,ho⟩:=h;obtain⟨f1,hb1,hr1,ho1⟩:=h1.1;have ef:∀j,j<83->f1 j=f j:=fun j hj=>by
  have c1:=hb1.cell hj;have c2:=hb.cell hj;have:V.cell? ⟨k,j,FX⟩=W.cell? ⟨k,j,FX⟩:=by
   rw[World.cell?,World.cell?,hg.block k hb.lt (fun e=>hk k e.symm rfl)]
  rw[this,c2]at c1;exact(BN c1).symm
 refine⟨f1,hb1,hr1,fun g hg'=>?_⟩;rcases hn g hg' with e|e
 .exact ho1 g e
 .have o:=A70 hr e;exact⟨fun i hi h0=>by rw[ef _ (by omega)];exact o.d i hi h0,fun i hi h0=>by rw[ef _ (by omega)];exact o.l i hi h0,fun i hi h0=>by rw[ef _ (by omega)];exact o.n i hi h0,fun i hi h0=>by rw[ef _ (by omega)];exact o.i i hi h0,fun i hi h0=>by rw[ef _ (by omega)];exact o.w i hi h0,fun i hi h0=>by rw[ef _ (by omega)];exact o.c i hi h0,fun h0=>by rw[ef _ (by omega)];exact o.a h0⟩
structure Fr5(B:Nat)(vd vl vn vs vw:FV):Prop where
 d:∀g,g<B->UJ vd g
 l:∀g,g<B->UJ vl g
 n:∀g,g<B->UJ vn g
 i:∀g,g<B->UJ vs g
 w:∀g,g<B->UJ vw g
theorem WXO.pV(h:WXO W k p v)(hi:i<3){q:Ps}{s:Sv}(hq:svP i q=s)(hv:SvV W (.agg #[.bool s.up,vd,I0 s.id,I0 s.ep,vl,I0 s.dn,I0 s.tr.z,vn,vs,vw]) s)(hf:Fr5 B vd vl vn vs vw)(hk:k<B)(hg:∀g,v.ownBlock=FZ g->g<B):
  WXO (zN W k (1+10*i) (.bool s.up) vd (I0 s.id) (I0 s.ep) vl (I0 s.dn) (I0 s.tr.z) vn vs vw) k ⟨p.n,LU p.s i q,p.r,p.c,p.D,p.H,p.h⟩ v:=by
 obtain⟨f,hb,hr,ho⟩:=h;have hA:SvA W k (CG2 (.bool s.up) vd (I0 s.id) (I0 s.ep) vl (I0 s.dn) (I0 s.tr.z) vn vs vw) s:=SvA.of (hr.gW hb) hv (fun _=>hf.i k hk) rfl rfl rfl rfl rfl rfl rfl rfl rfl rfl;refine⟨_,hb.zN (o:=1+10*i) (by omega) _ _ _ _ _ _ _ _ _ _,WdR.touch (W:=W) ?_ (Y7 _ _ _ _ _ _ _ _ _ _ _ _ _),fun g e=>?_⟩
 .refine⟨by rw[JC (by omega)];exact hr.n,fun j hj=>?_,fun j hj=>by rw[JC (by omega)];exact hr.r j hj,fun j hj=>(hr.c j hj).congr fun q hq=>by rw[JC (by omega)],by rw[JC (by omega)];exact hr.d,fun j hj h0=>?_,hr.hk⟩
  .by_cases e:j=i
   .subst e;simp only[IG,hq];exact hA.congr fun q hq=>by rw[O8 hq]
   .simp only[GH _ _ e];exact(hr.s j hj).congr fun q hq=>by rw[JC (by omega)]
  .by_cases e:j=i
   .subst e;rw[O8 (by omega)];exact fun b hb=>hf.i b (Nat.lt_of_le_of_lt (BM hb hr.hk) hk)
   .simp only[GH _ _ e]at h0;rw[JC (by omega)];exact hr.h j hj h0
 .have o:=ho g e;have hgB:=hg g e;refine⟨fun j hj h0=>?_,fun j hj h0=>?_,fun j hj h0=>?_,fun j hj h0=>?_,fun j hj h0=>?_,fun j hj h0=>by rw[JC (by omega)];exact o.c j hj h0,fun h0=>by rw[JC (by omega)];exact o.a h0⟩
  all_goals
   by_cases e:j=i
   .subst e;rw[O8 (by omega)]
    first|exact hf.d g hgB|exact hf.l g hgB|exact hf.n g hgB|exact hf.i g hgB|exact hf.w g hgB
   .rw[JC (by omega)];simp only[GH _ _ e]at h0
    first|exact o.d j hj h0|exact o.l j hj h0|exact o.n j hj h0|exact o.i j hj h0|exact o.w j hj h0
def CC0(w:FU)(s:Sv)(T:List Nt)(e:Ending)(w':FU):Prop:=
 ∃ad nd cd al cl an cn ai ci aw cw aN cN,e=.returned (.tuple #[.agg #[.bool s.up,FQ ad nd cd,I0 s.id,I0 s.ep,FQ al s.ts.length cl,I0 s.dn,I0 s.tr.z,FQ an s.tr.ns.length cn,FQ ai s.tr.ss.length ci,FQ aw s.ws.length cw],FQ aN T.length cN,I0 0])/\
  Hid (SvV w' (.agg #[.bool s.up,FQ ad nd cd,I0 s.id,I0 s.ep,FQ al s.ts.length cl,I0 s.dn,I0 s.tr.z,FQ an s.tr.ns.length cn,FQ ai s.tr.ss.length ci,FQ aw s.ws.length cw]) s/\Fr5 w.heap.size (FQ ad nd cd) (FQ al s.ts.length cl) (FQ an s.tr.ns.length cn) (FQ ai s.tr.ss.length ci) (FQ aw s.ws.length cw)/\IU w' (FQ aN T.length cN) T/\∀g,g<w.heap.size->UJ (FQ aN T.length cN) g)/\B0 w w'
theorem BT0{w':FU}{s:Sv}{T:List Nt}{e:Ending}(h:lG w s T 0 e w')(hf:FrS w e):CC0 w s T e w':=by
 obtain⟨v,aN,cN,rfl,hs,hn,hb⟩:=h;obtain⟨ad,nd,cd,al,cl,an,cn,ai,ci,aw,cw,rfl,_⟩:=hs.five;obtain⟨f8,f1,f4,f7,f9,fy⟩:=hf _ _ _ _ _ _ _ _ _ _ _ _ rfl;exact⟨ad,nd,cd,al,cl,an,cn,ai,ci,aw,cw,aN,cN,rfl,G6 ⟨hs,⟨fun g hg=>LJ f1 hg,fun g hg=>LJ f4 hg,fun g hg=>LJ f7 hg,fun g hg=>LJ f8 hg,fun g hg=>LJ f9 hg⟩,hn,fun g hg=>LJ fy hg⟩,hb⟩
theorem yU:∀ (l:List Nat) (s:Nat->Ps) (i:Nat),LV s (l++[i])=(LU (LV s l).1 i (gX i ((LV s l).1 i)),(LV s l).2++(dM i ((LV s l).1 i)).2)
 |[],s,i=>by simp[LV]
 |j::l,s,i=>by
  show ((LV (LU s j (gX j (s j))) (l++[i])).1,(dM j (s j)).2++(LV (LU s j (gX j (s j))) (l++[i])).2)=_;rw[yU l _ i];simp[LV]
theorem tC:∀ (l:List Nat) (s:Nat->Ps),l.Nodup->(∀i∈l,(s i).up=true)->(∀i∈l,((s i).ws.length:Int)<=300)->(LV s l).2.length<=l.length*300
 |[],s,_,_,_=>by simp[LV]
 |j::l,s,hn,hu,hw=>by
  obtain⟨h1,h2⟩:=List.nodup_cons.1 hn;have hj:=(B76 (i:=j) (hu j (by simp))).2.1;have hwj:=hw j (by simp);have same:∀i∈l,LU s j (gX j (s j)) i=s i:=fun i hi=>GH _ _ (by rintro rfl;exact h1 hi);have ih:=tC l (LU s j (gX j (s j))) h2 (fun i hi=>by rw[same i hi];exact hu i (by simp[hi])) (fun i hi=>by rw[same i hi];exact hw i (by simp[hi]));show ((dM j (s j)).2++_).length<=_;rw[AO,List.length_cons];omega
theorem AR2(W:FU)(ty:TypeId)(B:Nat)(v u:FV)(N T:List Nt)(hv:GZ W B v N)(hu:IU W u T)(hl:(N.length+T.length)*32<=140737488355328)(hB:B<=W.heap.size):
  ∃v' w',(Builtin.append_ #[35,35] ty #[v,u]).run prog W=.ok v' w'/\GZ w' B v' (N++T)/\W.grownBy w' v.ownBlock/\∀g,v'.ownBlock=FZ g->v.ownBlock=FZ g\/W.heap.size<=g:=by
 obtain⟨i0,hi0,hz0,hz1,hz2⟩:=AZ1;have main:∀ (a:Addr) (c:Nat),(∀j x,(G9 T)[j]?=FZ x->W.cell? (a.add j)=FZ x)->∃v' w',(Builtin.append_ #[35,35] ty #[v,FQ (FZ a) T.length c]).run prog W=.ok v' w'/\GZ w' B v' (N++T)/\W.grownBy w' v.ownBlock/\∀g,v'.ownBlock=FZ g->v.ownBlock=FZ g\/W.heap.size<=g:=fun a c hc=>by
  obtain⟨v',w',h1,h2,h3,_,h5⟩:=run_append_own_at (P:=prog) W B 35 ty 252 i0 _ 3 32 underlying35 hi0 hz0 hz1 hz2 rfl (by decide) v N.length (G9 N) hv.row a T.length c (G9 T) (GX T) hc (JL T) (by simp only[maxLen];omega) hl hB;refine⟨v',w',h1,GZ.LD (by rw[AO,H8];exact h2),h3,fun g hg=>?_⟩;rcases h5 with e|e
  .rw[e]at hg;exact .inl hg
  .rw[e]at hg;simp only[BD]at hg;exact .inr (by omega)
 rcases hu with⟨a,cap,rfl,rfl,_⟩|⟨b,off,cap,rfl,_,_,_,_,hr⟩
 .cases a with
  |some a=>exact main a cap (fun j x hj=>by simp[G9]at hj)
  |none=>
   refine⟨v,W,?_,by rw[List.append_nil];exact hv,⟨rfl,rfl,rfl,A8 _,fun _ _ _=>rfl⟩,fun g hg=>.inl hg⟩;have hown:=hv.row;rcases hown.2 with⟨rfl,_⟩|⟨g,cap',cur,rfl,_,_,hnc,_⟩
   .simp[Builtin.append_,run_underlying underlying35,sizeOf,typeInfo,hi0,Builtin.lenOf,Builtin.firstCells]
   .simp[Builtin.append_,run_underlying underlying35,sizeOf,typeInfo,hi0,Builtin.lenOf,Builtin.firstCells,hnc,storeCells]
 .exact main ⟨b,off,FX⟩ cap (fun j x hj=>by rw[Addr.add_lit];exact hr j x hj)
theorem tH{w:FU}{ops:Array Oper}{rest:List Oper}{o:Oper}{a:Act}{Q:Exit->Act->FU->Prop}(hgd:o.guard=FX)(s x:Operand)
  (ho:o.op=.call {callee:=.builtin .append,args:=#[s,x],argTypes:=#[35,35]})
  (B:Nat) (v u:FV) (N T:List Nt) (hs:a.eval s=v) (hx:a.eval x=u) (hv:GZ w B v N) (hu:IU w u T) (hl:(N.length+T.length)*32<=140737488355328) (hB:B<=w.heap.size)
  (h:∀a' c' w',GZ w' B (FQ a' (N++T).length c') (N++T)->w.grownBy w' v.ownBlock->(∀g,(Value.slice a' (N++T).length c').ownBlock=FZ g->v.ownBlock=FZ g\/w.heap.size<=g)->wpList prog ops Q rest (a.put o.dst (FQ a' (N++T).length c')) w'):wpList prog ops Q (o::rest) a w:=by
 refine wpList_plain hgd fun K hK=>?_;obtain⟨v',w',hr,h2,h3,h4⟩:=AR2 w o.type B v u N T hv hu hl hB;obtain⟨a',c',rfl⟩:=IY h2;unfold Oper.wp execOp;simp only[ho,resolve,invoke,builtin,DX,EM,DY,List.map_toArray,List.map_cons,List.map_nil,hs,hx,hr];exact hK _ _ (h a' c' w' h2 h3 h4)
noncomputable def spS(p:Pw)(d:Dd)(j:Nat):Nat->Ps:=fun k=>if k<j then wSv p d k else p.s k
def spR(p:Pw)(d:Dd)(j:Nat):Nat->Int:=fun k=>if k<j then wRo p d k else p.r k
def spL(p:Pw)(d:Dd)(j:Nat):List Int:=(([0,1,2].take j).filter fun i=>wS p d i).map fun i:Nat=>(i:Int)
section
variable {p:Pw} {d:Dd} {j:Nat}
theorem B98:spS p d 0=p.s/\spR p d 0=p.r:=by constructor<;>funext k<;>simp[spS,spR]
theorem BZ8(h:wT p d j=false):spS p d (j+1)=spS p d j:=by
 funext k
 unfold spS;by_cases e:k=j
 .subst e;rw[if_pos (by omega),if_neg (by omega),wSv,if_neg (by simp[h])]
 .simp only[show (k<j+1)↔(k<j) by omega]
theorem CC1(h:wT p d j=true):spS p d (j+1)=LU (spS p d j) j (TA (wX p d) (wS p d j) (p.s j)):=by
 funext k
 unfold spS LU;by_cases e:k=j
 .subst e;rw[if_pos (by omega),if_pos rfl,wSv,if_pos h]
 .rw[if_neg e];simp only[show (k<j+1)↔(k<j) by omega]
theorem CO7:spS p d j j=p.s j:=by rw[spS,if_neg (by omega)]
theorem CO8:spR p d j j=p.r j:=by rw[spR,if_neg (by omega)]
theorem CO9(h:wT p d j=false):spR p d (j+1)=LU (spR p d j) j 0:=by
 funext k
 unfold spR LU;by_cases e:k=j
 .subst e;rw[if_pos (by omega),if_pos rfl,wRo,if_neg (by simp[h])]
 .rw[if_neg e];simp only[show (k<j+1)↔(k<j) by omega]
theorem AH4(h:wRo p d j=p.r j):spR p d (j+1)=spR p d j:=by
 funext k
 unfold spR;by_cases e:k=j
 .subst e;rw[if_pos (by omega),if_neg (by omega),h]
 .simp only[show (k<j+1)↔(k<j) by omega]
theorem CC3(hj:j<3)(h:wS p d j=true):spL p d (j+1)=spL p d j++[(j:Int)]:=by
 rcases(show j=0\/j=1\/j=2 by omega)with rfl|rfl|rfl<;>simp[spL,List.filter_cons,h]<;>(repeat' split)<;>simp
theorem B99(hj:j<3)(h:wS p d j=false):spL p d (j+1)=spL p d j:=by
 rcases(show j=0\/j=1\/j=2 by omega)with rfl|rfl|rfl<;>simp[spL,List.filter_cons,h]
theorem CC4:(spL p d j).length<=3:=by
 rw[spL,List.length_map];exact BM (List.length_filter_le _ _) (by simp;omega)
theorem BZ9(i:Nat)(hi:i<3):spS p d 3 i=wSv p d i/\spR p d 3 i=wRo p d i:=by rw[spS,spR,if_pos hi,if_pos hi];exact⟨rfl,rfl⟩
theorem CC5:spL p d 3=(wL p d).map fun i:Nat=>(i:Int):=rfl
theorem CC6(h:p.r j=0):wT p d j=false/\wS p d j=false:=by simp[wS,wT,h]
theorem CC7(h:p.r j=1)(hb:zL d.lo j=true):wT p d j=false/\wS p d j=false:=by simp[wS,wT,h,hb]
theorem dG(h:p.r j=1)(hb:zL d.lo j=false):wT p d j=true/\wS p d j= !zL d.sl j:=by simp[wS,wT,h,hb]
theorem BA0(h:p.r j=2):wT p d j=true/\wS p d j=true:=by simp[wS,wT,h]
theorem CP0(h:wT p d j=false):wRo p d j=0:=by rw[wRo,if_neg (by simp[h])]
theorem CC8(h:wT p d j=true):wRo p d j=p.r j:=by rw[wRo,if_pos h]
end
theorem WX.CP1(h:WX W k p){r:Nat->Int}(hs:∀i,i<3->p.s i=s i)(hr:∀i,i<3->p.r i=r i):WX W k ⟨p.n,s,r,p.c,p.D,p.H,p.h⟩:=by
 obtain⟨f,hb,h⟩:=h;exact⟨f,hb,h.n,fun i hi=>by show SvA W k _ (svP i (s i));rw[<-hs i hi];exact h.s i hi,fun i hi=>by show f (31+i)=I0 (r i);rw[<-hr i hi];exact h.r i hi,h.c,h.d,fun i hi h0=>h.h i hi (by rw[hs i hi];exact h0),h.hk⟩
theorem WX.hist(h:WX W k p)(H:List GI):WX W k ⟨p.n,p.s,p.r,p.c,p.D,H,p.h⟩:=by
 obtain⟨f,hb,h⟩:=h;exact⟨f,hb,h.n,h.s,h.r,h.c,h.d,h.h,h.hk⟩
theorem WXO.VR(h:WXO W k p v)(hi:i<3)(x:Int):WXO (W.setCell ⟨k,31+i,FX⟩ (I0 x)) k ⟨p.n,p.s,LU p.r i x,p.c,p.D,p.H,p.h⟩ v:=by
 obtain⟨f,hb,hr,ho⟩:=h;refine⟨_,hb.set (j:=31+i) (by omega) _,WdR.touch (W:=W) ?_ (JJ _ _ _ _),fun g e=>?_⟩
 .refine⟨by rw[GH _ _ (by omega)];exact hr.n,fun j hj=>(hr.s j hj).congr fun q hq=>by rw[GH _ _ (by omega)],fun j hj=>?_,fun j hj=>(hr.c j hj).congr fun q hq=>by rw[GH _ _ (by omega)],by rw[GH _ _ (by omega)];exact hr.d,fun j hj h0=>by rw[GH _ _ (by omega)];exact hr.h j hj h0,hr.hk⟩;by_cases e:j=i
  .subst e;rw[IG];simp only[IG]
  .rw[GH _ _ (by omega)];simp only[GH _ _ e];exact hr.r j hj
 .have o:=ho g e;exact⟨fun j hj h0=>by rw[GH _ _ (by omega)];exact o.d j hj h0,fun j hj h0=>by rw[GH _ _ (by omega)];exact o.l j hj h0,fun j hj h0=>by rw[GH _ _ (by omega)];exact o.n j hj h0,fun j hj h0=>by rw[GH _ _ (by omega)];exact o.i j hj h0,fun j hj h0=>by rw[GH _ _ (by omega)];exact o.w j hj h0,fun j hj h0=>by rw[GH _ _ (by omega)];exact o.c j hj h0,fun h0=>by rw[GH _ _ (by omega)];exact o.a h0⟩
def BA1(w:FU)(s:Sv)(E:Int)(e:Ending)(w':FU):Prop:=
 ∃ad nd cd al cl an cn ai ci aw cw,e=.returned (.tuple #[.agg #[.bool s.up,FQ ad nd cd,I0 s.id,I0 s.ep,FQ al s.ts.length cl,I0 s.dn,I0 s.tr.z,FQ an s.tr.ns.length cn,FQ ai s.tr.ss.length ci,FQ aw s.ws.length cw],I0 E])/\
  Hid (SvV w' (.agg #[.bool s.up,FQ ad nd cd,I0 s.id,I0 s.ep,FQ al s.ts.length cl,I0 s.dn,I0 s.tr.z,FQ an s.tr.ns.length cn,FQ ai s.tr.ss.length ci,FQ aw s.ws.length cw]) s/\Fr5 w.heap.size (FQ ad nd cd) (FQ al s.ts.length cl) (FQ an s.tr.ns.length cn) (FQ ai s.tr.ss.length ci) (FQ aw s.ws.length cw))/\B0 w w'
theorem BT1{w':FU}{s:Sv}{E:Int}{e:Ending}(h:fA w s E e w')(hf:FrT w e):BA1 w s E e w':=by
 obtain⟨ad,nd,cd,al,nl,cl,an,nn,cn,ai,ni,ci,aw,nw,cw,rfl,hs,hb⟩:=h;obtain⟨hv,h8⟩:=G5 hs;obtain⟨f1,f4,f7,f9⟩:=hf _ _ _ _ _ _ _ _ _ _ _ rfl;obtain⟨ad',nd',cd',al',cl',an',cn',ai',ci',aw',cw',e5,_⟩:=hv.five;simp only[EK,F5,EC,Value.slice.injEq,true_and,and_true]at e5;obtain⟨⟨rfl,rfl,rfl⟩,⟨rfl,rfl,rfl⟩,⟨rfl,rfl,rfl⟩,⟨rfl,rfl,rfl⟩,rfl,rfl,rfl⟩:=e5;exact⟨_,_,_,_,_,_,_,_,_,_,_,rfl,G6 ⟨hv,⟨fun g hg=>LJ f1 hg,fun g hg=>LJ f4 hg,fun g hg=>LJ f7 hg,fun g hg=>LJ h8 hg,fun g hg=>LJ f9 hg⟩⟩,hb⟩
theorem yV{α:Type}[Lay α]{w:FU}{ops:Array Oper}{rest:List Oper}{o:Oper}{a:Act}{Q:Exit->Act->FU->Prop}(hgd:o.guard=FX)(s x:Operand)(T:TypeId)
  (ho:o.op=.call {callee:=.builtin .append,args:=#[s,x],argTypes:=#[T,T]})
  (i0:TypeInfo) (z:FV) (bytes:Nat) (hU:prog.underlying T=FZ (.slice (Lay.ty α))) (hi0:prog.info? (Lay.ty α)=FZ i0) (hz0:i0.zero=FZ z) (hz1:i0.size=Lay.k α) (hz2:i0.bytes=bytes) (hzs:z.cells.size=Lay.k α) (hk0:0<Lay.k α)
  (v:FV) (ns:List α) (hs:a.eval s=v) (B:Nat) (hown:GZ w B v ns) (q:Nat) (hx:a.eval x=FQ (FZ ⟨q,0,FX⟩) 1 1) (t:α) (hnews:JF w q t) (hl:(ns.length+1)*bytes<=140737488355328) (hm:ns.length+1<=maxLen) (hB:B<=w.heap.size)
  (h:∀a' c' w',GZ w' B (FQ a' (ns.length+1) c') (ns++[t])->w.grownBy w' v.ownBlock->(∀g,(Value.slice a' (ns.length+1) c').ownBlock=FZ g->v.ownBlock=FZ g\/w.heap.size<=g)->wpList prog ops Q rest (a.put o.dst (FQ a' (ns.length+1) c')) w'):
  wpList prog ops Q (o::rest) a w:=by
 refine wpList_plain hgd fun K hK=>?_;obtain⟨v',w',hr,h2,h3,_,h5⟩:=run_append_own_at (P:=prog) w B T o.type (Lay.ty α) i0 z (Lay.k α) bytes hU hi0 hz0 hz1 hz2 hzs hk0 v ns.length (G9 ns) hown.row ⟨q,0,FX⟩ 1 1 (Lay.cs t) (by rw[Lay.len,Nat.one_mul]) (RS hnews) (Lay.one t) hm hl hB;have h2':GZ w' B v' (ns++[t]):=GZ.LD (by rw[AO,JE];exact h2);have h6:∀g,v'.ownBlock=FZ g->v.ownBlock=FZ g\/w.heap.size<=g:=fun g hg=>by
  rcases h5 with e|e
  .rw[e]at hg;exact .inl hg
  .rw[e]at hg;simp only[BD]at hg;exact .inr (by omega)
 obtain⟨a',c',rfl,_⟩:=h2'.slice;rw[AO,List.length_singleton]at h2' hr h6;unfold Oper.wp execOp;simp only[ho,resolve,invoke,builtin,DX,EM,DY,List.map_toArray,List.map_cons,List.map_nil,hs,hx,hr];exact hK _ _ (h a' c' w' h2' h3 h6)
theorem CC9(r:Nat->Int)(m:Nat)(hm:m<3)(u:FU):(Instr.index 81 (.agg #[I0 (r 0),I0 (r 1),I0 (r 2)]) (I0 m)).run prog u=.ok (I0 (r m)) u:=by
 rcases(show m=0\/m=1\/m=2 by omega)with rfl|rfl|rfl<;>kernel_rfl
theorem qC(d:Dd)(W:FU):Calls prog 34 #[ddV d] W (R0 W (I0 (UO d))):=by
 have HB:=G6 (fun o=>G7 W o);have C:=G6 (fun i m V=>yJ i m V);obtain⟨dk,dc,ds,⟨o,s,pp,dd,v,f⟩,lo,sl,ke,wt⟩:=d;unfold ddV;by_cases h1:dk=1
 .subst h1
  cases hc:pU dc 16 with
  |true=>
   rw[show UO ⟨1,dc,ds,⟨o,s,pp,dd,v,f⟩,lo,sl,ke,wt⟩=0 by simp[UO,hc]];go_enter func34,ntmps34;go_wp2_with fail;refine(G5 C _ _ _).mono ?_;rintro e w1 ⟨rfl,rfl⟩;simp only[hc];go_wp2_with fail;go_ret;exact⟨rfl,G5 HB _⟩
  |false=>
   rw[show UO ⟨1,dc,ds,⟨o,s,pp,dd,v,f⟩,lo,sl,ke,wt⟩=3 by simp[UO,hc]];go_enter func34,ntmps34;go_wp2_with fail;refine(G5 C _ _ _).mono ?_;rintro e w1 ⟨rfl,rfl⟩;simp only[hc];go_wp2_with fail;go_ret;exact⟨rfl,G5 HB _⟩
 .by_cases h2:dk=2
  .subst h2
   cases hc:pU dc 16 with
   |true=>
    cases hs:pU ds 3 with
    |true=>
     rw[show UO ⟨2,dc,ds,⟨o,s,pp,dd,v,f⟩,lo,sl,ke,wt⟩=0 by simp[UO,hc,hs]];go_enter func34,ntmps34;go_wp2_with fail;refine(G5 C _ _ _).mono ?_;rintro e w1 ⟨rfl,rfl⟩;simp only[hc];go_wp2_with fail;refine(G5 C _ _ _).mono ?_;rintro e w1 ⟨rfl,rfl⟩;simp only[hs];go_wp2_with fail;go_ret;exact⟨rfl,G5 HB _⟩
    |false=>
     rw[show UO ⟨2,dc,ds,⟨o,s,pp,dd,v,f⟩,lo,sl,ke,wt⟩=3 by simp[UO,hc,hs]];go_enter func34,ntmps34;go_wp2_with fail;refine(G5 C _ _ _).mono ?_;rintro e w1 ⟨rfl,rfl⟩;simp only[hc];go_wp2_with fail;refine(G5 C _ _ _).mono ?_;rintro e w1 ⟨rfl,rfl⟩;simp only[hs];go_wp2_with fail;go_ret;exact⟨rfl,G5 HB _⟩
   |false=>
    rw[show UO ⟨2,dc,ds,⟨o,s,pp,dd,v,f⟩,lo,sl,ke,wt⟩=3 by simp[UO,hc]];go_enter func34,ntmps34;go_wp2_with fail;refine(G5 C _ _ _).mono ?_;rintro e w1 ⟨rfl,rfl⟩;simp only[hc];go_wp2_with fail;go_ret;exact⟨rfl,G5 HB _⟩
  .by_cases h3:dk=3\/dk=4
   .rcases h3 with rfl|rfl
    all_goals
     cases hs:pU ds 3 with
     |true=>
      rw[show UO ⟨_,dc,ds,⟨o,s,pp,dd,v,f⟩,lo,sl,ke,wt⟩=0 by simp[UO,hs]];go_enter func34,ntmps34;go_wp2_with fail;refine(G5 C _ _ _).mono ?_;rintro e w1 ⟨rfl,rfl⟩;simp only[hs];go_wp2_with fail;go_ret;exact⟨rfl,G5 HB _⟩
     |false=>
      rw[show UO ⟨_,dc,ds,⟨o,s,pp,dd,v,f⟩,lo,sl,ke,wt⟩=3 by simp[UO,hs]];go_enter func34,ntmps34;go_wp2_with fail;refine(G5 C _ _ _).mono ?_;rintro e w1 ⟨rfl,rfl⟩;simp only[hs];go_wp2_with fail;go_ret;exact⟨rfl,G5 HB _⟩
   .by_cases h5:dk=5
    .subst h5;rw[show UO ⟨5,dc,ds,⟨o,s,pp,dd,v,f⟩,lo,sl,ke,wt⟩=0 by simp[UO]];go_enter func34,ntmps34;go_wp2_with fail;go_ret;exact⟨rfl,G5 HB _⟩
    .have h33:¬dk=3:=fun e=>h3 (.inl e);have h34:¬dk=4:=fun e=>h3 (.inr e);rw[show UO ⟨dk,dc,ds,⟨o,s,pp,dd,v,f⟩,lo,sl,ke,wt⟩=4 by simp[UO,h1,h2,h33,h34,h5]];clear h3;go_enter func34,ntmps34;go_wp2_with fail;go_ret;exact⟨rfl,G5 HB _⟩
theorem BT2(n:Int):bits .and .i64 n 1=n%2:=by
 show IntKind.i64.wrap ((BitVec.ofInt 64 n&&&BitVec.ofInt 64 1).toNat:Int)=_;rw[BitVec.toNat_and,show (BitVec.ofInt 64 1).toNat=1 by decide,Nat.and_one_is_mod,BitVec.toNat_ofInt,IntKind.wrap_i64];omega
theorem CD0(n:Int)(i:Nat)(hi:i<3)(w:FU):Calls prog 93 #[I0 n,I0 i] w fun e w'=>e=.returned (.bool (zL n i))/\w'=w:=by
 have e:∀m:Int,(bits .and .i64 m 1==1)=decide (m%2=1):=fun m=>by rw[BT2];rfl
 have E:=G6 e;clear e;unfold zL;rcases(show i=0\/i=1\/i=2 by omega)with rfl|rfl|rfl
 .go_enter func93,ntmps93;go_wp2_with fail;go_ret;exact⟨by show Ending.returned (.bool (bits .and .i64 n 1==1))=_;rw[G5 E,show n/2^0=n by simp],rfl⟩
 .go_enter func93,ntmps93;go_wp2_with fail;go_ret;exact⟨by show Ending.returned (.bool (bits .and .i64 (n/2) 1==1))=_;rw[G5 E];rfl,rfl⟩
 .go_enter func93,ntmps93;go_wp2_with fail;go_ret;exact⟨by show Ending.returned (.bool (bits .and .i64 (n/4) 1==1))=_;rw[G5 E];rfl,rfl⟩
structure BT3(w W:FU)(q:Nat)(n:Nd):Prop where
 b:B0 w W
 le:w.heap.size<=q
 one:JF W q n
theorem AH5(p d:List UInt8)(c m q v k o n:Int)(hb:B0 w W):BT3 w (W.alloc (FT #[S0 p,S0 d,I0 c,I0 m,I0 q,I0 v,I0 k,I0 o,I0 n] 49)) W.heap.size ⟨p,d,c,m,q,v,k,o,n⟩:=
 ⟨G8 hb (G7 _ _),hb.size,rU W ⟨p,d,c,m,q,v,k,o,n⟩⟩
theorem tJ{b:Nat}(p d:List UInt8)(c m q v k o n:Int)(hb:B0 w W)(hq:w.heap.size<=b)(hz:JF W b WI):
  BT3 w (((((((((W.setCell ⟨b,0,FX⟩ (S0 p)).setCell ⟨b,1,FX⟩ (S0 d)).setCell ⟨b,2,FX⟩ (I0 c)).setCell ⟨b,3,FX⟩ (I0 m)).setCell ⟨b,4,FX⟩ (I0 q)).setCell ⟨b,5,FX⟩ (I0 v)).setCell ⟨b,6,FX⟩ (I0 k)).setCell ⟨b,7,FX⟩ (I0 o)).setCell ⟨b,8,FX⟩ (I0 n)) b ⟨p,d,c,m,q,v,k,o,n⟩:=by
 refine⟨((((((((hb.setCell hq _).setCell hq _).setCell hq _).setCell hq _).setCell hq _).setCell hq _).setCell hq _).setCell hq _).setCell hq _,hq,?_⟩;have h0:W.heap[b]?=FZ (FT #[.string ⟨#[]⟩,.string ⟨#[]⟩,I0 0,I0 0,I0 0,I0 0,I0 0,I0 0,I0 0] 49 (0,0)):=hz;unfold JF;rw[GL _ (GL _ (GL _ (GL _ (GL _ (GL _ (GL _ (GL _ (GL _ h0))))))))];simp;exact⟨rfl,rfl⟩
theorem tK{q:Nat}(h:JF W q WI):(W.cell? ⟨q,0,FX⟩=FZ (.string ⟨#[]⟩)/\W.cell? ⟨q,1,FX⟩=FZ (.string ⟨#[]⟩)/\W.cell? ⟨q,2,FX⟩=FZ (I0 0)/\W.cell? ⟨q,3,FX⟩=FZ (I0 0)/\W.cell? ⟨q,4,FX⟩=FZ (I0 0)/\W.cell? ⟨q,5,FX⟩=FZ (I0 0)/\W.cell? ⟨q,6,FX⟩=FZ (I0 0)/\W.cell? ⟨q,7,FX⟩=FZ (I0 0)/\W.cell? ⟨q,8,FX⟩=FZ (I0 0))/\W.frozen? ⟨q,0,FX⟩=false/\W.frozen? ⟨q,1,FX⟩=false/\W.frozen? ⟨q,2,FX⟩=false/\W.frozen? ⟨q,3,FX⟩=false/\W.frozen? ⟨q,4,FX⟩=false/\W.frozen? ⟨q,5,FX⟩=false/\W.frozen? ⟨q,6,FX⟩=false/\W.frozen? ⟨q,7,FX⟩=false/\W.frozen? ⟨q,8,FX⟩=false:=
 ⟨⟨h.JI 0 _ rfl,h.JI 1 _ rfl,h.JI 2 _ rfl,h.JI 3 _ rfl,h.JI 4 _ rfl,h.JI 5 _ rfl,h.JI 6 _ rfl,h.JI 7 _ rfl,h.JI 8 _ rfl⟩,h.J7 0,h.J7 1,h.J7 2,h.J7 3,h.J7 4,h.J7 5,h.J7 6,h.J7 7,h.J7 8⟩
structure C02(w W:FU)(q:Nat)(s z:Int)(v:FV)(es:List En):Prop where
 b:B0 w W
 le:w.heap.size<=q
 box:OC W q s z v
 v:IU W v es
theorem AH6{s z:Int}{es:List En}(h:B0 w W)(ho:GZ W B v es):C02 w (W.alloc (FT #[I0 s,I0 z,v] 46)) W.heap.size s z v es:=
 ⟨G8 h (G7 _ _),h.size,OC.new W s z v,(ho.next (G7 _ _)).seq⟩
theorem AH7{v0:FV}{s z:Int}{es:List En}(h:B0 w W)(hk:w.heap.size<=k)(hz:OC W k 0 0 v0)(ho:GZ W B v es)(hB:k<B):C02 w (((W.setCell ⟨k,0,FX⟩ (I0 s)).setCell ⟨k,1,FX⟩ (I0 z)).setCell ⟨k,2,FX⟩ v) k s z v es:=
 ⟨((h.setCell hk _).setCell hk _).setCell hk _,hk,(hz.set0.set1).set2,(((ho.OV hB _).OV hB _).OV hB _).seq⟩
def RI(s z:Nat->Int)(a:Nat->Option Addr)(n c:Nat->Nat):Array FV:=#[I0 (s 0),I0 (z 0),FQ (a 0) (n 0) (c 0),I0 (s 1),I0 (z 1),FQ (a 1) (n 1) (c 1),I0 (s 2),I0 (z 2),FQ (a 2) (n 2) (c 2),I0 (s 3),I0 (z 3),FQ (a 3) (n 3) (c 3),I0 (s 4),I0 (z 4),FQ (a 4) (n 4) (c 4),I0 (s 5),I0 (z 5),FQ (a 5) (n 5) (c 5),I0 (s 6),I0 (z 6),FQ (a 6) (n 6) (c 6),I0 (s 7),I0 (z 7),FQ (a 7) (n 7) (c 7),I0 (s 8),I0 (z 8),FQ (a 8) (n 8) (c 8),I0 (s 9),I0 (z 9),FQ (a 9) (n 9) (c 9),I0 (s 10),I0 (z 10),FQ (a 10) (n 10) (c 10),I0 (s 11),I0 (z 11),FQ (a 11) (n 11) (c 11),I0 (s 12),I0 (z 12),FQ (a 12) (n 12) (c 12),I0 (s 13),I0 (z 13),FQ (a 13) (n 13) (c 13),I0 (s 14),I0 (z 14),FQ (a 14) (n 14) (c 14),I0 (s 15),I0 (z 15),FQ (a 15) (n 15) (c 15)]
theorem ix_0(s z:Nat->Int)(a:Nat->Option Addr)(n c:Nat->Nat):∀u:FU,(Instr.index 82 (.agg (RI s z a n c)) (I0 0)).run prog u=.ok (.agg #[I0 (s 0),I0 (z 0),FQ (a 0) (n 0) (c 0)]) u:=fun _=>by kernel_rfl
theorem ix_1(s z:Nat->Int)(a:Nat->Option Addr)(n c:Nat->Nat):∀u:FU,(Instr.index 82 (.agg (RI s z a n c)) (I0 1)).run prog u=.ok (.agg #[I0 (s 1),I0 (z 1),FQ (a 1) (n 1) (c 1)]) u:=fun _=>by kernel_rfl
theorem ix_2(s z:Nat->Int)(a:Nat->Option Addr)(n c:Nat->Nat):∀u:FU,(Instr.index 82 (.agg (RI s z a n c)) (I0 2)).run prog u=.ok (.agg #[I0 (s 2),I0 (z 2),FQ (a 2) (n 2) (c 2)]) u:=fun _=>by kernel_rfl
theorem ix_3(s z:Nat->Int)(a:Nat->Option Addr)(n c:Nat->Nat):∀u:FU,(Instr.index 82 (.agg (RI s z a n c)) (I0 3)).run prog u=.ok (.agg #[I0 (s 3),I0 (z 3),FQ (a 3) (n 3) (c 3)]) u:=fun _=>by kernel_rfl
theorem ix_4(s z:Nat->Int)(a:Nat->Option Addr)(n c:Nat->Nat):∀u:FU,(Instr.index 82 (.agg (RI s z a n c)) (I0 4)).run prog u=.ok (.agg #[I0 (s 4),I0 (z 4),FQ (a 4) (n 4) (c 4)]) u:=fun _=>by kernel_rfl
theorem ix_5(s z:Nat->Int)(a:Nat->Option Addr)(n c:Nat->Nat):∀u:FU,(Instr.index 82 (.agg (RI s z a n c)) (I0 5)).run prog u=.ok (.agg #[I0 (s 5),I0 (z 5),FQ (a 5) (n 5) (c 5)]) u:=fun _=>by kernel_rfl
theorem ix_6(s z:Nat->Int)(a:Nat->Option Addr)(n c:Nat->Nat):∀u:FU,(Instr.index 82 (.agg (RI s z a n c)) (I0 6)).run prog u=.ok (.agg #[I0 (s 6),I0 (z 6),FQ (a 6) (n 6) (c 6)]) u:=fun _=>by kernel_rfl
theorem ix_7(s z:Nat->Int)(a:Nat->Option Addr)(n c:Nat->Nat):∀u:FU,(Instr.index 82 (.agg (RI s z a n c)) (I0 7)).run prog u=.ok (.agg #[I0 (s 7),I0 (z 7),FQ (a 7) (n 7) (c 7)]) u:=fun _=>by kernel_rfl
theorem ix_8(s z:Nat->Int)(a:Nat->Option Addr)(n c:Nat->Nat):∀u:FU,(Instr.index 82 (.agg (RI s z a n c)) (I0 8)).run prog u=.ok (.agg #[I0 (s 8),I0 (z 8),FQ (a 8) (n 8) (c 8)]) u:=fun _=>by kernel_rfl
theorem ix_9(s z:Nat->Int)(a:Nat->Option Addr)(n c:Nat->Nat):∀u:FU,(Instr.index 82 (.agg (RI s z a n c)) (I0 9)).run prog u=.ok (.agg #[I0 (s 9),I0 (z 9),FQ (a 9) (n 9) (c 9)]) u:=fun _=>by kernel_rfl
theorem CX0(s z:Nat->Int)(a:Nat->Option Addr)(n c:Nat->Nat):∀u:FU,(Instr.index 82 (.agg (RI s z a n c)) (I0 10)).run prog u=.ok (.agg #[I0 (s 10),I0 (z 10),FQ (a 10) (n 10) (c 10)]) u:=fun _=>by kernel_rfl
theorem CX1(s z:Nat->Int)(a:Nat->Option Addr)(n c:Nat->Nat):∀u:FU,(Instr.index 82 (.agg (RI s z a n c)) (I0 11)).run prog u=.ok (.agg #[I0 (s 11),I0 (z 11),FQ (a 11) (n 11) (c 11)]) u:=fun _=>by kernel_rfl
theorem CX2(s z:Nat->Int)(a:Nat->Option Addr)(n c:Nat->Nat):∀u:FU,(Instr.index 82 (.agg (RI s z a n c)) (I0 12)).run prog u=.ok (.agg #[I0 (s 12),I0 (z 12),FQ (a 12) (n 12) (c 12)]) u:=fun _=>by kernel_rfl
theorem CX3(s z:Nat->Int)(a:Nat->Option Addr)(n c:Nat->Nat):∀u:FU,(Instr.index 82 (.agg (RI s z a n c)) (I0 13)).run prog u=.ok (.agg #[I0 (s 13),I0 (z 13),FQ (a 13) (n 13) (c 13)]) u:=fun _=>by kernel_rfl
theorem CX4(s z:Nat->Int)(a:Nat->Option Addr)(n c:Nat->Nat):∀u:FU,(Instr.index 82 (.agg (RI s z a n c)) (I0 14)).run prog u=.ok (.agg #[I0 (s 14),I0 (z 14),FQ (a 14) (n 14) (c 14)]) u:=fun _=>by kernel_rfl
theorem CX5(s z:Nat->Int)(a:Nat->Option Addr)(n c:Nat->Nat):∀u:FU,(Instr.index 82 (.agg (RI s z a n c)) (I0 15)).run prog u=.ok (.agg #[I0 (s 15),I0 (z 15),FQ (a 15) (n 15) (c 15)]) u:=fun _=>by kernel_rfl
theorem CP8(s z:Nat->Int)(a:Nat->Option Addr)(n c:Nat->Nat)(m:Nat)(hm:m<16)(u:FU):(Instr.index 82 (.agg (RI s z a n c)) (I0 m)).run prog u=.ok (.agg #[I0 (s m),I0 (z m),FQ (a m) (n m) (c m)]) u:=by
 rcases(show m=0\/m=1\/m=2\/m=3\/m=4\/m=5\/m=6\/m=7\/m=8\/m=9\/m=10\/m=11\/m=12\/m=13\/m=14\/m=15 by omega)with rfl|rfl|rfl|rfl|rfl|rfl|rfl|rfl|rfl|rfl|rfl|rfl|rfl|rfl|rfl|rfl
 .exact ix_0 s z a n c u
 .exact ix_1 s z a n c u
 .exact ix_2 s z a n c u
 .exact ix_3 s z a n c u
 .exact ix_4 s z a n c u
 .exact ix_5 s z a n c u
 .exact ix_6 s z a n c u
 .exact ix_7 s z a n c u
 .exact ix_8 s z a n c u
 .exact ix_9 s z a n c u
 .exact CX0 s z a n c u
 .exact CX1 s z a n c u
 .exact CX2 s z a n c u
 .exact CX3 s z a n c u
 .exact CX4 s z a n c u
 .exact CX5 s z a n c u
theorem WX.BT9(h:WX W k p){c:Nat->Cl}(he:∀i,i<16->p.c i=c i):WX W k ⟨p.n,p.s,p.r,c,p.D,p.H,p.h⟩:=by
 obtain⟨f,hb,hr⟩:=h;exact⟨f,hb,hr.n,hr.s,hr.r,fun i hi=>by have:=hr.c i hi;rw[he i hi]at this;exact this,hr.d,hr.h,hr.hk⟩
def tN(c:Nat->Cl)(l:List Nt)(m:Nat):Nat->Cl:=fun i=>if i<m then ZW c l i else c i
theorem BB1(c:Nat->Cl)(l:List Nt)(hi:i<16):tN c l 16 i=ZW c l i:=by rw[tN,if_pos hi]
theorem qG(c:Nat->Cl)(l:List Nt)(m i:Nat):LU (tN c l m) m ⟨(c m).s,(c m).z,UN (c m).s l (c m).es⟩ i=tN c l (m+1) i:=by
 by_cases e:i=m
 .subst e;rw[IG,tN,if_pos (by omega)];rfl
 .rw[GH _ _ e,tN,tN];by_cases h:i<m
  .rw[if_pos h,if_pos (by omega)]
  .rw[if_neg h,if_neg (by omega)]
structure TlI(W wr wx:FU)(k:Nat)(p:Pw)(R1:Nat->Ps)(NN:List Nt)(vn:FV)(m:Nat):Prop where
 x:WX wx k ⟨p.n,R1,p.r,tN p.c NN m,p.D,p.H,p.h⟩
 n:GZ wx W.heap.size vn NN
 t:Touch (· =k) W wx
 r:Touch (· =k) wr wx
theorem BU0(s z:Nat->Int)(a:Nat->Option Addr)(n c:Nat->Nat)(m:Nat)(hm:m<16):(RI s z a n c)[3*m]?=FZ (I0 (s m))/\(RI s z a n c)[3*m+1]?=FZ (I0 (z m))/\(RI s z a n c)[3*m+2]?=FZ (FQ (a m) (n m) (c m)):=by
 rcases(show m=0\/m=1\/m=2\/m=3\/m=4\/m=5\/m=6\/m=7\/m=8\/m=9\/m=10\/m=11\/m=12\/m=13\/m=14\/m=15 by omega)with rfl|rfl|rfl|rfl|rfl|rfl|rfl|rfl|rfl|rfl|rfl|rfl|rfl|rfl|rfl|rfl<;>exact⟨rfl,rfl,rfl⟩
theorem AR9(w:FU)(k:Nat)(s z:Nat->Int)(a:Nat->Option Addr)(n c:Nat->Nat)(hc:∀m,m<16->w.cell? ⟨k,34+3*m,FX⟩=FZ (I0 (s m))/\w.cell? ⟨k,34+3*m+1,FX⟩=FZ (I0 (z m))/\w.cell? ⟨k,34+3*m+2,FX⟩=FZ (FQ (a m) (n m) (c m))):
  (Instr.loadAt 82 (.pointer (FZ ⟨k,34,FX⟩))).run prog w=.ok (.agg (RI s z a n c)) w:=by
 have hl:=run_loadCells_list (P:=prog) (w:=w) ⟨k,34,FX⟩ (RI s z a n c).toList (fun j v hj=>by
  have hj48:j<48:=by
   have:=(AU.1 hj).1;simpa [RI]using this
  rw[Array.getElem?_toList]at hj;have h:=BU0 s z a n c (j/3) (by omega);have hw:=hc (j/3) (by omega);rw[Addr.add_lit];show w.cell? ⟨k,34+j,FX⟩=FZ v;rcases(show j=3*(j/3)\/j=3*(j/3)+1\/j=3*(j/3)+2 by omega)with e|e|e
  .rw[e]at hj⊢;rw[h.1]at hj;rw[<-hj];exact hw.1
  .rw[e]at hj⊢;rw[h.2.1]at hj;rw[<-hj,<-EI];exact hw.2.1
  .rw[e]at hj⊢;rw[h.2.2]at hj;rw[<-hj,<-EI];exact hw.2.2)
 have h48:(RI s z a n c).toList.length=48:=rfl;rw[h48]at hl;simp only[Instr.loadAt,Instr.sureAddr,DX,EM,Result.andThen];unfold loadVar;simp only[DX,isAgg82,sizeOf82,Result.andThen,if_true];rw[hl];rfl
theorem tV{w:FU}{ops:Array Oper}{rest:List Oper}{o:Oper}{a:Act}{Q:Exit->Act->FU->Prop}(hgd:o.guard=FX)(x:Operand)(ho:o.op=.load 82 x)(k:Nat)(s z:Nat->Int)(ad:Nat->Option Addr)(n c:Nat->Nat)
  (hx:a.eval x=.pointer (FZ ⟨k,34,FX⟩)) (hc:∀m,m<16->w.cell? ⟨k,34+3*m,FX⟩=FZ (I0 (s m))/\w.cell? ⟨k,34+3*m+1,FX⟩=FZ (I0 (z m))/\w.cell? ⟨k,34+3*m+2,FX⟩=FZ (FQ (ad m) (n m) (c m)))
  (h:wpList prog ops Q rest (a.put o.dst (.agg (RI s z ad n c))) w):wpList prog ops Q (o::rest) a w:=by
 refine wpList_plain hgd fun K hK=>?_;have hr:=AR9 w k s z ad n c hc;unfold Oper.wp execOp;simp only[ho,DX,EM,DY,hx,hr];exact hK _ _ h
