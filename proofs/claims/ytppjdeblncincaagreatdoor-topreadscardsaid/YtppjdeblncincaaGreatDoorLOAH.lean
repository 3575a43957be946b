/-
  Part.
-/
import Derived.Test.YtppjdeblncincaaGreatDoorLOAF
import Derived.Test.YtppjdeblncincaaGreatDoorLOAG
set_option maxRecDepth 20000
set_option maxHeartbeats 8000000
namespace Go.Proofs.YtppjdeblncincaaGreatDoor
open Go.RowKit Go.Proofs.Tryz
open _root_.List renaming length_append->AP
open _root_.Option.some renaming injEq->BF,inj->BP
open Go.Sem renaming run_bind->EC,run_pure->EO
open Go.Result renaming andThen_ok->EG
open Go.Value renaming slice->FU
open Go renaming World->FW,Value->FX
open _root_.Option renaming none->G5,some->G6
variable{W V w:FW}{k i B:Nat}{p:Pw}{v:FX}{s:Sv}
structure Off(f:Nat->FX)(p:Pw)(g:Nat):Prop where
 d:∀i,i<3->(svP i (p.s i)).fs≠[]->V7 (f (1+10*i+1)) g
 l:∀i,i<3->(svP i (p.s i)).ts≠[]->V7 (f (1+10*i+4)) g
 n:∀i,i<3->(svP i (p.s i)).tr.ns≠[]->V7 (f (1+10*i+7)) g
 i:∀i,i<3->(svP i (p.s i)).tr.ss≠[]->V7 (f (1+10*i+8)) g
 w:∀i,i<3->(svP i (p.s i)).ws≠[]->V7 (f (1+10*i+9)) g
 c:∀i,i<16->(p.c i).es≠[]->V7 (f (34+3*i+2)) g
 a:p.D≠[]->V7 (f 82) g
def WXO(W:FW)(k:Nat)(p:Pw)(v:FX):Prop:=∃f,WB W k f/\WdR W k f p/\∀g,v.ownBlock=G6 g->Off f p g
theorem WXO.x(h:WXO W k p v):WX W k p:=by
 obtain⟨f,h1,h2,_⟩:=h;exact⟨f,h1,h2⟩
theorem A57{f:Nat->FX}(h:WdR W k f p){g:Nat}(hg:W.heap.size<=g):Off f p g:=
 ⟨fun i hi h0=>(Row.new (h.s i hi).d.1 hg).2 h0,fun i hi h0=>(Row.new (h.s i hi).l.1 hg).2 h0,fun i hi h0=>(Row.new (h.s i hi).n.1 hg).2 h0,fun i hi h0=>(Row.new (h.s i hi).i.1 hg).2 h0,fun i hi h0=>(Row.new (h.s i hi).w.1 hg).2 h0,fun i hi h0=>(Row.new (h.c i hi).e.1 hg).2 h0,fun h0=>(Row.new h.d.1 hg).2 h0⟩
theorem WX.off(h:WX W k p):WXO W k p (N0):=by
 obtain⟨f,h1,h2⟩:=h;exact⟨f,h1,h2,fun g hg=>by simp[Value.ownBlock]at hg⟩
theorem WXO.far{g:Nat}(h:WXO W k p v)(hv:v.ownBlock=G6 g)(hk:k≠g)(ht:Touch (· =g) W V):WXO V k p v:=by
 obtain⟨f,hb,hr,ho⟩:=h;have o:=ho g hv;refine⟨f,hb.touch ht hk,⟨hr.n,fun i hi=>?_,hr.r,fun i hi=>⟨(hr.c i hi).s,(hr.c i hi).z,(hr.c i hi).e.far ht (o.c i hi)⟩,hr.d.far ht o.a,hr.h,hr.hk⟩,ho⟩;have s:=hr.s i hi;exact⟨s.up,s.d.far ht (o.d i hi),s.id,s.ep,s.l.far ht (o.l i hi),s.dn,s.z,s.n.far ht (o.n i hi),s.i.far ht (o.i i hi),s.w.far ht (o.w i hi)⟩
theorem WXO.next(h:WXO W k p v)(hb:B0 W V):WXO V k p v:=by
 obtain⟨f,h1,h2,h3⟩:=h;exact⟨f,h1.next hb,h2.next hb,h3⟩
theorem WXO.grown{v':FX}(h:WXO W k p v)(hk:∀g,v.ownBlock=G6 g->k≠g)(hg:W.grownBy V v.ownBlock)(hn:∀g,v'.ownBlock=G6 g->v.ownBlock=G6 g\/W.heap.size<=g):WXO V k p v':=by
 have h1:WXO V k p v/\∀f,WB W k f->WdR W k f p->∀g,W.heap.size<=g->Off f p g:=⟨by
  cases e:v.ownBlock with
  |none=>exact h.next (by rw[e]at hg;exact⟨hg.os,hg.tape,hg.output,hg.size,fun b hb=>hg.block b hb (by simp)⟩)
  |some g=>exact h.far e (hk g e) ⟨hg.os,hg.tape,hg.output,hg.size,fun b hb hne=>hg.block b hb (by rw[e];intro e';exact hne (BP e'))⟩,fun f _ hr g hg=>A57 hr hg⟩
 obtain⟨f,hb,hr,ho⟩:=h;obtain⟨f1,hb1,hr1,ho1⟩:=h1.1;have ef:∀j,j<83->f1 j=f j:=fun j hj=>by
  have c1:=hb1.cell hj;have c2:=hb.cell hj;have:V.cell? ⟨k,j,G5⟩=W.cell? ⟨k,j,G5⟩:=by
   rw[World.cell?,World.cell?,hg.block k hb.lt (fun e=>hk k e.symm rfl)]
  rw[this,c2]at c1;exact(BP c1).symm
 refine⟨f1,hb1,hr1,fun g hg'=>?_⟩;rcases hn g hg' with e|e
 .exact ho1 g e
 .have o:=A57 hr e;exact⟨fun i hi h0=>by rw[ef _ (by omega)];exact o.d i hi h0,fun i hi h0=>by rw[ef _ (by omega)];exact o.l i hi h0,fun i hi h0=>by rw[ef _ (by omega)];exact o.n i hi h0,fun i hi h0=>by rw[ef _ (by omega)];exact o.i i hi h0,fun i hi h0=>by rw[ef _ (by omega)];exact o.w i hi h0,fun i hi h0=>by rw[ef _ (by omega)];exact o.c i hi h0,fun h0=>by rw[ef _ (by omega)];exact o.a h0⟩
structure Fr5(B:Nat)(vd vl vn vs vw:FX):Prop where
 d:∀g,g<B->V7 vd g
 l:∀g,g<B->V7 vl g
 n:∀g,g<B->V7 vn g
 i:∀g,g<B->V7 vs g
 w:∀g,g<B->V7 vw g
theorem WXO.pF(h:WXO W k p v)(hi:i<3){q:Ps}{vd vl vn vs vw:FX}(hq:svP i q=s)(hv:SvV W (.agg #[.bool s.up,vd,I0 s.id,I0 s.ep,vl,I0 s.dn,I0 s.tr.z,vn,vs,vw]) s)(hf:Fr5 B vd vl vn vs vw)(hk:k<B)(hg:∀g,v.ownBlock=G6 g->g<B):
  WXO (oZ W k (1+10*i) (.bool s.up) vd (I0 s.id) (I0 s.ep) vl (I0 s.dn) (I0 s.tr.z) vn vs vw) k ⟨p.n,LP p.s i q,p.r,p.c,p.D,p.H,p.h⟩ v:=by
 obtain⟨f,hb,hr,ho⟩:=h;have hA:SvA W k (CF5 (.bool s.up) vd (I0 s.id) (I0 s.ep) vl (I0 s.dn) (I0 s.tr.z) vn vs vw) s:=SvA.of (hr.gU hb) hv (fun _=>hf.i k hk) rfl rfl rfl rfl rfl rfl rfl rfl rfl rfl;refine⟨_,hb.oZ (o:=1+10*i) (by omega) _ _ _ _ _ _ _ _ _ _,WdR.touch (W:=W) ?_ (VZ _ _ _ _ _ _ _ _ _ _ _ _ _),fun g e=>?_⟩
 .refine⟨by rw[JF (by omega)];exact hr.n,fun j hj=>?_,fun j hj=>by rw[JF (by omega)];exact hr.r j hj,fun j hj=>(hr.c j hj).congr fun q hq=>by rw[JF (by omega)],by rw[JF (by omega)];exact hr.d,fun j hj h0=>?_,hr.hk⟩
  .by_cases e:j=i
   .subst e;simp only[II,hq];exact hA.congr fun q hq=>by rw[O7 hq]
   .simp only[GL _ _ e];exact(hr.s j hj).congr fun q hq=>by rw[JF (by omega)]
  .by_cases e:j=i
   .subst e;rw[O7 (by omega)];exact fun b hb=>hf.i b (Nat.lt_of_le_of_lt (Nat.le_trans hb hr.hk) hk)
   .simp only[GL _ _ e]at h0;rw[JF (by omega)];exact hr.h j hj h0
 .have o:=ho g e;have hgB:=hg g e;refine⟨fun j hj h0=>?_,fun j hj h0=>?_,fun j hj h0=>?_,fun j hj h0=>?_,fun j hj h0=>?_,fun j hj h0=>by rw[JF (by omega)];exact o.c j hj h0,fun h0=>by rw[JF (by omega)];exact o.a h0⟩
  all_goals
   by_cases e:j=i
   .subst e;rw[O7 (by omega)]
    first|exact hf.d g hgB|exact hf.l g hgB|exact hf.n g hgB|exact hf.i g hgB|exact hf.w g hgB
   .rw[JF (by omega)];simp only[GL _ _ e]at h0
    first|exact o.d j hj h0|exact o.l j hj h0|exact o.n j hj h0|exact o.i j hj h0|exact o.w j hj h0
def CC6(w:FW)(s:Sv)(T:List Nt)(e:Ending)(w':FW):Prop:=
 ∃ad nd cd al cl an cn ai ci aw cw aN cN,e=.returned (.tuple #[.agg #[.bool s.up,FU ad nd cd,I0 s.id,I0 s.ep,FU al s.ts.length cl,I0 s.dn,I0 s.tr.z,FU an s.tr.ns.length cn,FU ai s.tr.ss.length ci,FU aw s.ws.length cw],FU aN T.length cN,I0 0])/\
  Hid (SvV w' (.agg #[.bool s.up,FU ad nd cd,I0 s.id,I0 s.ep,FU al s.ts.length cl,I0 s.dn,I0 s.tr.z,FU an s.tr.ns.length cn,FU ai s.tr.ss.length ci,FU aw s.ws.length cw]) s/\Fr5 w.heap.size (FU ad nd cd) (FU al s.ts.length cl) (FU an s.tr.ns.length cn) (FU ai s.tr.ss.length ci) (FU aw s.ws.length cw)/\IL w' (FU aN T.length cN) T/\∀g,g<w.heap.size->V7 (FU aN T.length cN) g)/\B0 w w'
theorem BT2{w':FW}{T:List Nt}{e:Ending}(h:kU w s T 0 e w')(hf:FrS w e):CC6 w s T e w':=by
 obtain⟨v,aN,cN,rfl,hs,hn,hb⟩:=h;obtain⟨ad,nd,cd,al,cl,an,cn,ai,ci,aw,cw,rfl,_⟩:=hs.five;obtain⟨f8,f1,f4,f7,f9,fy⟩:=hf _ _ _ _ _ _ _ _ _ _ _ _ rfl;exact⟨ad,nd,cd,al,cl,an,cn,ai,ci,aw,cw,aN,cN,rfl,G8 ⟨hs,⟨fun g hg=>LG f1 hg,fun g hg=>LG f4 hg,fun g hg=>LG f7 hg,fun g hg=>LG f8 hg,fun g hg=>LG f9 hg⟩,hn,fun g hg=>LG fy hg⟩,hb⟩
theorem yF:∀ (l:List Nat) (s:Nat->Ps) (i:Nat),ML s (l++[i])=(LP (ML s l).1 i (iL i ((ML s l).1 i)),(ML s l).2++(dI i ((ML s l).1 i)).2)
 |[],s,i=>by simp[ML]
 |j::l,s,i=>by
  show ((ML (LP s j (iL j (s j))) (l++[i])).1,(dI j (s j)).2++(ML (LP s j (iL j (s j))) (l++[i])).2)=_;rw[yF l _ i];simp[ML]
theorem sN:∀ (l:List Nat) (s:Nat->Ps),l.Nodup->(∀i∈l,(s i).up=true)->(∀i∈l,((s i).ws.length:Int)<=300)->(ML s l).2.length<=l.length*300
 |[],s,_,_,_=>by simp[ML]
 |j::l,s,hn,hu,hw=>by
  obtain⟨h1,h2⟩:=List.nodup_cons.1 hn;have hj:=(B79 (i:=j) (hu j (by simp))).2.1;have hwj:=hw j (by simp);have same:∀i∈l,LP s j (iL j (s j)) i=s i:=fun i hi=>GL _ _ (by rintro rfl;exact h1 hi);have ih:=sN l (LP s j (iL j (s j))) h2 (fun i hi=>by rw[same i hi];exact hu i (by simp[hi])) (fun i hi=>by rw[same i hi];exact hw i (by simp[hi]));show ((dI j (s j)).2++_).length<=_;rw[AP,List.length_cons];omega
theorem AP7(W:FW)(ty:TypeId)(B:Nat)(v u:FX)(N T:List Nt)(hv:GZ W B v N)(hu:IL W u T)(hl:(N.length+T.length)*32<=140737488355328)(hB:B<=W.heap.size):
  ∃v' w',(Builtin.append_ #[51,51] ty #[v,u]).run prog W=.ok v' w'/\GZ w' B v' (N++T)/\W.grownBy w' v.ownBlock/\∀g,v'.ownBlock=G6 g->v.ownBlock=G6 g\/W.heap.size<=g:=by
 obtain⟨i0,hi0,hz0,hz1,hz2⟩:=AY2;have main:∀ (a:Addr) (c:Nat),(∀j x,(GI T)[j]?=G6 x->W.cell? (a.add j)=G6 x)->∃v' w',(Builtin.append_ #[51,51] ty #[v,FU (G6 a) T.length c]).run prog W=.ok v' w'/\GZ w' B v' (N++T)/\W.grownBy w' v.ownBlock/\∀g,v'.ownBlock=G6 g->v.ownBlock=G6 g\/W.heap.size<=g:=fun a c hc=>by
  obtain⟨v',w',h1,h2,h3,_,h5⟩:=run_append_own_at (P:=prog) W B 51 ty 76 i0 _ 3 32 underlying51 hi0 hz0 hz1 hz2 rfl (by decide) v N.length (GI N) hv.row a T.length c (GI T) (H6 T) hc (JO T) (by simp only[maxLen];omega) hl hB;refine⟨v',w',h1,GZ.L9 (by rw[AP,I5];exact h2),h3,fun g hg=>?_⟩;rcases h5 with e|e
  .rw[e]at hg;exact .inl hg
  .rw[e]at hg;simp only[BF]at hg;exact .inr (by omega)
 rcases hu with⟨a,cap,rfl,rfl,_⟩|⟨b,off,cap,rfl,_,_,_,_,hr⟩
 .cases a with
  |some a=>exact main a cap (fun j x hj=>by simp[GI]at hj)
  |none=>
   refine⟨v,W,?_,by rw[List.append_nil];exact hv,⟨rfl,rfl,rfl,Nat.le_refl _,fun _ _ _=>rfl⟩,fun g hg=>.inl hg⟩;have hown:=hv.row;rcases hown.2 with⟨rfl,_⟩|⟨g,cap',cur,rfl,_,_,hnc,_⟩
   .simp[Builtin.append_,run_underlying underlying51,sizeOf,typeInfo,hi0,Builtin.lenOf,Builtin.firstCells]
   .simp[Builtin.append_,run_underlying underlying51,sizeOf,typeInfo,hi0,Builtin.lenOf,Builtin.firstCells,hnc,storeCells]
 .exact main ⟨b,off,G5⟩ cap (fun j x hj=>by rw[Addr.add_lit];exact hr j x hj)
theorem sO{w:FW}{ops:Array Oper}{rest:List Oper}{o:Oper}{a:Act}{Q:Exit->Act->FW->Prop}(hgd:o.guard=G5)(s x:Operand)
  (ho:o.op=.call {callee:=.builtin .append,args:=#[s,x],argTypes:=#[51,51]})
  (B:Nat) (v u:FX) (N T:List Nt) (hs:a.eval s=v) (hx:a.eval x=u) (hv:GZ w B v N) (hu:IL w u T) (hl:(N.length+T.length)*32<=140737488355328) (hB:B<=w.heap.size)
  (h:∀a' c' w',GZ w' B (FU a' (N++T).length c') (N++T)->w.grownBy w' v.ownBlock->(∀g,(Value.slice a' (N++T).length c').ownBlock=G6 g->v.ownBlock=G6 g\/w.heap.size<=g)->wpList prog ops Q rest (a.put o.dst (FU a' (N++T).length c')) w'):wpList prog ops Q (o::rest) a w:=by
 refine wpList_plain hgd fun K hK=>?_;obtain⟨v',w',hr,h2,h3,h4⟩:=AP7 w o.type B v u N T hv hu hl hB;obtain⟨a',c',rfl⟩:=IU h2;unfold Oper.wp execOp;simp only[ho,resolve,invoke,builtin,EC,EO,EG,List.map_toArray,List.map_cons,List.map_nil,hs,hx,hr];exact hK _ _ (h a' c' w' h2 h3 h4)
noncomputable def spS(p:Pw)(d:Dd)(j:Nat):Nat->Ps:=fun k=>if k<j then wSv p d k else p.s k
def spR(p:Pw)(d:Dd)(j:Nat):Nat->Int:=fun k=>if k<j then wRo p d k else p.r k
def spL(p:Pw)(d:Dd)(j:Nat):List Int:=(([0,1,2].take j).filter fun i=>wS p d i).map fun i:Nat=>(i:Int)
section
variable {p:Pw} {d:Dd} {j:Nat}
theorem BA5:spS p d 0=p.s/\spR p d 0=p.r:=by constructor<;>funext k<;>simp[spS,spR]
theorem BZ2(h:wT p d j=false):spS p d (j+1)=spS p d j:=by
 funext k
 unfold spS;by_cases e:k=j
 .subst e;rw[if_pos (by omega),if_neg (by omega),wSv,if_neg (by simp[h])]
 .simp only[show (k<j+1)↔(k<j) by omega]
theorem CC7(h:wT p d j=true):spS p d (j+1)=LP (spS p d j) j (TK (wX p d) (wS p d j) (p.s j)):=by
 funext k
 unfold spS LP;by_cases e:k=j
 .subst e;rw[if_pos (by omega),if_pos rfl,wSv,if_pos h]
 .rw[if_neg e];simp only[show (k<j+1)↔(k<j) by omega]
theorem CO6:spS p d j j=p.s j:=by rw[spS,if_neg (by omega)]
theorem CO7:spR p d j j=p.r j:=by rw[spR,if_neg (by omega)]
theorem CO8(h:wT p d j=false):spR p d (j+1)=LP (spR p d j) j 0:=by
 funext k
 unfold spR LP;by_cases e:k=j
 .subst e;rw[if_pos (by omega),if_pos rfl,wRo,if_neg (by simp[h])]
 .rw[if_neg e];simp only[show (k<j+1)↔(k<j) by omega]
theorem AF3(h:wRo p d j=p.r j):spR p d (j+1)=spR p d j:=by
 funext k
 unfold spR;by_cases e:k=j
 .subst e;rw[if_pos (by omega),if_neg (by omega),h]
 .simp only[show (k<j+1)↔(k<j) by omega]
theorem CC8(hj:j<3)(h:wS p d j=true):spL p d (j+1)=spL p d j++[(j:Int)]:=by
 rcases(show j=0\/j=1\/j=2 by omega)with rfl|rfl|rfl<;>simp[spL,List.filter_cons,h]<;>(repeat' split)<;>simp
theorem BA6(hj:j<3)(h:wS p d j=false):spL p d (j+1)=spL p d j:=by
 rcases(show j=0\/j=1\/j=2 by omega)with rfl|rfl|rfl<;>simp[spL,List.filter_cons,h]
theorem CC9:(spL p d j).length<=3:=by
 rw[spL,List.length_map];exact Nat.le_trans (List.length_filter_le _ _) (by simp;omega)
theorem BZ3(i:Nat)(hi:i<3):spS p d 3 i=wSv p d i/\spR p d 3 i=wRo p d i:=by rw[spS,spR,if_pos hi,if_pos hi];exact⟨rfl,rfl⟩
theorem CD0:spL p d 3=(wL p d).map fun i:Nat=>(i:Int):=rfl
theorem CD1(h:p.r j=0):wT p d j=false/\wS p d j=false:=by simp[wS,wT,h]
theorem CD2(h:p.r j=1)(hb:AD0 d.lo j=true):wT p d j=false/\wS p d j=false:=by simp[wS,wT,h,hb]
theorem dB(h:p.r j=1)(hb:AD0 d.lo j=false):wT p d j=true/\wS p d j= !AD0 d.sl j:=by simp[wS,wT,h,hb]
theorem BA7(h:p.r j=2):wT p d j=true/\wS p d j=true:=by simp[wS,wT,h]
theorem CO9(h:wT p d j=false):wRo p d j=0:=by rw[wRo,if_neg (by simp[h])]
theorem CD3(h:wT p d j=true):wRo p d j=p.r j:=by rw[wRo,if_pos h]
end
theorem WX.CP0(h:WX W k p){s:Nat->Ps}{r:Nat->Int}(hs:∀i,i<3->p.s i=s i)(hr:∀i,i<3->p.r i=r i):WX W k ⟨p.n,s,r,p.c,p.D,p.H,p.h⟩:=by
 obtain⟨f,hb,h⟩:=h;exact⟨f,hb,h.n,fun i hi=>by show SvA W k _ (svP i (s i));rw[<-hs i hi];exact h.s i hi,fun i hi=>by show f (31+i)=I0 (r i);rw[<-hr i hi];exact h.r i hi,h.c,h.d,fun i hi h0=>h.h i hi (by rw[hs i hi];exact h0),h.hk⟩
theorem WX.hist(h:WX W k p)(H:List GN):WX W k ⟨p.n,p.s,p.r,p.c,p.D,H,p.h⟩:=by
 obtain⟨f,hb,h⟩:=h;exact⟨f,hb,h.n,h.s,h.r,h.c,h.d,h.h,h.hk⟩
theorem WXO.VQ(h:WXO W k p v)(hi:i<3)(x:Int):WXO (W.setCell ⟨k,31+i,G5⟩ (I0 x)) k ⟨p.n,p.s,LP p.r i x,p.c,p.D,p.H,p.h⟩ v:=by
 obtain⟨f,hb,hr,ho⟩:=h;refine⟨_,hb.set (j:=31+i) (by omega) _,WdR.touch (W:=W) ?_ (JK _ _ _ _),fun g e=>?_⟩
 .refine⟨by rw[GL _ _ (by omega)];exact hr.n,fun j hj=>(hr.s j hj).congr fun q hq=>by rw[GL _ _ (by omega)],fun j hj=>?_,fun j hj=>(hr.c j hj).congr fun q hq=>by rw[GL _ _ (by omega)],by rw[GL _ _ (by omega)];exact hr.d,fun j hj h0=>by rw[GL _ _ (by omega)];exact hr.h j hj h0,hr.hk⟩;by_cases e:j=i
  .subst e;rw[II];simp only[II]
  .rw[GL _ _ (by omega)];simp only[GL _ _ e];exact hr.r j hj
 .have o:=ho g e;exact⟨fun j hj h0=>by rw[GL _ _ (by omega)];exact o.d j hj h0,fun j hj h0=>by rw[GL _ _ (by omega)];exact o.l j hj h0,fun j hj h0=>by rw[GL _ _ (by omega)];exact o.n j hj h0,fun j hj h0=>by rw[GL _ _ (by omega)];exact o.i j hj h0,fun j hj h0=>by rw[GL _ _ (by omega)];exact o.w j hj h0,fun j hj h0=>by rw[GL _ _ (by omega)];exact o.c j hj h0,fun h0=>by rw[GL _ _ (by omega)];exact o.a h0⟩
def BA8(w:FW)(s:Sv)(E:Int)(e:Ending)(w':FW):Prop:=
 ∃ad nd cd al cl an cn ai ci aw cw,e=.returned (.tuple #[.agg #[.bool s.up,FU ad nd cd,I0 s.id,I0 s.ep,FU al s.ts.length cl,I0 s.dn,I0 s.tr.z,FU an s.tr.ns.length cn,FU ai s.tr.ss.length ci,FU aw s.ws.length cw],I0 E])/\
  Hid (SvV w' (.agg #[.bool s.up,FU ad nd cd,I0 s.id,I0 s.ep,FU al s.ts.length cl,I0 s.dn,I0 s.tr.z,FU an s.tr.ns.length cn,FU ai s.tr.ss.length ci,FU aw s.ws.length cw]) s/\Fr5 w.heap.size (FU ad nd cd) (FU al s.ts.length cl) (FU an s.tr.ns.length cn) (FU ai s.tr.ss.length ci) (FU aw s.ws.length cw))/\B0 w w'
theorem BT3{w':FW}{E:Int}{e:Ending}(h:eP w s E e w')(hf:FrT w e):BA8 w s E e w':=by
 obtain⟨ad,nd,cd,al,nl,cl,an,nn,cn,ai,ni,ci,aw,nw,cw,rfl,hs,hb⟩:=h;obtain⟨hv,h8⟩:=G7 hs;obtain⟨f1,f4,f7,f9⟩:=hf _ _ _ _ _ _ _ _ _ _ _ rfl;obtain⟨ad',nd',cd',al',cl',an',cn',ai',ci',aw',cw',e5,_⟩:=hv.five;simp only[Value.agg.injEq,Array.mk.injEq,List.cons.injEq,Value.slice.injEq,true_and,and_true]at e5;obtain⟨⟨rfl,rfl,rfl⟩,⟨rfl,rfl,rfl⟩,⟨rfl,rfl,rfl⟩,⟨rfl,rfl,rfl⟩,rfl,rfl,rfl⟩:=e5;exact⟨_,_,_,_,_,_,_,_,_,_,_,rfl,G8 ⟨hv,⟨fun g hg=>LG f1 hg,fun g hg=>LG f4 hg,fun g hg=>LG f7 hg,fun g hg=>LG h8 hg,fun g hg=>LG f9 hg⟩⟩,hb⟩
theorem yG{α:Type}[Lay α]{w:FW}{ops:Array Oper}{rest:List Oper}{o:Oper}{a:Act}{Q:Exit->Act->FW->Prop}(hgd:o.guard=G5)(s x:Operand)(T:TypeId)
  (ho:o.op=.call {callee:=.builtin .append,args:=#[s,x],argTypes:=#[T,T]})
  (i0:TypeInfo) (z:FX) (bytes:Nat) (hU:prog.underlying T=G6 (.slice (Lay.ty α))) (hi0:prog.info? (Lay.ty α)=G6 i0) (hz0:i0.zero=G6 z) (hz1:i0.size=Lay.k α) (hz2:i0.bytes=bytes) (hzs:z.cells.size=Lay.k α) (hk0:0<Lay.k α)
  (v:FX) (ns:List α) (hs:a.eval s=v) (B:Nat) (hown:GZ w B v ns) (q:Nat) (hx:a.eval x=FU (G6 ⟨q,0,G5⟩) 1 1) (t:α) (hnews:JQ w q t) (hl:(ns.length+1)*bytes<=140737488355328) (hm:ns.length+1<=maxLen) (hB:B<=w.heap.size)
  (h:∀a' c' w',GZ w' B (FU a' (ns.length+1) c') (ns++[t])->w.grownBy w' v.ownBlock->(∀g,(Value.slice a' (ns.length+1) c').ownBlock=G6 g->v.ownBlock=G6 g\/w.heap.size<=g)->wpList prog ops Q rest (a.put o.dst (FU a' (ns.length+1) c')) w'):
  wpList prog ops Q (o::rest) a w:=by
 refine wpList_plain hgd fun K hK=>?_;obtain⟨v',w',hr,h2,h3,_,h5⟩:=run_append_own_at (P:=prog) w B T o.type (Lay.ty α) i0 z (Lay.k α) bytes hU hi0 hz0 hz1 hz2 hzs hk0 v ns.length (GI ns) hown.row ⟨q,0,G5⟩ 1 1 (Lay.cs t) (by rw[Lay.len,Nat.one_mul]) (RP hnews) (Lay.one t) hm hl hB;have h2':GZ w' B v' (ns++[t]):=GZ.L9 (by rw[AP,JH];exact h2);have h6:∀g,v'.ownBlock=G6 g->v.ownBlock=G6 g\/w.heap.size<=g:=fun g hg=>by
  rcases h5 with e|e
  .rw[e]at hg;exact .inl hg
  .rw[e]at hg;simp only[BF]at hg;exact .inr (by omega)
 obtain⟨a',c',rfl,_⟩:=h2'.slice;rw[AP,List.length_singleton]at h2' hr h6;unfold Oper.wp execOp;simp only[ho,resolve,invoke,builtin,EC,EO,EG,List.map_toArray,List.map_cons,List.map_nil,hs,hx,hr];exact hK _ _ (h a' c' w' h2' h3 h6)
theorem CD4(r:Nat->Int)(m:Nat)(hm:m<3)(u:FW):(Instr.index 93 (.agg #[I0 (r 0),I0 (r 1),I0 (r 2)]) (I0 m)).run prog u=.ok (I0 (r m)) u:=by
 rcases(show m=0\/m=1\/m=2 by omega)with rfl|rfl|rfl<;>kernel_rfl
theorem pO(d:Dd)(W:FW):Calls prog 24 #[ddV d] W (R0 W (I0 (V9 d))):=by
 have HB:=G8 (fun o=>G9 W o);have C:=G8 (fun i m V=>Y0 i m V);obtain⟨dk,dc,ds,⟨o,s,pp,dd,v,f⟩,lo,sl,ke,wt⟩:=d;unfold ddV;by_cases h1:dk=1
 .subst h1
  cases hc:eY dc 16 with
  |true=>
   rw[show V9 ⟨1,dc,ds,⟨o,s,pp,dd,v,f⟩,lo,sl,ke,wt⟩=0 by simp[V9,hc]];go_enter func24,ntmps24;go_wp2_with fail;refine(G7 C _ _ _).mono ?_;rintro e w1 ⟨rfl,rfl⟩;simp only[hc];go_wp2_with fail;go_ret;exact⟨rfl,G7 HB _⟩
  |false=>
   rw[show V9 ⟨1,dc,ds,⟨o,s,pp,dd,v,f⟩,lo,sl,ke,wt⟩=3 by simp[V9,hc]];go_enter func24,ntmps24;go_wp2_with fail;refine(G7 C _ _ _).mono ?_;rintro e w1 ⟨rfl,rfl⟩;simp only[hc];go_wp2_with fail;go_ret;exact⟨rfl,G7 HB _⟩
 .by_cases h2:dk=2
  .subst h2
   cases hc:eY dc 16 with
   |true=>
    cases hs:eY ds 3 with
    |true=>
     rw[show V9 ⟨2,dc,ds,⟨o,s,pp,dd,v,f⟩,lo,sl,ke,wt⟩=0 by simp[V9,hc,hs]];go_enter func24,ntmps24;go_wp2_with fail;refine(G7 C _ _ _).mono ?_;rintro e w1 ⟨rfl,rfl⟩;simp only[hc];go_wp2_with fail;refine(G7 C _ _ _).mono ?_;rintro e w1 ⟨rfl,rfl⟩;simp only[hs];go_wp2_with fail;go_ret;exact⟨rfl,G7 HB _⟩
    |false=>
     rw[show V9 ⟨2,dc,ds,⟨o,s,pp,dd,v,f⟩,lo,sl,ke,wt⟩=3 by simp[V9,hc,hs]];go_enter func24,ntmps24;go_wp2_with fail;refine(G7 C _ _ _).mono ?_;rintro e w1 ⟨rfl,rfl⟩;simp only[hc];go_wp2_with fail;refine(G7 C _ _ _).mono ?_;rintro e w1 ⟨rfl,rfl⟩;simp only[hs];go_wp2_with fail;go_ret;exact⟨rfl,G7 HB _⟩
   |false=>
    rw[show V9 ⟨2,dc,ds,⟨o,s,pp,dd,v,f⟩,lo,sl,ke,wt⟩=3 by simp[V9,hc]];go_enter func24,ntmps24;go_wp2_with fail;refine(G7 C _ _ _).mono ?_;rintro e w1 ⟨rfl,rfl⟩;simp only[hc];go_wp2_with fail;go_ret;exact⟨rfl,G7 HB _⟩
  .by_cases h3:dk=3\/dk=4
   .rcases h3 with rfl|rfl
    all_goals
     cases hs:eY ds 3 with
     |true=>
      rw[show V9 ⟨_,dc,ds,⟨o,s,pp,dd,v,f⟩,lo,sl,ke,wt⟩=0 by simp[V9,hs]];go_enter func24,ntmps24;go_wp2_with fail;refine(G7 C _ _ _).mono ?_;rintro e w1 ⟨rfl,rfl⟩;simp only[hs];go_wp2_with fail;go_ret;exact⟨rfl,G7 HB _⟩
     |false=>
      rw[show V9 ⟨_,dc,ds,⟨o,s,pp,dd,v,f⟩,lo,sl,ke,wt⟩=3 by simp[V9,hs]];go_enter func24,ntmps24;go_wp2_with fail;refine(G7 C _ _ _).mono ?_;rintro e w1 ⟨rfl,rfl⟩;simp only[hs];go_wp2_with fail;go_ret;exact⟨rfl,G7 HB _⟩
   .by_cases h5:dk=5
    .subst h5;rw[show V9 ⟨5,dc,ds,⟨o,s,pp,dd,v,f⟩,lo,sl,ke,wt⟩=0 by simp[V9]];go_enter func24,ntmps24;go_wp2_with fail;go_ret;exact⟨rfl,G7 HB _⟩
    .have h33:¬dk=3:=fun e=>h3 (.inl e);have h34:¬dk=4:=fun e=>h3 (.inr e);rw[show V9 ⟨dk,dc,ds,⟨o,s,pp,dd,v,f⟩,lo,sl,ke,wt⟩=4 by simp[V9,h1,h2,h33,h34,h5]];clear h3;go_enter func24,ntmps24;go_wp2_with fail;go_ret;exact⟨rfl,G7 HB _⟩
theorem BT4(n:Int):bits .and .i64 n 1=n%2:=by
 show IntKind.i64.wrap ((BitVec.ofInt 64 n&&&BitVec.ofInt 64 1).toNat:Int)=_;rw[BitVec.toNat_and,show (BitVec.ofInt 64 1).toNat=1 by decide,Nat.and_one_is_mod,BitVec.toNat_ofInt,IntKind.wrap_i64];omega
theorem CD5(n:Int)(i:Nat)(hi:i<3)(w:FW):Calls prog 78 #[I0 n,I0 i] w fun e w'=>e=.returned (.bool (AD0 n i))/\w'=w:=by
 have e:∀m:Int,(bits .and .i64 m 1==1)=decide (m%2=1):=fun m=>by rw[BT4];rfl
 have E:=G8 e;clear e;unfold AD0;rcases(show i=0\/i=1\/i=2 by omega)with rfl|rfl|rfl
 .go_enter func78,ntmps78;go_wp2_with fail;go_ret;exact⟨by show Ending.returned (.bool (bits .and .i64 n 1==1))=_;rw[G7 E,show n/2^0=n by simp],rfl⟩
 .go_enter func78,ntmps78;go_wp2_with fail;go_ret;exact⟨by show Ending.returned (.bool (bits .and .i64 (n/2) 1==1))=_;rw[G7 E];rfl,rfl⟩
 .go_enter func78,ntmps78;go_wp2_with fail;go_ret;exact⟨by show Ending.returned (.bool (bits .and .i64 (n/4) 1==1))=_;rw[G7 E];rfl,rfl⟩
structure BT5(w W:FW)(q:Nat)(n:Nd):Prop where
 b:B0 w W
 le:w.heap.size<=q
 one:JQ W q n
theorem AF4(p d:List UInt8)(c m q v k o n:Int)(hb:B0 w W):BT5 w (W.alloc (.cells #[S0 p,S0 d,I0 c,I0 m,I0 q,I0 v,I0 k,I0 o,I0 n] 62)) W.heap.size ⟨p,d,c,m,q,v,k,o,n⟩:=
 ⟨GH hb (G9 _ _),hb.size,iH W ⟨p,d,c,m,q,v,k,o,n⟩⟩
theorem sQ{b:Nat}(p d:List UInt8)(c m q v k o n:Int)(hb:B0 w W)(hq:w.heap.size<=b)(hz:JQ W b WG):
  BT5 w (((((((((W.setCell ⟨b,0,G5⟩ (S0 p)).setCell ⟨b,1,G5⟩ (S0 d)).setCell ⟨b,2,G5⟩ (I0 c)).setCell ⟨b,3,G5⟩ (I0 m)).setCell ⟨b,4,G5⟩ (I0 q)).setCell ⟨b,5,G5⟩ (I0 v)).setCell ⟨b,6,G5⟩ (I0 k)).setCell ⟨b,7,G5⟩ (I0 o)).setCell ⟨b,8,G5⟩ (I0 n)) b ⟨p,d,c,m,q,v,k,o,n⟩:=by
 refine⟨((((((((hb.setCell hq _).setCell hq _).setCell hq _).setCell hq _).setCell hq _).setCell hq _).setCell hq _).setCell hq _).setCell hq _,hq,?_⟩;have h0:W.heap[b]?=G6 (.cells #[.string ⟨#[]⟩,.string ⟨#[]⟩,I0 0,I0 0,I0 0,I0 0,I0 0,I0 0,I0 0] 62 (0,0)):=hz;unfold JQ;rw[GV _ (GV _ (GV _ (GV _ (GV _ (GV _ (GV _ (GV _ (GV _ h0))))))))];simp;exact⟨rfl,rfl⟩
theorem sS{q:Nat}(h:JQ W q WG):(W.cell? ⟨q,0,G5⟩=G6 (.string ⟨#[]⟩)/\W.cell? ⟨q,1,G5⟩=G6 (.string ⟨#[]⟩)/\W.cell? ⟨q,2,G5⟩=G6 (I0 0)/\W.cell? ⟨q,3,G5⟩=G6 (I0 0)/\W.cell? ⟨q,4,G5⟩=G6 (I0 0)/\W.cell? ⟨q,5,G5⟩=G6 (I0 0)/\W.cell? ⟨q,6,G5⟩=G6 (I0 0)/\W.cell? ⟨q,7,G5⟩=G6 (I0 0)/\W.cell? ⟨q,8,G5⟩=G6 (I0 0))/\W.frozen? ⟨q,0,G5⟩=false/\W.frozen? ⟨q,1,G5⟩=false/\W.frozen? ⟨q,2,G5⟩=false/\W.frozen? ⟨q,3,G5⟩=false/\W.frozen? ⟨q,4,G5⟩=false/\W.frozen? ⟨q,5,G5⟩=false/\W.frozen? ⟨q,6,G5⟩=false/\W.frozen? ⟨q,7,G5⟩=false/\W.frozen? ⟨q,8,G5⟩=false:=
 ⟨⟨h.JE 0 _ rfl,h.JE 1 _ rfl,h.JE 2 _ rfl,h.JE 3 _ rfl,h.JE 4 _ rfl,h.JE 5 _ rfl,h.JE 6 _ rfl,h.JE 7 _ rfl,h.JE 8 _ rfl⟩,h.J8 0,h.J8 1,h.J8 2,h.J8 3,h.J8 4,h.J8 5,h.J8 6,h.J8 7,h.J8 8⟩
structure BZ5(w W:FW)(q:Nat)(s z:Int)(v:FX)(es:List En):Prop where
 b:B0 w W
 le:w.heap.size<=q
 box:MZ W q s z v
 v:IL W v es
theorem AF5{s z:Int}{es:List En}(h:B0 w W)(ho:GZ W B v es):BZ5 w (W.alloc (.cells #[I0 s,I0 z,v] 44)) W.heap.size s z v es:=
 ⟨GH h (G9 _ _),h.size,MZ.new W s z v,(ho.next (G9 _ _)).seq⟩
theorem AF6{v0:FX}{s z:Int}{es:List En}(h:B0 w W)(hk:w.heap.size<=k)(hz:MZ W k 0 0 v0)(ho:GZ W B v es)(hB:k<B):BZ5 w (((W.setCell ⟨k,0,G5⟩ (I0 s)).setCell ⟨k,1,G5⟩ (I0 z)).setCell ⟨k,2,G5⟩ v) k s z v es:=
 ⟨((h.setCell hk _).setCell hk _).setCell hk _,hk,(hz.set0.set1).set2,(((ho.OT hB _).OT hB _).OT hB _).seq⟩
def QZ(s z:Nat->Int)(a:Nat->Option Addr)(n c:Nat->Nat):Array FX:=#[I0 (s 0),I0 (z 0),FU (a 0) (n 0) (c 0),I0 (s 1),I0 (z 1),FU (a 1) (n 1) (c 1),I0 (s 2),I0 (z 2),FU (a 2) (n 2) (c 2),I0 (s 3),I0 (z 3),FU (a 3) (n 3) (c 3),I0 (s 4),I0 (z 4),FU (a 4) (n 4) (c 4),I0 (s 5),I0 (z 5),FU (a 5) (n 5) (c 5),I0 (s 6),I0 (z 6),FU (a 6) (n 6) (c 6),I0 (s 7),I0 (z 7),FU (a 7) (n 7) (c 7),I0 (s 8),I0 (z 8),FU (a 8) (n 8) (c 8),I0 (s 9),I0 (z 9),FU (a 9) (n 9) (c 9),I0 (s 10),I0 (z 10),FU (a 10) (n 10) (c 10),I0 (s 11),I0 (z 11),FU (a 11) (n 11) (c 11),I0 (s 12),I0 (z 12),FU (a 12) (n 12) (c 12),I0 (s 13),I0 (z 13),FU (a 13) (n 13) (c 13),I0 (s 14),I0 (z 14),FU (a 14) (n 14) (c 14),I0 (s 15),I0 (z 15),FU (a 15) (n 15) (c 15)]
theorem ix_0(s z:Nat->Int)(a:Nat->Option Addr)(n c:Nat->Nat):∀u:FW,(Instr.index 45 (.agg (QZ s z a n c)) (I0 0)).run prog u=.ok (.agg #[I0 (s 0),I0 (z 0),FU (a 0) (n 0) (c 0)]) u:=fun _=>by kernel_rfl
theorem ix_1(s z:Nat->Int)(a:Nat->Option Addr)(n c:Nat->Nat):∀u:FW,(Instr.index 45 (.agg (QZ s z a n c)) (I0 1)).run prog u=.ok (.agg #[I0 (s 1),I0 (z 1),FU (a 1) (n 1) (c 1)]) u:=fun _=>by kernel_rfl
theorem ix_2(s z:Nat->Int)(a:Nat->Option Addr)(n c:Nat->Nat):∀u:FW,(Instr.index 45 (.agg (QZ s z a n c)) (I0 2)).run prog u=.ok (.agg #[I0 (s 2),I0 (z 2),FU (a 2) (n 2) (c 2)]) u:=fun _=>by kernel_rfl
theorem ix_3(s z:Nat->Int)(a:Nat->Option Addr)(n c:Nat->Nat):∀u:FW,(Instr.index 45 (.agg (QZ s z a n c)) (I0 3)).run prog u=.ok (.agg #[I0 (s 3),I0 (z 3),FU (a 3) (n 3) (c 3)]) u:=fun _=>by kernel_rfl
theorem ix_4(s z:Nat->Int)(a:Nat->Option Addr)(n c:Nat->Nat):∀u:FW,(Instr.index 45 (.agg (QZ s z a n c)) (I0 4)).run prog u=.ok (.agg #[I0 (s 4),I0 (z 4),FU (a 4) (n 4) (c 4)]) u:=fun _=>by kernel_rfl
theorem ix_5(s z:Nat->Int)(a:Nat->Option Addr)(n c:Nat->Nat):∀u:FW,(Instr.index 45 (.agg (QZ s z a n c)) (I0 5)).run prog u=.ok (.agg #[I0 (s 5),I0 (z 5),FU (a 5) (n 5) (c 5)]) u:=fun _=>by kernel_rfl
theorem ix_6(s z:Nat->Int)(a:Nat->Option Addr)(n c:Nat->Nat):∀u:FW,(Instr.index 45 (.agg (QZ s z a n c)) (I0 6)).run prog u=.ok (.agg #[I0 (s 6),I0 (z 6),FU (a 6) (n 6) (c 6)]) u:=fun _=>by kernel_rfl
theorem ix_7(s z:Nat->Int)(a:Nat->Option Addr)(n c:Nat->Nat):∀u:FW,(Instr.index 45 (.agg (QZ s z a n c)) (I0 7)).run prog u=.ok (.agg #[I0 (s 7),I0 (z 7),FU (a 7) (n 7) (c 7)]) u:=fun _=>by kernel_rfl
theorem ix_8(s z:Nat->Int)(a:Nat->Option Addr)(n c:Nat->Nat):∀u:FW,(Instr.index 45 (.agg (QZ s z a n c)) (I0 8)).run prog u=.ok (.agg #[I0 (s 8),I0 (z 8),FU (a 8) (n 8) (c 8)]) u:=fun _=>by kernel_rfl
theorem ix_9(s z:Nat->Int)(a:Nat->Option Addr)(n c:Nat->Nat):∀u:FW,(Instr.index 45 (.agg (QZ s z a n c)) (I0 9)).run prog u=.ok (.agg #[I0 (s 9),I0 (z 9),FU (a 9) (n 9) (c 9)]) u:=fun _=>by kernel_rfl
theorem CX4(s z:Nat->Int)(a:Nat->Option Addr)(n c:Nat->Nat):∀u:FW,(Instr.index 45 (.agg (QZ s z a n c)) (I0 10)).run prog u=.ok (.agg #[I0 (s 10),I0 (z 10),FU (a 10) (n 10) (c 10)]) u:=fun _=>by kernel_rfl
theorem CX5(s z:Nat->Int)(a:Nat->Option Addr)(n c:Nat->Nat):∀u:FW,(Instr.index 45 (.agg (QZ s z a n c)) (I0 11)).run prog u=.ok (.agg #[I0 (s 11),I0 (z 11),FU (a 11) (n 11) (c 11)]) u:=fun _=>by kernel_rfl
theorem CX6(s z:Nat->Int)(a:Nat->Option Addr)(n c:Nat->Nat):∀u:FW,(Instr.index 45 (.agg (QZ s z a n c)) (I0 12)).run prog u=.ok (.agg #[I0 (s 12),I0 (z 12),FU (a 12) (n 12) (c 12)]) u:=fun _=>by kernel_rfl
theorem CX7(s z:Nat->Int)(a:Nat->Option Addr)(n c:Nat->Nat):∀u:FW,(Instr.index 45 (.agg (QZ s z a n c)) (I0 13)).run prog u=.ok (.agg #[I0 (s 13),I0 (z 13),FU (a 13) (n 13) (c 13)]) u:=fun _=>by kernel_rfl
theorem CX8(s z:Nat->Int)(a:Nat->Option Addr)(n c:Nat->Nat):∀u:FW,(Instr.index 45 (.agg (QZ s z a n c)) (I0 14)).run prog u=.ok (.agg #[I0 (s 14),I0 (z 14),FU (a 14) (n 14) (c 14)]) u:=fun _=>by kernel_rfl
theorem CX9(s z:Nat->Int)(a:Nat->Option Addr)(n c:Nat->Nat):∀u:FW,(Instr.index 45 (.agg (QZ s z a n c)) (I0 15)).run prog u=.ok (.agg #[I0 (s 15),I0 (z 15),FU (a 15) (n 15) (c 15)]) u:=fun _=>by kernel_rfl
theorem CP5(s z:Nat->Int)(a:Nat->Option Addr)(n c:Nat->Nat)(m:Nat)(hm:m<16)(u:FW):(Instr.index 45 (.agg (QZ s z a n c)) (I0 m)).run prog u=.ok (.agg #[I0 (s m),I0 (z m),FU (a m) (n m) (c m)]) u:=by
 rcases(show m=0\/m=1\/m=2\/m=3\/m=4\/m=5\/m=6\/m=7\/m=8\/m=9\/m=10\/m=11\/m=12\/m=13\/m=14\/m=15 by omega)with rfl|rfl|rfl|rfl|rfl|rfl|rfl|rfl|rfl|rfl|rfl|rfl|rfl|rfl|rfl|rfl
 .exact ix_0 s z a n c u
 .exact ix_1 s z a n c u
 .exact ix_2 s z a n c u
 .exact ix_3 s z a n c u
 .exact ix_4 s z a n c u
 .exact ix_5 s z a n c u
 .exact ix_6 s z a n c u
 .exact ix_7 s z a n c u
 .exact ix_8 s z a n c u
 .exact ix_9 s z a n c u
 .exact CX4 s z a n c u
 .exact CX5 s z a n c u
 .exact CX6 s z a n c u
 .exact CX7 s z a n c u
 .exact CX8 s z a n c u
 .exact CX9 s z a n c u
theorem WX.BU1(h:WX W k p){c:Nat->Cl}(he:∀i,i<16->p.c i=c i):WX W k ⟨p.n,p.s,p.r,c,p.D,p.H,p.h⟩:=by
 obtain⟨f,hb,hr⟩:=h;exact⟨f,hb,hr.n,hr.s,hr.r,fun i hi=>by have:=hr.c i hi;rw[he i hi]at this;exact this,hr.d,hr.h,hr.hk⟩
def sU(c:Nat->Cl)(l:List Nt)(m:Nat):Nat->Cl:=fun i=>if i<m then ZQ c l i else c i
theorem BB8(c:Nat->Cl)(l:List Nt)(hi:i<16):sU c l 16 i=ZQ c l i:=by rw[sU,if_pos hi]
theorem pV(c:Nat->Cl)(l:List Nt)(m i:Nat):LP (sU c l m) m ⟨(c m).s,(c m).z,UQ (c m).s l (c m).es⟩ i=sU c l (m+1) i:=by
 by_cases e:i=m
 .subst e;rw[II,sU,if_pos (by omega)];rfl
 .rw[GL _ _ e,sU,sU];by_cases h:i<m
  .rw[if_pos h,if_pos (by omega)]
  .rw[if_neg h,if_neg (by omega)]
structure TlI(W wr wx:FW)(k:Nat)(p:Pw)(R1:Nat->Ps)(NN:List Nt)(vn:FX)(m:Nat):Prop where
 x:WX wx k ⟨p.n,R1,p.r,sU p.c NN m,p.D,p.H,p.h⟩
 n:GZ wx W.heap.size vn NN
 t:Touch (· =k) W wx
 r:Touch (· =k) wr wx
theorem BU2(s z:Nat->Int)(a:Nat->Option Addr)(n c:Nat->Nat)(m:Nat)(hm:m<16):(QZ s z a n c)[3*m]?=G6 (I0 (s m))/\(QZ s z a n c)[3*m+1]?=G6 (I0 (z m))/\(QZ s z a n c)[3*m+2]?=G6 (FU (a m) (n m) (c m)):=by
 rcases(show m=0\/m=1\/m=2\/m=3\/m=4\/m=5\/m=6\/m=7\/m=8\/m=9\/m=10\/m=11\/m=12\/m=13\/m=14\/m=15 by omega)with rfl|rfl|rfl|rfl|rfl|rfl|rfl|rfl|rfl|rfl|rfl|rfl|rfl|rfl|rfl|rfl<;>exact⟨rfl,rfl,rfl⟩
theorem AQ4(w:FW)(k:Nat)(s z:Nat->Int)(a:Nat->Option Addr)(n c:Nat->Nat)(hc:∀m,m<16->w.cell? ⟨k,34+3*m,G5⟩=G6 (I0 (s m))/\w.cell? ⟨k,34+3*m+1,G5⟩=G6 (I0 (z m))/\w.cell? ⟨k,34+3*m+2,G5⟩=G6 (FU (a m) (n m) (c m))):
  (Instr.loadAt 45 (.pointer (G6 ⟨k,34,G5⟩))).run prog w=.ok (.agg (QZ s z a n c)) w:=by
 have hl:=run_loadCells_list (P:=prog) (w:=w) ⟨k,34,G5⟩ (QZ s z a n c).toList (fun j v hj=>by
  have hj48:j<48:=by
   have:=(List.getElem?_eq_some_iff.1 hj).1;simpa [QZ]using this
  rw[Array.getElem?_toList]at hj;have h:=BU2 s z a n c (j/3) (by omega);have hw:=hc (j/3) (by omega);rw[Addr.add_lit];show w.cell? ⟨k,34+j,G5⟩=G6 v;rcases(show j=3*(j/3)\/j=3*(j/3)+1\/j=3*(j/3)+2 by omega)with e|e|e
  .rw[e]at hj⊢;rw[h.1]at hj;rw[<-hj];exact hw.1
  .rw[e]at hj⊢;rw[h.2.1]at hj;rw[<-hj,<-Nat.add_assoc];exact hw.2.1
  .rw[e]at hj⊢;rw[h.2.2]at hj;rw[<-hj,<-Nat.add_assoc];exact hw.2.2)
 have h48:(QZ s z a n c).toList.length=48:=rfl;rw[h48]at hl;simp only[Instr.loadAt,Instr.sureAddr,EC,EO,Result.andThen];unfold loadVar;simp only[EC,isAgg45,sizeOf45,Result.andThen,if_true];rw[hl];rfl
theorem sV{w:FW}{ops:Array Oper}{rest:List Oper}{o:Oper}{a:Act}{Q:Exit->Act->FW->Prop}(hgd:o.guard=G5)(x:Operand)(ho:o.op=.load 45 x)(k:Nat)(s z:Nat->Int)(ad:Nat->Option Addr)(n c:Nat->Nat)
  (hx:a.eval x=.pointer (G6 ⟨k,34,G5⟩)) (hc:∀m,m<16->w.cell? ⟨k,34+3*m,G5⟩=G6 (I0 (s m))/\w.cell? ⟨k,34+3*m+1,G5⟩=G6 (I0 (z m))/\w.cell? ⟨k,34+3*m+2,G5⟩=G6 (FU (ad m) (n m) (c m)))
  (h:wpList prog ops Q rest (a.put o.dst (.agg (QZ s z ad n c))) w):wpList prog ops Q (o::rest) a w:=by
 refine wpList_plain hgd fun K hK=>?_;have hr:=AQ4 w k s z ad n c hc;unfold Oper.wp execOp;simp only[ho,EC,EO,EG,hx,hr];exact hK _ _ h
