/-
  Part.
-/
import Derived.Test.YtppjdeblncincaaGreatDoorLOG
import Derived.Sort.OwnSorted
set_option maxRecDepth 20000
set_option maxHeartbeats 8000000
namespace Go.Proofs.YtppjdeblncincaaGreatDoor
open Go.RowKit Go.Proofs.Tryz
open _root_.Nat renaming le_refl->A8,lt_of_lt_of_le->AY,zero_le->AZ,zero_add->BJ,add_assoc->EK
open Go.RowKit.Below renaming refl->AA,heap_setCell->BG
open _root_.Array renaming getElem?_eq_some_iff->AL
open _root_.List renaming getElem?_eq_getElem->AO,length_append->AP,getElem?_eq_some_iff->AV,mem_of_getElem?->BA,getElem?_append_right->BD,length_cons->BH,getElem?_append_left->BM,take_of_length_le->BN,mem_cons->BQ,eq_nil_of_length_eq_zero->BZ,mem_filter->EJ,mem_map->EZ,filter_append->F5
open Go.Value.slice renaming injEq->AQ
open _root_.Option.some renaming injEq->BF,inj->BP
open Go.Value renaming ownBlock->DJ,slice->FU
open Go.Lib renaming run_eql_slice_nil->ER,compareBytes->ES
open _root_.Option renaming map_eq_some_iff->FP,none->G5,some->G6
open Go.Obj renaming cells->FV
open Go renaming World->FW,Value->FX,Calls->FZ
variable{w W V:FW}{b off i k B q:Nat}{xs:List En}{x:En}{α:Type}{v:FX}{s z:Int}{g:FuncId}{pr:En->Bool}{I:FW->Prop}
def OH(e:En):List FX:=[S0 e.p,S0 e.d,.bool e.t]
def enV(e:En):FX:=.agg #[S0 e.p,S0 e.d,.bool e.t]
def clV(s z:Int)(v:FX):FX:=.agg #[I0 s,I0 z,v]
instance layC:Lay En:=⟨3,OH,88,fun _=>rfl,fun x u hu=>by simp[OH]at hu;rcases hu with rfl|rfl|rfl<;>rfl⟩
theorem IC.en0(h:IC w b off (GI xs))(hi:xs[i]?=G6 x):w.cell? ⟨b,off+i*3,G5⟩=G6 (S0 x.p):=
 h (i*3) _ (GY xs i x hi 0 (by decide))
theorem IC.en1(h:IC w b off (GI xs))(hi:xs[i]?=G6 x):w.cell? ⟨b,off+i*3+1,G5⟩=G6 (S0 x.d):=by
 rw[EK];exact h (i*3+1) _ (GY xs i x hi 1 (by decide))
theorem IC.en2(h:IC w b off (GI xs))(hi:xs[i]?=G6 x):w.cell? ⟨b,off+i*3+2,G5⟩=G6 (.bool x.t):=by
 rw[EK];exact h (i*3+2) _ (GY xs i x hi 2 (by decide))
theorem CM1:(prog.info? 88).map (fun i=>(i.zero,i.size,i.bytes))=G6 (G6 (.agg #[.string ⟨#[]⟩,.string ⟨#[]⟩,.bool false]),3,40):=by kernel_rfl
theorem BQ1:∃i0,prog.info? 88=G6 i0/\i0.zero=G6 (.agg #[.string ⟨#[]⟩,.string ⟨#[]⟩,.bool false])/\i0.size=3/\i0.bytes=40:=by
 obtain⟨i0,h,e⟩:=FP.1 CM1;simp only[Prod.mk.injEq]at e;exact⟨i0,h,e⟩
theorem rQ(w:FW)(x:En):JQ (w.alloc (FV #[S0 x.p,S0 x.d,.bool x.t] 88)) w.heap.size x:=heap_alloc_new w _
theorem crow[Lay α]{xs:List α}(hv:IL w v xs):∀W,B0 w W->∀ (k:Nat) (x:α),xs[k]?=G6 x->∃b off cap,v=FU (G6 ⟨b,off,G5⟩) xs.length cap/\b<w.heap.size/\IC W b off (GI xs):=fun W hW k x hx=>by
 obtain⟨b,off,cap,e,hb,hr,_,_⟩:=MV hv (fun h0=>by obtain⟨h1,_⟩:=AV.1 hx;rw[h0]at h1;simp at h1);exact⟨b,off,cap,e,hb,hr.kept hW hb⟩
def MZ(W:FW)(k:Nat)(s z:Int)(v:FX):Prop:=W.heap[k]?=G6 (FV #[I0 s,I0 z,v] 44 (0,0))
theorem MZ.lt(h:MZ W k s z v):k<W.heap.size:=(AL.1 h).1
theorem MZ.c0(h:MZ W k s z v):W.cell? ⟨k,0,G5⟩=G6 (I0 s):=by unfold MZ at h;simp[World.cell?,h]
theorem MZ.c1(h:MZ W k s z v):W.cell? ⟨k,1,G5⟩=G6 (I0 z):=by unfold MZ at h;simp[World.cell?,h]
theorem MZ.c2(h:MZ W k s z v):W.cell? ⟨k,2,G5⟩=G6 v:=by unfold MZ at h;simp[World.cell?,h]
theorem MZ.fr(h:MZ W k s z v)(j:Nat):W.frozen? ⟨k,j,G5⟩=false:=by unfold MZ at h;simp[World.frozen?,h]
theorem MZ.kept(h:MZ W k s z v)(hb:Below B W V)(hk:k<B):MZ V k s z v:=(hb.block k hk).trans h
theorem MZ.next(h:MZ W k s z v)(hb:B0 W V):MZ V k s z v:=h.kept hb h.lt
theorem MZ.grown{r:Option Nat}(h:MZ W k s z v)(hg:W.grownBy V r)(hr:G6 k≠r):MZ V k s z v:=(hg.block k h.lt hr).trans h
theorem MZ.new(w:FW)(s z:Int)(v:FX):MZ (w.alloc (FV #[I0 s,I0 z,v] 44)) w.heap.size s z v:=heap_alloc_new w _
theorem MZ.set0{s':Int}(h:MZ W k s z v):MZ (W.setCell ⟨k,0,G5⟩ (I0 s')) k s' z v:=by unfold MZ at h⊢;rw[GV _ h];rfl
theorem MZ.set1{z':Int}(h:MZ W k s z v):MZ (W.setCell ⟨k,1,G5⟩ (I0 z')) k s z' v:=by unfold MZ at h⊢;rw[GV _ h];rfl
theorem MZ.set2{v':FX}(h:MZ W k s z v):MZ (W.setCell ⟨k,2,G5⟩ v') k s z v':=by unfold MZ at h⊢;rw[GV _ h];rfl
theorem MZ.other(h:MZ W k s z v){a:Addr}(ha:k≠a.block)(u:FX):MZ (W.setCell a u) k s z v:=(BG W a u k ha).trans h
theorem JQ.ltz[Lay α]{x:α}(h:JQ W b x):b<W.heap.size:=(AL.1 h).1
theorem JQ.ZR[Lay α]{x:α}(h:JQ W b x)(hb:Below B W V)(hk:b<B):JQ V b x:=(hb.block b hk).trans h
theorem JQ.OT[Lay α]{x:α}(h:JQ W b x){a:Addr}(ha:b≠a.block)(u:FX):JQ (W.setCell a u) b x:=(BG W a u b ha).trans h
theorem JQ.e0(h:JQ W b x):W.cell? ⟨b,0,G5⟩=G6 (S0 x.p):=h.row 0 _ rfl
theorem JQ.e1(h:JQ W b x):W.cell? ⟨b,1,G5⟩=G6 (S0 x.d):=by have:=h.row 1 _ rfl;simpa using this
theorem JQ.e2(h:JQ W b x):W.cell? ⟨b,2,G5⟩=G6 (.bool x.t):=by have:=h.row 2 _ rfl;simpa using this
theorem GZ.OT[Lay α]{xs:List α}(h:GZ W B v xs){j:Nat}(hk:k<B)(u:FX):GZ (W.setCell ⟨k,j,G5⟩ u) B v xs:=by
 rcases h with h|⟨g,cap,rfl,hB,h⟩
 .exact .inl h
 .exact .inr ⟨g,cap,rfl,hB,h.other (by simp only;omega) u⟩
theorem GZ.above[Lay α]{xs:List α}(h:GZ W B v xs):∀k,v.ownBlock=G6 k->B<=k:=by
 rcases h with⟨rfl,rfl⟩|⟨g,cap,rfl,hB,h⟩
 .intro k hk;simp[DJ]at hk
 .intro k hk;simp only[DJ,BF]at hk;omega
theorem fZ(s:List UInt8)(w:FW)(hs:s.length<=281474976710656):
  FZ prog 48 #[S0 s] w (R0 w (S0 s)):=by
 have C:=fun W=>stringslite_Clone ⟨s.toArray⟩ W (show (ByteArray.mk s.toArray).size<=_ from hs);go_enter func48,ntmps48;go_wp2_with fail;refine(C _).mono ?_;rintro e w1 ⟨rfl,hb1⟩;go_wp2_with fail;go_ret;exact⟨rfl,hb1⟩
theorem AD6(a:Addr)(cap:Nat)(xs:List En)(w:FW)(hl:xs.length*40<=140737488355328)(hc:∀j u,(GI xs)[j]?=G6 u->w.cell? (a.add j)=G6 u):
  FZ prog 39 #[FU (G6 a) xs.length cap] w fun e w'=>∃v',e=.returned v'/\GZ w' w.heap.size v' xs/\B0 w w':=by
 have q22:∀ (w:FW) (a:Option Addr) (n c n' c':Nat),(binOp .eql 42 (FU a n c) (FU G5 n' c')).run prog w=.ok (.bool a.isNone) w:=fun w a n c n' c'=>ER w _ _ a n c n' c' underlying42;have H:=G8 hc;clear hc;obtain⟨i0,hi0,hz0,hz1,hz2⟩:=BQ1;go_enter func39,ntmps39;go_wp2_with (at_builtin;refine wpList_append_own _ rfl _ _ 42 rfl w.heap.size 88 i0 _ 3 40 underlying42 hi0 hz0 hz1 hz2 rfl (by decide) _ _ _ rfl (World.ownsRow_made w #[] 0 (A8 _) (AZ _) (by simp)) a xs.length cap (GI xs) rfl ?qc1 ?qc2 ?qc3 ?qc4 ?qc5 ?qc6 ?_)
 case qc1=>exact H6 xs
 case qc2=>
  intro j u hj;exact Lib.cell?_alloc_some _ (G7 H j u hj)
 case qc3=>exact JO xs
 case qc4=>simp only[maxLen];omega
 case qc5=>omega
 case qc6=>simp
 intro v' w1 hown hgrow hnil
 go_wp2
 go_ret;refine⟨v',rfl,GZ.L9 (by first|exact hown|(simp only[List.nil_append,BJ]at hown;exact hown)|simpa using hown),?_⟩;exact((AA _ w).alloc (A8 _) _).grown hgrow (by simp) (by intro k hk;simp[DJ]at hk;omega)
theorem C88(n c:Nat)(w:FW):
  FZ prog 39 #[FU G5 n c] w fun e w'=>e=.returned (N0)/\w'=w:=by
 have q22:∀ (w:FW) (a:Option Addr) (n c n' c':Nat),(binOp .eql 42 (FU a n c) (FU G5 n' c')).run prog w=.ok (.bool a.isNone) w:=fun w a n c n' c'=>ER w _ _ a n c n' c' underlying42;go_enter func39,ntmps39
 go_wp2
 go_ret;exact⟨rfl,rfl⟩
theorem B76(v:FX)(xs:List En)(w:FW)(hv:IL w v xs)(hl:xs.length*40<=140737488355328):
  FZ prog 39 #[v] w fun e w'=>∃v',e=.returned v'/\GZ w' w.heap.size v' xs/\B0 w w':=by
 rcases hv with⟨a,cap,rfl,rfl,_⟩|⟨b,off,cap,rfl,_,_,hb,_,hr⟩
 .cases a with
  |none=>exact(C88 0 cap w).mono fun e w' ⟨he,hw⟩=>⟨_,he,.inl ⟨rfl,rfl⟩,by rw[hw];exact AA _ _⟩
  |some a=>exact AD6 a cap [] w (by simp) (fun j u h=>by simp[GI]at h)
 .exact AD6 ⟨b,off,G5⟩ cap xs w hl (fun j u h=>by rw[Addr.add_lit];exact hr j u h)
theorem AD7(x:En)(w:FW)(hp:x.p.length<=140737488355328)(hd:x.d.length<=140737488355328):
  FZ prog 89 #[.agg #[S0 x.p,S0 x.d,.bool x.t]] w (R0 w (.agg #[S0 x.p,S0 x.d,.bool x.t])):=by
 obtain⟨xp,xd,xt⟩:=x;simp only at*;have Kp:=fun W=>fZ xp W (by omega);have Kd:=fun W=>fZ xd W (by omega);go_enter func89,ntmps89;go_wp2_with fail;generalize hW0:(w.alloc (FV #[S0 xp,S0 xd,.bool xt] 88)).alloc (FV #[.string ⟨#[]⟩,.string ⟨#[]⟩,.bool false] 88)=W0;have hB0:B0 w W0:=by rw[<-hW0];exact GH (G9 _ _) (G9 _ _)
 have hz0:W0.heap.size=w.heap.size+2:=by rw[<-hW0];simp
 have p0:W0.cell? ⟨w.heap.size,0,G5⟩=G6 (S0 xp):=by rw[<-hW0];simp
 have r0:W0.cell? ⟨w.heap.size+1,0,G5⟩=G6 (.string ⟨#[]⟩):=by rw[<-hW0];simp
 have p1:W0.cell? ⟨w.heap.size,1,G5⟩=G6 (S0 xd):=by rw[<-hW0];simp
 have r1:W0.cell? ⟨w.heap.size+1,1,G5⟩=G6 (.string ⟨#[]⟩):=by rw[<-hW0];simp
 have p2:W0.cell? ⟨w.heap.size,2,G5⟩=G6 (.bool xt):=by rw[<-hW0];simp
 have r2:W0.cell? ⟨w.heap.size+1,2,G5⟩=G6 (.bool false):=by rw[<-hW0];simp
 have pf:∀j,W0.frozen? ⟨w.heap.size,j,G5⟩=false:=by intro j;rw[<-hW0];simp
 have rf:∀j,W0.frozen? ⟨w.heap.size+1,j,G5⟩=false:=by intro j;rw[<-hW0];simp
 clear hW0;have d0:∀d os,(Sort.grow (redrawn W0 d) os).cell? ⟨w.heap.size,0,G5⟩=G6 (S0 xp):=fun d os=>cell_regrown p0 d os;have g0:∀d os,(Sort.grow (redrawn W0 d) os).frozen? ⟨w.heap.size,0,G5⟩=false:=fun d os=>by rw[(below_regrown W0 d os).frozen (p:=⟨w.heap.size,0,G5⟩) (by simp only;omega)];exact pf 0
 have s0:∀d os,(Sort.grow (redrawn W0 d) os).setCell ⟨w.heap.size,0,G5⟩ (S0 xp)=Sort.grow (redrawn W0 d) os:=fun d os=>I9 (d0 d os);have c0:=fun d os=>Calls.regrown_of (w:=W0) (d:=d) (os:=os) (Kp _);have d1:∀d os,(Sort.grow (redrawn W0 d) os).cell? ⟨w.heap.size,1,G5⟩=G6 (S0 xd):=fun d os=>cell_regrown p1 d os;have g1:∀d os,(Sort.grow (redrawn W0 d) os).frozen? ⟨w.heap.size,1,G5⟩=false:=fun d os=>by rw[(below_regrown W0 d os).frozen (p:=⟨w.heap.size,1,G5⟩) (by simp only;omega)];exact pf 1
 have s1:∀d os,(Sort.grow (redrawn W0 d) os).setCell ⟨w.heap.size,1,G5⟩ (S0 xd)=Sort.grow (redrawn W0 d) os:=fun d os=>I9 (d1 d os);have c1:=fun d os=>Calls.regrown_of (w:=W0) (d:=d) (os:=os) (Kd _);refine wp_region_quiet_below (by kernel_rfl) (by kernel_rfl) ?_
 repeat (first|go_big_quiet_step (first|with_reducible exact c0 _ _|with_reducible exact c1 _ _)|quiet_step (first|with_reducible exact c0 _ _|with_reducible exact c1 _ _))
 refine wpQuiet_nil ?_;intro _ hw';obtain⟨⟨dq,osq⟩,hw''⟩:=hw';subst hw'';have hb1:=below_regrown W0 dq osq;have hB:=GH hB0 hb1;have e0:=(hb1.cell (p:=⟨w.heap.size,0,G5⟩) (by simp only;omega)).trans p0;have u0:=(hb1.cell (p:=⟨w.heap.size+1,0,G5⟩) (by simp only;omega)).trans r0;have v0:=(hb1.frozen (p:=⟨w.heap.size+1,0,G5⟩) (by simp only;omega)).trans (rf 0);have e1:=(hb1.cell (p:=⟨w.heap.size,1,G5⟩) (by simp only;omega)).trans p1;have u1:=(hb1.cell (p:=⟨w.heap.size+1,1,G5⟩) (by simp only;omega)).trans r1;have v1:=(hb1.frozen (p:=⟨w.heap.size+1,1,G5⟩) (by simp only;omega)).trans (rf 1);have e2:=(hb1.cell (p:=⟨w.heap.size,2,G5⟩) (by simp only;omega)).trans p2;have u2:=(hb1.cell (p:=⟨w.heap.size+1,2,G5⟩) (by simp only;omega)).trans r2;have v2:=(hb1.frozen (p:=⟨w.heap.size+1,2,G5⟩) (by simp only;omega)).trans (rf 2);generalize Sort.grow (redrawn W0 dq) osq=w1 at*;clear hb1 hB0 hz0 pf rf p0 r0 p1 r1 p2 r2 d0 g0 s0 c0 Kp d1 g1 s1 c1 Kd;go_wp2_with fail;refine bodyPost_ret (v:=.agg #[S0 xp,S0 xd,.bool xt]) (by simp[results,results89,go_sem,u0,u1,u2]) rfl ⟨rfl,?_⟩;exact(((hB.setCell (by simp) _).setCell (by simp) _).setCell (by simp) _)
theorem ZT(s z:Int)(v:FX)(es:List En)(w:FW)(hv:IL w v es)(hs:xK es)(hl:es.length*40<=140737488355328):
  FZ prog 82 #[clV s z v] w fun e w'=>∃v',e=.returned (clV s z v')/\GZ w' w.heap.size v' es/\B0 w w':=by
 have CC:=fun W (hW:B0 w W)=>B76 v es W (hv.next hW) hl;have HO:Hid (∀x∈es,∀W,FZ prog 89 #[.agg #[S0 x.p,S0 x.d,.bool x.t]] W (R0 W (.agg #[S0 x.p,S0 x.d,.bool x.t]))):=G8 fun x hm W=>AD7 x W (hs x hm).1 (hs x hm).2;obtain⟨a,c,rfl⟩:=GK hv;unfold clV;clear hv hs;go_enter func82,ntmps82;go_wp2_with fail;refine(CC _ (GH (G9 _ _) (G9 _ _))).mono ?_;rintro e w1 ⟨v',rfl,ho,hb1⟩;have HB1:=G8 (GH (GH (G9 w _) (G9 _ _)) hb1);have X1:=((MZ.new w s z (FU a es.length c)).next (G9 _ (FV #[I0 0,I0 0,N0] 44))).next hb1;have X2:=(MZ.new (w.alloc (FV #[I0 s,I0 z,FU a es.length c] 44)) 0 0 (N0)).next hb1;have hs1:(w.alloc (FV #[I0 s,I0 z,FU a es.length c] 44)).heap.size=w.heap.size+1:=by simp
 rw[hs1]at X2;have hz1:w.heap.size+2<=w1.heap.size:=by have:=hb1.size;simpa using this
 have c2:=X1.c2;have f2:=X1.fr 2;have Y1:=X1.set2 (v':=v');have Y2:=X2.other (a:=⟨w.heap.size,2,G5⟩) (by simp) v';rcases ho with⟨rfl,rfl⟩|⟨g,cap,rfl,hg,ho⟩
 .clear CC hb1 X1 X2;have HY1:=G8 Y1;have HY2:=G8 Y2;clear Y1 Y2;go_wp2_with fail
  go_loopg [12] 1 (fun _ s wr=>s=I0 0/\wr=w1.setCell ⟨w.heap.size,2,G5⟩ (N0))
  case atStart=>exact⟨rfl,rfl⟩
  case round=>
   obtain⟨rfl,rfl⟩:=hrel;have q0:=(G7 HY1).c0;have q1:=(G7 HY1).c1;have q2:=(G7 HY1).c2;have r0:=(G7 HY2).c0;have r1:=(G7 HY2).c1;have r2:=(G7 HY2).c2;have t0:=(G7 HY2).fr 0;have t1:=(G7 HY2).fr 1;have t2:=(G7 HY2).fr 2;have HB2:=G8 ((G7 HB1).setCell (p:=⟨w.heap.size,2,G5⟩) (A8 _) (N0));generalize w1.setCell ⟨w.heap.size,2,G5⟩ (N0)=W at*;go_wp2_with fail;refine bodyPost_ret (v:=.agg #[I0 s,I0 z,N0]) (by simp[results,results82,go_sem,r0,r1,r2]) rfl ⟨_,rfl,.inl ⟨rfl,rfl⟩,?_⟩;exact(((G7 HB2).setCell (by simp) _).setCell (by simp) _).setCell (by simp) _
 .have hgl:=ho.lt;have hg2:w.heap.size+2<=g:=by simpa using hg
  have HW:=G8 (ho.other (a:=⟨w.heap.size,2,G5⟩) (by simp only;omega) (FU (G6 ⟨g,0,G5⟩) es.length cap));have HY1:=G8 Y1;have HY2:=G8 Y2;have HB2:=G8 ((G7 HB1).setCell (p:=⟨w.heap.size,2,G5⟩) (A8 _) (FU (G6 ⟨g,0,G5⟩) es.length cap));have hzs:(w1.setCell ⟨w.heap.size,2,G5⟩ (FU (G6 ⟨g,0,G5⟩) es.length cap)).heap.size=w1.heap.size:=by simp[World.setCell]
  clear ho CC hb1 X1 X2 Y1 Y2 hg;go_wp2_with fail;generalize w1.setCell ⟨w.heap.size,2,G5⟩ (FU (G6 ⟨g,0,G5⟩) es.length cap)=W at*
  go_loopg [12] es.length (fun kx s wr=>∃k:Nat,s=I0 k/\k<=es.length/\es.length-k<=kx/\Hid (B0 W wr))
  case atStart=>exact⟨0,rfl,AZ _,by omega,G8 (AA _ _)⟩
  case round=>
   obtain⟨k,rfl,hk,hkx,hB⟩:=hrel;have Z1:=(G7 HY1).next (G7 hB);by_cases hlt:k<es.length
   .obtain⟨x,hx⟩:∃x,es[k]?=G6 x:=⟨_,AO hlt⟩;have o:=(G7 HW).next (G7 hB);have QS:=o.lt;have a0:=o.row.en0 hx;have a1:=o.row.en1 hx;have a2:=o.row.en2 hx;simp only[BJ]at a0 a1 a2;have CX:=G7 HO x (BA hx);have hzr:=(G7 hB).size;obtain⟨yp,yd,yt⟩:=x;simp only at a0 a1 a2 CX;have N1:=rQ wr ⟨yp,yd,yt⟩;simp only at N1;have O2:=o.next (G9 wr (FV #[S0 yp,S0 yd,.bool yt] 88));have b2:=(Z1.next (G9 wr (FV #[S0 yp,S0 yd,.bool yt] 88))).c2;have p0:=N1.e0;have p1:=N1.e1;have p2:=N1.e2;have r0:=O2.row.en0 hx;have r1:=O2.row.en1 hx;have r2:=O2.row.en2 hx;have rf:=O2.frozen;have hg3:=O2.lt;simp only[BJ]at r0 r1 r2 p0 p1 p2;have HB3:=G8 (GH (G7 hB) (G9 wr (FV #[S0 yp,S0 yd,.bool yt] 88)));clear hx o O2 N1 Z1;go_wp2_with fail;generalize wr.alloc (FV #[S0 yp,S0 yd,.bool yt] 88)=W0 at*;have b2':=fun d os=>cell_regrown b2 d os;have p0':=fun d os=>cell_regrown p0 d os;have p1':=fun d os=>cell_regrown p1 d os;have p2':=fun d os=>cell_regrown p2 d os;have r0':=fun d os=>cell_regrown r0 d os;have r1':=fun d os=>cell_regrown r1 d os;have r2':=fun d os=>cell_regrown r2 d os;have t0:∀d os,(Sort.grow (redrawn W0 d) os).frozen? ⟨g,k*3,G5⟩=false:=fun d os=>by rw[(below_regrown W0 d os).frozen (p:=⟨g,k*3,G5⟩) hg3];exact rf _
    have t1:∀d os,(Sort.grow (redrawn W0 d) os).frozen? ⟨g,k*3+1,G5⟩=false:=fun d os=>by rw[(below_regrown W0 d os).frozen (p:=⟨g,k*3+1,G5⟩) hg3];exact rf _
    have t2:∀d os,(Sort.grow (redrawn W0 d) os).frozen? ⟨g,k*3+2,G5⟩=false:=fun d os=>by rw[(below_regrown W0 d os).frozen (p:=⟨g,k*3+2,G5⟩) hg3];exact rf _
    have s0:=fun d os=>I9 (r0' d os);have s1:=fun d os=>I9 (r1' d os);have s2:=fun d os=>I9 (r2' d os);have c0:=fun d os=>Calls.regrown_of (w:=W0) (d:=d) (os:=os) (CX _);clear rf p0 p1 p2 r0 r1 r2 b2;refine wp_region_quiet_below (by kernel_rfl) (by kernel_rfl) ?_
    repeat (first|go_big_quiet_step (with_reducible exact c0 _ _)|quiet_step (with_reducible exact c0 _ _))
    refine wpQuiet_nil ?_;intro _ hw';obtain⟨⟨dq,osq⟩,hw''⟩:=hw';subst hw'';have hB2:=G8 (GH (G7 HB3) (below_regrown W0 dq osq));generalize Sort.grow (redrawn W0 dq) osq=w2 at*;clear b2' p0' p1' p2' r0' r1' r2' t0 t1 t2 s0 s1 s2 c0 CX;go_wp2_with fail
    go_roundg (es.length-(k+1))
    case measure=>omega
    case rel=>exact⟨k+1,rfl,by omega,A8 _,hB2⟩
   .have Z2:=(G7 HY2).next (G7 hB);have q0:=Z1.c0;have q1:=Z1.c1;have q2:=Z1.c2;have r0:=Z2.c0;have r1:=Z2.c1;have r2:=Z2.c2;have t0:=Z2.fr 0;have t1:=Z2.fr 1;have t2:=Z2.fr 2;have O2:=(G7 HW).next (G7 hB);clear Z1 Z2;go_wp2_with fail;refine bodyPost_ret (v:=.agg #[I0 s,I0 z,FU (G6 ⟨g,0,G5⟩) es.length cap]) (by simp[results,results82,go_sem,r0,r1,r2]) rfl ⟨_,rfl,.inr ⟨g,cap,rfl,by omega,?_⟩,?_⟩
    .exact((O2.other (by simp only;omega) _).other (by simp only;omega) _).other (by simp only;omega) _
    .exact(((GH (G7 HB2) (G7 hB)).setCell (by simp) _).setCell (by simp) _).setCell (by simp) _
theorem AD8(n:En)(p:List UInt8)(w:FW):
  FZ prog 129 #[enV n,S0 p] w (R0 w (I0 (ES n.p p))):=by
 unfold enV;go_enter func129,ntmps129;go_wp2_with fail;refine(strings_Compare _ _ _).mono ?_;rintro e w1 ⟨rfl,rfl⟩;go_wp2_with fail;go_ret;exact⟨rfl,G9 _ _⟩
def rW(R:List En)(p:List UInt8):Bool:=match R with
 |[]=>false
 |f::_=>decide (f.p=p)
theorem AO3(A R:List En)(p:List UInt8)(lo:∀a∈A,bl a.p p=true)(hi:∀a∈R,bl a.p p=false)(i:Nat)(h:i<A.length+R.length):∃y,(A++R)[i]?=G6 y/\bl y.p p=decide (i<A.length):=by
 by_cases h1:i<A.length
 .refine⟨A[i],by rw[BM h1,AO h1],?_⟩;rw[lo _ (List.getElem_mem h1)];simp[h1]
 .have h2:i-A.length<R.length:=by omega
  refine⟨R[i-A.length],by rw[BD (by omega),AO h2],?_⟩;rw[hi _ (List.getElem_mem h2)];simp[h1]
theorem BQ7(b off cap:Nat)(A R:List En)(p:List UInt8)(w:FW)(hcap:A.length+R.length<=100000)(hb:b<w.heap.size)(h:IC w b off (GI (A++R)))
  (lo:∀a∈A,bl a.p p=true) (hi:∀a∈R,bl a.p p=false):
  FZ prog 128 #[FU (G6 ⟨b,off,G5⟩) (A.length+R.length) cap,S0 p,.func (.func 129) #[] #[]] w fun e w'=>
   e=.returned (.tuple #[I0 A.length,.bool (rW R p)])/\B0 w w':=by
 have H:=G8 h;have SG:=G8 (AO3 A R p lo hi);obtain⟨fin,hfin⟩:∃x,rW R p=x:=⟨_,rfl⟩;have HF:=G8 hfin;rw[hfin];clear h hfin lo hi;go_enter func128,ntmps128;go_wp2_with fail
 go_loopg [9,10] (A.length+R.length) (fun kx s9 s10 wr=>∃lo hi:Nat,s9=I0 lo/\s10=I0 hi/\lo<=A.length/\A.length<=hi/\hi<=A.length+R.length/\hi-lo<=kx/\Hid (B0 w wr))
 case atStart=>exact⟨0,A.length+R.length,rfl,rfl,AZ _,by omega,A8 _,by omega,G8 (AA _ _)⟩
 case round=>
  obtain⟨lo,hi,rfl,rfl,h1,h2,h3,hg,hB⟩:=hrel;by_cases hlt:lo<hi
  .obtain⟨y,hy,hyn⟩:=G7 SG ((lo+hi)/2) (by omega);have HY:=G8 hyn;have r:=(G7 H).kept (G7 hB) hb;have e0:=r.en0 hy;have e1:=r.en1 hy;have e2:=r.en2 hy;clear hyn hy r;have hc:=A72 y.p p;rw[G7 HY]at hc;have CM:=fun W=>AD8 y p W;generalize ES y.p p=cv at hc CM;by_cases hm:(lo+hi)/2<A.length
   .have hn:cv<0:=by simpa [hm]using hc
    clear hc;go_wp2_with fail;refine(CM _).mono ?_;rintro e w1 ⟨rfl,hb1⟩;have hB2:B0 w w1:=(G7 hB).trans (hb1.mono (G7 hB).size);clear CM;go_wp2_with fail
    go_roundg (hi-((lo+hi)/2+1))
    case measure=>omega
    case rel=>exact⟨(lo+hi)/2+1,hi,by rw[show ((lo:Int)+(hi:Int))/2+1=(((lo+hi)/2+1:Nat):Int) by omega],rfl,by omega,h2,h3,A8 _,G8 hB2⟩
   .have hn:¬cv<0:=by simpa [hm]using hc
    clear hc;go_wp2_with fail;refine(CM _).mono ?_;rintro e w1 ⟨rfl,hb1⟩;have hB2:B0 w w1:=(G7 hB).trans (hb1.mono (G7 hB).size);clear CM;go_wp2_with fail
    go_roundg ((lo+hi)/2-lo)
    case measure=>omega
    case rel=>exact⟨lo,(lo+hi)/2,rfl,by rw[show ((lo:Int)+(hi:Int))/2=(((lo+hi)/2:Nat):Int) by omega],h1,by omega,by omega,A8 _,G8 hB2⟩
  .obtain rfl:lo=A.length:=by omega
   obtain rfl:hi=A.length:=by omega
   cases R with
   |nil=>
    go_wp2_with fail
    go_ret2
    exact⟨by rw[<-G7 HF];rfl,G7 hB⟩
   |cons f R=>
    have r:=(G7 H).kept (G7 hB) hb;have hy:(A++f::R)[A.length]?=G6 f:=by simp
    have e0:=r.en0 hy;have e1:=r.en1 hy;have e2:=r.en2 hy;clear hy r;have hc:=gY f.p p;have CM:=fun W=>AD8 f p W;have hf:fin=decide (f.p=p):=(G7 HF).symm;rw[<-hc]at hf;clear hc HF;generalize ES f.p p=cv at hf CM;subst hf;simp only[BH];go_wp2_with fail;refine(CM _).mono ?_;rintro e w1 ⟨rfl,hb1⟩;have hB2:B0 w w1:=(G7 hB).trans (hb1.mono (G7 hB).size);clear CM;go_wp2_with fail
    go_ret2
    exact⟨by rfl,hB2⟩
theorem B77(a:Option Addr)(cap:Nat)(p:List UInt8)(w:FW):
  FZ prog 128 #[FU a 0 cap,S0 p,.func (.func 129) #[] #[]] w fun e w'=>
   e=.returned (.tuple #[I0 0,.bool false])/\B0 w w':=by
 go_enter func128,ntmps128;go_wp2_with fail
 go_loopg [9,10] 1 (fun _ s9 s10 wr=>s9=I0 0/\s10=I0 0/\Hid (B0 w wr))
 case atStart=>exact⟨rfl,rfl,G8 (AA _ _)⟩
 case round=>
  obtain⟨rfl,rfl,hB⟩:=hrel;go_wp2_with fail
  go_ret2
  exact⟨rfl,G7 hB⟩
theorem lC(v:FX)(ns A R:List En)(p:List UInt8)(w:FW)(hv:IL w v ns)(hl:ns.length<=100000)(he:ns=A++R)(lo:∀a∈A,bl a.p p=true)(hi:∀a∈R,bl a.p p=false):
  FZ prog 87 #[v,S0 p] w (R0 w (.tuple #[I0 A.length,.bool (rW R p)])):=by
 have C:∀W:FW,B0 w W->FZ prog 128 #[v,S0 p,.func (.func 129) #[] #[]] W fun e w'=>
   e=.returned (.tuple #[I0 A.length,.bool (rW R p)])/\B0 W w':=fun W hW=>by
  rcases hv with⟨a,cap,rfl,h0,_⟩|⟨b,off,cap,rfl,_,_,hb,_,hr⟩
  .rw[h0]at he;obtain⟨rfl,rfl⟩:A=[]/\R=[]:=by
    have:=congrArg List.length he;simp at this;exact⟨BZ (by omega),BZ (by omega)⟩
   exact B77 a cap p W
  .subst he;rw[AP];exact BQ7 b off cap A R p W (by simpa using hl) (AY hb hW.size) (hr.kept hW hb) lo hi
 have C':=G8 C;obtain⟨a,c,rfl⟩:=GK hv;clear C hv hl he lo hi;generalize rW R p=hd at C'⊢;go_enter func87,ntmps87;go_wp2_with fail;refine(G7 C' _ (AA _ _)).mono ?_;rintro e w1 ⟨rfl,hb1⟩;go_wp2_with fail
 go_ret2
 exact⟨rfl,hb1⟩
theorem A44(v:FX)(ns A B:List En)(f:En)(p:List UInt8)(w:FW)(hv:IL w v ns)(hl:ns.length<=100000)(T:AC6 ns A f B p):
  FZ prog 87 #[v,S0 p] w (R0 w (.tuple #[I0 A.length,.bool true])):=by
 have:=lC v ns A (f::B) p w hv hl T.eq T.lo (fun a ha=>by
  rcases BQ.1 ha with rfl|h
  .rw[T.nm];exact QI _
  .exact OD (T.hi a h))
 rwa[show rW (f::B) p=true from by simp[rW,T.nm]]at this
theorem B78(v:FX)(ns A B:List En)(p:List UInt8)(w:FW)(hv:IL w v ns)(hl:ns.length<=100000)(G:CT4 ns A B p):
  FZ prog 87 #[v,S0 p] w (R0 w (.tuple #[I0 A.length,.bool false])):=by
 have:=lC v ns A B p w hv hl G.eq G.lo (fun a ha=>OD (G.hi a ha));rwa[show rW B p=false from by
  cases B with
  |nil=>rfl
  |cons f B=>have:=WS (G.hi f (by simp));simp[rW,this.symm]]at this
theorem BQ8(s:Int)(w:FW)(h1:1<=s)(h2:s<=2147483647):
  FZ prog 32 #[I0 s] w (R0 w (.tuple #[clV s 0 (N0),I0 0])):=by
 unfold clV;go_enter func32,ntmps32;go_wp2_with fail;refine bodyPost_ret (v:=.tuple #[.agg #[I0 s,I0 0,N0],I0 0]) (by simp[results,results32,go_sem]) rfl ⟨rfl,?_⟩
 first|exact G9 _ _|exact(((G9 w _).setCell (by simp) _).setCell (by simp) _).setCell (by simp) _
theorem C89(s z z':Int)(a:Option Addr)(n c:Nat)(w:FW)(h:z'<z):
  FZ prog 59 #[clV s z (FU a n c),I0 z'] w (R0 w (.tuple #[clV 0 0 (N0),I0 15])):=by
 unfold clV;go_enter func59,ntmps59;go_wp2_with fail;refine bodyPost_ret (v:=.tuple #[.agg #[I0 0,I0 0,N0],I0 15]) (by simp[results,results59,go_sem]) rfl ⟨rfl,?_⟩
 first|exact GH (G9 _ _) (G9 _ _)|exact(((GH (G9 w _) (G9 _ _)).setCell (by simp) _).setCell (by simp) _).setCell (by simp) _
theorem AD9(s z z':Int)(v:FX)(es:List En)(w:FW)(hv:IL w v es)(hs:xK es)(hl:es.length*40<=140737488355328)(h:z<=z'):
  FZ prog 59 #[clV s z v,I0 z'] w fun e w'=>∃v',e=.returned (.tuple #[clV s z' v',I0 0])/\GZ w' w.heap.size v' es/\B0 w w':=by
 have CC:=fun W (hW:B0 w W)=>ZT s z v es W (hv.next hW) hs hl;obtain⟨a,c,rfl⟩:=GK hv;unfold clV at CC⊢;clear hv hs;go_enter func59,ntmps59;go_wp2_with fail;refine(CC _ (GH (G9 _ _) (G9 _ _))).mono ?_;rintro e w1 ⟨v1,rfl,ho1,hb1⟩;obtain⟨a1,c1,rfl,_⟩:=ho1.slice;have X2:=(MZ.new (w.alloc (FV #[I0 s,I0 z,FU a es.length c] 44)) 0 0 (N0)).next hb1;have hs1:(w.alloc (FV #[I0 s,I0 z,FU a es.length c] 44)).heap.size=w.heap.size+1:=by simp
 rw[hs1]at X2;have hz1:=hb1.size;have hz2:w.heap.size+2<=w1.heap.size:=by simpa using hz1
 have B2:=GH (GH (GH (G9 w _) (G9 _ _)) hb1) (G9 w1 (FV #[I0 s,I0 z',FU a1 es.length c1] 44));have O2:=ho1.next (G9 w1 (FV #[I0 s,I0 z',FU a1 es.length c1] 44));have Y2:=X2.next (G9 w1 (FV #[I0 s,I0 z',FU a1 es.length c1] 44));have Y1:=MZ.new w1 s z' (FU a1 es.length c1);have r0:=Y2.c0;have r1:=Y2.c1;have r2:=Y2.c2;have f0:=Y2.fr 0;have f1:=Y2.fr 1;have f2:=Y2.fr 2;have q0:=Y1.c0;have q1:=Y1.c1;have q2:=Y1.c2;have HB2:=G8 B2;have HO2:=G8 O2;clear CC hb1 X2 Y2 Y1 B2 O2 hz1;have hO1:=G8 ho1;clear ho1;go_wp2_with fail;refine bodyPost_ret (v:=.tuple #[.agg #[I0 s,I0 z',FU a1 es.length c1],I0 0]) (by simp[results,results59,go_sem,r0,r1,r2]) rfl ⟨_,rfl,?_,?_⟩
 .exact((((G7 HO2).OT (by simp) _).OT (by simp) _).OT (by simp) _).lower (by simp;omega)
 .exact(((G7 HB2).setCell (by simp) _).setCell (by simp) _).setCell (by simp) _
def chP(s:Int)(l:List Nt):List (List UInt8):=(l.filter fun n=>decide (n.s=s)&& !decide (n.k=4)).map fun n=>n.p
def Y9(l:List (List UInt8)):List (List UInt8):=l.mergeSort fun x y=>decide (x<=y)
theorem BT6(s:Int)(l:List Nt)(p:List UInt8):CL9 s l p=decide (p∈Y9 (chP s l)):=by
 rw[Bool.eq_iff_iff];constructor
 .intro h;obtain⟨n,h1,h2⟩:=List.any_eq_true.1 h;rw[Bool.and_eq_true]at h2;exact decide_eq_true (List.mem_mergeSort.2 (EZ.2 ⟨n,EJ.2 ⟨h1,h2.1⟩,of_decide_eq_true h2.2⟩))
 .intro h;obtain⟨n,h1,h2⟩:=EZ.1 (List.mem_mergeSort.1 (of_decide_eq_true h));obtain⟨h3,h4⟩:=EJ.1 h1;exact List.any_eq_true.2 ⟨n,h3,by rw[Bool.and_eq_true];exact⟨h4,decide_eq_true h2⟩⟩
theorem BT7(x y:List UInt8):decide (x<=y)= !bl y x:=by
 rw[show bl y x=decide (y<x)from Go.Proofs.bytesLess_eq y x];by_cases h:y<x
 .simp[h,List.not_le.2 h]
 .simp[h,List.not_lt.1 h]
theorem BA9{a b c:List UInt8}(h1:bl b a=false)(h2:bl c b=false):bl c a=false:=by
 cases h:bl c a with
 |false=>rfl
 |true=>
  cases h3:bl a b with
  |true=>rw[RI _ _ _ h h3]at h2;cases h2
  |false=>rw[TL _ _ h3 h1]at h;rw[h]at h2;cases h2
theorem BB0(l:List (List UInt8)):(Y9 l).Pairwise fun a b=>bl b a=false:=by
 have:=List.pairwise_mergeSort (le:=fun x y:List UInt8=>decide (x<=y)) (fun a b c h1 h2=>by
  rw[BT7]at h1 h2⊢;simp only[Bool.not_eq_true']at h1 h2⊢;exact BA9 h1 h2) (fun a b=>by
  rw[BT7,BT7]
  cases h:bl b a with
  |false=>rfl
  |true=>rw[OD h];rfl) l
 refine this.imp fun {a b} h=>?_;rw[BT7]at h;simpa using h
theorem yI(p:List UInt8):∀l:List (List UInt8),(l.Pairwise fun a b=>bl b a=false)->∃A R,l=A++R/\(∀a∈A,bl a p=true)/\(∀a∈R,bl a p=false)/\(decide (p∈l)=match R with|[]=>false|f::_=>decide (f=p))
 |[],_=>⟨[],[],rfl,by simp,by simp,by simp⟩
 |x::r,h=>by
  obtain⟨hx,hr⟩:=List.pairwise_cons.1 h
  cases h1:bl x p with
  |true=>
   obtain⟨A,R,e,lo,hi,hm⟩:=yI p r hr;refine⟨x::A,R,by rw[e];rfl,by simp[h1];exact lo,hi,?_⟩;rw[<-hm];have:p≠x:=fun e=>by rw[e,QI]at h1;cases h1
   simp[this]
  |false=>
   refine⟨[],x::r,rfl,by simp,?_,?_⟩
   .intro a ha;rcases BQ.1 ha with rfl|ha
    .exact h1
    .cases hb:bl a p with
     |false=>rfl
     |true=>
      have h2:=hx a ha
      cases h3:bl x a with
      |true=>rw[RI _ _ _ h3 hb]at h1;cases h1
      |false=>rw[TL _ _ h3 h2,hb]at h1;cases h1
   .by_cases hp:x=p
    .simp[hp]
    .have:p∉x::r:=by
      intro hm;rcases BQ.1 hm with rfl|hm
      .exact hp rfl
      .have h2:=hx p hm;exact hp (TL _ _ h1 h2)
     simp[this,hp]
theorem BB1(x:List UInt8)(w:FW):FZ prog 204 #[S0 x] w fun e w'=>e=.returned (.bool false)/\w'=w:=by
 go_enter func204,ntmps204
 go_wp2
 go_ret;exact⟨by simp,rfl⟩
theorem BB2(x:List UInt8)(w:FW):FZ prog 180 #[S0 x] w fun e w'=>e=.returned (.bool false)/\w'=w:=by
 go_enter func180,ntmps180
 go_wp2
 go_ret;exact⟨by simp,rfl⟩
theorem AP9(x y:List UInt8)(w:FW):FZ prog 179 #[S0 x,S0 y] w fun e w'=>e=.returned (.bool (bl x y))/\w'=w:=by
 go_enter func179,ntmps179;go_wp2_with fail;refine(BB1 _ _).mono ?_;rintro e w1 ⟨rfl,rfl⟩;go_wp2_with fail;go_ret;exact⟨rfl,rfl⟩
def CP2(R:List (List UInt8))(p:List UInt8):Bool:=match R with
 |[]=>false
 |f::_=>decide (f=p)
theorem AQ0(A R:List (List UInt8))(p:List UInt8)(lo:∀a∈A,bl a p=true)(hi:∀a∈R,bl a p=false)(i:Nat)(h:i<A.length+R.length):∃y,(A++R)[i]?=G6 y/\bl y p=decide (i<A.length):=by
 by_cases h1:i<A.length
 .refine⟨A[i],by rw[BM h1,AO h1],?_⟩;rw[lo _ (List.getElem_mem h1)];simp[h1]
 .have h2:i-A.length<R.length:=by omega
  refine⟨R[i-A.length],by rw[BD (by omega),AO h2],?_⟩;rw[hi _ (List.getElem_mem h2)];simp[h1]
theorem CD7(b off cap:Nat)(A R:List (List UInt8))(p:List UInt8)(w:FW)(hcap:A.length+R.length<=281474976710656)(h:IC w b off (GI (A++R)))
  (lo:∀a∈A,bl a p=true) (hi:∀a∈R,bl a p=false):
  FZ prog 125 #[FU (G6 ⟨b,off,G5⟩) (A.length+R.length) cap,S0 p] w fun e w'=>
   e=.returned (.tuple #[I0 A.length,.bool (CP2 R p)])/\w'=w:=by
 have H:=G8 h;have SG:=G8 (AQ0 A R p lo hi);obtain⟨fin,hfin⟩:∃x,CP2 R p=x:=⟨_,rfl⟩;have HF:=G8 hfin;rw[hfin];clear h hfin lo hi;go_enter func125,ntmps125;go_wp2_with fail
 go_loopg [7,8] (A.length+R.length) (fun kx s9 s10 wr=>∃lo hi:Nat,s9=I0 lo/\s10=I0 hi/\lo<=A.length/\A.length<=hi/\hi<=A.length+R.length/\hi-lo<=kx/\wr=w)
 case atStart=>exact⟨0,A.length+R.length,rfl,rfl,AZ _,by omega,A8 _,by omega,rfl⟩
 case round=>
  obtain⟨lo,hi,rfl,rfl,h1,h2,h3,hg,rfl⟩:=hrel;by_cases hlt:lo<hi
  .obtain⟨y,hy,hyn⟩:=G7 SG ((lo+hi)/2) (by omega);have e0:=(G7 H).s0 hy;clear hy;have CM:=fun W=>AP9 y p W;rw[hyn]at CM;clear hyn;by_cases hm:(lo+hi)/2<A.length
   .simp only[hm,decide_true]at CM;go_wp2_with fail;refine(CM _).mono ?_;rintro e w1 ⟨rfl,rfl⟩;clear CM;go_wp2_with fail
    go_roundg (hi-((lo+hi)/2+1))
    case measure=>omega
    case rel=>exact⟨(lo+hi)/2+1,hi,by rw[show ((lo:Int)+(hi:Int))/2+1=(((lo+hi)/2+1:Nat):Int) by omega],rfl,by omega,h2,h3,A8 _,rfl⟩
   .simp only[hm,decide_false]at CM;go_wp2_with fail;refine(CM _).mono ?_;rintro e w1 ⟨rfl,rfl⟩;clear CM;go_wp2_with fail
    go_roundg ((lo+hi)/2-lo)
    case measure=>omega
    case rel=>exact⟨lo,(lo+hi)/2,rfl,by rw[show ((lo:Int)+(hi:Int))/2=(((lo+hi)/2:Nat):Int) by omega],h1,by omega,by omega,A8 _,rfl⟩
  .obtain rfl:lo=A.length:=by omega
   obtain rfl:hi=A.length:=by omega
   cases R with
   |nil=>
    go_wp2_with fail
    go_ret2
    exact⟨by rw[<-G7 HF];rfl,rfl⟩
   |cons f R=>
    have e0:=(G7 H).s0 (show (A++f::R)[A.length]?=G6 f by simp);have hf:decide (f=p)=fin:=G7 HF;clear HF;simp only[BH];by_cases hfs:f=p
    .subst hfs;simp only[decide_true]at hf;subst hf;go_wp2_with fail
     go_ret2
     exact⟨rfl,rfl⟩
    .simp only[hfs,decide_false]at hf;subst hf;have hq:(f==p)=false:=by simpa using hfs
     clear hfs;go_wp2_with fail;refine(BB2 _ _).mono ?_;rintro e w1 ⟨rfl,rfl⟩;go_wp2_with fail
     go_ret2
     exact⟨rfl,rfl⟩
theorem BT8(a:Option Addr)(cap:Nat)(p:List UInt8)(w:FW):
  FZ prog 125 #[FU a 0 cap,S0 p] w fun e w'=>e=.returned (.tuple #[I0 0,.bool false])/\w'=w:=by
 go_enter func125,ntmps125;go_wp2_with fail
 go_loopg [7,8] 1 (fun _ s9 s10 wr=>s9=I0 0/\s10=I0 0/\wr=w)
 case atStart=>exact⟨rfl,rfl,rfl⟩
 case round=>
  obtain⟨rfl,rfl,rfl⟩:=hrel;go_wp2_with fail
  go_ret2
  exact⟨rfl,rfl⟩
theorem AQ1(v:FX)(ss:List (List UInt8))(p:List UInt8)(w:FW)(hv:IL w v ss)(hl:ss.length<=281474976710656)(hs:ss.Pairwise fun a b=>bl b a=false):
  ∃i:Nat,FZ prog 125 #[v,S0 p] w fun e w'=>e=.returned (.tuple #[I0 i,.bool (decide (p∈ss))])/\w'=w:=by
 rcases hv with⟨a,cap,rfl,rfl,_⟩|⟨b,off,cap,rfl,_,_,hb,_,hr⟩
 .refine⟨0,?_⟩;have:=BT8 a cap p w;simpa using this
 .obtain⟨A,R,rfl,lo,hi,hm⟩:=yI p ss hs;refine⟨A.length,?_⟩;have:=CD7 b off cap A R p w (by simpa using hl) hr lo hi;rw[AP];rw[hm]
  cases R<;>exact this
def ZB(m:Nat):List FX:=(Builtin.zeroCells (Value.agg #[.string ⟨#[]⟩,.string ⟨#[]⟩,.bool false]).cells m).toList
theorem VT(m:Nat):(ZB m).length=m*3:=by
 rw[ZB,Array.length_toList,size_zeroCells];rfl
theorem AQ2(m:Nat):∀u∈ZB m,u.oneCell'=true:=by
 intro u hu;simp only[ZB,Builtin.zeroCells,Value.cells,Array.toList_map,EZ]at hu;obtain⟨i,_,rfl⟩:=hu;have:i%3<3:=Nat.mod_lt _ (by decide);show (#[Value.string ⟨#[]⟩,.string ⟨#[]⟩,.bool false][i%3]!).oneCell'=true;rcases(show i%3=0\/i%3=1\/i%3=2 by omega)with e|e|e<;>rw[e]<;>rfl
theorem AQ3(w:FW)(ty:TypeId)(b o m c:Nat)(hm:0<m)(hc:∀j,j<m*3->(w.cell? ⟨b,o+j,G5⟩).isSome=true)(hf:∀j,j<m*3->w.frozen? ⟨b,o+j,G5⟩=false):
  (Builtin.clear_ #[42] ty #[FU (G6 ⟨b,o,G5⟩) m c]).run prog w=.ok (.tuple #[]) (w.setCells b o (ZB m)):=by
 have hst:=run_storeCells_cells (P:=prog) b o (ZB m) 0 w (by rw[VT];simpa using hc) (by rw[VT];simpa using hf) (AQ2 m);simp only[Nat.add_zero]at hst;obtain⟨k,rfl⟩:∃k,m=k+1:=⟨m-1,by omega⟩;simp[Builtin.clear_,run_underlying underlying42];exact(by
  have:=hst;unfold ZB at this⊢;rw[this];rfl)
structure BB3(g:FuncId)(B:Nat)(q:Nat)(pr:En->Bool)(I:FW->Prop):Prop where
 two:g=124
 keep:∀W V,I W->W.grownBy V (G6 q)->I V
 gives:∀W x,I W->FZ prog g #[.agg #[S0 x.p,S0 x.d,.bool x.t],P0 B] W fun r w'=>r=.returned (.bool (pr x))/\B0 W w'
theorem CD8{g:FuncId}{B q:Nat}{pr:En->Bool}{I:FW->Prop}(C:BB3 g B q pr I)(b off cap:Nat)(A:List En)(x:En)(R:List En)(w:FW)(hi:I w)(hb:b<w.heap.size)(hr:IC w b off (GI (A++x::R)))(hl:(A++x::R).length<=140737488355328)
  (hA:∀a∈A,pr a=false) (hx:pr x=true):
  FZ prog 178 #[FU (G6 ⟨b,off,G5⟩) (A++x::R).length cap,.func (.func g) #[] #[P0 B]] w (R0 w (I0 A.length)):=by
 have HR:=G8 (fun W (hW:B0 w W)=>hr.kept hW hb);have HC:=G8 C;have HI:=G8 (fun W (hW:B0 w W)=>C.keep w W hi (LK hW));have HX:=G8 hx;have HA:=G8 hA;have hAn:A.length<(A++x::R).length:=by simp
 obtain⟨n,hn⟩:∃n,(A++x::R).length=n:=⟨_,rfl⟩;rw[hn]at hl hAn⊢;have HN:=G8 hn;have two:=C.two;clear hr C hi hx hA hn;subst two
 all_goals
  go_enter func178,ntmps178;go_wp2_with fail
  go_loopg [8] n (fun kx s8 wr=>∃k:Nat,s8=I0 k/\k<=A.length/\n-k<=kx/\Hid (B0 w wr))
  case atStart=>exact⟨0,rfl,AZ _,A8 _,G8 (AA _ _)⟩
  case round=>
   obtain⟨k,rfl,hk,hg,hB⟩:=hrel;have hlt:k<n:=by omega
   obtain⟨y,hy⟩:∃y,(A++x::R)[k]?=G6 y:=⟨_,AO (by rw[G7 HN];exact hlt)⟩;have qr:=G7 HR wr (G7 hB);have d0:=qr.en0 hy;have d1:=qr.en1 hy;have d2:=qr.en2 hy;have hbw:b<wr.heap.size:=AY hb (G7 hB).size;have CX:=(G7 HC).gives wr y (G7 HI wr (G7 hB));by_cases hka:k<A.length
   .have hp:pr y=false:=G7 HA y (by
     rw[BM hka]at hy;exact BA hy)
    rw[hp]at CX;clear qr hy hp;go_wp2_with fail;refine CX.mono ?_;rintro e w1 ⟨rfl,hb1⟩;have hB1:=GH (G7 hB) hb1;clear CX hb1;go_wp2_with fail
    go_roundg (n-(k+1))
    case measure=>omega
    case rel=>exact⟨k+1,rfl,by omega,A8 _,G8 hB1⟩
   .obtain rfl:k=A.length:=by omega
    have hp:pr y=true:=by
     have:(A++x::R)[A.length]?=G6 x:=by simp
     rw[this]at hy
     cases hy
     exact G7 HX
    rw[hp]at CX;clear qr hy hp;go_wp2_with fail;refine CX.mono ?_;rintro e w1 ⟨rfl,hb1⟩;have hB1:=GH (G7 hB) hb1;clear CX hb1;go_wp2_with fail;go_ret;exact⟨rfl,hB1⟩
theorem yJ(C:BB3 g B q pr I)(v:FX)(A:List En)(w:FW)(hi:I w)(hv:IL w v A)(hl:A.length<=140737488355328)(hA:∀a∈A,pr a=false):
  FZ prog 178 #[v,.func (.func g) #[] #[P0 B]] w (R0 w (I0 (-1))):=by
 have KR:∀W,B0 w W->∀k x,A[k]?=G6 x->∃b off cap,v=FU (G6 ⟨b,off,G5⟩) A.length cap/\b<w.heap.size/\IC W b off (GI A):=fun W hW k x hx=>by
  obtain⟨b,off,cap,e,hb,hr,_,_⟩:=MV hv (fun h0=>by obtain⟨h1,_⟩:=AV.1 hx;rw[h0]at h1;simp at h1);exact⟨b,off,cap,e,hb,hr.kept hW hb⟩
 have HKR:=G8 KR;have HC:=G8 C;have HI:=G8 (fun W (hW:B0 w W)=>C.keep w W hi (LK hW));have HA:=G8 hA;have two:=C.two;obtain⟨va,vc,rfl⟩:=GK hv;clear C hi hA KR hv;subst two
 all_goals
  go_enter func178,ntmps178;go_wp2_with fail
  go_loopg [8] A.length (fun kx s8 wr=>∃k:Nat,s8=I0 k/\k<=A.length/\A.length-k<=kx/\Hid (B0 w wr))
  case atStart=>exact⟨0,rfl,AZ _,A8 _,G8 (AA _ _)⟩
  case round=>
   obtain⟨k,rfl,hk,hg,hB⟩:=hrel;by_cases hlt:k<A.length
   .obtain⟨y,hy⟩:∃y,A[k]?=G6 y:=⟨_,AO hlt⟩;obtain⟨b,off,cap,he,hb,qr⟩:=G7 HKR wr (G7 hB) k y hy;simp only[AQ]at he;obtain⟨rfl,_,rfl⟩:=he;have d0:=qr.en0 hy;have d1:=qr.en1 hy;have d2:=qr.en2 hy;have hbw:b<wr.heap.size:=AY hb (G7 hB).size;have CX:=(G7 HC).gives wr y (G7 HI wr (G7 hB));have hp:pr y=false:=G7 HA y (BA hy);rw[hp]at CX;clear qr hy hp;go_wp2_with fail;refine CX.mono ?_;rintro e w1 ⟨rfl,hb1⟩;have hB1:=GH (G7 hB) hb1;clear CX hb1;go_wp2_with fail
    go_roundg (A.length-(k+1))
    case measure=>omega
    case rel=>exact⟨k+1,rfl,by omega,A8 _,G8 hB1⟩
   .obtain rfl:k=A.length:=by omega
    go_wp2_with fail;go_ret;exact⟨rfl,G7 hB⟩
theorem yK(pr:En->Bool):∀ws:List En,(∀a∈ws,pr a=false)\/∃A x R,ws=A++x::R/\(∀a∈A,pr a=false)/\pr x=true
 |[]=>.inl (by simp)
 |y::r=>by
  cases h:pr y
  .rcases yK pr r with h1|⟨A,x,R,rfl,h1,h2⟩
   .exact .inl (by intro a ha;rcases BQ.1 ha with rfl|ha;exact h;exact h1 a ha)
   .exact .inr ⟨y::A,x,R,rfl,(by intro a ha;rcases BQ.1 ha with rfl|ha;exact h;exact h1 a ha),h2⟩
  .exact .inr ⟨[],y,r,rfl,by simp,h⟩
theorem pR{ws:List En}(h:∀a∈ws,pr a=false):ws.filter (fun x=> !pr x)=ws:=by
 rw[List.filter_eq_self];intro a ha;simp[h a ha]
theorem BT9(C:BB3 g B q pr I)(cap:Nat)(ws:List En)(w:FW)(hi:I w)(ho:JA w q cap ws)(hl:ws.length<=140737488355328):
  FZ prog 123 #[FU (G6 ⟨q,0,G5⟩) ws.length cap,.func (.func g) #[] #[P0 B]] w fun e w'=>
   e=.returned (FU (G6 ⟨q,0,G5⟩) (ws.filter (fun x=> !pr x)).length cap)/\JA w' q cap (ws.filter (fun x=> !pr x))/\w.grownBy w' (G6 q):=by
 rcases yK pr ws with hA|⟨A,x,R,hws,hA,hx⟩
 .rw[pR hA];have CN:=yJ C _ ws w hi (GZ.seq (.inr ⟨q,cap,rfl,AZ _,ho⟩)) hl hA;have HO:=G8 ho;have two:=C.two;clear C hA hi ho;subst two
  all_goals
   go_enter func123,ntmps123;go_wp2_with fail;refine CN.mono ?_;rintro e w1 ⟨rfl,hb1⟩;have HB:=G8 hb1;clear CN hb1;go_wp2_with fail;go_ret;exact⟨rfl,(G7 HO).next (G7 HB),LK (G7 HB)⟩
 .obtain⟨n,hn⟩:∃n,ws.length=n:=⟨_,rfl⟩;have hAn:A.length<n:=by rw[<-hn,hws];simp
  have hnc:n<=cap:=by rw[<-hn];exact ho.le
  have hcl:=ho.capLe;simp only[maxLen]at hcl;have CA:=CD8 C q 0 cap A x R w hi ho.lt (by rw[<-hws];exact ho.row) (by rw[<-hws];exact hl) hA hx;rw[<-hws,hn]at CA;obtain⟨T,hT⟩:∃T,ws.filter (fun x=> !pr x)=T:=⟨_,rfl⟩;rw[hn]at hl⊢;rw[hT];have HTk:Hid (∀j,n<=j->(ws.take j).filter (fun x=> !pr x)=T):=G8 (fun j hj=>by rw[BN (by omega)];exact hT);have HF0:Hid ((ws.take (A.length+1)).filter (fun x=> !pr x)=A):=G8 (by
   rw[hws,List.take_append,BN (by omega),F5,pR hA];simp[hx])
  have HG0:Hid (ws=A++[x]++ws.drop (A.length+1)):=G8 (by
   rw[hws];simp)
  have HN:=G8 hn;have HO:=G8 ho;have HC:=G8 C;have HI:=G8 (fun W (hW:w.grownBy W (G6 q))=>C.keep w W hi hW);have two:=C.two;clear hn hws hA hx ho C hT hi;subst two
  all_goals
   go_enter func123,ntmps123;go_wp2_with fail;refine CA.mono ?_;rintro e w1 ⟨rfl,hb1⟩;have HB:=G8 hb1;clear CA hb1;go_wp2_with fail
   go_loopg [5,6] n (fun kx s5 s6 wr=>∃ (j:Nat) (F G:List En),s5=I0 F.length/\s6=I0 j/\j<=n/\n-j<=kx/\F.length+G.length=j/\0<G.length/\Hid ((ws.take j).filter (fun x=> !pr x)=F)/\Hid (JA wr q cap (F++G++ws.drop j))/\Hid (w.grownBy wr (G6 q)))
   case atStart=>exact⟨A.length+1,A,[x],rfl,rfl,by omega,by omega,rfl,by simp,HF0,G8 (by rw[<-G7 HG0];exact(G7 HO).next (G7 HB)),G8 (LK (G7 HB))⟩
   case round=>
    obtain⟨j,F,G,rfl,rfl,hj,hg,hFG,hG0,hF,hO,hW⟩:=hrel;have hFj:F.length<j:=by omega
    by_cases hlt:j<n
    .obtain⟨y,hy⟩:∃y,ws[j]?=G6 y:=⟨_,AO (by rw[G7 HN];exact hlt)⟩;have hd:ws.drop j=y::ws.drop (j+1):=by
      obtain⟨h1,h2⟩:=AV.1 hy;rw[List.drop_eq_getElem_cons h1,h2]
     have hf:(ws.take (j+1)).filter (fun x=> !pr x)=F++(if pr y=true then []else [y]):=by
      rw[PD hy,F5,G7 hF]
      cases hpy:pr y<;>simp[hpy]
     rw[hd]at hO;have hyr:(F++G++y::ws.drop (j+1))[j]?=G6 y:=by
      rw[BD (by simp;omega)];simp[hFG]
     obtain⟨z,G',rfl⟩:∃z G',G=z::G':=by
      cases G with
      |nil=>simp at hG0
      |cons z G'=>exact⟨z,G',rfl⟩
     have hzr:(F++z::G'++y::ws.drop (j+1))[F.length]?=G6 z:=by simp
     have d0:=(G7 hO).row.en0 hyr;have d1:=(G7 hO).row.en1 hyr;have d2:=(G7 hO).row.en2 hyr;have hq:=(G7 hO).lt;have hqn:q≠wr.heap.size:=by omega
     simp only[BJ]at d0 d1 d2;have HW1:=G8 (IQ (G7 hW) (LK (G9 wr (FV #[S0 y.p,S0 y.d,.bool y.t] 88))));have CX:=(G7 HC).gives _ y (G7 HI _ (G7 HW1));have hjn:(j:Int)<(n:Int):=by omega
     by_cases hp:pr y=true
     .rw[hp]at CX hf;rw[if_pos rfl,List.append_nil]at hf;have HF:=G8 hf;clear hy hd hf hyr hp hzr;go_wp2_with fail;refine CX.mono ?_;rintro e w2 ⟨rfl,hb2⟩;have HO2:Hid (JA w2 q cap (F++(z::G'++[y])++ws.drop (j+1))):=G8 (by
       have:=((G7 hO).next (G9 wr (FV #[S0 y.p,S0 y.d,.bool y.t] 88))).next hb2;simpa using this)
      have HW2:=G8 (IQ (G7 HW1) (LK hb2));clear CX hb2;go_wp2_with fail
      go_roundg (n-(j+1))
      case measure=>omega
      case rel=>exact⟨j+1,F,z::G'++[y],rfl,rfl,by omega,A8 _,by simp at hFG⊢;omega,by simp,HF,HO2,HW2⟩
     .have hp':pr y=false:=by simpa using hp
      rw[hp']at CX;rw[if_neg hp]at hf;have HF:=G8 hf;clear hy hd hf hyr hp hp';have hFn:(F.length:Int)<(n:Int):=by omega
      go_wp2_with fail;refine CX.mono ?_;rintro e w2 ⟨rfl,hb2⟩;have O2:=((G7 hO).next (G9 wr (FV #[S0 y.p,S0 y.d,.bool y.t] 88))).next hb2;have c0:w2.cell? ⟨wr.heap.size,0,G5⟩=G6 (S0 y.p):=by rw[hb2.cell (p:=⟨wr.heap.size,0,G5⟩) (by simp)];simp
      have c1:w2.cell? ⟨wr.heap.size,1,G5⟩=G6 (S0 y.d):=by rw[hb2.cell (p:=⟨wr.heap.size,1,G5⟩) (by simp)];simp
      have c2:w2.cell? ⟨wr.heap.size,2,G5⟩=G6 (.bool y.t):=by rw[hb2.cell (p:=⟨wr.heap.size,2,G5⟩) (by simp)];simp
      have e0:=O2.row.en0 hzr;have e1:=O2.row.en1 hzr;have e2:=O2.row.en2 hzr;simp only[BJ]at e0 e1 e2;have f0:=O2.frozen (F.length*3);have f1:=O2.frozen (F.length*3+1);have f2:=O2.frozen (F.length*3+2);have hz2:wr.heap.size<w2.heap.size:=by have:=hb2.size;simp at this;omega
      have HO3:Hid (JA (((w2.setCell ⟨q,F.length*3,G5⟩ (S0 y.p)).setCell ⟨q,F.length*3+1,G5⟩ (S0 y.d)).setCell ⟨q,F.length*3+2,G5⟩ (.bool y.t)) q cap ((F++[y])++(G'++[y])++ws.drop (j+1))):=G8 (by
       have O2':JA w2 q cap (F++z::(G'++y::ws.drop (j+1))):=by simpa using O2
       have:=O2'.vC y;have e:F++[y]++(G'++[y])++ws.drop (j+1)=F++y::(G'++y::ws.drop (j+1)):=by simp
       rw[e];exact this)
      have HW3:Hid (w.grownBy (((w2.setCell ⟨q,F.length*3,G5⟩ (S0 y.p)).setCell ⟨q,F.length*3+1,G5⟩ (S0 y.d)).setCell ⟨q,F.length*3+2,G5⟩ (.bool y.t)) (G6 q)):=
       G8 (IQ (IQ (IQ (IQ (G7 HW1) (LK hb2)) (PX _)) (PX _)) (PX _))
      clear CX hb2 O2 hzr;go_wp2_with fail
      go_roundg (n-(j+1))
      case measure=>omega
      case rel=>exact⟨j+1,F++[y],G'++[y],by rw[AP];rfl,rfl,by omega,A8 _,by simp at hFG⊢;omega,by simp,HF,HO3,HW3⟩
    .obtain rfl:j=n:=by omega
     have hTF:T=F:=((G7 HTk j (A8 _)).symm.trans (G7 hF));have OF:JA wr q cap F:=JA.head (B:=G++ws.drop j) (by have:=G7 hO;rwa[List.append_assoc]at this);have CS5:∀ty c,(Builtin.clear_ #[42] ty #[FU (G6 ⟨q,F.length*3,G5⟩) (j-F.length) c]).run prog wr=.ok (.tuple #[]) (wr.setCells q (F.length*3) (ZB (j-F.length))):=fun ty c=>
      AQ3 wr ty q _ _ c (by omega) (fun i hi=>OF.some (show F.length*3+i<cap*3 by omega)) (fun i hi=>OF.frozen _)
     have FIN:Hid (JA (wr.setCells q (F.length*3) (ZB (j-F.length))) q cap F/\w.grownBy (wr.setCells q (F.length*3) (ZB (j-F.length))) (G6 q)):=
      G8 ⟨OF.spare _ _ (A8 _) (by rw[VT];show _<=cap*3;omega),IQ (G7 hW) (I8 _ _ _)⟩
     have hcn:¬ (cap=F.length):=by omega
     have hFc:F.length<=cap:=by omega
     have hFn:F.length<=j:=by omega
     have hjj:¬ ((j:Int)<(j:Int)):=by omega
     clear OF hO hW hF HTk HF0 HG0;subst hTF;go_wp2_with fail;go_ret;exact⟨rfl,(G7 FIN).1,(G7 FIN).2⟩
open Go.Sort
theorem CD9:(prog.info? 9).map (fun i=>(i.zero,i.size,i.bytes))=G6 (G6 (.string ⟨#[]⟩),1,16):=by kernel_rfl
theorem CP3:∃i0,prog.info? 9=G6 i0/\i0.zero=G6 (.string ⟨#[]⟩)/\i0.size=1/\i0.bytes=16:=by
 obtain⟨i0,h,e⟩:=FP.1 CD9;simp only[Prod.mk.injEq]at e;exact⟨i0,h,e⟩
theorem BB4(l:List (List UInt8)):GI l=l.map encStr:=by
 induction l with
 |nil=>rfl
 |cons x r ih=>rw[JU,ih];rfl
theorem CE0{l:List Nt}{n:Nt}(h:l[k]?=G6 n)(h1:n.s=s)(h2:n.k≠4):chP s (l.take (k+1))=chP s (l.take k)++[n.p]:=by
 rw[PD h];simp[chP,h1,h2]
theorem BZ6{l:List Nt}{n:Nt}(h:l[k]?=G6 n)(h1:n.s≠s\/n.k=4):chP s (l.take (k+1))=chP s (l.take k):=by
 rw[PD h];rcases h1 with h1|h1<;>simp[chP,h1]
theorem A58(s:Int)(l:List Nt):(chP s l).length<=l.length:=by unfold chP;rw[List.length_map];exact List.length_filter_le _ _
theorem pU{g cap n:Nat}{ss:List (List UInt8)}{os:Array Obj}(hB:B<=g)(h:JA W g cap ss):GZ (Sort.grow (Sort.putRow encStr (Sort.ahead W n) g 0 (Y9 ss).toArray) os) B (FU (G6 ⟨g,0,G5⟩) ss.length cap) (Y9 ss)/\Holds encStr W g 0 ss.toArray:=by
 obtain⟨rest,h1,h2,h3,h4⟩:=h;have hk:ss.length*1+rest.length=cap*1:=h2;have hl:(Y9 ss).length=ss.length:=by unfold Y9;simp
 refine⟨?_,holds_of_block h1 (by rw[BB4];simp)⟩;have:=ownsRow_sorted (n:=n) (os:=os) (ts:=Y9 ss) hl hB h1 h3 h4 (by simp[BB4];omega);rw[<-hl]at this⊢;refine GZ.L9 ?_;rw[BB4];exact this
theorem yL(s:Int)(v:FX)(l:List Nt)(w:FW)(hv:IL w v l)(hl:l.length*32<=140737488355328):
  FZ prog 122 #[I0 s,v] w fun e w'=>∃v',e=.returned v'/\GZ w' w.heap.size v' (Y9 (chP s l))/\B0 w w':=by
 have KR:=G8 (crow hv);obtain⟨i0,hi0,hz0,hz1,hz2⟩:=CP3;obtain⟨va,vc,rfl⟩:=GK hv;clear hv;go_enter func122,ntmps122;go_wp2_with fail
 go_loopg [5,10] l.length (fun kx s5 s10 wr=>∃ (k n:Nat) (a:Option Addr) (c:Nat),s10=I0 k/\s5=FU a n c/\Hid ((chP s (l.take k)).length=n)/\k<=l.length/\l.length-k<=kx/\Hid (GZ wr w.heap.size (FU a n c) (chP s (l.take k)))/\Hid (B0 w wr))
 case atStart=>exact⟨0,0,G5,0,rfl,rfl,G8 rfl,AZ _,A8 _,G8 (.inl ⟨rfl,rfl⟩),G8 (AA _ _)⟩
 case round=>
  obtain⟨k,n,a,c,rfl,rfl,hn,hk,hg,hO,hB⟩:=hrel;by_cases hlt:k<l.length
  .obtain⟨x,hx⟩:∃x,l[k]?=G6 x:=⟨_,AO hlt⟩;obtain⟨b,off,cap,he,hb,q⟩:=G7 KR wr (G7 hB) k x hx;simp only[AQ]at he;obtain⟨rfl,_,rfl⟩:=he;have d0:=q.t0 hx;have d1:=q.t1 hx;have d2:=q.t2 hx;have hbw:b<wr.heap.size:=AY hb (G7 hB).size;have HB1:=G8 (GH (G7 hB) (G9 wr (FV #[I0 x.s,I0 x.k,S0 x.p] 76)));have HO1:=G8 ((G7 hO).next (G9 wr (FV #[I0 x.s,I0 x.k,S0 x.p] 76)));have hnl:n<=k:=by rw[<-G7 hn];exact Nat.le_trans (A58 _ _) (by simp;omega)
   by_cases h1:x.s=s
   .have hsb:(x.s==s)=true:=by simpa using h1
    by_cases h2:x.k=4
    .have hkb:(x.k==4)=true:=by simpa using h2
     have HE:=G8 (BZ6 hx (s:=s) (.inr h2));clear q hx h1 h2;go_wp2_with fail
     go_roundg (l.length-(k+1))
     case measure=>omega
     case rel=>exact⟨k+1,n,a,c,rfl,rfl,by rw[G7 HE];exact hn,by omega,A8 _,by rw[G7 HE];exact HO1,HB1⟩
    .have hkb:(x.k==4)=false:=by simpa using h2
     have HE:=G8 (CE0 hx h1 h2);clear q hx h1 h2;have HR:=G8 (((G7 HO1).next (G9 _ (FV #[S0 x.p] 9))).row);rw[G7 hn]at HR;have HB2:=G8 (GH (G7 HB1) (G9 _ (FV #[S0 x.p] 9)));have HA:=G8 (G7 HO1).above;clear hO HO1;go_wp2_with (at_builtin;refine wpList_append_own _ rfl _ _ 205 rfl w.heap.size 9 i0 _ 1 16 underlying205 hi0 hz0 hz1 hz2 rfl (by decide) _ n (GI (chP s (l.take k))) rfl (G7 HR) ⟨wr.heap.size+1,0,G5⟩ 1 1 [S0 x.p] rfl (by rfl) ?qc2 (by simp[Value.oneCell']) ?qc4 ?qc5 (G7 HB2).size ?_)
     case qc2=>
      intro j u hj
      match j with
      |0=>simp only[List.getElem?_cons_zero,BF]at hj;subst hj;rw[Addr.add_lit];simp
      |j+1=>simp at hj
     case qc4=>simp only[maxLen];omega
     case qc5=>omega
     intro v' w1 hown hgrow _;have O2:GZ w1 w.heap.size v' (chP s (l.take (k+1))):=GZ.L9 (by rw[G7 HE,AP,JH,G7 hn];exact hown);obtain⟨a2,c2,rfl,_⟩:=O2.slice;have HO2:=G8 O2;have HB3:=G8 ((G7 HB2).grown hgrow (G7 HB2).size (G7 HA));clear O2 hown hgrow;go_wp2_with fail
     go_roundg (l.length-(k+1))
     case measure=>omega
     case rel=>exact⟨k+1,_,a2,c2,rfl,rfl,G8 rfl,by omega,A8 _,HO2,HB3⟩
   .have hsb:(x.s==s)=false:=by simpa using h1
    have HE:=G8 (BZ6 hx (s:=s) (.inl h1));clear q hx h1;go_wp2_with fail
    go_roundg (l.length-(k+1))
    case measure=>omega
    case rel=>exact⟨k+1,n,a,c,rfl,rfl,by rw[G7 HE];exact hn,by omega,A8 _,by rw[G7 HE];exact HO1,HB1⟩
  .obtain rfl:k=l.length:=by omega
   rw[List.take_length]at hO hn;have hnl:n<=l.length:=by rw[<-G7 hn];exact A58 _ _
   rcases G7 hO with⟨h1,h0⟩|⟨g,cap,h1,hgB,ho⟩
   .simp only[AQ]at h1;obtain⟨rfl,rfl,rfl⟩:=h1;have HS0:Hid (Y9 (chP s l)=[]):=G8 (by rw[h0];simp[Y9]);clear h0 hO;have CS:=fun W=>slices_Sort_string_none G5 0 W;go_wp2_with fail;refine(CS _).mono ?_;rintro e w1 ⟨rfl,rfl⟩;go_wp2_with fail;go_ret;exact⟨_,rfl,.inl ⟨rfl,G7 HS0⟩,G7 hB⟩
   .simp only[AQ]at h1;obtain⟨rfl,h3,rfl⟩:=h1;have CS:FZ prog 177 #[FU (G6 ⟨g,0,G5⟩) (chP s l).length c] wr fun e w'=>e=.returned (.tuple #[])/\∃n os,w'=Sort.grow (Sort.putRow encStr (Sort.ahead wr n) g 0 (Y9 (chP s l)).toArray) os:=slices_Sort_string g 0 c (chP s l) wr (pU (n:=0) (os:=#[]) hgB ho).2 ho.lt (by rw[<-h3];omega);rw[<-h3]at CS;have HO:=G8 ho;have H3:=G8 h3;clear hO ho h3;go_wp2_with fail;refine CS.mono ?_;rintro e w1 ⟨rfl,m,os,rfl⟩;have O4:=(pU (n:=m) (os:=os) hgB (G7 HO)).1;have B4:=(G7 hB).grown (grownBy_sorted (n:=m) (os:=os) (g:=g) (Y9 (chP s l)).toArray) (G7 hB).size (fun j e=>by cases e;exact hgB);rw[<-G7 H3]at O4;have HO4:=G8 O4;have HB4:=G8 B4;clear CS O4 B4;generalize Sort.grow (Sort.putRow encStr (Sort.ahead wr m) g 0 (Y9 (chP s l)).toArray) os=w4 at*;go_wp2_with fail;go_ret;exact⟨_,rfl,G7 HO4,G7 HB4⟩
structure CP4(B q:Nat)(va:FX)(ss:List (List UInt8))(W:FW):Prop where
 box:W.heap[B]?=G6 (FV #[va] 205 (0,0))
 own:GZ W 0 va ss
 ne:B≠q
 nq:∀k,va.ownBlock=G6 k->k≠q
theorem BB5(B q:Nat)(va:FX)(ss:List (List UInt8))(hs:ss.Pairwise fun a b=>bl b a=false)(hl:ss.length<=281474976710656)(W:FW)(x:En)(hI:CP4 B q va ss W):
  FZ prog 124 #[.agg #[S0 x.p,S0 x.d,.bool x.t],P0 B] W fun r w'=>r=.returned (.bool (decide (x.p∈ss)))/\B0 W w':=by
 have C:=fun V (hV:B0 W V)=>AQ1 va ss x.p V (hI.own.next hV).seq hl hs;have c0:(W.alloc (FV #[S0 x.p,S0 x.d,.bool x.t] 88)).cell? ⟨B,0,G5⟩=G6 va:=by
  have hb:=hI.box;have hlt:=(AL.1 hb).1;rw[(G9 W _).cell (p:=⟨B,0,G5⟩) hlt];simp[World.cell?,hb]
 have hBl:B<W.heap.size:=(AL.1 hI.box).1;obtain⟨a,c,rfl,_⟩:=hI.own.slice;clear hI;generalize decide (x.p∈ss)=hd at C⊢;generalize ss.length=n at*;obtain⟨xp,xd,xt⟩:=x;simp only at*;go_enter func124,ntmps124;go_wp2_with fail;obtain⟨i,C2⟩:=C _ (G9 _ _);refine C2.mono ?_;rintro e w1 ⟨rfl,rfl⟩;go_wp2_with fail;go_ret;exact⟨rfl,G9 _ _⟩
theorem yM(B q:Nat)(va:FX)(ss:List (List UInt8))(hs:ss.Pairwise fun a b=>bl b a=false)(hl:ss.length<=281474976710656):BB3 124 B q (fun x=>decide (x.p∈ss)) (CP4 B q va ss):=
 ⟨rfl,fun _ _ h hg=>⟨(hg.block B (AL.1 h.box).1 (fun e=>h.ne (BP e))).trans h.box,h.own.grown hg (fun k hk e=>h.nq k hk (BP e)),h.ne,h.nq⟩,fun W x h=>BB5 B q va ss hs hl W x h⟩
theorem BU0(C:BB3 g B q pr I)(w:FW)(hi:I w):
  FZ prog 123 #[N0,.func (.func g) #[] #[P0 B]] w (R0 w (N0)):=by
 have CN:=yJ C (N0) [] w hi (IL.nil w) (by simp) (by simp);have two:=C.two;clear C hi;subst two;go_enter func123,ntmps123;go_wp2_with fail;refine CN.mono ?_;rintro e w1 ⟨rfl,hb1⟩;go_wp2_with fail;go_ret;exact⟨rfl,hb1⟩
