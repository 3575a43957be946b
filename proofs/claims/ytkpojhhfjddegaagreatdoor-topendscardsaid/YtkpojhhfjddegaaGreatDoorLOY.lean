/-
  Part.
-/
import Derived.Test.YtkpojhhfjddegaaGreatDoorLOF
import Derived.Sort.OwnSorted
set_option maxRecDepth 20000
set_option maxHeartbeats 8000000
namespace Go.Proofs.YtkpojhhfjddegaaGreatDoor
open Go.RowKit Go.Proofs.Tryz
open _root_.Nat renaming le_refl->A8,lt_of_lt_of_le->AY,zero_le->AZ,zero_add->BJ,add_assoc->EM
open Go.RowKit.Below renaming refl->AA,heap_setCell->BG
open _root_.Array renaming getElem?_eq_some_iff->AL
open _root_.List renaming getElem?_eq_getElem->AO,length_append->AP,getElem?_eq_some_iff->AV,mem_of_getElem?->BA,getElem?_append_right->BD,length_cons->BH,getElem?_append_left->BN,take_of_length_le->BO,mem_cons->BR,eq_nil_of_length_eq_zero->C9,mem_filter->EK,mem_map->F5,filter_append->F6
open Go.Value.slice renaming injEq->AQ
open _root_.Option.some renaming injEq->BF,inj->BQ
open Go.Value renaming ownBlock->DK,slice->FV
open Go.Lib renaming run_eql_slice_nil->ES,compareBytes->EU
open _root_.Option renaming map_eq_some_iff->FQ,none->G6,some->G7
open Go.Obj renaming cells->FW
open Go renaming World->FX,Value->FZ,Calls->G5
variable{w W V:FX}{b off i k B q:Nat}{xs:List En}{x:En}{α:Type}{v:FZ}{s z:Int}{g:FuncId}{pr:En->Bool}{I:FX->Prop}
def OV(e:En):List FZ:=[S0 e.p,S0 e.d,.bool e.t]
def enV(e:En):FZ:=.agg #[S0 e.p,S0 e.d,.bool e.t]
def clV(s z:Int)(v:FZ):FZ:=.agg #[I0 s,I0 z,v]
instance layC:Lay En:=⟨3,OV,77,fun _=>rfl,fun x u hu=>by simp[OV]at hu;rcases hu with rfl|rfl|rfl<;>rfl⟩
theorem IE.en0(h:IE w b off (GK xs))(hi:xs[i]?=G7 x):w.cell? ⟨b,off+i*3,G6⟩=G7 (S0 x.p):=
 h (i*3) _ (GY xs i x hi 0 (by decide))
theorem IE.en1(h:IE w b off (GK xs))(hi:xs[i]?=G7 x):w.cell? ⟨b,off+i*3+1,G6⟩=G7 (S0 x.d):=by
 rw[EM];exact h (i*3+1) _ (GY xs i x hi 1 (by decide))
theorem IE.en2(h:IE w b off (GK xs))(hi:xs[i]?=G7 x):w.cell? ⟨b,off+i*3+2,G6⟩=G7 (.bool x.t):=by
 rw[EM];exact h (i*3+2) _ (GY xs i x hi 2 (by decide))
theorem CP3:(prog.info? 77).map (fun i=>(i.zero,i.size,i.bytes))=G7 (G7 (.agg #[.string ⟨#[]⟩,.string ⟨#[]⟩,.bool false]),3,40):=by kernel_rfl
theorem BS7:∃i0,prog.info? 77=G7 i0/\i0.zero=G7 (.agg #[.string ⟨#[]⟩,.string ⟨#[]⟩,.bool false])/\i0.size=3/\i0.bytes=40:=by
 obtain⟨i0,h,e⟩:=FQ.1 CP3;simp only[Prod.mk.injEq]at e;exact⟨i0,h,e⟩
theorem tC(w:FX)(x:En):JM (w.alloc (FW #[S0 x.p,S0 x.d,.bool x.t] 77)) w.heap.size x:=heap_alloc_new w _
theorem crow[Lay α]{xs:List α}(hv:IK w v xs):∀W,B0 w W->∀ (k:Nat) (x:α),xs[k]?=G7 x->∃b off cap,v=FV (G7 ⟨b,off,G6⟩) xs.length cap/\b<w.heap.size/\IE W b off (GK xs):=fun W hW k x hx=>by
 obtain⟨b,off,cap,e,hb,hr,_,_⟩:=MZ hv (fun h0=>by obtain⟨h1,_⟩:=AV.1 hx;rw[h0]at h1;simp at h1);exact⟨b,off,cap,e,hb,hr.kept hW hb⟩
def NC(W:FX)(k:Nat)(s z:Int)(v:FZ):Prop:=W.heap[k]?=G7 (FW #[I0 s,I0 z,v] 39 (0,0))
theorem NC.lt(h:NC W k s z v):k<W.heap.size:=(AL.1 h).1
theorem NC.c0(h:NC W k s z v):W.cell? ⟨k,0,G6⟩=G7 (I0 s):=by unfold NC at h;simp[World.cell?,h]
theorem NC.c1(h:NC W k s z v):W.cell? ⟨k,1,G6⟩=G7 (I0 z):=by unfold NC at h;simp[World.cell?,h]
theorem NC.c2(h:NC W k s z v):W.cell? ⟨k,2,G6⟩=G7 v:=by unfold NC at h;simp[World.cell?,h]
theorem NC.fr(h:NC W k s z v)(j:Nat):W.frozen? ⟨k,j,G6⟩=false:=by unfold NC at h;simp[World.frozen?,h]
theorem NC.kept(h:NC W k s z v)(hb:Below B W V)(hk:k<B):NC V k s z v:=(hb.block k hk).trans h
theorem NC.next(h:NC W k s z v)(hb:B0 W V):NC V k s z v:=h.kept hb h.lt
theorem NC.grown{r:Option Nat}(h:NC W k s z v)(hg:W.grownBy V r)(hr:G7 k≠r):NC V k s z v:=(hg.block k h.lt hr).trans h
theorem NC.new(w:FX)(s z:Int)(v:FZ):NC (w.alloc (FW #[I0 s,I0 z,v] 39)) w.heap.size s z v:=heap_alloc_new w _
theorem NC.set0{s':Int}(h:NC W k s z v):NC (W.setCell ⟨k,0,G6⟩ (I0 s')) k s' z v:=by unfold NC at h⊢;rw[GV _ h];rfl
theorem NC.set1{z':Int}(h:NC W k s z v):NC (W.setCell ⟨k,1,G6⟩ (I0 z')) k s z' v:=by unfold NC at h⊢;rw[GV _ h];rfl
theorem NC.set2{v':FZ}(h:NC W k s z v):NC (W.setCell ⟨k,2,G6⟩ v') k s z v':=by unfold NC at h⊢;rw[GV _ h];rfl
theorem NC.other(h:NC W k s z v){a:Addr}(ha:k≠a.block)(u:FZ):NC (W.setCell a u) k s z v:=(BG W a u k ha).trans h
theorem JM.ltz[Lay α]{x:α}(h:JM W b x):b<W.heap.size:=(AL.1 h).1
theorem JM.VI[Lay α]{x:α}(h:JM W b x)(hb:Below B W V)(hk:b<B):JM V b x:=(hb.block b hk).trans h
theorem JM.PD[Lay α]{x:α}(h:JM W b x){a:Addr}(ha:b≠a.block)(u:FZ):JM (W.setCell a u) b x:=(BG W a u b ha).trans h
theorem JM.e0(h:JM W b x):W.cell? ⟨b,0,G6⟩=G7 (S0 x.p):=h.row 0 _ rfl
theorem JM.e1(h:JM W b x):W.cell? ⟨b,1,G6⟩=G7 (S0 x.d):=by have:=h.row 1 _ rfl;simpa using this
theorem JM.e2(h:JM W b x):W.cell? ⟨b,2,G6⟩=G7 (.bool x.t):=by have:=h.row 2 _ rfl;simpa using this
theorem H6.PD[Lay α]{xs:List α}(h:H6 W B v xs){j:Nat}(hk:k<B)(u:FZ):H6 (W.setCell ⟨k,j,G6⟩ u) B v xs:=by
 rcases h with h|⟨g,cap,rfl,hB,h⟩
 .exact .inl h
 .exact .inr ⟨g,cap,rfl,hB,h.other (by simp only;omega) u⟩
theorem H6.above[Lay α]{xs:List α}(h:H6 W B v xs):∀k,v.ownBlock=G7 k->B<=k:=by
 rcases h with⟨rfl,rfl⟩|⟨g,cap,rfl,hB,h⟩
 .intro k hk;simp[DK]at hk
 .intro k hk;simp only[DK,BF]at hk;omega
theorem iH(s:List UInt8)(w:FX)(hs:s.length<=281474976710656):
  G5 prog 92 #[S0 s] w (R0 w (S0 s)):=by
 have C:=fun W=>stringslite_Clone ⟨s.toArray⟩ W (show (ByteArray.mk s.toArray).size<=_ from hs);go_enter func92,ntmps92;go_wp2_with fail;refine(C _).mono ?_;rintro e w1 ⟨rfl,hb1⟩;go_wp2_with fail;go_ret;exact⟨rfl,hb1⟩
theorem AG5(a:Addr)(cap:Nat)(xs:List En)(w:FX)(hl:xs.length*40<=140737488355328)(hc:∀j u,(GK xs)[j]?=G7 u->w.cell? (a.add j)=G7 u):
  G5 prog 21 #[FV (G7 a) xs.length cap] w fun e w'=>∃v',e=.returned v'/\H6 w' w.heap.size v' xs/\B0 w w':=by
 have q22:∀ (w:FX) (a:Option Addr) (n c n' c':Nat),(binOp .eql 37 (FV a n c) (FV G6 n' c')).run prog w=.ok (.bool a.isNone) w:=fun w a n c n' c'=>ES w _ _ a n c n' c' underlying37;have H:=G9 hc;clear hc;obtain⟨i0,hi0,hz0,hz1,hz2⟩:=BS7;go_enter func21,ntmps21;go_wp2_with (at_builtin;refine wpList_append_own _ rfl _ _ 37 rfl w.heap.size 77 i0 _ 3 40 underlying37 hi0 hz0 hz1 hz2 rfl (by decide) _ _ _ rfl (World.ownsRow_made w #[] 0 (A8 _) (AZ _) (by simp)) a xs.length cap (GK xs) rfl ?qc1 ?qc2 ?qc3 ?qc4 ?qc5 ?qc6 ?_)
 case qc1=>exact H7 xs
 case qc2=>
  intro j u hj;exact Lib.cell?_alloc_some _ (G8 H j u hj)
 case qc3=>exact JR xs
 case qc4=>simp only[maxLen];omega
 case qc5=>omega
 case qc6=>simp
 intro v' w1 hown hgrow hnil
 go_wp2
 go_ret;refine⟨v',rfl,H6.LC (by first|exact hown|(simp only[List.nil_append,BJ]at hown;exact hown)|simpa using hown),?_⟩;exact((AA _ w).alloc (A8 _) _).grown hgrow (by simp) (by intro k hk;simp[DK]at hk;omega)
theorem CB7(n c:Nat)(w:FX):
  G5 prog 21 #[FV G6 n c] w fun e w'=>e=.returned (N0)/\w'=w:=by
 have q22:∀ (w:FX) (a:Option Addr) (n c n' c':Nat),(binOp .eql 37 (FV a n c) (FV G6 n' c')).run prog w=.ok (.bool a.isNone) w:=fun w a n c n' c'=>ES w _ _ a n c n' c' underlying37;go_enter func21,ntmps21
 go_wp2
 go_ret;exact⟨rfl,rfl⟩
theorem BA3(v:FZ)(xs:List En)(w:FX)(hv:IK w v xs)(hl:xs.length*40<=140737488355328):
  G5 prog 21 #[v] w fun e w'=>∃v',e=.returned v'/\H6 w' w.heap.size v' xs/\B0 w w':=by
 rcases hv with⟨a,cap,rfl,rfl,_⟩|⟨b,off,cap,rfl,_,_,hb,_,hr⟩
 .cases a with
  |none=>exact(CB7 0 cap w).mono fun e w' ⟨he,hw⟩=>⟨_,he,.inl ⟨rfl,rfl⟩,by rw[hw];exact AA _ _⟩
  |some a=>exact AG5 a cap [] w (by simp) (fun j u h=>by simp[GK]at h)
 .exact AG5 ⟨b,off,G6⟩ cap xs w hl (fun j u h=>by rw[Addr.add_lit];exact hr j u h)
theorem AG6(x:En)(w:FX)(hp:x.p.length<=140737488355328)(hd:x.d.length<=140737488355328):
  G5 prog 81 #[.agg #[S0 x.p,S0 x.d,.bool x.t]] w (R0 w (.agg #[S0 x.p,S0 x.d,.bool x.t])):=by
 obtain⟨xp,xd,xt⟩:=x;simp only at*;have Kp:=fun W=>iH xp W (by omega);have Kd:=fun W=>iH xd W (by omega);go_enter func81,ntmps81;go_wp2_with fail;generalize hW0:(w.alloc (FW #[S0 xp,S0 xd,.bool xt] 77)).alloc (FW #[.string ⟨#[]⟩,.string ⟨#[]⟩,.bool false] 77)=W0;have hB0:B0 w W0:=by rw[<-hW0];exact GI (GH _ _) (GH _ _)
 have hz0:W0.heap.size=w.heap.size+2:=by rw[<-hW0];simp
 have p0:W0.cell? ⟨w.heap.size,0,G6⟩=G7 (S0 xp):=by rw[<-hW0];simp
 have r0:W0.cell? ⟨w.heap.size+1,0,G6⟩=G7 (.string ⟨#[]⟩):=by rw[<-hW0];simp
 have p1:W0.cell? ⟨w.heap.size,1,G6⟩=G7 (S0 xd):=by rw[<-hW0];simp
 have r1:W0.cell? ⟨w.heap.size+1,1,G6⟩=G7 (.string ⟨#[]⟩):=by rw[<-hW0];simp
 have p2:W0.cell? ⟨w.heap.size,2,G6⟩=G7 (.bool xt):=by rw[<-hW0];simp
 have r2:W0.cell? ⟨w.heap.size+1,2,G6⟩=G7 (.bool false):=by rw[<-hW0];simp
 have pf:∀j,W0.frozen? ⟨w.heap.size,j,G6⟩=false:=by intro j;rw[<-hW0];simp
 have rf:∀j,W0.frozen? ⟨w.heap.size+1,j,G6⟩=false:=by intro j;rw[<-hW0];simp
 clear hW0;have d0:∀d os,(Sort.grow (redrawn W0 d) os).cell? ⟨w.heap.size,0,G6⟩=G7 (S0 xp):=fun d os=>cell_regrown p0 d os;have g0:∀d os,(Sort.grow (redrawn W0 d) os).frozen? ⟨w.heap.size,0,G6⟩=false:=fun d os=>by rw[(below_regrown W0 d os).frozen (p:=⟨w.heap.size,0,G6⟩) (by simp only;omega)];exact pf 0
 have s0:∀d os,(Sort.grow (redrawn W0 d) os).setCell ⟨w.heap.size,0,G6⟩ (S0 xp)=Sort.grow (redrawn W0 d) os:=fun d os=>IB (d0 d os);have c0:=fun d os=>Calls.regrown_of (w:=W0) (d:=d) (os:=os) (Kp _);have d1:∀d os,(Sort.grow (redrawn W0 d) os).cell? ⟨w.heap.size,1,G6⟩=G7 (S0 xd):=fun d os=>cell_regrown p1 d os;have g1:∀d os,(Sort.grow (redrawn W0 d) os).frozen? ⟨w.heap.size,1,G6⟩=false:=fun d os=>by rw[(below_regrown W0 d os).frozen (p:=⟨w.heap.size,1,G6⟩) (by simp only;omega)];exact pf 1
 have s1:∀d os,(Sort.grow (redrawn W0 d) os).setCell ⟨w.heap.size,1,G6⟩ (S0 xd)=Sort.grow (redrawn W0 d) os:=fun d os=>IB (d1 d os);have c1:=fun d os=>Calls.regrown_of (w:=W0) (d:=d) (os:=os) (Kd _);refine wp_region_quiet_below (by kernel_rfl) (by kernel_rfl) ?_
 repeat (first|go_big_quiet_step (first|with_reducible exact c0 _ _|with_reducible exact c1 _ _)|quiet_step (first|with_reducible exact c0 _ _|with_reducible exact c1 _ _))
 refine wpQuiet_nil ?_;intro _ hw';obtain⟨⟨dq,osq⟩,hw''⟩:=hw';subst hw'';have hb1:=below_regrown W0 dq osq;have hB:=GI hB0 hb1;have e0:=(hb1.cell (p:=⟨w.heap.size,0,G6⟩) (by simp only;omega)).trans p0;have u0:=(hb1.cell (p:=⟨w.heap.size+1,0,G6⟩) (by simp only;omega)).trans r0;have v0:=(hb1.frozen (p:=⟨w.heap.size+1,0,G6⟩) (by simp only;omega)).trans (rf 0);have e1:=(hb1.cell (p:=⟨w.heap.size,1,G6⟩) (by simp only;omega)).trans p1;have u1:=(hb1.cell (p:=⟨w.heap.size+1,1,G6⟩) (by simp only;omega)).trans r1;have v1:=(hb1.frozen (p:=⟨w.heap.size+1,1,G6⟩) (by simp only;omega)).trans (rf 1);have e2:=(hb1.cell (p:=⟨w.heap.size,2,G6⟩) (by simp only;omega)).trans p2;have u2:=(hb1.cell (p:=⟨w.heap.size+1,2,G6⟩) (by simp only;omega)).trans r2;have v2:=(hb1.frozen (p:=⟨w.heap.size+1,2,G6⟩) (by simp only;omega)).trans (rf 2);generalize Sort.grow (redrawn W0 dq) osq=w1 at*;clear hb1 hB0 hz0 pf rf p0 r0 p1 r1 p2 r2 d0 g0 s0 c0 Kp d1 g1 s1 c1 Kd;go_wp2_with fail;refine bodyPost_ret (v:=.agg #[S0 xp,S0 xd,.bool xt]) (by simp[results,results81,go_sem,u0,u1,u2]) rfl ⟨rfl,?_⟩;exact(((hB.setCell (by simp) _).setCell (by simp) _).setCell (by simp) _)
theorem aG(s z:Int)(v:FZ)(es:List En)(w:FX)(hv:IK w v es)(hs:yK es)(hl:es.length*40<=140737488355328):
  G5 prog 72 #[clV s z v] w fun e w'=>∃v',e=.returned (clV s z v')/\H6 w' w.heap.size v' es/\B0 w w':=by
 have CC:=fun W (hW:B0 w W)=>BA3 v es W (hv.next hW) hl;have HO:Hid (∀x∈es,∀W,G5 prog 81 #[.agg #[S0 x.p,S0 x.d,.bool x.t]] W (R0 W (.agg #[S0 x.p,S0 x.d,.bool x.t]))):=G9 fun x hm W=>AG6 x W (hs x hm).1 (hs x hm).2;obtain⟨a,c,rfl⟩:=GL hv;unfold clV;clear hv hs;go_enter func72,ntmps72;go_wp2_with fail;refine(CC _ (GI (GH _ _) (GH _ _))).mono ?_;rintro e w1 ⟨v',rfl,ho,hb1⟩;have HB1:=G9 (GI (GI (GH w _) (GH _ _)) hb1);have X1:=((NC.new w s z (FV a es.length c)).next (GH _ (FW #[I0 0,I0 0,N0] 39))).next hb1;have X2:=(NC.new (w.alloc (FW #[I0 s,I0 z,FV a es.length c] 39)) 0 0 (N0)).next hb1;have hs1:(w.alloc (FW #[I0 s,I0 z,FV a es.length c] 39)).heap.size=w.heap.size+1:=by simp
 rw[hs1]at X2;have hz1:w.heap.size+2<=w1.heap.size:=by have:=hb1.size;simpa using this
 have c2:=X1.c2;have f2:=X1.fr 2;have Y1:=X1.set2 (v':=v');have Y2:=X2.other (a:=⟨w.heap.size,2,G6⟩) (by simp) v';rcases ho with⟨rfl,rfl⟩|⟨g,cap,rfl,hg,ho⟩
 .clear CC hb1 X1 X2;have HY1:=G9 Y1;have HY2:=G9 Y2;clear Y1 Y2;go_wp2_with fail
  go_loopg [12] 1 (fun _ s wr=>s=I0 0/\wr=w1.setCell ⟨w.heap.size,2,G6⟩ (N0))
  case atStart=>exact⟨rfl,rfl⟩
  case round=>
   obtain⟨rfl,rfl⟩:=hrel;have q0:=(G8 HY1).c0;have q1:=(G8 HY1).c1;have q2:=(G8 HY1).c2;have r0:=(G8 HY2).c0;have r1:=(G8 HY2).c1;have r2:=(G8 HY2).c2;have t0:=(G8 HY2).fr 0;have t1:=(G8 HY2).fr 1;have t2:=(G8 HY2).fr 2;have HB2:=G9 ((G8 HB1).setCell (p:=⟨w.heap.size,2,G6⟩) (A8 _) (N0));generalize w1.setCell ⟨w.heap.size,2,G6⟩ (N0)=W at*;go_wp2_with fail;refine bodyPost_ret (v:=.agg #[I0 s,I0 z,N0]) (by simp[results,results72,go_sem,r0,r1,r2]) rfl ⟨_,rfl,.inl ⟨rfl,rfl⟩,?_⟩;exact(((G8 HB2).setCell (by simp) _).setCell (by simp) _).setCell (by simp) _
 .have hgl:=ho.lt;have hg2:w.heap.size+2<=g:=by simpa using hg
  have HW:=G9 (ho.other (a:=⟨w.heap.size,2,G6⟩) (by simp only;omega) (FV (G7 ⟨g,0,G6⟩) es.length cap));have HY1:=G9 Y1;have HY2:=G9 Y2;have HB2:=G9 ((G8 HB1).setCell (p:=⟨w.heap.size,2,G6⟩) (A8 _) (FV (G7 ⟨g,0,G6⟩) es.length cap));have hzs:(w1.setCell ⟨w.heap.size,2,G6⟩ (FV (G7 ⟨g,0,G6⟩) es.length cap)).heap.size=w1.heap.size:=by simp[World.setCell]
  clear ho CC hb1 X1 X2 Y1 Y2 hg;go_wp2_with fail;generalize w1.setCell ⟨w.heap.size,2,G6⟩ (FV (G7 ⟨g,0,G6⟩) es.length cap)=W at*
  go_loopg [12] es.length (fun kx s wr=>∃k:Nat,s=I0 k/\k<=es.length/\es.length-k<=kx/\Hid (B0 W wr))
  case atStart=>exact⟨0,rfl,AZ _,by omega,G9 (AA _ _)⟩
  case round=>
   obtain⟨k,rfl,hk,hkx,hB⟩:=hrel;have Z1:=(G8 HY1).next (G8 hB);by_cases hlt:k<es.length
   .obtain⟨x,hx⟩:∃x,es[k]?=G7 x:=⟨_,AO hlt⟩;have o:=(G8 HW).next (G8 hB);have RS:=o.lt;have a0:=o.row.en0 hx;have a1:=o.row.en1 hx;have a2:=o.row.en2 hx;simp only[BJ]at a0 a1 a2;have CX:=G8 HO x (BA hx);have hzr:=(G8 hB).size;obtain⟨yp,yd,yt⟩:=x;simp only at a0 a1 a2 CX;have N1:=tC wr ⟨yp,yd,yt⟩;simp only at N1;have O2:=o.next (GH wr (FW #[S0 yp,S0 yd,.bool yt] 77));have b2:=(Z1.next (GH wr (FW #[S0 yp,S0 yd,.bool yt] 77))).c2;have p0:=N1.e0;have p1:=N1.e1;have p2:=N1.e2;have r0:=O2.row.en0 hx;have r1:=O2.row.en1 hx;have r2:=O2.row.en2 hx;have rf:=O2.frozen;have hg3:=O2.lt;simp only[BJ]at r0 r1 r2 p0 p1 p2;have HB3:=G9 (GI (G8 hB) (GH wr (FW #[S0 yp,S0 yd,.bool yt] 77)));clear hx o O2 N1 Z1;go_wp2_with fail;generalize wr.alloc (FW #[S0 yp,S0 yd,.bool yt] 77)=W0 at*;have b2':=fun d os=>cell_regrown b2 d os;have p0':=fun d os=>cell_regrown p0 d os;have p1':=fun d os=>cell_regrown p1 d os;have p2':=fun d os=>cell_regrown p2 d os;have r0':=fun d os=>cell_regrown r0 d os;have r1':=fun d os=>cell_regrown r1 d os;have r2':=fun d os=>cell_regrown r2 d os;have t0:∀d os,(Sort.grow (redrawn W0 d) os).frozen? ⟨g,k*3,G6⟩=false:=fun d os=>by rw[(below_regrown W0 d os).frozen (p:=⟨g,k*3,G6⟩) hg3];exact rf _
    have t1:∀d os,(Sort.grow (redrawn W0 d) os).frozen? ⟨g,k*3+1,G6⟩=false:=fun d os=>by rw[(below_regrown W0 d os).frozen (p:=⟨g,k*3+1,G6⟩) hg3];exact rf _
    have t2:∀d os,(Sort.grow (redrawn W0 d) os).frozen? ⟨g,k*3+2,G6⟩=false:=fun d os=>by rw[(below_regrown W0 d os).frozen (p:=⟨g,k*3+2,G6⟩) hg3];exact rf _
    have s0:=fun d os=>IB (r0' d os);have s1:=fun d os=>IB (r1' d os);have s2:=fun d os=>IB (r2' d os);have c0:=fun d os=>Calls.regrown_of (w:=W0) (d:=d) (os:=os) (CX _);clear rf p0 p1 p2 r0 r1 r2 b2;refine wp_region_quiet_below (by kernel_rfl) (by kernel_rfl) ?_
    repeat (first|go_big_quiet_step (with_reducible exact c0 _ _)|quiet_step (with_reducible exact c0 _ _))
    refine wpQuiet_nil ?_;intro _ hw';obtain⟨⟨dq,osq⟩,hw''⟩:=hw';subst hw'';have hB2:=G9 (GI (G8 HB3) (below_regrown W0 dq osq));generalize Sort.grow (redrawn W0 dq) osq=w2 at*;clear b2' p0' p1' p2' r0' r1' r2' t0 t1 t2 s0 s1 s2 c0 CX;go_wp2_with fail
    go_roundg (es.length-(k+1))
    case measure=>omega
    case rel=>exact⟨k+1,rfl,by omega,A8 _,hB2⟩
   .have Z2:=(G8 HY2).next (G8 hB);have q0:=Z1.c0;have q1:=Z1.c1;have q2:=Z1.c2;have r0:=Z2.c0;have r1:=Z2.c1;have r2:=Z2.c2;have t0:=Z2.fr 0;have t1:=Z2.fr 1;have t2:=Z2.fr 2;have O2:=(G8 HW).next (G8 hB);clear Z1 Z2;go_wp2_with fail;refine bodyPost_ret (v:=.agg #[I0 s,I0 z,FV (G7 ⟨g,0,G6⟩) es.length cap]) (by simp[results,results72,go_sem,r0,r1,r2]) rfl ⟨_,rfl,.inr ⟨g,cap,rfl,by omega,?_⟩,?_⟩
    .exact((O2.other (by simp only;omega) _).other (by simp only;omega) _).other (by simp only;omega) _
    .exact(((GI (G8 HB2) (G8 hB)).setCell (by simp) _).setCell (by simp) _).setCell (by simp) _
theorem AG7(n:En)(p:List UInt8)(w:FX):
  G5 prog 124 #[enV n,S0 p] w (R0 w (I0 (EU n.p p))):=by
 unfold enV;go_enter func124,ntmps124;go_wp2_with fail;refine(strings_Compare _ _ _).mono ?_;rintro e w1 ⟨rfl,rfl⟩;go_wp2_with fail;go_ret;exact⟨rfl,GH _ _⟩
def tN(R:List En)(p:List UInt8):Bool:=match R with
 |[]=>false
 |f::_=>decide (f.p=p)
theorem AR7(A R:List En)(p:List UInt8)(lo:∀a∈A,bl a.p p=true)(hi:∀a∈R,bl a.p p=false)(i:Nat)(h:i<A.length+R.length):∃y,(A++R)[i]?=G7 y/\bl y.p p=decide (i<A.length):=by
 by_cases h1:i<A.length
 .refine⟨A[i],by rw[BN h1,AO h1],?_⟩;rw[lo _ (List.getElem_mem h1)];simp[h1]
 .have h2:i-A.length<R.length:=by omega
  refine⟨R[i-A.length],by rw[BD (by omega),AO h2],?_⟩;rw[hi _ (List.getElem_mem h2)];simp[h1]
theorem BT3(b off cap:Nat)(A R:List En)(p:List UInt8)(w:FX)(hcap:A.length+R.length<=100000)(hb:b<w.heap.size)(h:IE w b off (GK (A++R)))
  (lo:∀a∈A,bl a.p p=true) (hi:∀a∈R,bl a.p p=false):
  G5 prog 123 #[FV (G7 ⟨b,off,G6⟩) (A.length+R.length) cap,S0 p,.func (.func 124) #[] #[]] w fun e w'=>
   e=.returned (.tuple #[I0 A.length,.bool (tN R p)])/\B0 w w':=by
 have H:=G9 h;have SG:=G9 (AR7 A R p lo hi);obtain⟨fin,hfin⟩:∃x,tN R p=x:=⟨_,rfl⟩;have HF:=G9 hfin;rw[hfin];clear h hfin lo hi;go_enter func123,ntmps123;go_wp2_with fail
 go_loopg [9,10] (A.length+R.length) (fun kx s9 s10 wr=>∃lo hi:Nat,s9=I0 lo/\s10=I0 hi/\lo<=A.length/\A.length<=hi/\hi<=A.length+R.length/\hi-lo<=kx/\Hid (B0 w wr))
 case atStart=>exact⟨0,A.length+R.length,rfl,rfl,AZ _,by omega,A8 _,by omega,G9 (AA _ _)⟩
 case round=>
  obtain⟨lo,hi,rfl,rfl,h1,h2,h3,hg,hB⟩:=hrel;by_cases hlt:lo<hi
  .obtain⟨y,hy,hyn⟩:=G8 SG ((lo+hi)/2) (by omega);have HY:=G9 hyn;have r:=(G8 H).kept (G8 hB) hb;have e0:=r.en0 hy;have e1:=r.en1 hy;have e2:=r.en2 hy;clear hyn hy r;have hc:=AA2 y.p p;rw[G8 HY]at hc;have CM:=fun W=>AG7 y p W;generalize EU y.p p=cv at hc CM;by_cases hm:(lo+hi)/2<A.length
   .have hn:cv<0:=by simpa [hm]using hc
    clear hc;go_wp2_with fail;refine(CM _).mono ?_;rintro e w1 ⟨rfl,hb1⟩;have hB2:B0 w w1:=(G8 hB).trans (hb1.mono (G8 hB).size);clear CM;go_wp2_with fail
    go_roundg (hi-((lo+hi)/2+1))
    case measure=>omega
    case rel=>exact⟨(lo+hi)/2+1,hi,by rw[show ((lo:Int)+(hi:Int))/2+1=(((lo+hi)/2+1:Nat):Int) by omega],rfl,by omega,h2,h3,A8 _,G9 hB2⟩
   .have hn:¬cv<0:=by simpa [hm]using hc
    clear hc;go_wp2_with fail;refine(CM _).mono ?_;rintro e w1 ⟨rfl,hb1⟩;have hB2:B0 w w1:=(G8 hB).trans (hb1.mono (G8 hB).size);clear CM;go_wp2_with fail
    go_roundg ((lo+hi)/2-lo)
    case measure=>omega
    case rel=>exact⟨lo,(lo+hi)/2,rfl,by rw[show ((lo:Int)+(hi:Int))/2=(((lo+hi)/2:Nat):Int) by omega],h1,by omega,by omega,A8 _,G9 hB2⟩
  .obtain rfl:lo=A.length:=by omega
   obtain rfl:hi=A.length:=by omega
   cases R with
   |nil=>
    go_wp2_with fail
    go_ret2
    exact⟨by rw[<-G8 HF];rfl,G8 hB⟩
   |cons f R=>
    have r:=(G8 H).kept (G8 hB) hb;have hy:(A++f::R)[A.length]?=G7 f:=by simp
    have e0:=r.en0 hy;have e1:=r.en1 hy;have e2:=r.en2 hy;clear hy r;have hc:=iT f.p p;have CM:=fun W=>AG7 f p W;have hf:fin=decide (f.p=p):=(G8 HF).symm;rw[<-hc]at hf;clear hc HF;generalize EU f.p p=cv at hf CM;subst hf;simp only[BH];go_wp2_with fail;refine(CM _).mono ?_;rintro e w1 ⟨rfl,hb1⟩;have hB2:B0 w w1:=(G8 hB).trans (hb1.mono (G8 hB).size);clear CM;go_wp2_with fail
    go_ret2
    exact⟨by rfl,hB2⟩
theorem BA4(a:Option Addr)(cap:Nat)(p:List UInt8)(w:FX):
  G5 prog 123 #[FV a 0 cap,S0 p,.func (.func 124) #[] #[]] w fun e w'=>
   e=.returned (.tuple #[I0 0,.bool false])/\B0 w w':=by
 go_enter func123,ntmps123;go_wp2_with fail
 go_loopg [9,10] 1 (fun _ s9 s10 wr=>s9=I0 0/\s10=I0 0/\Hid (B0 w wr))
 case atStart=>exact⟨rfl,rfl,G9 (AA _ _)⟩
 case round=>
  obtain⟨rfl,rfl,hB⟩:=hrel;go_wp2_with fail
  go_ret2
  exact⟨rfl,G8 hB⟩
theorem mD(v:FZ)(ns A R:List En)(p:List UInt8)(w:FX)(hv:IK w v ns)(hl:ns.length<=100000)(he:ns=A++R)(lo:∀a∈A,bl a.p p=true)(hi:∀a∈R,bl a.p p=false):
  G5 prog 79 #[v,S0 p] w (R0 w (.tuple #[I0 A.length,.bool (tN R p)])):=by
 have C:∀W:FX,B0 w W->G5 prog 123 #[v,S0 p,.func (.func 124) #[] #[]] W fun e w'=>
   e=.returned (.tuple #[I0 A.length,.bool (tN R p)])/\B0 W w':=fun W hW=>by
  rcases hv with⟨a,cap,rfl,h0,_⟩|⟨b,off,cap,rfl,_,_,hb,_,hr⟩
  .rw[h0]at he;obtain⟨rfl,rfl⟩:A=[]/\R=[]:=by
    have:=congrArg List.length he;simp at this;exact⟨C9 (by omega),C9 (by omega)⟩
   exact BA4 a cap p W
  .subst he;rw[AP];exact BT3 b off cap A R p W (by simpa using hl) (AY hb hW.size) (hr.kept hW hb) lo hi
 have C':=G9 C;obtain⟨a,c,rfl⟩:=GL hv;clear C hv hl he lo hi;generalize tN R p=hd at C'⊢;go_enter func79,ntmps79;go_wp2_with fail;refine(G8 C' _ (AA _ _)).mono ?_;rintro e w1 ⟨rfl,hb1⟩;go_wp2_with fail
 go_ret2
 exact⟨rfl,hb1⟩
theorem A72(v:FZ)(ns A B:List En)(f:En)(p:List UInt8)(w:FX)(hv:IK w v ns)(hl:ns.length<=100000)(T:AF6 ns A f B p):
  G5 prog 79 #[v,S0 p] w (R0 w (.tuple #[I0 A.length,.bool true])):=by
 have:=mD v ns A (f::B) p w hv hl T.eq T.lo (fun a ha=>by
  rcases BR.1 ha with rfl|h
  .rw[T.nm];exact QZ _
  .exact OO (T.hi a h))
 rwa[show tN (f::B) p=true from by simp[tN,T.nm]]at this
theorem BA5(v:FZ)(ns A B:List En)(p:List UInt8)(w:FX)(hv:IK w v ns)(hl:ns.length<=100000)(G:CW6 ns A B p):
  G5 prog 79 #[v,S0 p] w (R0 w (.tuple #[I0 A.length,.bool false])):=by
 have:=mD v ns A B p w hv hl G.eq G.lo (fun a ha=>OO (G.hi a ha));rwa[show tN B p=false from by
  cases B with
  |nil=>rfl
  |cons f B=>have:=XF (G.hi f (by simp));simp[tN,this.symm]]at this
theorem BT4(s:Int)(w:FX)(h1:1<=s)(h2:s<=2147483647):
  G5 prog 31 #[I0 s] w (R0 w (.tuple #[clV s 0 (N0),I0 0])):=by
 unfold clV;go_enter func31,ntmps31;go_wp2_with fail;refine bodyPost_ret (v:=.tuple #[.agg #[I0 s,I0 0,N0],I0 0]) (by simp[results,results31,go_sem]) rfl ⟨rfl,?_⟩
 first|exact GH _ _|exact(((GH w _).setCell (by simp) _).setCell (by simp) _).setCell (by simp) _
theorem CB8(s z z':Int)(a:Option Addr)(n c:Nat)(w:FX)(h:z'<z):
  G5 prog 50 #[clV s z (FV a n c),I0 z'] w (R0 w (.tuple #[clV 0 0 (N0),I0 15])):=by
 unfold clV;go_enter func50,ntmps50;go_wp2_with fail;refine bodyPost_ret (v:=.tuple #[.agg #[I0 0,I0 0,N0],I0 15]) (by simp[results,results50,go_sem]) rfl ⟨rfl,?_⟩
 first|exact GI (GH _ _) (GH _ _)|exact(((GI (GH w _) (GH _ _)).setCell (by simp) _).setCell (by simp) _).setCell (by simp) _
theorem AG8(s z z':Int)(v:FZ)(es:List En)(w:FX)(hv:IK w v es)(hs:yK es)(hl:es.length*40<=140737488355328)(h:z<=z'):
  G5 prog 50 #[clV s z v,I0 z'] w fun e w'=>∃v',e=.returned (.tuple #[clV s z' v',I0 0])/\H6 w' w.heap.size v' es/\B0 w w':=by
 have CC:=fun W (hW:B0 w W)=>aG s z v es W (hv.next hW) hs hl;obtain⟨a,c,rfl⟩:=GL hv;unfold clV at CC⊢;clear hv hs;go_enter func50,ntmps50;go_wp2_with fail;refine(CC _ (GI (GH _ _) (GH _ _))).mono ?_;rintro e w1 ⟨v1,rfl,ho1,hb1⟩;obtain⟨a1,c1,rfl,_⟩:=ho1.slice;have X2:=(NC.new (w.alloc (FW #[I0 s,I0 z,FV a es.length c] 39)) 0 0 (N0)).next hb1;have hs1:(w.alloc (FW #[I0 s,I0 z,FV a es.length c] 39)).heap.size=w.heap.size+1:=by simp
 rw[hs1]at X2;have hz1:=hb1.size;have hz2:w.heap.size+2<=w1.heap.size:=by simpa using hz1
 have B2:=GI (GI (GI (GH w _) (GH _ _)) hb1) (GH w1 (FW #[I0 s,I0 z',FV a1 es.length c1] 39));have O2:=ho1.next (GH w1 (FW #[I0 s,I0 z',FV a1 es.length c1] 39));have Y2:=X2.next (GH w1 (FW #[I0 s,I0 z',FV a1 es.length c1] 39));have Y1:=NC.new w1 s z' (FV a1 es.length c1);have r0:=Y2.c0;have r1:=Y2.c1;have r2:=Y2.c2;have f0:=Y2.fr 0;have f1:=Y2.fr 1;have f2:=Y2.fr 2;have q0:=Y1.c0;have q1:=Y1.c1;have q2:=Y1.c2;have HB2:=G9 B2;have HO2:=G9 O2;clear CC hb1 X2 Y2 Y1 B2 O2 hz1;have hO1:=G9 ho1;clear ho1;go_wp2_with fail;refine bodyPost_ret (v:=.tuple #[.agg #[I0 s,I0 z',FV a1 es.length c1],I0 0]) (by simp[results,results50,go_sem,r0,r1,r2]) rfl ⟨_,rfl,?_,?_⟩
 .exact((((G8 HO2).PD (by simp) _).PD (by simp) _).PD (by simp) _).lower (by simp;omega)
 .exact(((G8 HB2).setCell (by simp) _).setCell (by simp) _).setCell (by simp) _
def chP(s:Int)(l:List Nt):List (List UInt8):=(l.filter fun n=>decide (n.s=s)&& !decide (n.k=4)).map fun n=>n.p
def YK(l:List (List UInt8)):List (List UInt8):=l.mergeSort fun x y=>decide (x<=y)
theorem BW3(s:Int)(l:List Nt)(p:List UInt8):CP1 s l p=decide (p∈YK (chP s l)):=by
 rw[Bool.eq_iff_iff];constructor
 .intro h;obtain⟨n,h1,h2⟩:=List.any_eq_true.1 h;rw[Bool.and_eq_true]at h2;exact decide_eq_true (List.mem_mergeSort.2 (F5.2 ⟨n,EK.2 ⟨h1,h2.1⟩,of_decide_eq_true h2.2⟩))
 .intro h;obtain⟨n,h1,h2⟩:=F5.1 (List.mem_mergeSort.1 (of_decide_eq_true h));obtain⟨h3,h4⟩:=EK.1 h1;exact List.any_eq_true.2 ⟨n,h3,by rw[Bool.and_eq_true];exact⟨h4,decide_eq_true h2⟩⟩
theorem BW4(x y:List UInt8):decide (x<=y)= !bl y x:=by
 rw[show bl y x=decide (y<x)from Go.Proofs.bytesLess_eq y x];by_cases h:y<x
 .simp[h,List.not_le.2 h]
 .simp[h,List.not_lt.1 h]
theorem BD7{a b c:List UInt8}(h1:bl b a=false)(h2:bl c b=false):bl c a=false:=by
 cases h:bl c a with
 |false=>rfl
 |true=>
  cases h3:bl a b with
  |true=>rw[SI _ _ _ h h3]at h2;cases h2
  |false=>rw[UD _ _ h3 h1]at h;rw[h]at h2;cases h2
theorem BD8(l:List (List UInt8)):(YK l).Pairwise fun a b=>bl b a=false:=by
 have:=List.pairwise_mergeSort (le:=fun x y:List UInt8=>decide (x<=y)) (fun a b c h1 h2=>by
  rw[BW4]at h1 h2⊢;simp only[Bool.not_eq_true']at h1 h2⊢;exact BD7 h1 h2) (fun a b=>by
  rw[BW4,BW4]
  cases h:bl b a with
  |false=>rfl
  |true=>rw[OO h];rfl) l
 refine this.imp fun {a b} h=>?_;rw[BW4]at h;simpa using h
theorem zI(p:List UInt8):∀l:List (List UInt8),(l.Pairwise fun a b=>bl b a=false)->∃A R,l=A++R/\(∀a∈A,bl a p=true)/\(∀a∈R,bl a p=false)/\(decide (p∈l)=match R with|[]=>false|f::_=>decide (f=p))
 |[],_=>⟨[],[],rfl,by simp,by simp,by simp⟩
 |x::r,h=>by
  obtain⟨hx,hr⟩:=List.pairwise_cons.1 h
  cases h1:bl x p with
  |true=>
   obtain⟨A,R,e,lo,hi,hm⟩:=zI p r hr;refine⟨x::A,R,by rw[e];rfl,by simp[h1];exact lo,hi,?_⟩;rw[<-hm];have:p≠x:=fun e=>by rw[e,QZ]at h1;cases h1
   simp[this]
  |false=>
   refine⟨[],x::r,rfl,by simp,?_,?_⟩
   .intro a ha;rcases BR.1 ha with rfl|ha
    .exact h1
    .cases hb:bl a p with
     |false=>rfl
     |true=>
      have h2:=hx a ha
      cases h3:bl x a with
      |true=>rw[SI _ _ _ h3 hb]at h1;cases h1
      |false=>rw[UD _ _ h3 h2,hb]at h1;cases h1
   .by_cases hp:x=p
    .simp[hp]
    .have:p∉x::r:=by
      intro hm;rcases BR.1 hm with rfl|hm
      .exact hp rfl
      .have h2:=hx p hm;exact hp (UD _ _ h1 h2)
     simp[this,hp]
theorem BD9(x:List UInt8)(w:FX):G5 prog 201 #[S0 x] w fun e w'=>e=.returned (.bool false)/\w'=w:=by
 go_enter func201,ntmps201
 go_wp2
 go_ret;exact⟨by simp,rfl⟩
theorem BE0(x:List UInt8)(w:FX):G5 prog 176 #[S0 x] w fun e w'=>e=.returned (.bool false)/\w'=w:=by
 go_enter func176,ntmps176
 go_wp2
 go_ret;exact⟨by simp,rfl⟩
theorem AT1(x y:List UInt8)(w:FX):G5 prog 175 #[S0 x,S0 y] w fun e w'=>e=.returned (.bool (bl x y))/\w'=w:=by
 go_enter func175,ntmps175;go_wp2_with fail;refine(BD9 _ _).mono ?_;rintro e w1 ⟨rfl,rfl⟩;go_wp2_with fail;go_ret;exact⟨rfl,rfl⟩
def CS6(R:List (List UInt8))(p:List UInt8):Bool:=match R with
 |[]=>false
 |f::_=>decide (f=p)
theorem AT2(A R:List (List UInt8))(p:List UInt8)(lo:∀a∈A,bl a p=true)(hi:∀a∈R,bl a p=false)(i:Nat)(h:i<A.length+R.length):∃y,(A++R)[i]?=G7 y/\bl y p=decide (i<A.length):=by
 by_cases h1:i<A.length
 .refine⟨A[i],by rw[BN h1,AO h1],?_⟩;rw[lo _ (List.getElem_mem h1)];simp[h1]
 .have h2:i-A.length<R.length:=by omega
  refine⟨R[i-A.length],by rw[BD (by omega),AO h2],?_⟩;rw[hi _ (List.getElem_mem h2)];simp[h1]
theorem CG4(b off cap:Nat)(A R:List (List UInt8))(p:List UInt8)(w:FX)(hcap:A.length+R.length<=281474976710656)(h:IE w b off (GK (A++R)))
  (lo:∀a∈A,bl a p=true) (hi:∀a∈R,bl a p=false):
  G5 prog 117 #[FV (G7 ⟨b,off,G6⟩) (A.length+R.length) cap,S0 p] w fun e w'=>
   e=.returned (.tuple #[I0 A.length,.bool (CS6 R p)])/\w'=w:=by
 have H:=G9 h;have SG:=G9 (AT2 A R p lo hi);obtain⟨fin,hfin⟩:∃x,CS6 R p=x:=⟨_,rfl⟩;have HF:=G9 hfin;rw[hfin];clear h hfin lo hi;go_enter func117,ntmps117;go_wp2_with fail
 go_loopg [7,8] (A.length+R.length) (fun kx s9 s10 wr=>∃lo hi:Nat,s9=I0 lo/\s10=I0 hi/\lo<=A.length/\A.length<=hi/\hi<=A.length+R.length/\hi-lo<=kx/\wr=w)
 case atStart=>exact⟨0,A.length+R.length,rfl,rfl,AZ _,by omega,A8 _,by omega,rfl⟩
 case round=>
  obtain⟨lo,hi,rfl,rfl,h1,h2,h3,hg,rfl⟩:=hrel;by_cases hlt:lo<hi
  .obtain⟨y,hy,hyn⟩:=G8 SG ((lo+hi)/2) (by omega);have e0:=(G8 H).s0 hy;clear hy;have CM:=fun W=>AT1 y p W;rw[hyn]at CM;clear hyn;by_cases hm:(lo+hi)/2<A.length
   .simp only[hm,decide_true]at CM;go_wp2_with fail;refine(CM _).mono ?_;rintro e w1 ⟨rfl,rfl⟩;clear CM;go_wp2_with fail
    go_roundg (hi-((lo+hi)/2+1))
    case measure=>omega
    case rel=>exact⟨(lo+hi)/2+1,hi,by rw[show ((lo:Int)+(hi:Int))/2+1=(((lo+hi)/2+1:Nat):Int) by omega],rfl,by omega,h2,h3,A8 _,rfl⟩
   .simp only[hm,decide_false]at CM;go_wp2_with fail;refine(CM _).mono ?_;rintro e w1 ⟨rfl,rfl⟩;clear CM;go_wp2_with fail
    go_roundg ((lo+hi)/2-lo)
    case measure=>omega
    case rel=>exact⟨lo,(lo+hi)/2,rfl,by rw[show ((lo:Int)+(hi:Int))/2=(((lo+hi)/2:Nat):Int) by omega],h1,by omega,by omega,A8 _,rfl⟩
  .obtain rfl:lo=A.length:=by omega
   obtain rfl:hi=A.length:=by omega
   cases R with
   |nil=>
    go_wp2_with fail
    go_ret2
    exact⟨by rw[<-G8 HF];rfl,rfl⟩
   |cons f R=>
    have e0:=(G8 H).s0 (show (A++f::R)[A.length]?=G7 f by simp);have hf:decide (f=p)=fin:=G8 HF;clear HF;simp only[BH];by_cases hfs:f=p
    .subst hfs;simp only[decide_true]at hf;subst hf;go_wp2_with fail
     go_ret2
     exact⟨rfl,rfl⟩
    .simp only[hfs,decide_false]at hf;subst hf;have hq:(f==p)=false:=by simpa using hfs
     clear hfs;go_wp2_with fail;refine(BE0 _ _).mono ?_;rintro e w1 ⟨rfl,rfl⟩;go_wp2_with fail
     go_ret2
     exact⟨rfl,rfl⟩
theorem BW5(a:Option Addr)(cap:Nat)(p:List UInt8)(w:FX):
  G5 prog 117 #[FV a 0 cap,S0 p] w fun e w'=>e=.returned (.tuple #[I0 0,.bool false])/\w'=w:=by
 go_enter func117,ntmps117;go_wp2_with fail
 go_loopg [7,8] 1 (fun _ s9 s10 wr=>s9=I0 0/\s10=I0 0/\wr=w)
 case atStart=>exact⟨rfl,rfl,rfl⟩
 case round=>
  obtain⟨rfl,rfl,rfl⟩:=hrel;go_wp2_with fail
  go_ret2
  exact⟨rfl,rfl⟩
theorem AT3(v:FZ)(ss:List (List UInt8))(p:List UInt8)(w:FX)(hv:IK w v ss)(hl:ss.length<=281474976710656)(hs:ss.Pairwise fun a b=>bl b a=false):
  ∃i:Nat,G5 prog 117 #[v,S0 p] w fun e w'=>e=.returned (.tuple #[I0 i,.bool (decide (p∈ss))])/\w'=w:=by
 rcases hv with⟨a,cap,rfl,rfl,_⟩|⟨b,off,cap,rfl,_,_,hb,_,hr⟩
 .refine⟨0,?_⟩;have:=BW5 a cap p w;simpa using this
 .obtain⟨A,R,rfl,lo,hi,hm⟩:=zI p ss hs;refine⟨A.length,?_⟩;have:=CG4 b off cap A R p w (by simpa using hl) hr lo hi;rw[AP];rw[hm]
  cases R<;>exact this
def ZM(m:Nat):List FZ:=(Builtin.zeroCells (Value.agg #[.string ⟨#[]⟩,.string ⟨#[]⟩,.bool false]).cells m).toList
theorem WI(m:Nat):(ZM m).length=m*3:=by
 rw[ZM,Array.length_toList,size_zeroCells];rfl
theorem AT4(m:Nat):∀u∈ZM m,u.oneCell'=true:=by
 intro u hu;simp only[ZM,Builtin.zeroCells,Value.cells,Array.toList_map,F5]at hu;obtain⟨i,_,rfl⟩:=hu;have:i%3<3:=Nat.mod_lt _ (by decide);show (#[Value.string ⟨#[]⟩,.string ⟨#[]⟩,.bool false][i%3]!).oneCell'=true;rcases(show i%3=0\/i%3=1\/i%3=2 by omega)with e|e|e<;>rw[e]<;>rfl
theorem AT5(w:FX)(ty:TypeId)(b o m c:Nat)(hm:0<m)(hc:∀j,j<m*3->(w.cell? ⟨b,o+j,G6⟩).isSome=true)(hf:∀j,j<m*3->w.frozen? ⟨b,o+j,G6⟩=false):
  (Builtin.clear_ #[37] ty #[FV (G7 ⟨b,o,G6⟩) m c]).run prog w=.ok (.tuple #[]) (w.setCells b o (ZM m)):=by
 have hst:=run_storeCells_cells (P:=prog) b o (ZM m) 0 w (by rw[WI];simpa using hc) (by rw[WI];simpa using hf) (AT4 m);simp only[Nat.add_zero]at hst;obtain⟨k,rfl⟩:∃k,m=k+1:=⟨m-1,by omega⟩;simp[Builtin.clear_,run_underlying underlying37];exact(by
  have:=hst;unfold ZM at this⊢;rw[this];rfl)
structure BE1(g:FuncId)(B:Nat)(q:Nat)(pr:En->Bool)(I:FX->Prop):Prop where
 two:g=116
 keep:∀W V,I W->W.grownBy V (G7 q)->I V
 gives:∀W x,I W->G5 prog g #[.agg #[S0 x.p,S0 x.d,.bool x.t],P0 B] W fun r w'=>r=.returned (.bool (pr x))/\B0 W w'
theorem CG5{g:FuncId}{B q:Nat}{pr:En->Bool}{I:FX->Prop}(C:BE1 g B q pr I)(b off cap:Nat)(A:List En)(x:En)(R:List En)(w:FX)(hi:I w)(hb:b<w.heap.size)(hr:IE w b off (GK (A++x::R)))(hl:(A++x::R).length<=140737488355328)
  (hA:∀a∈A,pr a=false) (hx:pr x=true):
  G5 prog 174 #[FV (G7 ⟨b,off,G6⟩) (A++x::R).length cap,.func (.func g) #[] #[P0 B]] w (R0 w (I0 A.length)):=by
 have HR:=G9 (fun W (hW:B0 w W)=>hr.kept hW hb);have HC:=G9 C;have HI:=G9 (fun W (hW:B0 w W)=>C.keep w W hi (LP hW));have HX:=G9 hx;have HA:=G9 hA;have hAn:A.length<(A++x::R).length:=by simp
 obtain⟨n,hn⟩:∃n,(A++x::R).length=n:=⟨_,rfl⟩;rw[hn]at hl hAn⊢;have HN:=G9 hn;have two:=C.two;clear hr C hi hx hA hn;subst two
 all_goals
  go_enter func174,ntmps174;go_wp2_with fail
  go_loopg [8] n (fun kx s8 wr=>∃k:Nat,s8=I0 k/\k<=A.length/\n-k<=kx/\Hid (B0 w wr))
  case atStart=>exact⟨0,rfl,AZ _,A8 _,G9 (AA _ _)⟩
  case round=>
   obtain⟨k,rfl,hk,hg,hB⟩:=hrel;have hlt:k<n:=by omega
   obtain⟨y,hy⟩:∃y,(A++x::R)[k]?=G7 y:=⟨_,AO (by rw[G8 HN];exact hlt)⟩;have qr:=G8 HR wr (G8 hB);have d0:=qr.en0 hy;have d1:=qr.en1 hy;have d2:=qr.en2 hy;have hbw:b<wr.heap.size:=AY hb (G8 hB).size;have CX:=(G8 HC).gives wr y (G8 HI wr (G8 hB));by_cases hka:k<A.length
   .have hp:pr y=false:=G8 HA y (by
     rw[BN hka]at hy;exact BA hy)
    rw[hp]at CX;clear qr hy hp;go_wp2_with fail;refine CX.mono ?_;rintro e w1 ⟨rfl,hb1⟩;have hB1:=GI (G8 hB) hb1;clear CX hb1;go_wp2_with fail
    go_roundg (n-(k+1))
    case measure=>omega
    case rel=>exact⟨k+1,rfl,by omega,A8 _,G9 hB1⟩
   .obtain rfl:k=A.length:=by omega
    have hp:pr y=true:=by
     have:(A++x::R)[A.length]?=G7 x:=by simp
     rw[this]at hy
     cases hy
     exact G8 HX
    rw[hp]at CX;clear qr hy hp;go_wp2_with fail;refine CX.mono ?_;rintro e w1 ⟨rfl,hb1⟩;have hB1:=GI (G8 hB) hb1;clear CX hb1;go_wp2_with fail;go_ret;exact⟨rfl,hB1⟩
theorem zJ(C:BE1 g B q pr I)(v:FZ)(A:List En)(w:FX)(hi:I w)(hv:IK w v A)(hl:A.length<=140737488355328)(hA:∀a∈A,pr a=false):
  G5 prog 174 #[v,.func (.func g) #[] #[P0 B]] w (R0 w (I0 (-1))):=by
 have KR:∀W,B0 w W->∀k x,A[k]?=G7 x->∃b off cap,v=FV (G7 ⟨b,off,G6⟩) A.length cap/\b<w.heap.size/\IE W b off (GK A):=fun W hW k x hx=>by
  obtain⟨b,off,cap,e,hb,hr,_,_⟩:=MZ hv (fun h0=>by obtain⟨h1,_⟩:=AV.1 hx;rw[h0]at h1;simp at h1);exact⟨b,off,cap,e,hb,hr.kept hW hb⟩
 have HKR:=G9 KR;have HC:=G9 C;have HI:=G9 (fun W (hW:B0 w W)=>C.keep w W hi (LP hW));have HA:=G9 hA;have two:=C.two;obtain⟨va,vc,rfl⟩:=GL hv;clear C hi hA KR hv;subst two
 all_goals
  go_enter func174,ntmps174;go_wp2_with fail
  go_loopg [8] A.length (fun kx s8 wr=>∃k:Nat,s8=I0 k/\k<=A.length/\A.length-k<=kx/\Hid (B0 w wr))
  case atStart=>exact⟨0,rfl,AZ _,A8 _,G9 (AA _ _)⟩
  case round=>
   obtain⟨k,rfl,hk,hg,hB⟩:=hrel;by_cases hlt:k<A.length
   .obtain⟨y,hy⟩:∃y,A[k]?=G7 y:=⟨_,AO hlt⟩;obtain⟨b,off,cap,he,hb,qr⟩:=G8 HKR wr (G8 hB) k y hy;simp only[AQ]at he;obtain⟨rfl,_,rfl⟩:=he;have d0:=qr.en0 hy;have d1:=qr.en1 hy;have d2:=qr.en2 hy;have hbw:b<wr.heap.size:=AY hb (G8 hB).size;have CX:=(G8 HC).gives wr y (G8 HI wr (G8 hB));have hp:pr y=false:=G8 HA y (BA hy);rw[hp]at CX;clear qr hy hp;go_wp2_with fail;refine CX.mono ?_;rintro e w1 ⟨rfl,hb1⟩;have hB1:=GI (G8 hB) hb1;clear CX hb1;go_wp2_with fail
    go_roundg (A.length-(k+1))
    case measure=>omega
    case rel=>exact⟨k+1,rfl,by omega,A8 _,G9 hB1⟩
   .obtain rfl:k=A.length:=by omega
    go_wp2_with fail;go_ret;exact⟨rfl,G8 hB⟩
theorem zK(pr:En->Bool):∀ws:List En,(∀a∈ws,pr a=false)\/∃A x R,ws=A++x::R/\(∀a∈A,pr a=false)/\pr x=true
 |[]=>.inl (by simp)
 |y::r=>by
  cases h:pr y
  .rcases zK pr r with h1|⟨A,x,R,rfl,h1,h2⟩
   .exact .inl (by intro a ha;rcases BR.1 ha with rfl|ha;exact h;exact h1 a ha)
   .exact .inr ⟨y::A,x,R,rfl,(by intro a ha;rcases BR.1 ha with rfl|ha;exact h;exact h1 a ha),h2⟩
  .exact .inr ⟨[],y,r,rfl,by simp,h⟩
theorem qN{ws:List En}(h:∀a∈ws,pr a=false):ws.filter (fun x=> !pr x)=ws:=by
 rw[List.filter_eq_self];intro a ha;simp[h a ha]
theorem BW6(C:BE1 g B q pr I)(cap:Nat)(ws:List En)(w:FX)(hi:I w)(ho:JB w q cap ws)(hl:ws.length<=140737488355328):
  G5 prog 115 #[FV (G7 ⟨q,0,G6⟩) ws.length cap,.func (.func g) #[] #[P0 B]] w fun e w'=>
   e=.returned (FV (G7 ⟨q,0,G6⟩) (ws.filter (fun x=> !pr x)).length cap)/\JB w' q cap (ws.filter (fun x=> !pr x))/\w.grownBy w' (G7 q):=by
 rcases zK pr ws with hA|⟨A,x,R,hws,hA,hx⟩
 .rw[qN hA];have CN:=zJ C _ ws w hi (H6.seq (.inr ⟨q,cap,rfl,AZ _,ho⟩)) hl hA;have HO:=G9 ho;have two:=C.two;clear C hA hi ho;subst two
  all_goals
   go_enter func115,ntmps115;go_wp2_with fail;refine CN.mono ?_;rintro e w1 ⟨rfl,hb1⟩;have HB:=G9 hb1;clear CN hb1;go_wp2_with fail;go_ret;exact⟨rfl,(G8 HO).next (G8 HB),LP (G8 HB)⟩
 .obtain⟨n,hn⟩:∃n,ws.length=n:=⟨_,rfl⟩;have hAn:A.length<n:=by rw[<-hn,hws];simp
  have hnc:n<=cap:=by rw[<-hn];exact ho.le
  have hcl:=ho.capLe;simp only[maxLen]at hcl;have CA:=CG5 C q 0 cap A x R w hi ho.lt (by rw[<-hws];exact ho.row) (by rw[<-hws];exact hl) hA hx;rw[<-hws,hn]at CA;obtain⟨T,hT⟩:∃T,ws.filter (fun x=> !pr x)=T:=⟨_,rfl⟩;rw[hn]at hl⊢;rw[hT];have HTk:Hid (∀j,n<=j->(ws.take j).filter (fun x=> !pr x)=T):=G9 (fun j hj=>by rw[BO (by omega)];exact hT);have HF0:Hid ((ws.take (A.length+1)).filter (fun x=> !pr x)=A):=G9 (by
   rw[hws,List.take_append,BO (by omega),F6,qN hA];simp[hx])
  have HG0:Hid (ws=A++[x]++ws.drop (A.length+1)):=G9 (by
   rw[hws];simp)
  have HN:=G9 hn;have HO:=G9 ho;have HC:=G9 C;have HI:=G9 (fun W (hW:w.grownBy W (G7 q))=>C.keep w W hi hW);have two:=C.two;clear hn hws hA hx ho C hT hi;subst two
  all_goals
   go_enter func115,ntmps115;go_wp2_with fail;refine CA.mono ?_;rintro e w1 ⟨rfl,hb1⟩;have HB:=G9 hb1;clear CA hb1;go_wp2_with fail
   go_loopg [5,6] n (fun kx s5 s6 wr=>∃ (j:Nat) (F G:List En),s5=I0 F.length/\s6=I0 j/\j<=n/\n-j<=kx/\F.length+G.length=j/\0<G.length/\Hid ((ws.take j).filter (fun x=> !pr x)=F)/\Hid (JB wr q cap (F++G++ws.drop j))/\Hid (w.grownBy wr (G7 q)))
   case atStart=>exact⟨A.length+1,A,[x],rfl,rfl,by omega,by omega,rfl,by simp,HF0,G9 (by rw[<-G8 HG0];exact(G8 HO).next (G8 HB)),G9 (LP (G8 HB))⟩
   case round=>
    obtain⟨j,F,G,rfl,rfl,hj,hg,hFG,hG0,hF,hO,hW⟩:=hrel;have hFj:F.length<j:=by omega
    by_cases hlt:j<n
    .obtain⟨y,hy⟩:∃y,ws[j]?=G7 y:=⟨_,AO (by rw[G8 HN];exact hlt)⟩;have hd:ws.drop j=y::ws.drop (j+1):=by
      obtain⟨h1,h2⟩:=AV.1 hy;rw[List.drop_eq_getElem_cons h1,h2]
     have hf:(ws.take (j+1)).filter (fun x=> !pr x)=F++(if pr y=true then []else [y]):=by
      rw[PY hy,F6,G8 hF]
      cases hpy:pr y<;>simp[hpy]
     rw[hd]at hO;have hyr:(F++G++y::ws.drop (j+1))[j]?=G7 y:=by
      rw[BD (by simp;omega)];simp[hFG]
     obtain⟨z,G',rfl⟩:∃z G',G=z::G':=by
      cases G with
      |nil=>simp at hG0
      |cons z G'=>exact⟨z,G',rfl⟩
     have hzr:(F++z::G'++y::ws.drop (j+1))[F.length]?=G7 z:=by simp
     have d0:=(G8 hO).row.en0 hyr;have d1:=(G8 hO).row.en1 hyr;have d2:=(G8 hO).row.en2 hyr;have hq:=(G8 hO).lt;have hqn:q≠wr.heap.size:=by omega
     simp only[BJ]at d0 d1 d2;have HW1:=G9 (IV (G8 hW) (LP (GH wr (FW #[S0 y.p,S0 y.d,.bool y.t] 77))));have CX:=(G8 HC).gives _ y (G8 HI _ (G8 HW1));have hjn:(j:Int)<(n:Int):=by omega
     by_cases hp:pr y=true
     .rw[hp]at CX hf;rw[if_pos rfl,List.append_nil]at hf;have HF:=G9 hf;clear hy hd hf hyr hp hzr;go_wp2_with fail;refine CX.mono ?_;rintro e w2 ⟨rfl,hb2⟩;have HO2:Hid (JB w2 q cap (F++(z::G'++[y])++ws.drop (j+1))):=G9 (by
       have:=((G8 hO).next (GH wr (FW #[S0 y.p,S0 y.d,.bool y.t] 77))).next hb2;simpa using this)
      have HW2:=G9 (IV (G8 HW1) (LP hb2));clear CX hb2;go_wp2_with fail
      go_roundg (n-(j+1))
      case measure=>omega
      case rel=>exact⟨j+1,F,z::G'++[y],rfl,rfl,by omega,A8 _,by simp at hFG⊢;omega,by simp,HF,HO2,HW2⟩
     .have hp':pr y=false:=by simpa using hp
      rw[hp']at CX;rw[if_neg hp]at hf;have HF:=G9 hf;clear hy hd hf hyr hp hp';have hFn:(F.length:Int)<(n:Int):=by omega
      go_wp2_with fail;refine CX.mono ?_;rintro e w2 ⟨rfl,hb2⟩;have O2:=((G8 hO).next (GH wr (FW #[S0 y.p,S0 y.d,.bool y.t] 77))).next hb2;have c0:w2.cell? ⟨wr.heap.size,0,G6⟩=G7 (S0 y.p):=by rw[hb2.cell (p:=⟨wr.heap.size,0,G6⟩) (by simp)];simp
      have c1:w2.cell? ⟨wr.heap.size,1,G6⟩=G7 (S0 y.d):=by rw[hb2.cell (p:=⟨wr.heap.size,1,G6⟩) (by simp)];simp
      have c2:w2.cell? ⟨wr.heap.size,2,G6⟩=G7 (.bool y.t):=by rw[hb2.cell (p:=⟨wr.heap.size,2,G6⟩) (by simp)];simp
      have e0:=O2.row.en0 hzr;have e1:=O2.row.en1 hzr;have e2:=O2.row.en2 hzr;simp only[BJ]at e0 e1 e2;have f0:=O2.frozen (F.length*3);have f1:=O2.frozen (F.length*3+1);have f2:=O2.frozen (F.length*3+2);have hz2:wr.heap.size<w2.heap.size:=by have:=hb2.size;simp at this;omega
      have HO3:Hid (JB (((w2.setCell ⟨q,F.length*3,G6⟩ (S0 y.p)).setCell ⟨q,F.length*3+1,G6⟩ (S0 y.d)).setCell ⟨q,F.length*3+2,G6⟩ (.bool y.t)) q cap ((F++[y])++(G'++[y])++ws.drop (j+1))):=G9 (by
       have O2':JB w2 q cap (F++z::(G'++y::ws.drop (j+1))):=by simpa using O2
       have:=O2'.wG y;have e:F++[y]++(G'++[y])++ws.drop (j+1)=F++y::(G'++y::ws.drop (j+1)):=by simp
       rw[e];exact this)
      have HW3:Hid (w.grownBy (((w2.setCell ⟨q,F.length*3,G6⟩ (S0 y.p)).setCell ⟨q,F.length*3+1,G6⟩ (S0 y.d)).setCell ⟨q,F.length*3+2,G6⟩ (.bool y.t)) (G7 q)):=
       G9 (IV (IV (IV (IV (G8 HW1) (LP hb2)) (QK _)) (QK _)) (QK _))
      clear CX hb2 O2 hzr;go_wp2_with fail
      go_roundg (n-(j+1))
      case measure=>omega
      case rel=>exact⟨j+1,F++[y],G'++[y],by rw[AP];rfl,rfl,by omega,A8 _,by simp at hFG⊢;omega,by simp,HF,HO3,HW3⟩
    .obtain rfl:j=n:=by omega
     have hTF:T=F:=((G8 HTk j (A8 _)).symm.trans (G8 hF));have OF:JB wr q cap F:=JB.head (B:=G++ws.drop j) (by have:=G8 hO;rwa[List.append_assoc]at this);have CV9:∀ty c,(Builtin.clear_ #[37] ty #[FV (G7 ⟨q,F.length*3,G6⟩) (j-F.length) c]).run prog wr=.ok (.tuple #[]) (wr.setCells q (F.length*3) (ZM (j-F.length))):=fun ty c=>
      AT5 wr ty q _ _ c (by omega) (fun i hi=>OF.some (show F.length*3+i<cap*3 by omega)) (fun i hi=>OF.frozen _)
     have FIN:Hid (JB (wr.setCells q (F.length*3) (ZM (j-F.length))) q cap F/\w.grownBy (wr.setCells q (F.length*3) (ZM (j-F.length))) (G7 q)):=
      G9 ⟨OF.spare _ _ (A8 _) (by rw[WI];show _<=cap*3;omega),IV (G8 hW) (I9 _ _ _)⟩
     have hcn:¬ (cap=F.length):=by omega
     have hFc:F.length<=cap:=by omega
     have hFn:F.length<=j:=by omega
     have hjj:¬ ((j:Int)<(j:Int)):=by omega
     clear OF hO hW hF HTk HF0 HG0;subst hTF;go_wp2_with fail;go_ret;exact⟨rfl,(G8 FIN).1,(G8 FIN).2⟩
open Go.Sort
theorem CG6:(prog.info? 9).map (fun i=>(i.zero,i.size,i.bytes))=G7 (G7 (.string ⟨#[]⟩),1,16):=by kernel_rfl
theorem CS7:∃i0,prog.info? 9=G7 i0/\i0.zero=G7 (.string ⟨#[]⟩)/\i0.size=1/\i0.bytes=16:=by
 obtain⟨i0,h,e⟩:=FQ.1 CG6;simp only[Prod.mk.injEq]at e;exact⟨i0,h,e⟩
theorem BE2(l:List (List UInt8)):GK l=l.map encStr:=by
 induction l with
 |nil=>rfl
 |cons x r ih=>rw[JV,ih];rfl
theorem CG7{l:List Nt}{n:Nt}(h:l[k]?=G7 n)(h1:n.s=s)(h2:n.k≠4):chP s (l.take (k+1))=chP s (l.take k)++[n.p]:=by
 rw[PY h];simp[chP,h1,h2]
theorem C26{l:List Nt}{n:Nt}(h:l[k]?=G7 n)(h1:n.s≠s\/n.k=4):chP s (l.take (k+1))=chP s (l.take k):=by
 rw[PY h];rcases h1 with h1|h1<;>simp[chP,h1]
theorem A87(s:Int)(l:List Nt):(chP s l).length<=l.length:=by unfold chP;rw[List.length_map];exact List.length_filter_le _ _
theorem qO{g cap n:Nat}{ss:List (List UInt8)}{os:Array Obj}(hB:B<=g)(h:JB W g cap ss):H6 (Sort.grow (Sort.putRow encStr (Sort.ahead W n) g 0 (YK ss).toArray) os) B (FV (G7 ⟨g,0,G6⟩) ss.length cap) (YK ss)/\Holds encStr W g 0 ss.toArray:=by
 obtain⟨rest,h1,h2,h3,h4⟩:=h;have hk:ss.length*1+rest.length=cap*1:=h2;have hl:(YK ss).length=ss.length:=by unfold YK;simp
 refine⟨?_,holds_of_block h1 (by rw[BE2];simp)⟩;have:=ownsRow_sorted (n:=n) (os:=os) (ts:=YK ss) hl hB h1 h3 h4 (by simp[BE2];omega);rw[<-hl]at this⊢;refine H6.LC ?_;rw[BE2];exact this
theorem zL(s:Int)(v:FZ)(l:List Nt)(w:FX)(hv:IK w v l)(hl:l.length*32<=140737488355328):
  G5 prog 114 #[I0 s,v] w fun e w'=>∃v',e=.returned v'/\H6 w' w.heap.size v' (YK (chP s l))/\B0 w w':=by
 have KR:=G9 (crow hv);obtain⟨i0,hi0,hz0,hz1,hz2⟩:=CS7;obtain⟨va,vc,rfl⟩:=GL hv;clear hv;go_enter func114,ntmps114;go_wp2_with fail
 go_loopg [5,10] l.length (fun kx s5 s10 wr=>∃ (k n:Nat) (a:Option Addr) (c:Nat),s10=I0 k/\s5=FV a n c/\Hid ((chP s (l.take k)).length=n)/\k<=l.length/\l.length-k<=kx/\Hid (H6 wr w.heap.size (FV a n c) (chP s (l.take k)))/\Hid (B0 w wr))
 case atStart=>exact⟨0,0,G6,0,rfl,rfl,G9 rfl,AZ _,A8 _,G9 (.inl ⟨rfl,rfl⟩),G9 (AA _ _)⟩
 case round=>
  obtain⟨k,n,a,c,rfl,rfl,hn,hk,hg,hO,hB⟩:=hrel;by_cases hlt:k<l.length
  .obtain⟨x,hx⟩:∃x,l[k]?=G7 x:=⟨_,AO hlt⟩;obtain⟨b,off,cap,he,hb,q⟩:=G8 KR wr (G8 hB) k x hx;simp only[AQ]at he;obtain⟨rfl,_,rfl⟩:=he;have d0:=q.t0 hx;have d1:=q.t1 hx;have d2:=q.t2 hx;have hbw:b<wr.heap.size:=AY hb (G8 hB).size;have HB1:=G9 (GI (G8 hB) (GH wr (FW #[I0 x.s,I0 x.k,S0 x.p] 95)));have HO1:=G9 ((G8 hO).next (GH wr (FW #[I0 x.s,I0 x.k,S0 x.p] 95)));have hnl:n<=k:=by rw[<-G8 hn];exact Nat.le_trans (A87 _ _) (by simp;omega)
   by_cases h1:x.s=s
   .have hsb:(x.s==s)=true:=by simpa using h1
    by_cases h2:x.k=4
    .have hkb:(x.k==4)=true:=by simpa using h2
     have HE:=G9 (C26 hx (s:=s) (.inr h2));clear q hx h1 h2;go_wp2_with fail
     go_roundg (l.length-(k+1))
     case measure=>omega
     case rel=>exact⟨k+1,n,a,c,rfl,rfl,by rw[G8 HE];exact hn,by omega,A8 _,by rw[G8 HE];exact HO1,HB1⟩
    .have hkb:(x.k==4)=false:=by simpa using h2
     have HE:=G9 (CG7 hx h1 h2);clear q hx h1 h2;have HR:=G9 (((G8 HO1).next (GH _ (FW #[S0 x.p] 9))).row);rw[G8 hn]at HR;have HB2:=G9 (GI (G8 HB1) (GH _ (FW #[S0 x.p] 9)));have HA:=G9 (G8 HO1).above;clear hO HO1;go_wp2_with (at_builtin;refine wpList_append_own _ rfl _ _ 195 rfl w.heap.size 9 i0 _ 1 16 underlying195 hi0 hz0 hz1 hz2 rfl (by decide) _ n (GK (chP s (l.take k))) rfl (G8 HR) ⟨wr.heap.size+1,0,G6⟩ 1 1 [S0 x.p] rfl (by rfl) ?qc2 (by simp[Value.oneCell']) ?qc4 ?qc5 (G8 HB2).size ?_)
     case qc2=>
      intro j u hj
      match j with
      |0=>simp only[List.getElem?_cons_zero,BF]at hj;subst hj;rw[Addr.add_lit];simp
      |j+1=>simp at hj
     case qc4=>simp only[maxLen];omega
     case qc5=>omega
     intro v' w1 hown hgrow _;have O2:H6 w1 w.heap.size v' (chP s (l.take (k+1))):=H6.LC (by rw[G8 HE,AP,JH,G8 hn];exact hown);obtain⟨a2,c2,rfl,_⟩:=O2.slice;have HO2:=G9 O2;have HB3:=G9 ((G8 HB2).grown hgrow (G8 HB2).size (G8 HA));clear O2 hown hgrow;go_wp2_with fail
     go_roundg (l.length-(k+1))
     case measure=>omega
     case rel=>exact⟨k+1,_,a2,c2,rfl,rfl,G9 rfl,by omega,A8 _,HO2,HB3⟩
   .have hsb:(x.s==s)=false:=by simpa using h1
    have HE:=G9 (C26 hx (s:=s) (.inl h1));clear q hx h1;go_wp2_with fail
    go_roundg (l.length-(k+1))
    case measure=>omega
    case rel=>exact⟨k+1,n,a,c,rfl,rfl,by rw[G8 HE];exact hn,by omega,A8 _,by rw[G8 HE];exact HO1,HB1⟩
  .obtain rfl:k=l.length:=by omega
   rw[List.take_length]at hO hn;have hnl:n<=l.length:=by rw[<-G8 hn];exact A87 _ _
   rcases G8 hO with⟨h1,h0⟩|⟨g,cap,h1,hgB,ho⟩
   .simp only[AQ]at h1;obtain⟨rfl,rfl,rfl⟩:=h1;have HS0:Hid (YK (chP s l)=[]):=G9 (by rw[h0];simp[YK]);clear h0 hO;have CS:=fun W=>slices_Sort_string_none G6 0 W;go_wp2_with fail;refine(CS _).mono ?_;rintro e w1 ⟨rfl,rfl⟩;go_wp2_with fail;go_ret;exact⟨_,rfl,.inl ⟨rfl,G8 HS0⟩,G8 hB⟩
   .simp only[AQ]at h1;obtain⟨rfl,h3,rfl⟩:=h1;have CS:G5 prog 173 #[FV (G7 ⟨g,0,G6⟩) (chP s l).length c] wr fun e w'=>e=.returned (.tuple #[])/\∃n os,w'=Sort.grow (Sort.putRow encStr (Sort.ahead wr n) g 0 (YK (chP s l)).toArray) os:=slices_Sort_string g 0 c (chP s l) wr (qO (n:=0) (os:=#[]) hgB ho).2 ho.lt (by rw[<-h3];omega);rw[<-h3]at CS;have HO:=G9 ho;have H3:=G9 h3;clear hO ho h3;go_wp2_with fail;refine CS.mono ?_;rintro e w1 ⟨rfl,m,os,rfl⟩;have O4:=(qO (n:=m) (os:=os) hgB (G8 HO)).1;have B4:=(G8 hB).grown (grownBy_sorted (n:=m) (os:=os) (g:=g) (YK (chP s l)).toArray) (G8 hB).size (fun j e=>by cases e;exact hgB);rw[<-G8 H3]at O4;have HO4:=G9 O4;have HB4:=G9 B4;clear CS O4 B4;generalize Sort.grow (Sort.putRow encStr (Sort.ahead wr m) g 0 (YK (chP s l)).toArray) os=w4 at*;go_wp2_with fail;go_ret;exact⟨_,rfl,G8 HO4,G8 HB4⟩
structure CS8(B q:Nat)(va:FZ)(ss:List (List UInt8))(W:FX):Prop where
 box:W.heap[B]?=G7 (FW #[va] 195 (0,0))
 own:H6 W 0 va ss
 ne:B≠q
 nq:∀k,va.ownBlock=G7 k->k≠q
theorem BE3(B q:Nat)(va:FZ)(ss:List (List UInt8))(hs:ss.Pairwise fun a b=>bl b a=false)(hl:ss.length<=281474976710656)(W:FX)(x:En)(hI:CS8 B q va ss W):
  G5 prog 116 #[.agg #[S0 x.p,S0 x.d,.bool x.t],P0 B] W fun r w'=>r=.returned (.bool (decide (x.p∈ss)))/\B0 W w':=by
 have C:=fun V (hV:B0 W V)=>AT3 va ss x.p V (hI.own.next hV).seq hl hs;have c0:(W.alloc (FW #[S0 x.p,S0 x.d,.bool x.t] 77)).cell? ⟨B,0,G6⟩=G7 va:=by
  have hb:=hI.box;have hlt:=(AL.1 hb).1;rw[(GH W _).cell (p:=⟨B,0,G6⟩) hlt];simp[World.cell?,hb]
 have hBl:B<W.heap.size:=(AL.1 hI.box).1;obtain⟨a,c,rfl,_⟩:=hI.own.slice;clear hI;generalize decide (x.p∈ss)=hd at C⊢;generalize ss.length=n at*;obtain⟨xp,xd,xt⟩:=x;simp only at*;go_enter func116,ntmps116;go_wp2_with fail;obtain⟨i,C2⟩:=C _ (GH _ _);refine C2.mono ?_;rintro e w1 ⟨rfl,rfl⟩;go_wp2_with fail;go_ret;exact⟨rfl,GH _ _⟩
theorem zM(B q:Nat)(va:FZ)(ss:List (List UInt8))(hs:ss.Pairwise fun a b=>bl b a=false)(hl:ss.length<=281474976710656):BE1 116 B q (fun x=>decide (x.p∈ss)) (CS8 B q va ss):=
 ⟨rfl,fun _ _ h hg=>⟨(hg.block B (AL.1 h.box).1 (fun e=>h.ne (BQ e))).trans h.box,h.own.grown hg (fun k hk e=>h.nq k hk (BQ e)),h.ne,h.nq⟩,fun W x h=>BE3 B q va ss hs hl W x h⟩
theorem BW7(C:BE1 g B q pr I)(w:FX)(hi:I w):
  G5 prog 115 #[N0,.func (.func g) #[] #[P0 B]] w (R0 w (N0)):=by
 have CN:=zJ C (N0) [] w hi (IK.nil w) (by simp) (by simp);have two:=C.two;clear C hi;subst two;go_enter func115,ntmps115;go_wp2_with fail;refine CN.mono ?_;rintro e w1 ⟨rfl,hb1⟩;go_wp2_with fail;go_ret;exact⟨rfl,hb1⟩
theorem BE4(s:Int)(l:List Nt):(YK (chP s l)).length<=l.length:=by
 unfold YK;rw[List.length_mergeSort];exact A87 s l
theorem A88(s:Int)(l:List Nt)(es:List En):es.filter (fun x=> !decide (x.p∈YK (chP s l)))=VH s l es:=by
 unfold VH
 congr 1
 funext x
 rw[BW3]
theorem BE5(s z:Int)(v vl:FZ)(es:List En)(l:List Nt)(w:FX)(hv:IK w v es)(hs:yK es)(hl:es.length*40<=140737488355328)(hvl:IK w vl l)(hll:l.length*32<=140737488355328):
  G5 prog 71 #[clV s z v,vl] w fun e w'=>∃v',e=.returned (clV s z v')/\H6 w' w.heap.size v' (VH s l es)/\B0 w w':=by
 have CH:=fun W (hW:B0 w W)=>zL s vl l W (hvl.next hW) hll;have CC:=fun W (hW:B0 w W)=>aG s z v es W (hv.next hW) hs hl;have HT:=G9 (A88 s l es);have HA:=G9 (BD8 (chP s l));have hsl:=BE4 s l;obtain⟨a,c,rfl⟩:=GL hv;obtain⟨al,cl,rfl⟩:=GL hvl;unfold clV at CC⊢;clear hv hs hvl;generalize YK (chP s l)=ss at*;generalize VH s l es=R at*;go_enter func71,ntmps71;go_wp2_with fail;have B0:B0 w ((w.alloc (FW #[I0 s,I0 z,FV a es.length c] 39)).alloc (FW #[I0 0,I0 0,N0] 39)):=GI (GH _ _) (GH _ _);have K0:=(NC.new w s z (FV a es.length c)).next (GH _ (FW #[I0 0,I0 0,N0] 39));have K1:=NC.new (w.alloc (FW #[I0 s,I0 z,FV a es.length c] 39)) 0 0 (N0);have hz0:((w.alloc (FW #[I0 s,I0 z,FV a es.length c] 39)).alloc (FW #[I0 0,I0 0,N0] 39)).heap.size=w.heap.size+2:=by simp
 rw[show (w.alloc (FW #[I0 s,I0 z,FV a es.length c] 39)).heap.size=w.heap.size+1 by simp]at K1;generalize (w.alloc (FW #[I0 s,I0 z,FV a es.length c] 39)).alloc (FW #[I0 0,I0 0,N0] 39)=W0 at*;refine(CH _ B0).mono ?_;rintro e w1 ⟨va,rfl,ho1,hb1⟩;obtain⟨a1,c1,rfl,_⟩:=ho1.slice;have K0:=(K0.next hb1).next (GH w1 (FW #[FV a1 ss.length c1] 195));have K1:=(K1.next hb1).next (GH w1 (FW #[FV a1 ss.length c1] 195));have N1:=heap_alloc_new w1 (FW #[FV a1 ss.length c1] 195);have O1:=ho1.next (GH w1 (FW #[FV a1 ss.length c1] 195));have B1:=GI (GI B0 hb1) (GH w1 (FW #[FV a1 ss.length c1] 195));have hz1:=hb1.size;have hlow1:=ho1.low;have hs1:(w1.alloc (FW #[FV a1 ss.length c1] 195)).heap.size=w1.heap.size+1:=by simp
 have k0:=K0.c0;have k1:=K0.c1;have k2:=K0.c2;clear CH ho1 hb1 B0 K0;have HK1:=G9 K1;have HN1:=G9 N1;have HO1:=G9 O1;have HB1:=G9 B1;clear K1 N1 O1 B1;go_wp2_with fail;generalize w1.alloc (FW #[FV a1 ss.length c1] 195)=W1 at*;refine(CC _ (G8 HB1)).mono ?_;rintro e w2 ⟨v2,rfl,ho2,hb2⟩;obtain⟨a2,c2,rfl,_⟩:=ho2.slice;have hlow2:=ho2.low;have hz2:=hb2.size;have hab2:=ho2.above;have K1:=((G8 HK1).next hb2).next (GH w2 (FW #[I0 s,I0 z,FV a2 es.length c2] 39));have K2:=NC.new w2 s z (FV a2 es.length c2);have N2:=(Below.block (GH w2 (FW #[I0 s,I0 z,FV a2 es.length c2] 39)) w1.heap.size (by omega)).trans ((hb2.block w1.heap.size (by omega)).trans (G8 HN1));have O1:=((G8 HO1).next hb2).next (GH w2 (FW #[I0 s,I0 z,FV a2 es.length c2] 39));have O2:=ho2.next (GH w2 (FW #[I0 s,I0 z,FV a2 es.length c2] 39));have B2:=GI (GI (G8 HB1) hb2) (GH w2 (FW #[I0 s,I0 z,FV a2 es.length c2] 39));have hs2:(w2.alloc (FW #[I0 s,I0 z,FV a2 es.length c2] 39)).heap.size=w2.heap.size+1:=by simp
 have q2:=K2.c2;have HK1:=G9 K1;have HK2:=G9 K2;have HB2:=G9 B2;clear CC hb2 ho2 HN1 HO1 HB1 k0 k1 k2 K1 K2 B2;rcases O2 with⟨h1,h2⟩|⟨g,cap,h1,hg,O2⟩
 .simp only[AQ]at h1;obtain⟨rfl,h3,rfl⟩:=h1;have CD:=BW7 (zM w1.heap.size (w2.heap.size+7) (FV a1 ss.length c1) ss (G8 HA) (by omega)) _ ⟨N2,O1.lower (AZ _),by omega,fun k hk=>by have:=hlow1 k hk;omega⟩;rw[h3]at CD q2 HK2 HK1 HB2⊢;have HT0:Hid (R=[]):=G9 (by rw[<-G8 HT,h2];rfl);clear O1 N2 h2 h3;go_wp2_with fail;generalize w2.alloc (FW #[I0 s,I0 z,N0] 39)=W2 at*;refine CD.mono ?_;rintro e w3 ⟨rfl,hb3⟩;have X1:=(G8 HK1).next hb3;have X2:=(G8 HK2).next hb3;have B3:=GI (G8 HB2) hb3;have p0:=X2.c0;have p1:=X2.c1;have p2:=X2.c2;have p3:=X2.fr 2;have ps:=IB p2;have r0:=X1.c0;have r1:=X1.c1;have r2:=X1.c2;have f0:=X1.fr 0;have f1:=X1.fr 1;have f2:=X1.fr 2;have HB3:=G9 B3;clear CD hb3 X1 X2 B3;go_wp2_with fail;refine bodyPost_ret (v:=.agg #[I0 s,I0 z,N0]) (by simp[results,results71,go_sem,r0,r1,r2]) rfl ⟨_,rfl,.inl ⟨rfl,G8 HT0⟩,?_⟩;exact(((G8 HB3).setCell (by simp) _).setCell (by simp) _).setCell (by simp) _
 .simp only[AQ]at h1;obtain⟨rfl,_,rfl⟩:=h1;have hg2:=hlow2 g rfl;have CD:=BW6 (zM w1.heap.size g (FV a1 ss.length c1) ss (G8 HA) (by omega)) c2 es _ ⟨N2,O1.lower (AZ _),by omega,fun k hk=>by have:=hlow1 k hk;omega⟩ O2 (by omega);rw[G8 HT]at CD;clear O1 N2;go_wp2_with fail;generalize w2.alloc (FW #[I0 s,I0 z,FV (G7 ⟨g,0,G6⟩) es.length c2] 39)=W2 at*;refine CD.mono ?_;rintro e w3 ⟨rfl,O3,hg3⟩;have X1:=((G8 HK1).grown hg3 (fun e=>by have:=BQ e;omega)).other (a:=⟨w2.heap.size,2,G6⟩) (by simp only;omega) (FV (G7 ⟨g,0,G6⟩) R.length c2);have X0:=(G8 HK2).grown hg3 (fun e=>by have:=BQ e;omega);have x2:=X0.c2;have x3:=X0.fr 2;have X2:=X0.set2 (v':=FV (G7 ⟨g,0,G6⟩) R.length c2);have B3:=((G8 HB2).grown hg3 (G8 HB2).size (fun k e=>by cases e;omega)).setCell (p:=⟨w2.heap.size,2,G6⟩) (by simp only;omega) (FV (G7 ⟨g,0,G6⟩) R.length c2);have O4:=O3.other (a:=⟨w2.heap.size,2,G6⟩) (by simp only;omega) (FV (G7 ⟨g,0,G6⟩) R.length c2);have p0:=X2.c0;have p1:=X2.c1;have p2:=X2.c2;have r0:=X1.c0;have r1:=X1.c1;have r2:=X1.c2;have f0:=X1.fr 0;have f1:=X1.fr 1;have f2:=X1.fr 2;have HB3:=G9 B3;have HO4:=G9 O4;clear CD hg3 X1 X2 X0 B3 O3 O4;go_upto_region 4 with fail;generalize w3.setCell ⟨w2.heap.size,2,G6⟩ (FV (G7 ⟨g,0,G6⟩) R.length c2)=w4 at*;go_wp2_with fail;refine bodyPost_ret (v:=.agg #[I0 s,I0 z,FV (G7 ⟨g,0,G6⟩) R.length c2]) (by simp[results,results71,go_sem,r0,r1,r2]) rfl ⟨_,rfl,.inr ⟨g,c2,rfl,by omega,?_⟩,?_⟩
  .exact(((G8 HO4).other (by simp only;omega) _).other (by simp only;omega) _).other (by simp only;omega) _
  .exact(((G8 HB3).setCell (by simp only;omega) _).setCell (by simp only;omega) _).setCell (by simp only;omega) _
