/-
  Part.
-/
import Derived.Test.YtefephchbjfdfaaGreatDoorLMG
import Derived.Sort.OwnSorted
import Derived.Test.YtefephchbjfdfaaGreatDoorLME
set_option maxRecDepth 20000
set_option maxHeartbeats 8000000
namespace Go.Proofs.YtefephchbjfdfaaGreatDoor
open Go.RowKit Go.Proofs.Tryz
open _root_.Nat renaming le_refl->AA,lt_of_lt_of_le->AY,zero_le->AZ,zero_add->BK,add_assoc->EM,add_sub_cancel_left->FH
open Go.RowKit.Below renaming refl->AB,heap_setCell->BG
open _root_.Array renaming getElem?_eq_some_iff->AL
open _root_.List renaming getElem?_eq_getElem->AO,length_append->AP,getElem?_eq_some_iff->AV,mem_of_getElem?->BA,getElem?_append_right->BD,length_cons->BH,getElem?_append_left->BN,take_of_length_le->BO,mem_cons->BR,append_assoc->BZ,eq_nil_of_length_eq_zero->C9,append_nil->DV,mem_filter->EK,length_nil->EZ,mem_map->F5,filter_append->F6
open Go.Value.slice renaming injEq->AQ
open Go.World renaming cell?->AX,frozen?->FC
open _root_.Option.some renaming injEq->BF,inj->BQ
open Go.Builtin renaming zeroCells->BJ,copy_->EC
open Go.Addr renaming add_lit->BM
open Go.Value renaming ownBlock->DK,slice->FV
open Go.Lib renaming run_eql_slice_nil->ES,compareBytes->EU
open _root_.Option renaming map_eq_some_iff->FQ,none->G6,some->G8
open Go.Obj renaming cells->FW
open Go renaming World->FX,Value->FZ,Calls->G5
variable{w W V:FX}{b off i k B g q cap:Nat}{xs:List En}{x:En}{α:Type}{v:FZ}{s z:Int}{pr:En->Bool}{I:FX->Prop}
def OX(e:En):List FZ:=[S0 e.p,S0 e.d,.bool e.t]
def enV(e:En):FZ:=.agg #[S0 e.p,S0 e.d,.bool e.t]
def clV(s z:Int)(v:FZ):FZ:=.agg #[I0 s,I0 z,v]
instance layC:Lay En:=⟨3,OX,74,fun _=>rfl,fun x u hu=>by simp[OX]at hu;rcases hu with rfl|rfl|rfl<;>rfl⟩
theorem II.en0(h:II w b off (GL xs))(hi:xs[i]?=G8 x):w.cell? ⟨b,off+i*3,G6⟩=G8 (S0 x.p):=
 h (i*3) _ (GZ xs i x hi 0 (by decide))
theorem II.en1(h:II w b off (GL xs))(hi:xs[i]?=G8 x):w.cell? ⟨b,off+i*3+1,G6⟩=G8 (S0 x.d):=by
 rw[EM];exact h (i*3+1) _ (GZ xs i x hi 1 (by decide))
theorem II.en2(h:II w b off (GL xs))(hi:xs[i]?=G8 x):w.cell? ⟨b,off+i*3+2,G6⟩=G8 (.bool x.t):=by
 rw[EM];exact h (i*3+2) _ (GZ xs i x hi 2 (by decide))
theorem CM3:(prog.info? 74).map (fun i=>(i.zero,i.size,i.bytes))=G8 (G8 (.agg #[.string ⟨#[]⟩,.string ⟨#[]⟩,.bool false]),3,40):=by kernel_rfl
theorem BP7:∃i0,prog.info? 74=G8 i0/\i0.zero=G8 (.agg #[.string ⟨#[]⟩,.string ⟨#[]⟩,.bool false])/\i0.size=3/\i0.bytes=40:=by
 obtain⟨i0,h,e⟩:=FQ.1 CM3;simp only[Prod.mk.injEq]at e;exact⟨i0,h,e⟩
theorem rW(w:FX)(x:En):JU (w.alloc (FW #[S0 x.p,S0 x.d,.bool x.t] 74)) w.heap.size x:=heap_alloc_new w _
theorem crow[Lay α]{xs:List α}(hv:IV w v xs):∀W,B0 w W->∀ (k:Nat) (x:α),xs[k]?=G8 x->∃b off cap,v=FV (G8 ⟨b,off,G6⟩) xs.length cap/\b<w.heap.size/\II W b off (GL xs):=fun W hW k x hx=>by
 obtain⟨b,off,cap,e,hb,hr,_,_⟩:=N8 hv (fun h0=>by obtain⟨h1,_⟩:=AV.1 hx;rw[h0]at h1;simp at h1);exact⟨b,off,cap,e,hb,hr.kept hW hb⟩
def NH(W:FX)(k:Nat)(s z:Int)(v:FZ):Prop:=W.heap[k]?=G8 (FW #[I0 s,I0 z,v] 70 (0,0))
theorem NH.lt(h:NH W k s z v):k<W.heap.size:=(AL.1 h).1
theorem NH.c0(h:NH W k s z v):W.cell? ⟨k,0,G6⟩=G8 (I0 s):=by unfold NH at h;simp[AX,h]
theorem NH.c1(h:NH W k s z v):W.cell? ⟨k,1,G6⟩=G8 (I0 z):=by unfold NH at h;simp[AX,h]
theorem NH.c2(h:NH W k s z v):W.cell? ⟨k,2,G6⟩=G8 v:=by unfold NH at h;simp[AX,h]
theorem NH.fr(h:NH W k s z v)(j:Nat):W.frozen? ⟨k,j,G6⟩=false:=by unfold NH at h;simp[FC,h]
theorem NH.kept(h:NH W k s z v)(hb:Below B W V)(hk:k<B):NH V k s z v:=(hb.block k hk).trans h
theorem NH.next(h:NH W k s z v)(hb:B0 W V):NH V k s z v:=h.kept hb h.lt
theorem NH.grown{r:Option Nat}(h:NH W k s z v)(hg:W.grownBy V r)(hr:G8 k≠r):NH V k s z v:=(hg.block k h.lt hr).trans h
theorem NH.new(w:FX)(s z:Int)(v:FZ):NH (w.alloc (FW #[I0 s,I0 z,v] 70)) w.heap.size s z v:=heap_alloc_new w _
theorem NH.set0{s':Int}(h:NH W k s z v):NH (W.setCell ⟨k,0,G6⟩ (I0 s')) k s' z v:=by unfold NH at h⊢;rw[GY _ h];rfl
theorem NH.set1{z':Int}(h:NH W k s z v):NH (W.setCell ⟨k,1,G6⟩ (I0 z')) k s z' v:=by unfold NH at h⊢;rw[GY _ h];rfl
theorem NH.set2{v':FZ}(h:NH W k s z v):NH (W.setCell ⟨k,2,G6⟩ v') k s z v':=by unfold NH at h⊢;rw[GY _ h];rfl
theorem NH.other(h:NH W k s z v){a:Addr}(ha:k≠a.block)(u:FZ):NH (W.setCell a u) k s z v:=(BG W a u k ha).trans h
theorem JU.ltz[Lay α]{x:α}(h:JU W b x):b<W.heap.size:=(AL.1 h).1
theorem JU.XV[Lay α]{x:α}(h:JU W b x)(hb:Below B W V)(hk:b<B):JU V b x:=(hb.block b hk).trans h
theorem JU.PD[Lay α]{x:α}(h:JU W b x){a:Addr}(ha:b≠a.block)(u:FZ):JU (W.setCell a u) b x:=(BG W a u b ha).trans h
theorem JU.e0(h:JU W b x):W.cell? ⟨b,0,G6⟩=G8 (S0 x.p):=h.row 0 _ rfl
theorem JU.e1(h:JU W b x):W.cell? ⟨b,1,G6⟩=G8 (S0 x.d):=by have:=h.row 1 _ rfl;simpa using this
theorem JU.e2(h:JU W b x):W.cell? ⟨b,2,G6⟩=G8 (.bool x.t):=by have:=h.row 2 _ rfl;simpa using this
theorem I5.PD[Lay α]{xs:List α}(h:I5 W B v xs){j:Nat}(hk:k<B)(u:FZ):I5 (W.setCell ⟨k,j,G6⟩ u) B v xs:=by
 rcases h with h|⟨g,cap,rfl,hB,h⟩
 .exact .inl h
 .exact .inr ⟨g,cap,rfl,hB,h.other (by simp only;omega) u⟩
theorem I5.above[Lay α]{xs:List α}(h:I5 W B v xs):∀k,v.ownBlock=G8 k->B<=k:=by
 rcases h with⟨rfl,rfl⟩|⟨g,cap,rfl,hB,h⟩
 .intro k hk;simp[DK]at hk
 .intro k hk;simp only[DK,BF]at hk;omega
theorem gB(s:List UInt8)(w:FX)(hs:s.length<=281474976710656):
  G5 prog 63 #[S0 s] w (R0 w (S0 s)):=by
 have C:=fun W=>stringslite_Clone ⟨s.toArray⟩ W (show (ByteArray.mk s.toArray).size<=_ from hs);go_enter func63,ntmps63;go_wp2_with fail;refine(C _).mono ?_;rintro e w1 ⟨rfl,hb1⟩;go_wp2_with fail;go_ret;exact⟨rfl,hb1⟩
theorem AD7(a:Addr)(cap:Nat)(xs:List En)(w:FX)(hl:xs.length*40<=140737488355328)(hc:∀j u,(GL xs)[j]?=G8 u->w.cell? (a.add j)=G8 u):
  G5 prog 29 #[FV (G8 a) xs.length cap] w fun e w'=>∃v',e=.returned v'/\I5 w' w.heap.size v' xs/\B0 w w':=by
 have q22:∀ (w:FX) (a:Option Addr) (n c n' c':Nat),(binOp .eql 68 (FV a n c) (FV G6 n' c')).run prog w=.ok (.bool a.isNone) w:=fun w a n c n' c'=>ES w _ _ a n c n' c' underlying68;have H:=GH hc;clear hc;obtain⟨i0,hi0,hz0,hz1,hz2⟩:=BP7;go_enter func29,ntmps29;go_wp2_with (at_builtin;refine wpList_append_own _ rfl _ _ 68 rfl w.heap.size 74 i0 _ 3 40 underlying68 hi0 hz0 hz1 hz2 rfl (by decide) _ _ _ rfl (World.ownsRow_made w #[] 0 (AA _) (AZ _) (by simp)) a xs.length cap (GL xs) rfl ?qc1 ?qc2 ?qc3 ?qc4 ?qc5 ?qc6 ?_)
 case qc1=>exact GX xs
 case qc2=>
  intro j u hj;exact Lib.cell?_alloc_some _ (G9 H j u hj)
 case qc3=>exact JK xs
 case qc4=>simp only[maxLen];omega
 case qc5=>omega
 case qc6=>simp
 intro v' w1 hown hgrow hnil
 go_wp2
 go_ret;refine⟨v',rfl,I5.LD (by first|exact hown|(simp only[List.nil_append,BK]at hown;exact hown)|simpa using hown),?_⟩;exact((AB _ w).alloc (AA _) _).grown hgrow (by simp) (by intro k hk;simp[DK]at hk;omega)
theorem C78(n c:Nat)(w:FX):
  G5 prog 29 #[FV G6 n c] w fun e w'=>e=.returned (N0)/\w'=w:=by
 have q22:∀ (w:FX) (a:Option Addr) (n c n' c':Nat),(binOp .eql 68 (FV a n c) (FV G6 n' c')).run prog w=.ok (.bool a.isNone) w:=fun w a n c n' c'=>ES w _ _ a n c n' c' underlying68;go_enter func29,ntmps29
 go_wp2
 go_ret;exact⟨rfl,rfl⟩
theorem B68(v:FZ)(xs:List En)(w:FX)(hv:IV w v xs)(hl:xs.length*40<=140737488355328):
  G5 prog 29 #[v] w fun e w'=>∃v',e=.returned v'/\I5 w' w.heap.size v' xs/\B0 w w':=by
 rcases hv with⟨a,cap,rfl,rfl,_⟩|⟨b,off,cap,rfl,_,_,hb,_,hr⟩
 .cases a with
  |none=>exact(C78 0 cap w).mono fun e w' ⟨he,hw⟩=>⟨_,he,.inl ⟨rfl,rfl⟩,by rw[hw];exact AB _ _⟩
  |some a=>exact AD7 a cap [] w (by simp) (fun j u h=>by simp[GL]at h)
 .exact AD7 ⟨b,off,G6⟩ cap xs w hl (fun j u h=>by rw[BM];exact hr j u h)
theorem AD8(x:En)(w:FX)(hp:x.p.length<=140737488355328)(hd:x.d.length<=140737488355328):
  G5 prog 93 #[.agg #[S0 x.p,S0 x.d,.bool x.t]] w (R0 w (.agg #[S0 x.p,S0 x.d,.bool x.t])):=by
 obtain⟨xp,xd,xt⟩:=x;simp only at*;have Kp:=fun W=>gB xp W (by omega);have Kd:=fun W=>gB xd W (by omega);go_enter func93,ntmps93;go_wp2_with fail;generalize hW0:(w.alloc (FW #[S0 xp,S0 xd,.bool xt] 74)).alloc (FW #[.string ⟨#[]⟩,.string ⟨#[]⟩,.bool false] 74)=W0;have hB0:B0 w W0:=by rw[<-hW0];exact GK (GI _ _) (GI _ _)
 have hz0:W0.heap.size=w.heap.size+2:=by rw[<-hW0];simp
 have p0:W0.cell? ⟨w.heap.size,0,G6⟩=G8 (S0 xp):=by rw[<-hW0];simp
 have r0:W0.cell? ⟨w.heap.size+1,0,G6⟩=G8 (.string ⟨#[]⟩):=by rw[<-hW0];simp
 have p1:W0.cell? ⟨w.heap.size,1,G6⟩=G8 (S0 xd):=by rw[<-hW0];simp
 have r1:W0.cell? ⟨w.heap.size+1,1,G6⟩=G8 (.string ⟨#[]⟩):=by rw[<-hW0];simp
 have p2:W0.cell? ⟨w.heap.size,2,G6⟩=G8 (.bool xt):=by rw[<-hW0];simp
 have r2:W0.cell? ⟨w.heap.size+1,2,G6⟩=G8 (.bool false):=by rw[<-hW0];simp
 have pf:∀j,W0.frozen? ⟨w.heap.size,j,G6⟩=false:=by intro j;rw[<-hW0];simp
 have rf:∀j,W0.frozen? ⟨w.heap.size+1,j,G6⟩=false:=by intro j;rw[<-hW0];simp
 clear hW0;have d0:∀d os,(Sort.grow (redrawn W0 d) os).cell? ⟨w.heap.size,0,G6⟩=G8 (S0 xp):=fun d os=>cell_regrown p0 d os;have g0:∀d os,(Sort.grow (redrawn W0 d) os).frozen? ⟨w.heap.size,0,G6⟩=false:=fun d os=>by rw[(below_regrown W0 d os).frozen (p:=⟨w.heap.size,0,G6⟩) (by simp only;omega)];exact pf 0
 have s0:∀d os,(Sort.grow (redrawn W0 d) os).setCell ⟨w.heap.size,0,G6⟩ (S0 xp)=Sort.grow (redrawn W0 d) os:=fun d os=>IE (d0 d os);have c0:=fun d os=>Calls.regrown_of (w:=W0) (d:=d) (os:=os) (Kp _);have d1:∀d os,(Sort.grow (redrawn W0 d) os).cell? ⟨w.heap.size,1,G6⟩=G8 (S0 xd):=fun d os=>cell_regrown p1 d os;have g1:∀d os,(Sort.grow (redrawn W0 d) os).frozen? ⟨w.heap.size,1,G6⟩=false:=fun d os=>by rw[(below_regrown W0 d os).frozen (p:=⟨w.heap.size,1,G6⟩) (by simp only;omega)];exact pf 1
 have s1:∀d os,(Sort.grow (redrawn W0 d) os).setCell ⟨w.heap.size,1,G6⟩ (S0 xd)=Sort.grow (redrawn W0 d) os:=fun d os=>IE (d1 d os);have c1:=fun d os=>Calls.regrown_of (w:=W0) (d:=d) (os:=os) (Kd _);refine wp_region_quiet_below (by kernel_rfl) (by kernel_rfl) ?_
 repeat (first|go_big_quiet_step (first|with_reducible exact c0 _ _|with_reducible exact c1 _ _)|quiet_step (first|with_reducible exact c0 _ _|with_reducible exact c1 _ _))
 refine wpQuiet_nil ?_;intro _ hw';obtain⟨⟨dq,osq⟩,hw''⟩:=hw';subst hw'';have hb1:=below_regrown W0 dq osq;have hB:=GK hB0 hb1;have e0:=(hb1.cell (p:=⟨w.heap.size,0,G6⟩) (by simp only;omega)).trans p0;have u0:=(hb1.cell (p:=⟨w.heap.size+1,0,G6⟩) (by simp only;omega)).trans r0;have v0:=(hb1.frozen (p:=⟨w.heap.size+1,0,G6⟩) (by simp only;omega)).trans (rf 0);have e1:=(hb1.cell (p:=⟨w.heap.size,1,G6⟩) (by simp only;omega)).trans p1;have u1:=(hb1.cell (p:=⟨w.heap.size+1,1,G6⟩) (by simp only;omega)).trans r1;have v1:=(hb1.frozen (p:=⟨w.heap.size+1,1,G6⟩) (by simp only;omega)).trans (rf 1);have e2:=(hb1.cell (p:=⟨w.heap.size,2,G6⟩) (by simp only;omega)).trans p2;have u2:=(hb1.cell (p:=⟨w.heap.size+1,2,G6⟩) (by simp only;omega)).trans r2;have v2:=(hb1.frozen (p:=⟨w.heap.size+1,2,G6⟩) (by simp only;omega)).trans (rf 2);generalize Sort.grow (redrawn W0 dq) osq=w1 at*;clear hb1 hB0 hz0 pf rf p0 r0 p1 r1 p2 r2 d0 g0 s0 c0 Kp d1 g1 s1 c1 Kd;go_wp2_with fail;refine bodyPost_ret (v:=.agg #[S0 xp,S0 xd,.bool xt]) (by simp[results,results93,go_sem,u0,u1,u2]) rfl ⟨rfl,?_⟩;exact(((hB.setCell (by simp) _).setCell (by simp) _).setCell (by simp) _)
theorem ZU(s z:Int)(v:FZ)(es:List En)(w:FX)(hv:IV w v es)(hs:xW es)(hl:es.length*40<=140737488355328):
  G5 prog 84 #[clV s z v] w fun e w'=>∃v',e=.returned (clV s z v')/\I5 w' w.heap.size v' es/\B0 w w':=by
 have CC:=fun W (hW:B0 w W)=>B68 v es W (hv.next hW) hl;have HO:Hid (∀x∈es,∀W,G5 prog 93 #[.agg #[S0 x.p,S0 x.d,.bool x.t]] W (R0 W (.agg #[S0 x.p,S0 x.d,.bool x.t]))):=GH fun x hm W=>AD8 x W (hs x hm).1 (hs x hm).2;obtain⟨a,c,rfl⟩:=GU hv;unfold clV;clear hv hs;go_enter func84,ntmps84;go_wp2_with fail;refine(CC _ (GK (GI _ _) (GI _ _))).mono ?_;rintro e w1 ⟨v',rfl,ho,hb1⟩;have HB1:=GH (GK (GK (GI w _) (GI _ _)) hb1);have X1:=((NH.new w s z (FV a es.length c)).next (GI _ (FW #[I0 0,I0 0,N0] 70))).next hb1;have X2:=(NH.new (w.alloc (FW #[I0 s,I0 z,FV a es.length c] 70)) 0 0 (N0)).next hb1;have hs1:(w.alloc (FW #[I0 s,I0 z,FV a es.length c] 70)).heap.size=w.heap.size+1:=by simp
 rw[hs1]at X2;have hz1:w.heap.size+2<=w1.heap.size:=by have:=hb1.size;simpa using this
 have c2:=X1.c2;have f2:=X1.fr 2;have Y1:=X1.set2 (v':=v');have Y2:=X2.other (a:=⟨w.heap.size,2,G6⟩) (by simp) v';rcases ho with⟨rfl,rfl⟩|⟨g,cap,rfl,hg,ho⟩
 .clear CC hb1 X1 X2;have HY1:=GH Y1;have HY2:=GH Y2;clear Y1 Y2;go_wp2_with fail
  go_loopg [12] 1 (fun _ s wr=>s=I0 0/\wr=w1.setCell ⟨w.heap.size,2,G6⟩ (N0))
  case atStart=>exact⟨rfl,rfl⟩
  case round=>
   obtain⟨rfl,rfl⟩:=hrel;have q0:=(G9 HY1).c0;have q1:=(G9 HY1).c1;have q2:=(G9 HY1).c2;have r0:=(G9 HY2).c0;have r1:=(G9 HY2).c1;have r2:=(G9 HY2).c2;have t0:=(G9 HY2).fr 0;have t1:=(G9 HY2).fr 1;have t2:=(G9 HY2).fr 2;have HB2:=GH ((G9 HB1).setCell (p:=⟨w.heap.size,2,G6⟩) (AA _) (N0));generalize w1.setCell ⟨w.heap.size,2,G6⟩ (N0)=W at*;go_wp2_with fail;refine bodyPost_ret (v:=.agg #[I0 s,I0 z,N0]) (by simp[results,results84,go_sem,r0,r1,r2]) rfl ⟨_,rfl,.inl ⟨rfl,rfl⟩,?_⟩;exact(((G9 HB2).setCell (by simp) _).setCell (by simp) _).setCell (by simp) _
 .have hgl:=ho.lt;have hg2:w.heap.size+2<=g:=by simpa using hg
  have HW:=GH (ho.other (a:=⟨w.heap.size,2,G6⟩) (by simp only;omega) (FV (G8 ⟨g,0,G6⟩) es.length cap));have HY1:=GH Y1;have HY2:=GH Y2;have HB2:=GH ((G9 HB1).setCell (p:=⟨w.heap.size,2,G6⟩) (AA _) (FV (G8 ⟨g,0,G6⟩) es.length cap));have hzs:(w1.setCell ⟨w.heap.size,2,G6⟩ (FV (G8 ⟨g,0,G6⟩) es.length cap)).heap.size=w1.heap.size:=by simp[World.setCell]
  clear ho CC hb1 X1 X2 Y1 Y2 hg;go_wp2_with fail;generalize w1.setCell ⟨w.heap.size,2,G6⟩ (FV (G8 ⟨g,0,G6⟩) es.length cap)=W at*
  go_loopg [12] es.length (fun kx s wr=>∃k:Nat,s=I0 k/\k<=es.length/\es.length-k<=kx/\Hid (B0 W wr))
  case atStart=>exact⟨0,rfl,AZ _,by omega,GH (AB _ _)⟩
  case round=>
   obtain⟨k,rfl,hk,hkx,hB⟩:=hrel;have Z1:=(G9 HY1).next (G9 hB);by_cases hlt:k<es.length
   .obtain⟨x,hx⟩:∃x,es[k]?=G8 x:=⟨_,AO hlt⟩;have o:=(G9 HW).next (G9 hB);have RG:=o.lt;have a0:=o.row.en0 hx;have a1:=o.row.en1 hx;have a2:=o.row.en2 hx;simp only[BK]at a0 a1 a2;have CX:=G9 HO x (BA hx);have hzr:=(G9 hB).size;obtain⟨yp,yd,yt⟩:=x;simp only at a0 a1 a2 CX;have N1:=rW wr ⟨yp,yd,yt⟩;simp only at N1;have O2:=o.next (GI wr (FW #[S0 yp,S0 yd,.bool yt] 74));have b2:=(Z1.next (GI wr (FW #[S0 yp,S0 yd,.bool yt] 74))).c2;have p0:=N1.e0;have p1:=N1.e1;have p2:=N1.e2;have r0:=O2.row.en0 hx;have r1:=O2.row.en1 hx;have r2:=O2.row.en2 hx;have rf:=O2.frozen;have hg3:=O2.lt;simp only[BK]at r0 r1 r2 p0 p1 p2;have HB3:=GH (GK (G9 hB) (GI wr (FW #[S0 yp,S0 yd,.bool yt] 74)));clear hx o O2 N1 Z1;go_wp2_with fail;generalize wr.alloc (FW #[S0 yp,S0 yd,.bool yt] 74)=W0 at*;have b2':=fun d os=>cell_regrown b2 d os;have p0':=fun d os=>cell_regrown p0 d os;have p1':=fun d os=>cell_regrown p1 d os;have p2':=fun d os=>cell_regrown p2 d os;have r0':=fun d os=>cell_regrown r0 d os;have r1':=fun d os=>cell_regrown r1 d os;have r2':=fun d os=>cell_regrown r2 d os;have t0:∀d os,(Sort.grow (redrawn W0 d) os).frozen? ⟨g,k*3,G6⟩=false:=fun d os=>by rw[(below_regrown W0 d os).frozen (p:=⟨g,k*3,G6⟩) hg3];exact rf _
    have t1:∀d os,(Sort.grow (redrawn W0 d) os).frozen? ⟨g,k*3+1,G6⟩=false:=fun d os=>by rw[(below_regrown W0 d os).frozen (p:=⟨g,k*3+1,G6⟩) hg3];exact rf _
    have t2:∀d os,(Sort.grow (redrawn W0 d) os).frozen? ⟨g,k*3+2,G6⟩=false:=fun d os=>by rw[(below_regrown W0 d os).frozen (p:=⟨g,k*3+2,G6⟩) hg3];exact rf _
    have s0:=fun d os=>IE (r0' d os);have s1:=fun d os=>IE (r1' d os);have s2:=fun d os=>IE (r2' d os);have c0:=fun d os=>Calls.regrown_of (w:=W0) (d:=d) (os:=os) (CX _);clear rf p0 p1 p2 r0 r1 r2 b2;refine wp_region_quiet_below (by kernel_rfl) (by kernel_rfl) ?_
    repeat (first|go_big_quiet_step (with_reducible exact c0 _ _)|quiet_step (with_reducible exact c0 _ _))
    refine wpQuiet_nil ?_;intro _ hw';obtain⟨⟨dq,osq⟩,hw''⟩:=hw';subst hw'';have hB2:=GH (GK (G9 HB3) (below_regrown W0 dq osq));generalize Sort.grow (redrawn W0 dq) osq=w2 at*;clear b2' p0' p1' p2' r0' r1' r2' t0 t1 t2 s0 s1 s2 c0 CX;go_wp2_with fail
    go_roundg (es.length-(k+1))
    case measure=>omega
    case rel=>exact⟨k+1,rfl,by omega,AA _,hB2⟩
   .have Z2:=(G9 HY2).next (G9 hB);have q0:=Z1.c0;have q1:=Z1.c1;have q2:=Z1.c2;have r0:=Z2.c0;have r1:=Z2.c1;have r2:=Z2.c2;have t0:=Z2.fr 0;have t1:=Z2.fr 1;have t2:=Z2.fr 2;have O2:=(G9 HW).next (G9 hB);clear Z1 Z2;go_wp2_with fail;refine bodyPost_ret (v:=.agg #[I0 s,I0 z,FV (G8 ⟨g,0,G6⟩) es.length cap]) (by simp[results,results84,go_sem,r0,r1,r2]) rfl ⟨_,rfl,.inr ⟨g,cap,rfl,by omega,?_⟩,?_⟩
    .exact((O2.other (by simp only;omega) _).other (by simp only;omega) _).other (by simp only;omega) _
    .exact(((GK (G9 HB2) (G9 hB)).setCell (by simp) _).setCell (by simp) _).setCell (by simp) _
theorem AD9(n:En)(p:List UInt8)(w:FX):
  G5 prog 134 #[enV n,S0 p] w (R0 w (I0 (EU n.p p))):=by
 unfold enV;go_enter func134,ntmps134;go_wp2_with fail;refine(strings_Compare _ _ _).mono ?_;rintro e w1 ⟨rfl,rfl⟩;go_wp2_with fail;go_ret;exact⟨rfl,GI _ _⟩
def rZ(R:List En)(p:List UInt8):Bool:=match R with
 |[]=>false
 |f::_=>decide (f.p=p)
theorem AO7(A R:List En)(p:List UInt8)(lo:∀a∈A,bl a.p p=true)(hi:∀a∈R,bl a.p p=false)(i:Nat)(h:i<A.length+R.length):∃y,(A++R)[i]?=G8 y/\bl y.p p=decide (i<A.length):=by
 by_cases h1:i<A.length
 .refine⟨A[i],by rw[BN h1,AO h1],?_⟩;rw[lo _ (List.getElem_mem h1)];simp[h1]
 .have h2:i-A.length<R.length:=by omega
  refine⟨R[i-A.length],by rw[BD (by omega),AO h2],?_⟩;rw[hi _ (List.getElem_mem h2)];simp[h1]
theorem BP9(b off cap:Nat)(A R:List En)(p:List UInt8)(w:FX)(hcap:A.length+R.length<=100000)(hb:b<w.heap.size)(h:II w b off (GL (A++R)))
  (lo:∀a∈A,bl a.p p=true) (hi:∀a∈R,bl a.p p=false):
  G5 prog 133 #[FV (G8 ⟨b,off,G6⟩) (A.length+R.length) cap,S0 p,.func (.func 134) #[] #[]] w fun e w'=>
   e=.returned (.tuple #[I0 A.length,.bool (rZ R p)])/\B0 w w':=by
 have H:=GH h;have SG:=GH (AO7 A R p lo hi);obtain⟨fin,hfin⟩:∃x,rZ R p=x:=⟨_,rfl⟩;have HF:=GH hfin;rw[hfin];clear h hfin lo hi;go_enter func133,ntmps133;go_wp2_with fail
 go_loopg [9,10] (A.length+R.length) (fun kx s9 s10 wr=>∃lo hi:Nat,s9=I0 lo/\s10=I0 hi/\lo<=A.length/\A.length<=hi/\hi<=A.length+R.length/\hi-lo<=kx/\Hid (B0 w wr))
 case atStart=>exact⟨0,A.length+R.length,rfl,rfl,AZ _,by omega,AA _,by omega,GH (AB _ _)⟩
 case round=>
  obtain⟨lo,hi,rfl,rfl,h1,h2,h3,hg,hB⟩:=hrel;by_cases hlt:lo<hi
  .obtain⟨y,hy,hyn⟩:=G9 SG ((lo+hi)/2) (by omega);have HY:=GH hyn;have r:=(G9 H).kept (G9 hB) hb;have e0:=r.en0 hy;have e1:=r.en1 hy;have e2:=r.en2 hy;clear hyn hy r;have hc:=A76 y.p p;rw[G9 HY]at hc;have CM:=fun W=>AD9 y p W;generalize EU y.p p=cv at hc CM;by_cases hm:(lo+hi)/2<A.length
   .have hn:cv<0:=by simpa [hm]using hc
    clear hc;go_wp2_with fail;refine(CM _).mono ?_;rintro e w1 ⟨rfl,hb1⟩;have hB2:B0 w w1:=(G9 hB).trans (hb1.mono (G9 hB).size);clear CM;go_wp2_with fail
    go_roundg (hi-((lo+hi)/2+1))
    case measure=>omega
    case rel=>exact⟨(lo+hi)/2+1,hi,by rw[show ((lo:Int)+(hi:Int))/2+1=(((lo+hi)/2+1:Nat):Int) by omega],rfl,by omega,h2,h3,AA _,GH hB2⟩
   .have hn:¬cv<0:=by simpa [hm]using hc
    clear hc;go_wp2_with fail;refine(CM _).mono ?_;rintro e w1 ⟨rfl,hb1⟩;have hB2:B0 w w1:=(G9 hB).trans (hb1.mono (G9 hB).size);clear CM;go_wp2_with fail
    go_roundg ((lo+hi)/2-lo)
    case measure=>omega
    case rel=>exact⟨lo,(lo+hi)/2,rfl,by rw[show ((lo:Int)+(hi:Int))/2=(((lo+hi)/2:Nat):Int) by omega],h1,by omega,by omega,AA _,GH hB2⟩
  .obtain rfl:lo=A.length:=by omega
   obtain rfl:hi=A.length:=by omega
   cases R with
   |nil=>
    go_wp2_with fail
    go_ret2
    exact⟨by rw[<-G9 HF];rfl,G9 hB⟩
   |cons f R=>
    have r:=(G9 H).kept (G9 hB) hb;have hy:(A++f::R)[A.length]?=G8 f:=by simp
    have e0:=r.en0 hy;have e1:=r.en1 hy;have e2:=r.en2 hy;clear hy r;have hc:=gZ f.p p;have CM:=fun W=>AD9 f p W;have hf:fin=decide (f.p=p):=(G9 HF).symm;rw[<-hc]at hf;clear hc HF;generalize EU f.p p=cv at hf CM;subst hf;simp only[BH];go_wp2_with fail;refine(CM _).mono ?_;rintro e w1 ⟨rfl,hb1⟩;have hB2:B0 w w1:=(G9 hB).trans (hb1.mono (G9 hB).size);clear CM;go_wp2_with fail
    go_ret2
    exact⟨by rfl,hB2⟩
theorem B69(a:Option Addr)(cap:Nat)(p:List UInt8)(w:FX):
  G5 prog 133 #[FV a 0 cap,S0 p,.func (.func 134) #[] #[]] w fun e w'=>
   e=.returned (.tuple #[I0 0,.bool false])/\B0 w w':=by
 go_enter func133,ntmps133;go_wp2_with fail
 go_loopg [9,10] 1 (fun _ s9 s10 wr=>s9=I0 0/\s10=I0 0/\Hid (B0 w wr))
 case atStart=>exact⟨rfl,rfl,GH (AB _ _)⟩
 case round=>
  obtain⟨rfl,rfl,hB⟩:=hrel;go_wp2_with fail
  go_ret2
  exact⟨rfl,G9 hB⟩
theorem lC(v:FZ)(ns A R:List En)(p:List UInt8)(w:FX)(hv:IV w v ns)(hl:ns.length<=100000)(he:ns=A++R)(lo:∀a∈A,bl a.p p=true)(hi:∀a∈R,bl a.p p=false):
  G5 prog 91 #[v,S0 p] w (R0 w (.tuple #[I0 A.length,.bool (rZ R p)])):=by
 have C:∀W:FX,B0 w W->G5 prog 133 #[v,S0 p,.func (.func 134) #[] #[]] W fun e w'=>
   e=.returned (.tuple #[I0 A.length,.bool (rZ R p)])/\B0 W w':=fun W hW=>by
  rcases hv with⟨a,cap,rfl,h0,_⟩|⟨b,off,cap,rfl,_,_,hb,_,hr⟩
  .rw[h0]at he;obtain⟨rfl,rfl⟩:A=[]/\R=[]:=by
    have:=congrArg List.length he;simp at this;exact⟨C9 (by omega),C9 (by omega)⟩
   exact B69 a cap p W
  .subst he;rw[AP];exact BP9 b off cap A R p W (by simpa using hl) (AY hb hW.size) (hr.kept hW hb) lo hi
 have C':=GH C;obtain⟨a,c,rfl⟩:=GU hv;clear C hv hl he lo hi;generalize rZ R p=hd at C'⊢;go_enter func91,ntmps91;go_wp2_with fail;refine(G9 C' _ (AB _ _)).mono ?_;rintro e w1 ⟨rfl,hb1⟩;go_wp2_with fail
 go_ret2
 exact⟨rfl,hb1⟩
theorem A47(v:FZ)(ns A B:List En)(f:En)(p:List UInt8)(w:FX)(hv:IV w v ns)(hl:ns.length<=100000)(T:AD0 ns A f B p):
  G5 prog 91 #[v,S0 p] w (R0 w (.tuple #[I0 A.length,.bool true])):=by
 have:=lC v ns A (f::B) p w hv hl T.eq T.lo (fun a ha=>by
  rcases BR.1 ha with rfl|h
  .rw[T.nm];exact QT _
  .exact OT (T.hi a h))
 rwa[show rZ (f::B) p=true from by simp[rZ,T.nm]]at this
theorem B70(v:FZ)(ns A B:List En)(p:List UInt8)(w:FX)(hv:IV w v ns)(hl:ns.length<=100000)(G:CT3 ns A B p):
  G5 prog 91 #[v,S0 p] w (R0 w (.tuple #[I0 A.length,.bool false])):=by
 have:=lC v ns A B p w hv hl G.eq G.lo (fun a ha=>OT (G.hi a ha));rwa[show rZ B p=false from by
  cases B with
  |nil=>rfl
  |cons f B=>have:=WT (G.hi f (by simp));simp[rZ,this.symm]]at this
theorem BQ0(s:Int)(w:FX)(h1:1<=s)(h2:s<=2147483647):
  G5 prog 16 #[I0 s] w (R0 w (.tuple #[clV s 0 (N0),I0 0])):=by
 unfold clV;go_enter func16,ntmps16;go_wp2_with fail;refine bodyPost_ret (v:=.tuple #[.agg #[I0 s,I0 0,N0],I0 0]) (by simp[results,results16,go_sem]) rfl ⟨rfl,?_⟩
 first|exact GI _ _|exact(((GI w _).setCell (by simp) _).setCell (by simp) _).setCell (by simp) _
theorem C79(s z z':Int)(a:Option Addr)(n c:Nat)(w:FX)(h:z'<z):
  G5 prog 52 #[clV s z (FV a n c),I0 z'] w (R0 w (.tuple #[clV 0 0 (N0),I0 15])):=by
 unfold clV;go_enter func52,ntmps52;go_wp2_with fail;refine bodyPost_ret (v:=.tuple #[.agg #[I0 0,I0 0,N0],I0 15]) (by simp[results,results52,go_sem]) rfl ⟨rfl,?_⟩
 first|exact GK (GI _ _) (GI _ _)|exact(((GK (GI w _) (GI _ _)).setCell (by simp) _).setCell (by simp) _).setCell (by simp) _
theorem AE0(s z z':Int)(v:FZ)(es:List En)(w:FX)(hv:IV w v es)(hs:xW es)(hl:es.length*40<=140737488355328)(h:z<=z'):
  G5 prog 52 #[clV s z v,I0 z'] w fun e w'=>∃v',e=.returned (.tuple #[clV s z' v',I0 0])/\I5 w' w.heap.size v' es/\B0 w w':=by
 have CC:=fun W (hW:B0 w W)=>ZU s z v es W (hv.next hW) hs hl;obtain⟨a,c,rfl⟩:=GU hv;unfold clV at CC⊢;clear hv hs;go_enter func52,ntmps52;go_wp2_with fail;refine(CC _ (GK (GI _ _) (GI _ _))).mono ?_;rintro e w1 ⟨v1,rfl,ho1,hb1⟩;obtain⟨a1,c1,rfl,_⟩:=ho1.slice;have X2:=(NH.new (w.alloc (FW #[I0 s,I0 z,FV a es.length c] 70)) 0 0 (N0)).next hb1;have hs1:(w.alloc (FW #[I0 s,I0 z,FV a es.length c] 70)).heap.size=w.heap.size+1:=by simp
 rw[hs1]at X2;have hz1:=hb1.size;have hz2:w.heap.size+2<=w1.heap.size:=by simpa using hz1
 have B2:=GK (GK (GK (GI w _) (GI _ _)) hb1) (GI w1 (FW #[I0 s,I0 z',FV a1 es.length c1] 70));have O2:=ho1.next (GI w1 (FW #[I0 s,I0 z',FV a1 es.length c1] 70));have Y2:=X2.next (GI w1 (FW #[I0 s,I0 z',FV a1 es.length c1] 70));have Y1:=NH.new w1 s z' (FV a1 es.length c1);have r0:=Y2.c0;have r1:=Y2.c1;have r2:=Y2.c2;have f0:=Y2.fr 0;have f1:=Y2.fr 1;have f2:=Y2.fr 2;have q0:=Y1.c0;have q1:=Y1.c1;have q2:=Y1.c2;have HB2:=GH B2;have HO2:=GH O2;clear CC hb1 X2 Y2 Y1 B2 O2 hz1;have hO1:=GH ho1;clear ho1;go_wp2_with fail;refine bodyPost_ret (v:=.tuple #[.agg #[I0 s,I0 z',FV a1 es.length c1],I0 0]) (by simp[results,results52,go_sem,r0,r1,r2]) rfl ⟨_,rfl,?_,?_⟩
 .exact((((G9 HO2).PD (by simp) _).PD (by simp) _).PD (by simp) _).lower (by simp;omega)
 .exact(((G9 HB2).setCell (by simp) _).setCell (by simp) _).setCell (by simp) _
def chP(s:Int)(l:List Nt):List (List UInt8):=(l.filter fun n=>decide (n.s=s)&& !decide (n.k=4)).map fun n=>n.p
def Y9(l:List (List UInt8)):List (List UInt8):=l.mergeSort fun x y=>decide (x<=y)
theorem BS7(s:Int)(l:List Nt)(p:List UInt8):CM1 s l p=decide (p∈Y9 (chP s l)):=by
 rw[Bool.eq_iff_iff];constructor
 .intro h;obtain⟨n,h1,h2⟩:=List.any_eq_true.1 h;rw[Bool.and_eq_true]at h2;exact decide_eq_true (List.mem_mergeSort.2 (F5.2 ⟨n,EK.2 ⟨h1,h2.1⟩,of_decide_eq_true h2.2⟩))
 .intro h;obtain⟨n,h1,h2⟩:=F5.1 (List.mem_mergeSort.1 (of_decide_eq_true h));obtain⟨h3,h4⟩:=EK.1 h1;exact List.any_eq_true.2 ⟨n,h3,by rw[Bool.and_eq_true];exact⟨h4,decide_eq_true h2⟩⟩
theorem BS8(x y:List UInt8):decide (x<=y)= !bl y x:=by
 rw[show bl y x=decide (y<x)from Go.Proofs.bytesLess_eq y x];by_cases h:y<x
 .simp[h,List.not_le.2 h]
 .simp[h,List.not_lt.1 h]
theorem BA1{a b c:List UInt8}(h1:bl b a=false)(h2:bl c b=false):bl c a=false:=by
 cases h:bl c a with
 |false=>rfl
 |true=>
  cases h3:bl a b with
  |true=>rw[RU _ _ _ h h3]at h2;cases h2
  |false=>rw[TU _ _ h3 h1]at h;rw[h]at h2;cases h2
theorem BA2(l:List (List UInt8)):(Y9 l).Pairwise fun a b=>bl b a=false:=by
 have:=List.pairwise_mergeSort (le:=fun x y:List UInt8=>decide (x<=y)) (fun a b c h1 h2=>by
  rw[BS8]at h1 h2⊢;simp only[Bool.not_eq_true']at h1 h2⊢;exact BA1 h1 h2) (fun a b=>by
  rw[BS8,BS8]
  cases h:bl b a with
  |false=>rfl
  |true=>rw[OT h];rfl) l
 refine this.imp fun {a b} h=>?_;rw[BS8]at h;simpa using h
theorem yM(p:List UInt8):∀l:List (List UInt8),(l.Pairwise fun a b=>bl b a=false)->∃A R,l=A++R/\(∀a∈A,bl a p=true)/\(∀a∈R,bl a p=false)/\(decide (p∈l)=match R with|[]=>false|f::_=>decide (f=p))
 |[],_=>⟨[],[],rfl,by simp,by simp,by simp⟩
 |x::r,h=>by
  obtain⟨hx,hr⟩:=List.pairwise_cons.1 h
  cases h1:bl x p with
  |true=>
   obtain⟨A,R,e,lo,hi,hm⟩:=yM p r hr;refine⟨x::A,R,by rw[e];rfl,by simp[h1];exact lo,hi,?_⟩;rw[<-hm];have:p≠x:=fun e=>by rw[e,QT]at h1;cases h1
   simp[this]
  |false=>
   refine⟨[],x::r,rfl,by simp,?_,?_⟩
   .intro a ha;rcases BR.1 ha with rfl|ha
    .exact h1
    .cases hb:bl a p with
     |false=>rfl
     |true=>
      have h2:=hx a ha
      cases h3:bl x a with
      |true=>rw[RU _ _ _ h3 hb]at h1;cases h1
      |false=>rw[TU _ _ h3 h2,hb]at h1;cases h1
   .by_cases hp:x=p
    .simp[hp]
    .have:p∉x::r:=by
      intro hm;rcases BR.1 hm with rfl|hm
      .exact hp rfl
      .have h2:=hx p hm;exact hp (TU _ _ h1 h2)
     simp[this,hp]
theorem BA3(x:List UInt8)(w:FX):G5 prog 205 #[S0 x] w fun e w'=>e=.returned (.bool false)/\w'=w:=by
 go_enter func205,ntmps205
 go_wp2
 go_ret;exact⟨by simp,rfl⟩
theorem BA4(x:List UInt8)(w:FX):G5 prog 176 #[S0 x] w fun e w'=>e=.returned (.bool false)/\w'=w:=by
 go_enter func176,ntmps176
 go_wp2
 go_ret;exact⟨by simp,rfl⟩
theorem AQ1(x y:List UInt8)(w:FX):G5 prog 175 #[S0 x,S0 y] w fun e w'=>e=.returned (.bool (bl x y))/\w'=w:=by
 go_enter func175,ntmps175;go_wp2_with fail;refine(BA3 _ _).mono ?_;rintro e w1 ⟨rfl,rfl⟩;go_wp2_with fail;go_ret;exact⟨rfl,rfl⟩
def CP2(R:List (List UInt8))(p:List UInt8):Bool:=match R with
 |[]=>false
 |f::_=>decide (f=p)
theorem AQ2(A R:List (List UInt8))(p:List UInt8)(lo:∀a∈A,bl a p=true)(hi:∀a∈R,bl a p=false)(i:Nat)(h:i<A.length+R.length):∃y,(A++R)[i]?=G8 y/\bl y p=decide (i<A.length):=by
 by_cases h1:i<A.length
 .refine⟨A[i],by rw[BN h1,AO h1],?_⟩;rw[lo _ (List.getElem_mem h1)];simp[h1]
 .have h2:i-A.length<R.length:=by omega
  refine⟨R[i-A.length],by rw[BD (by omega),AO h2],?_⟩;rw[hi _ (List.getElem_mem h2)];simp[h1]
theorem CD0(b off cap:Nat)(A R:List (List UInt8))(p:List UInt8)(w:FX)(hcap:A.length+R.length<=281474976710656)(h:II w b off (GL (A++R)))
  (lo:∀a∈A,bl a p=true) (hi:∀a∈R,bl a p=false):
  G5 prog 128 #[FV (G8 ⟨b,off,G6⟩) (A.length+R.length) cap,S0 p] w fun e w'=>
   e=.returned (.tuple #[I0 A.length,.bool (CP2 R p)])/\w'=w:=by
 have H:=GH h;have SG:=GH (AQ2 A R p lo hi);obtain⟨fin,hfin⟩:∃x,CP2 R p=x:=⟨_,rfl⟩;have HF:=GH hfin;rw[hfin];clear h hfin lo hi;go_enter func128,ntmps128;go_wp2_with fail
 go_loopg [7,8] (A.length+R.length) (fun kx s9 s10 wr=>∃lo hi:Nat,s9=I0 lo/\s10=I0 hi/\lo<=A.length/\A.length<=hi/\hi<=A.length+R.length/\hi-lo<=kx/\wr=w)
 case atStart=>exact⟨0,A.length+R.length,rfl,rfl,AZ _,by omega,AA _,by omega,rfl⟩
 case round=>
  obtain⟨lo,hi,rfl,rfl,h1,h2,h3,hg,rfl⟩:=hrel;by_cases hlt:lo<hi
  .obtain⟨y,hy,hyn⟩:=G9 SG ((lo+hi)/2) (by omega);have e0:=(G9 H).s0 hy;clear hy;have CM:=fun W=>AQ1 y p W;rw[hyn]at CM;clear hyn;by_cases hm:(lo+hi)/2<A.length
   .simp only[hm,decide_true]at CM;go_wp2_with fail;refine(CM _).mono ?_;rintro e w1 ⟨rfl,rfl⟩;clear CM;go_wp2_with fail
    go_roundg (hi-((lo+hi)/2+1))
    case measure=>omega
    case rel=>exact⟨(lo+hi)/2+1,hi,by rw[show ((lo:Int)+(hi:Int))/2+1=(((lo+hi)/2+1:Nat):Int) by omega],rfl,by omega,h2,h3,AA _,rfl⟩
   .simp only[hm,decide_false]at CM;go_wp2_with fail;refine(CM _).mono ?_;rintro e w1 ⟨rfl,rfl⟩;clear CM;go_wp2_with fail
    go_roundg ((lo+hi)/2-lo)
    case measure=>omega
    case rel=>exact⟨lo,(lo+hi)/2,rfl,by rw[show ((lo:Int)+(hi:Int))/2=(((lo+hi)/2:Nat):Int) by omega],h1,by omega,by omega,AA _,rfl⟩
  .obtain rfl:lo=A.length:=by omega
   obtain rfl:hi=A.length:=by omega
   cases R with
   |nil=>
    go_wp2_with fail
    go_ret2
    exact⟨by rw[<-G9 HF];rfl,rfl⟩
   |cons f R=>
    have e0:=(G9 H).s0 (show (A++f::R)[A.length]?=G8 f by simp);have hf:decide (f=p)=fin:=G9 HF;clear HF;simp only[BH];by_cases hfs:f=p
    .subst hfs;simp only[decide_true]at hf;subst hf;go_wp2_with fail
     go_ret2
     exact⟨rfl,rfl⟩
    .simp only[hfs,decide_false]at hf;subst hf;have hq:(f==p)=false:=by simpa using hfs
     clear hfs;go_wp2_with fail;refine(BA4 _ _).mono ?_;rintro e w1 ⟨rfl,rfl⟩;go_wp2_with fail
     go_ret2
     exact⟨rfl,rfl⟩
theorem BS9(a:Option Addr)(cap:Nat)(p:List UInt8)(w:FX):
  G5 prog 128 #[FV a 0 cap,S0 p] w fun e w'=>e=.returned (.tuple #[I0 0,.bool false])/\w'=w:=by
 go_enter func128,ntmps128;go_wp2_with fail
 go_loopg [7,8] 1 (fun _ s9 s10 wr=>s9=I0 0/\s10=I0 0/\wr=w)
 case atStart=>exact⟨rfl,rfl,rfl⟩
 case round=>
  obtain⟨rfl,rfl,rfl⟩:=hrel;go_wp2_with fail
  go_ret2
  exact⟨rfl,rfl⟩
theorem AQ3(v:FZ)(ss:List (List UInt8))(p:List UInt8)(w:FX)(hv:IV w v ss)(hl:ss.length<=281474976710656)(hs:ss.Pairwise fun a b=>bl b a=false):
  ∃i:Nat,G5 prog 128 #[v,S0 p] w fun e w'=>e=.returned (.tuple #[I0 i,.bool (decide (p∈ss))])/\w'=w:=by
 rcases hv with⟨a,cap,rfl,rfl,_⟩|⟨b,off,cap,rfl,_,_,hb,_,hr⟩
 .refine⟨0,?_⟩;have:=BS9 a cap p w;simpa using this
 .obtain⟨A,R,rfl,lo,hi,hm⟩:=yM p ss hs;refine⟨A.length,?_⟩;have:=CD0 b off cap A R p w (by simpa using hl) hr lo hi;rw[AP];rw[hm]
  cases R<;>exact this
def ZC(m:Nat):List FZ:=(BJ (Value.agg #[.string ⟨#[]⟩,.string ⟨#[]⟩,.bool false]).cells m).toList
theorem VX(m:Nat):(ZC m).length=m*3:=by
 rw[ZC,Array.length_toList,size_zeroCells];rfl
theorem AQ4(m:Nat):∀u∈ZC m,u.oneCell'=true:=by
 intro u hu;simp only[ZC,BJ,Value.cells,Array.toList_map,F5]at hu;obtain⟨i,_,rfl⟩:=hu;have:i%3<3:=Nat.mod_lt _ (by decide);show (#[Value.string ⟨#[]⟩,.string ⟨#[]⟩,.bool false][i%3]!).oneCell'=true;rcases(show i%3=0\/i%3=1\/i%3=2 by omega)with e|e|e<;>rw[e]<;>rfl
theorem AQ5(w:FX)(ty:TypeId)(b o m c:Nat)(hm:0<m)(hc:∀j,j<m*3->(w.cell? ⟨b,o+j,G6⟩).isSome=true)(hf:∀j,j<m*3->w.frozen? ⟨b,o+j,G6⟩=false):
  (Builtin.clear_ #[68] ty #[FV (G8 ⟨b,o,G6⟩) m c]).run prog w=.ok (.tuple #[]) (w.setCells b o (ZC m)):=by
 have hst:=run_storeCells_cells (P:=prog) b o (ZC m) 0 w (by rw[VX];simpa using hc) (by rw[VX];simpa using hf) (AQ4 m);simp only[Nat.add_zero]at hst;obtain⟨k,rfl⟩:∃k,m=k+1:=⟨m-1,by omega⟩;simp[Builtin.clear_,run_underlying underlying68];exact(by
  have:=hst;unfold ZC at this⊢;rw[this];rfl)
structure BA5(g:FuncId)(B:Nat)(q:Nat)(pr:En->Bool)(I:FX->Prop):Prop where
 two:g=127
 keep:∀W V,I W->W.grownBy V (G8 q)->I V
 gives:∀W x,I W->G5 prog g #[.agg #[S0 x.p,S0 x.d,.bool x.t],P0 B] W fun r w'=>r=.returned (.bool (pr x))/\B0 W w'
theorem CD1{g:FuncId}{B q:Nat}{pr:En->Bool}{I:FX->Prop}(C:BA5 g B q pr I)(b off cap:Nat)(A:List En)(x:En)(R:List En)(w:FX)(hi:I w)(hb:b<w.heap.size)(hr:II w b off (GL (A++x::R)))(hl:(A++x::R).length<=140737488355328)
  (hA:∀a∈A,pr a=false) (hx:pr x=true):
  G5 prog 174 #[FV (G8 ⟨b,off,G6⟩) (A++x::R).length cap,.func (.func g) #[] #[P0 B]] w (R0 w (I0 A.length)):=by
 have HR:=GH (fun W (hW:B0 w W)=>hr.kept hW hb);have HC:=GH C;have HI:=GH (fun W (hW:B0 w W)=>C.keep w W hi (LQ hW));have HX:=GH hx;have HA:=GH hA;have hAn:A.length<(A++x::R).length:=by simp
 obtain⟨n,hn⟩:∃n,(A++x::R).length=n:=⟨_,rfl⟩;rw[hn]at hl hAn⊢;have HN:=GH hn;have two:=C.two;clear hr C hi hx hA hn;subst two
 all_goals
  go_enter func174,ntmps174;go_wp2_with fail
  go_loopg [8] n (fun kx s8 wr=>∃k:Nat,s8=I0 k/\k<=A.length/\n-k<=kx/\Hid (B0 w wr))
  case atStart=>exact⟨0,rfl,AZ _,AA _,GH (AB _ _)⟩
  case round=>
   obtain⟨k,rfl,hk,hg,hB⟩:=hrel;have hlt:k<n:=by omega
   obtain⟨y,hy⟩:∃y,(A++x::R)[k]?=G8 y:=⟨_,AO (by rw[G9 HN];exact hlt)⟩;have qr:=G9 HR wr (G9 hB);have d0:=qr.en0 hy;have d1:=qr.en1 hy;have d2:=qr.en2 hy;have hbw:b<wr.heap.size:=AY hb (G9 hB).size;have CX:=(G9 HC).gives wr y (G9 HI wr (G9 hB));by_cases hka:k<A.length
   .have hp:pr y=false:=G9 HA y (by
     rw[BN hka]at hy;exact BA hy)
    rw[hp]at CX;clear qr hy hp;go_wp2_with fail;refine CX.mono ?_;rintro e w1 ⟨rfl,hb1⟩;have hB1:=GK (G9 hB) hb1;clear CX hb1;go_wp2_with fail
    go_roundg (n-(k+1))
    case measure=>omega
    case rel=>exact⟨k+1,rfl,by omega,AA _,GH hB1⟩
   .obtain rfl:k=A.length:=by omega
    have hp:pr y=true:=by
     have:(A++x::R)[A.length]?=G8 x:=by simp
     rw[this]at hy
     cases hy
     exact G9 HX
    rw[hp]at CX;clear qr hy hp;go_wp2_with fail;refine CX.mono ?_;rintro e w1 ⟨rfl,hb1⟩;have hB1:=GK (G9 hB) hb1;clear CX hb1;go_wp2_with fail;go_ret;exact⟨rfl,hB1⟩
theorem yN{g:FuncId}(C:BA5 g B q pr I)(v:FZ)(A:List En)(w:FX)(hi:I w)(hv:IV w v A)(hl:A.length<=140737488355328)(hA:∀a∈A,pr a=false):
  G5 prog 174 #[v,.func (.func g) #[] #[P0 B]] w (R0 w (I0 (-1))):=by
 have KR:∀W,B0 w W->∀k x,A[k]?=G8 x->∃b off cap,v=FV (G8 ⟨b,off,G6⟩) A.length cap/\b<w.heap.size/\II W b off (GL A):=fun W hW k x hx=>by
  obtain⟨b,off,cap,e,hb,hr,_,_⟩:=N8 hv (fun h0=>by obtain⟨h1,_⟩:=AV.1 hx;rw[h0]at h1;simp at h1);exact⟨b,off,cap,e,hb,hr.kept hW hb⟩
 have HKR:=GH KR;have HC:=GH C;have HI:=GH (fun W (hW:B0 w W)=>C.keep w W hi (LQ hW));have HA:=GH hA;have two:=C.two;obtain⟨va,vc,rfl⟩:=GU hv;clear C hi hA KR hv;subst two
 all_goals
  go_enter func174,ntmps174;go_wp2_with fail
  go_loopg [8] A.length (fun kx s8 wr=>∃k:Nat,s8=I0 k/\k<=A.length/\A.length-k<=kx/\Hid (B0 w wr))
  case atStart=>exact⟨0,rfl,AZ _,AA _,GH (AB _ _)⟩
  case round=>
   obtain⟨k,rfl,hk,hg,hB⟩:=hrel;by_cases hlt:k<A.length
   .obtain⟨y,hy⟩:∃y,A[k]?=G8 y:=⟨_,AO hlt⟩;obtain⟨b,off,cap,he,hb,qr⟩:=G9 HKR wr (G9 hB) k y hy;simp only[AQ]at he;obtain⟨rfl,_,rfl⟩:=he;have d0:=qr.en0 hy;have d1:=qr.en1 hy;have d2:=qr.en2 hy;have hbw:b<wr.heap.size:=AY hb (G9 hB).size;have CX:=(G9 HC).gives wr y (G9 HI wr (G9 hB));have hp:pr y=false:=G9 HA y (BA hy);rw[hp]at CX;clear qr hy hp;go_wp2_with fail;refine CX.mono ?_;rintro e w1 ⟨rfl,hb1⟩;have hB1:=GK (G9 hB) hb1;clear CX hb1;go_wp2_with fail
    go_roundg (A.length-(k+1))
    case measure=>omega
    case rel=>exact⟨k+1,rfl,by omega,AA _,GH hB1⟩
   .obtain rfl:k=A.length:=by omega
    go_wp2_with fail;go_ret;exact⟨rfl,G9 hB⟩
theorem yO(pr:En->Bool):∀ws:List En,(∀a∈ws,pr a=false)\/∃A x R,ws=A++x::R/\(∀a∈A,pr a=false)/\pr x=true
 |[]=>.inl (by simp)
 |y::r=>by
  cases h:pr y
  .rcases yO pr r with h1|⟨A,x,R,rfl,h1,h2⟩
   .exact .inl (by intro a ha;rcases BR.1 ha with rfl|ha;exact h;exact h1 a ha)
   .exact .inr ⟨y::A,x,R,rfl,(by intro a ha;rcases BR.1 ha with rfl|ha;exact h;exact h1 a ha),h2⟩
  .exact .inr ⟨[],y,r,rfl,by simp,h⟩
theorem pR{ws:List En}(h:∀a∈ws,pr a=false):ws.filter (fun x=> !pr x)=ws:=by
 rw[List.filter_eq_self];intro a ha;simp[h a ha]
theorem BT0{g:FuncId}(C:BA5 g B q pr I)(cap:Nat)(ws:List En)(w:FX)(hi:I w)(ho:JD w q cap ws)(hl:ws.length<=140737488355328):
  G5 prog 126 #[FV (G8 ⟨q,0,G6⟩) ws.length cap,.func (.func g) #[] #[P0 B]] w fun e w'=>
   e=.returned (FV (G8 ⟨q,0,G6⟩) (ws.filter (fun x=> !pr x)).length cap)/\JD w' q cap (ws.filter (fun x=> !pr x))/\w.grownBy w' (G8 q):=by
 rcases yO pr ws with hA|⟨A,x,R,hws,hA,hx⟩
 .rw[pR hA];have CN:=yN C _ ws w hi (I5.seq (.inr ⟨q,cap,rfl,AZ _,ho⟩)) hl hA;have HO:=GH ho;have two:=C.two;clear C hA hi ho;subst two
  all_goals
   go_enter func126,ntmps126;go_wp2_with fail;refine CN.mono ?_;rintro e w1 ⟨rfl,hb1⟩;have HB:=GH hb1;clear CN hb1;go_wp2_with fail;go_ret;exact⟨rfl,(G9 HO).next (G9 HB),LQ (G9 HB)⟩
 .obtain⟨n,hn⟩:∃n,ws.length=n:=⟨_,rfl⟩;have hAn:A.length<n:=by rw[<-hn,hws];simp
  have hnc:n<=cap:=by rw[<-hn];exact ho.le
  have hcl:=ho.capLe;simp only[maxLen]at hcl;have CA:=CD1 C q 0 cap A x R w hi ho.lt (by rw[<-hws];exact ho.row) (by rw[<-hws];exact hl) hA hx;rw[<-hws,hn]at CA;obtain⟨T,hT⟩:∃T,ws.filter (fun x=> !pr x)=T:=⟨_,rfl⟩;rw[hn]at hl⊢;rw[hT];have HTk:Hid (∀j,n<=j->(ws.take j).filter (fun x=> !pr x)=T):=GH (fun j hj=>by rw[BO (by omega)];exact hT);have HF0:Hid ((ws.take (A.length+1)).filter (fun x=> !pr x)=A):=GH (by
   rw[hws,List.take_append,BO (by omega),F6,pR hA];simp[hx])
  have HG0:Hid (ws=A++[x]++ws.drop (A.length+1)):=GH (by
   rw[hws];simp)
  have HN:=GH hn;have HO:=GH ho;have HC:=GH C;have HI:=GH (fun W (hW:w.grownBy W (G8 q))=>C.keep w W hi hW);have two:=C.two;clear hn hws hA hx ho C hT hi;subst two
  all_goals
   go_enter func126,ntmps126;go_wp2_with fail;refine CA.mono ?_;rintro e w1 ⟨rfl,hb1⟩;have HB:=GH hb1;clear CA hb1;go_wp2_with fail
   go_loopg [5,6] n (fun kx s5 s6 wr=>∃ (j:Nat) (F G:List En),s5=I0 F.length/\s6=I0 j/\j<=n/\n-j<=kx/\F.length+G.length=j/\0<G.length/\Hid ((ws.take j).filter (fun x=> !pr x)=F)/\Hid (JD wr q cap (F++G++ws.drop j))/\Hid (w.grownBy wr (G8 q)))
   case atStart=>exact⟨A.length+1,A,[x],rfl,rfl,by omega,by omega,rfl,by simp,HF0,GH (by rw[<-G9 HG0];exact(G9 HO).next (G9 HB)),GH (LQ (G9 HB))⟩
   case round=>
    obtain⟨j,F,G,rfl,rfl,hj,hg,hFG,hG0,hF,hO,hW⟩:=hrel;have hFj:F.length<j:=by omega
    by_cases hlt:j<n
    .obtain⟨y,hy⟩:∃y,ws[j]?=G8 y:=⟨_,AO (by rw[G9 HN];exact hlt)⟩;have hd:ws.drop j=y::ws.drop (j+1):=by
      obtain⟨h1,h2⟩:=AV.1 hy;rw[List.drop_eq_getElem_cons h1,h2]
     have hf:(ws.take (j+1)).filter (fun x=> !pr x)=F++(if pr y=true then []else [y]):=by
      rw[PV hy,F6,G9 hF]
      cases hpy:pr y<;>simp[hpy]
     rw[hd]at hO;have hyr:(F++G++y::ws.drop (j+1))[j]?=G8 y:=by
      rw[BD (by simp;omega)];simp[hFG]
     obtain⟨z,G',rfl⟩:∃z G',G=z::G':=by
      cases G with
      |nil=>simp at hG0
      |cons z G'=>exact⟨z,G',rfl⟩
     have hzr:(F++z::G'++y::ws.drop (j+1))[F.length]?=G8 z:=by simp
     have d0:=(G9 hO).row.en0 hyr;have d1:=(G9 hO).row.en1 hyr;have d2:=(G9 hO).row.en2 hyr;have hq:=(G9 hO).lt;have hqn:q≠wr.heap.size:=by omega
     simp only[BK]at d0 d1 d2;have HW1:=GH (IW (G9 hW) (LQ (GI wr (FW #[S0 y.p,S0 y.d,.bool y.t] 74))));have CX:=(G9 HC).gives _ y (G9 HI _ (G9 HW1));have hjn:(j:Int)<(n:Int):=by omega
     by_cases hp:pr y=true
     .rw[hp]at CX hf;rw[if_pos rfl,DV]at hf;have HF:=GH hf;clear hy hd hf hyr hp hzr;go_wp2_with fail;refine CX.mono ?_;rintro e w2 ⟨rfl,hb2⟩;have HO2:Hid (JD w2 q cap (F++(z::G'++[y])++ws.drop (j+1))):=GH (by
       have:=((G9 hO).next (GI wr (FW #[S0 y.p,S0 y.d,.bool y.t] 74))).next hb2;simpa using this)
      have HW2:=GH (IW (G9 HW1) (LQ hb2));clear CX hb2;go_wp2_with fail
      go_roundg (n-(j+1))
      case measure=>omega
      case rel=>exact⟨j+1,F,z::G'++[y],rfl,rfl,by omega,AA _,by simp at hFG⊢;omega,by simp,HF,HO2,HW2⟩
     .have hp':pr y=false:=by simpa using hp
      rw[hp']at CX;rw[if_neg hp]at hf;have HF:=GH hf;clear hy hd hf hyr hp hp';have hFn:(F.length:Int)<(n:Int):=by omega
      go_wp2_with fail;refine CX.mono ?_;rintro e w2 ⟨rfl,hb2⟩;have O2:=((G9 hO).next (GI wr (FW #[S0 y.p,S0 y.d,.bool y.t] 74))).next hb2;have c0:w2.cell? ⟨wr.heap.size,0,G6⟩=G8 (S0 y.p):=by rw[hb2.cell (p:=⟨wr.heap.size,0,G6⟩) (by simp)];simp
      have c1:w2.cell? ⟨wr.heap.size,1,G6⟩=G8 (S0 y.d):=by rw[hb2.cell (p:=⟨wr.heap.size,1,G6⟩) (by simp)];simp
      have c2:w2.cell? ⟨wr.heap.size,2,G6⟩=G8 (.bool y.t):=by rw[hb2.cell (p:=⟨wr.heap.size,2,G6⟩) (by simp)];simp
      have e0:=O2.row.en0 hzr;have e1:=O2.row.en1 hzr;have e2:=O2.row.en2 hzr;simp only[BK]at e0 e1 e2;have f0:=O2.frozen (F.length*3);have f1:=O2.frozen (F.length*3+1);have f2:=O2.frozen (F.length*3+2);have hz2:wr.heap.size<w2.heap.size:=by have:=hb2.size;simp at this;omega
      have HO3:Hid (JD (((w2.setCell ⟨q,F.length*3,G6⟩ (S0 y.p)).setCell ⟨q,F.length*3+1,G6⟩ (S0 y.d)).setCell ⟨q,F.length*3+2,G6⟩ (.bool y.t)) q cap ((F++[y])++(G'++[y])++ws.drop (j+1))):=GH (by
       have O2':JD w2 q cap (F++z::(G'++y::ws.drop (j+1))):=by simpa using O2
       have:=O2'.vK y;have e:F++[y]++(G'++[y])++ws.drop (j+1)=F++y::(G'++y::ws.drop (j+1)):=by simp
       rw[e];exact this)
      have HW3:Hid (w.grownBy (((w2.setCell ⟨q,F.length*3,G6⟩ (S0 y.p)).setCell ⟨q,F.length*3+1,G6⟩ (S0 y.d)).setCell ⟨q,F.length*3+2,G6⟩ (.bool y.t)) (G8 q)):=
       GH (IW (IW (IW (IW (G9 HW1) (LQ hb2)) (QE _)) (QE _)) (QE _))
      clear CX hb2 O2 hzr;go_wp2_with fail
      go_roundg (n-(j+1))
      case measure=>omega
      case rel=>exact⟨j+1,F++[y],G'++[y],by rw[AP];rfl,rfl,by omega,AA _,by simp at hFG⊢;omega,by simp,HF,HO3,HW3⟩
    .obtain rfl:j=n:=by omega
     have hTF:T=F:=((G9 HTk j (AA _)).symm.trans (G9 hF));have OF:JD wr q cap F:=JD.head (B:=G++ws.drop j) (by have:=G9 hO;rwa[BZ]at this);have CS4:∀ty c,(Builtin.clear_ #[68] ty #[FV (G8 ⟨q,F.length*3,G6⟩) (j-F.length) c]).run prog wr=.ok (.tuple #[]) (wr.setCells q (F.length*3) (ZC (j-F.length))):=fun ty c=>
      AQ5 wr ty q _ _ c (by omega) (fun i hi=>OF.some (show F.length*3+i<cap*3 by omega)) (fun i hi=>OF.frozen _)
     have FIN:Hid (JD (wr.setCells q (F.length*3) (ZC (j-F.length))) q cap F/\w.grownBy (wr.setCells q (F.length*3) (ZC (j-F.length))) (G8 q)):=
      GH ⟨OF.spare _ _ (AA _) (by rw[VX];show _<=cap*3;omega),IW (G9 hW) (IC _ _ _)⟩
     have hcn:¬ (cap=F.length):=by omega
     have hFc:F.length<=cap:=by omega
     have hFn:F.length<=j:=by omega
     have hjj:¬ ((j:Int)<(j:Int)):=by omega
     clear OF hO hW hF HTk HF0 HG0;subst hTF;go_wp2_with fail;go_ret;exact⟨rfl,(G9 FIN).1,(G9 FIN).2⟩
open Go.Sort
theorem CD2:(prog.info? 9).map (fun i=>(i.zero,i.size,i.bytes))=G8 (G8 (.string ⟨#[]⟩),1,16):=by kernel_rfl
theorem CP3:∃i0,prog.info? 9=G8 i0/\i0.zero=G8 (.string ⟨#[]⟩)/\i0.size=1/\i0.bytes=16:=by
 obtain⟨i0,h,e⟩:=FQ.1 CD2;simp only[Prod.mk.injEq]at e;exact⟨i0,h,e⟩
theorem BA6(l:List (List UInt8)):GL l=l.map encStr:=by
 induction l with
 |nil=>rfl
 |cons x r ih=>rw[JW,ih];rfl
theorem CD3{l:List Nt}{n:Nt}(h:l[k]?=G8 n)(h1:n.s=s)(h2:n.k≠4):chP s (l.take (k+1))=chP s (l.take k)++[n.p]:=by
 rw[PV h];simp[chP,h1,h2]
theorem BZ3{l:List Nt}{n:Nt}(h:l[k]?=G8 n)(h1:n.s≠s\/n.k=4):chP s (l.take (k+1))=chP s (l.take k):=by
 rw[PV h];rcases h1 with h1|h1<;>simp[chP,h1]
theorem A58(s:Int)(l:List Nt):(chP s l).length<=l.length:=by unfold chP;rw[List.length_map];exact List.length_filter_le _ _
theorem pU{n:Nat}{ss:List (List UInt8)}{os:Array Obj}(hB:B<=g)(h:JD W g cap ss):I5 (Sort.grow (Sort.putRow encStr (Sort.ahead W n) g 0 (Y9 ss).toArray) os) B (FV (G8 ⟨g,0,G6⟩) ss.length cap) (Y9 ss)/\Holds encStr W g 0 ss.toArray:=by
 obtain⟨rest,h1,h2,h3,h4⟩:=h;have hk:ss.length*1+rest.length=cap*1:=h2;have hl:(Y9 ss).length=ss.length:=by unfold Y9;simp
 refine⟨?_,holds_of_block h1 (by rw[BA6];simp)⟩;have:=ownsRow_sorted (n:=n) (os:=os) (ts:=Y9 ss) hl hB h1 h3 h4 (by simp[BA6];omega);rw[<-hl]at this⊢;refine I5.LD ?_;rw[BA6];exact this
theorem yP(s:Int)(v:FZ)(l:List Nt)(w:FX)(hv:IV w v l)(hl:l.length*32<=140737488355328):
  G5 prog 125 #[I0 s,v] w fun e w'=>∃v',e=.returned v'/\I5 w' w.heap.size v' (Y9 (chP s l))/\B0 w w':=by
 have KR:=GH (crow hv);obtain⟨i0,hi0,hz0,hz1,hz2⟩:=CP3;obtain⟨va,vc,rfl⟩:=GU hv;clear hv;go_enter func125,ntmps125;go_wp2_with fail
 go_loopg [5,10] l.length (fun kx s5 s10 wr=>∃ (k n:Nat) (a:Option Addr) (c:Nat),s10=I0 k/\s5=FV a n c/\Hid ((chP s (l.take k)).length=n)/\k<=l.length/\l.length-k<=kx/\Hid (I5 wr w.heap.size (FV a n c) (chP s (l.take k)))/\Hid (B0 w wr))
 case atStart=>exact⟨0,0,G6,0,rfl,rfl,GH rfl,AZ _,AA _,GH (.inl ⟨rfl,rfl⟩),GH (AB _ _)⟩
 case round=>
  obtain⟨k,n,a,c,rfl,rfl,hn,hk,hg,hO,hB⟩:=hrel;by_cases hlt:k<l.length
  .obtain⟨x,hx⟩:∃x,l[k]?=G8 x:=⟨_,AO hlt⟩;obtain⟨b,off,cap,he,hb,q⟩:=G9 KR wr (G9 hB) k x hx;simp only[AQ]at he;obtain⟨rfl,_,rfl⟩:=he;have d0:=q.t0 hx;have d1:=q.t1 hx;have d2:=q.t2 hx;have hbw:b<wr.heap.size:=AY hb (G9 hB).size;have HB1:=GH (GK (G9 hB) (GI wr (FW #[I0 x.s,I0 x.k,S0 x.p] 42)));have HO1:=GH ((G9 hO).next (GI wr (FW #[I0 x.s,I0 x.k,S0 x.p] 42)));have hnl:n<=k:=by rw[<-G9 hn];exact Nat.le_trans (A58 _ _) (by simp;omega)
   by_cases h1:x.s=s
   .have hsb:(x.s==s)=true:=by simpa using h1
    by_cases h2:x.k=4
    .have hkb:(x.k==4)=true:=by simpa using h2
     have HE:=GH (BZ3 hx (s:=s) (.inr h2));clear q hx h1 h2;go_wp2_with fail
     go_roundg (l.length-(k+1))
     case measure=>omega
     case rel=>exact⟨k+1,n,a,c,rfl,rfl,by rw[G9 HE];exact hn,by omega,AA _,by rw[G9 HE];exact HO1,HB1⟩
    .have hkb:(x.k==4)=false:=by simpa using h2
     have HE:=GH (CD3 hx h1 h2);clear q hx h1 h2;have HR:=GH (((G9 HO1).next (GI _ (FW #[S0 x.p] 9))).row);rw[G9 hn]at HR;have HB2:=GH (GK (G9 HB1) (GI _ (FW #[S0 x.p] 9)));have HA:=GH (G9 HO1).above;clear hO HO1;go_wp2_with (at_builtin;refine wpList_append_own _ rfl _ _ 203 rfl w.heap.size 9 i0 _ 1 16 underlying203 hi0 hz0 hz1 hz2 rfl (by decide) _ n (GL (chP s (l.take k))) rfl (G9 HR) ⟨wr.heap.size+1,0,G6⟩ 1 1 [S0 x.p] rfl (by rfl) ?qc2 (by simp[Value.oneCell']) ?qc4 ?qc5 (G9 HB2).size ?_)
     case qc2=>
      intro j u hj
      match j with
      |0=>simp only[List.getElem?_cons_zero,BF]at hj;subst hj;rw[BM];simp
      |j+1=>simp at hj
     case qc4=>simp only[maxLen];omega
     case qc5=>omega
     intro v' w1 hown hgrow _;have O2:I5 w1 w.heap.size v' (chP s (l.take (k+1))):=I5.LD (by rw[G9 HE,AP,JJ,G9 hn];exact hown);obtain⟨a2,c2,rfl,_⟩:=O2.slice;have HO2:=GH O2;have HB3:=GH ((G9 HB2).grown hgrow (G9 HB2).size (G9 HA));clear O2 hown hgrow;go_wp2_with fail
     go_roundg (l.length-(k+1))
     case measure=>omega
     case rel=>exact⟨k+1,_,a2,c2,rfl,rfl,GH rfl,by omega,AA _,HO2,HB3⟩
   .have hsb:(x.s==s)=false:=by simpa using h1
    have HE:=GH (BZ3 hx (s:=s) (.inl h1));clear q hx h1;go_wp2_with fail
    go_roundg (l.length-(k+1))
    case measure=>omega
    case rel=>exact⟨k+1,n,a,c,rfl,rfl,by rw[G9 HE];exact hn,by omega,AA _,by rw[G9 HE];exact HO1,HB1⟩
  .obtain rfl:k=l.length:=by omega
   rw[List.take_length]at hO hn;have hnl:n<=l.length:=by rw[<-G9 hn];exact A58 _ _
   rcases G9 hO with⟨h1,h0⟩|⟨g,cap,h1,hgB,ho⟩
   .simp only[AQ]at h1;obtain⟨rfl,rfl,rfl⟩:=h1;have HS0:Hid (Y9 (chP s l)=[]):=GH (by rw[h0];simp[Y9]);clear h0 hO;have CS:=fun W=>slices_Sort_string_none G6 0 W;go_wp2_with fail;refine(CS _).mono ?_;rintro e w1 ⟨rfl,rfl⟩;go_wp2_with fail;go_ret;exact⟨_,rfl,.inl ⟨rfl,G9 HS0⟩,G9 hB⟩
   .simp only[AQ]at h1;obtain⟨rfl,h3,rfl⟩:=h1;have CS:G5 prog 173 #[FV (G8 ⟨g,0,G6⟩) (chP s l).length c] wr fun e w'=>e=.returned (.tuple #[])/\∃n os,w'=Sort.grow (Sort.putRow encStr (Sort.ahead wr n) g 0 (Y9 (chP s l)).toArray) os:=slices_Sort_string g 0 c (chP s l) wr (pU (n:=0) (os:=#[]) hgB ho).2 ho.lt (by rw[<-h3];omega);rw[<-h3]at CS;have HO:=GH ho;have H3:=GH h3;clear hO ho h3;go_wp2_with fail;refine CS.mono ?_;rintro e w1 ⟨rfl,m,os,rfl⟩;have O4:=(pU (n:=m) (os:=os) hgB (G9 HO)).1;have B4:=(G9 hB).grown (grownBy_sorted (n:=m) (os:=os) (g:=g) (Y9 (chP s l)).toArray) (G9 hB).size (fun j e=>by cases e;exact hgB);rw[<-G9 H3]at O4;have HO4:=GH O4;have HB4:=GH B4;clear CS O4 B4;generalize Sort.grow (Sort.putRow encStr (Sort.ahead wr m) g 0 (Y9 (chP s l)).toArray) os=w4 at*;go_wp2_with fail;go_ret;exact⟨_,rfl,G9 HO4,G9 HB4⟩
structure CP4(B q:Nat)(va:FZ)(ss:List (List UInt8))(W:FX):Prop where
 box:W.heap[B]?=G8 (FW #[va] 203 (0,0))
 own:I5 W 0 va ss
 ne:B≠q
 nq:∀k,va.ownBlock=G8 k->k≠q
theorem BA7(B q:Nat)(va:FZ)(ss:List (List UInt8))(hs:ss.Pairwise fun a b=>bl b a=false)(hl:ss.length<=281474976710656)(W:FX)(x:En)(hI:CP4 B q va ss W):
  G5 prog 127 #[.agg #[S0 x.p,S0 x.d,.bool x.t],P0 B] W fun r w'=>r=.returned (.bool (decide (x.p∈ss)))/\B0 W w':=by
 have C:=fun V (hV:B0 W V)=>AQ3 va ss x.p V (hI.own.next hV).seq hl hs;have c0:(W.alloc (FW #[S0 x.p,S0 x.d,.bool x.t] 74)).cell? ⟨B,0,G6⟩=G8 va:=by
  have hb:=hI.box;have hlt:=(AL.1 hb).1;rw[(GI W _).cell (p:=⟨B,0,G6⟩) hlt];simp[AX,hb]
 have hBl:B<W.heap.size:=(AL.1 hI.box).1;obtain⟨a,c,rfl,_⟩:=hI.own.slice;clear hI;generalize decide (x.p∈ss)=hd at C⊢;generalize ss.length=n at*;obtain⟨xp,xd,xt⟩:=x;simp only at*;go_enter func127,ntmps127;go_wp2_with fail;obtain⟨i,C2⟩:=C _ (GI _ _);refine C2.mono ?_;rintro e w1 ⟨rfl,rfl⟩;go_wp2_with fail;go_ret;exact⟨rfl,GI _ _⟩
theorem yQ(B q:Nat)(va:FZ)(ss:List (List UInt8))(hs:ss.Pairwise fun a b=>bl b a=false)(hl:ss.length<=281474976710656):BA5 127 B q (fun x=>decide (x.p∈ss)) (CP4 B q va ss):=
 ⟨rfl,fun _ _ h hg=>⟨(hg.block B (AL.1 h.box).1 (fun e=>h.ne (BQ e))).trans h.box,h.own.grown hg (fun k hk e=>h.nq k hk (BQ e)),h.ne,h.nq⟩,fun W x h=>BA7 B q va ss hs hl W x h⟩
theorem BT1{g:FuncId}(C:BA5 g B q pr I)(w:FX)(hi:I w):
  G5 prog 126 #[N0,.func (.func g) #[] #[P0 B]] w (R0 w (N0)):=by
 have CN:=yN C (N0) [] w hi (IV.nil w) (by simp) (by simp);have two:=C.two;clear C hi;subst two;go_enter func126,ntmps126;go_wp2_with fail;refine CN.mono ?_;rintro e w1 ⟨rfl,hb1⟩;go_wp2_with fail;go_ret;exact⟨rfl,hb1⟩
theorem BA8(s:Int)(l:List Nt):(Y9 (chP s l)).length<=l.length:=by
 unfold Y9;rw[List.length_mergeSort];exact A58 s l
theorem A59(s:Int)(l:List Nt)(es:List En):es.filter (fun x=> !decide (x.p∈Y9 (chP s l)))=UW s l es:=by
 unfold UW
 congr 1
 funext x
 rw[BS7]
theorem BA9(s z:Int)(v vl:FZ)(es:List En)(l:List Nt)(w:FX)(hv:IV w v es)(hs:xW es)(hl:es.length*40<=140737488355328)(hvl:IV w vl l)(hll:l.length*32<=140737488355328):
  G5 prog 83 #[clV s z v,vl] w fun e w'=>∃v',e=.returned (clV s z v')/\I5 w' w.heap.size v' (UW s l es)/\B0 w w':=by
 have CH:=fun W (hW:B0 w W)=>yP s vl l W (hvl.next hW) hll;have CC:=fun W (hW:B0 w W)=>ZU s z v es W (hv.next hW) hs hl;have HT:=GH (A59 s l es);have HA:=GH (BA2 (chP s l));have hsl:=BA8 s l;obtain⟨a,c,rfl⟩:=GU hv;obtain⟨al,cl,rfl⟩:=GU hvl;unfold clV at CC⊢;clear hv hs hvl;generalize Y9 (chP s l)=ss at*;generalize UW s l es=R at*;go_enter func83,ntmps83;go_wp2_with fail;have B0:B0 w ((w.alloc (FW #[I0 s,I0 z,FV a es.length c] 70)).alloc (FW #[I0 0,I0 0,N0] 70)):=GK (GI _ _) (GI _ _);have K0:=(NH.new w s z (FV a es.length c)).next (GI _ (FW #[I0 0,I0 0,N0] 70));have K1:=NH.new (w.alloc (FW #[I0 s,I0 z,FV a es.length c] 70)) 0 0 (N0);have hz0:((w.alloc (FW #[I0 s,I0 z,FV a es.length c] 70)).alloc (FW #[I0 0,I0 0,N0] 70)).heap.size=w.heap.size+2:=by simp
 rw[show (w.alloc (FW #[I0 s,I0 z,FV a es.length c] 70)).heap.size=w.heap.size+1 by simp]at K1;generalize (w.alloc (FW #[I0 s,I0 z,FV a es.length c] 70)).alloc (FW #[I0 0,I0 0,N0] 70)=W0 at*;refine(CH _ B0).mono ?_;rintro e w1 ⟨va,rfl,ho1,hb1⟩;obtain⟨a1,c1,rfl,_⟩:=ho1.slice;have K0:=(K0.next hb1).next (GI w1 (FW #[FV a1 ss.length c1] 203));have K1:=(K1.next hb1).next (GI w1 (FW #[FV a1 ss.length c1] 203));have N1:=heap_alloc_new w1 (FW #[FV a1 ss.length c1] 203);have O1:=ho1.next (GI w1 (FW #[FV a1 ss.length c1] 203));have B1:=GK (GK B0 hb1) (GI w1 (FW #[FV a1 ss.length c1] 203));have hz1:=hb1.size;have hlow1:=ho1.low;have hs1:(w1.alloc (FW #[FV a1 ss.length c1] 203)).heap.size=w1.heap.size+1:=by simp
 have k0:=K0.c0;have k1:=K0.c1;have k2:=K0.c2;clear CH ho1 hb1 B0 K0;have HK1:=GH K1;have HN1:=GH N1;have HO1:=GH O1;have HB1:=GH B1;clear K1 N1 O1 B1;go_wp2_with fail;generalize w1.alloc (FW #[FV a1 ss.length c1] 203)=W1 at*;refine(CC _ (G9 HB1)).mono ?_;rintro e w2 ⟨v2,rfl,ho2,hb2⟩;obtain⟨a2,c2,rfl,_⟩:=ho2.slice;have hlow2:=ho2.low;have hz2:=hb2.size;have hab2:=ho2.above;have K1:=((G9 HK1).next hb2).next (GI w2 (FW #[I0 s,I0 z,FV a2 es.length c2] 70));have K2:=NH.new w2 s z (FV a2 es.length c2);have N2:=(Below.block (GI w2 (FW #[I0 s,I0 z,FV a2 es.length c2] 70)) w1.heap.size (by omega)).trans ((hb2.block w1.heap.size (by omega)).trans (G9 HN1));have O1:=((G9 HO1).next hb2).next (GI w2 (FW #[I0 s,I0 z,FV a2 es.length c2] 70));have O2:=ho2.next (GI w2 (FW #[I0 s,I0 z,FV a2 es.length c2] 70));have B2:=GK (GK (G9 HB1) hb2) (GI w2 (FW #[I0 s,I0 z,FV a2 es.length c2] 70));have hs2:(w2.alloc (FW #[I0 s,I0 z,FV a2 es.length c2] 70)).heap.size=w2.heap.size+1:=by simp
 have q2:=K2.c2;have HK1:=GH K1;have HK2:=GH K2;have HB2:=GH B2;clear CC hb2 ho2 HN1 HO1 HB1 k0 k1 k2 K1 K2 B2;rcases O2 with⟨h1,h2⟩|⟨g,cap,h1,hg,O2⟩
 .simp only[AQ]at h1;obtain⟨rfl,h3,rfl⟩:=h1;have CD:=BT1 (yQ w1.heap.size (w2.heap.size+7) (FV a1 ss.length c1) ss (G9 HA) (by omega)) _ ⟨N2,O1.lower (AZ _),by omega,fun k hk=>by have:=hlow1 k hk;omega⟩;rw[h3]at CD q2 HK2 HK1 HB2⊢;have HT0:Hid (R=[]):=GH (by rw[<-G9 HT,h2];rfl);clear O1 N2 h2 h3;go_wp2_with fail;generalize w2.alloc (FW #[I0 s,I0 z,N0] 70)=W2 at*;refine CD.mono ?_;rintro e w3 ⟨rfl,hb3⟩;have X1:=(G9 HK1).next hb3;have X2:=(G9 HK2).next hb3;have B3:=GK (G9 HB2) hb3;have p0:=X2.c0;have p1:=X2.c1;have p2:=X2.c2;have p3:=X2.fr 2;have ps:=IE p2;have r0:=X1.c0;have r1:=X1.c1;have r2:=X1.c2;have f0:=X1.fr 0;have f1:=X1.fr 1;have f2:=X1.fr 2;have HB3:=GH B3;clear CD hb3 X1 X2 B3;go_wp2_with fail;refine bodyPost_ret (v:=.agg #[I0 s,I0 z,N0]) (by simp[results,results83,go_sem,r0,r1,r2]) rfl ⟨_,rfl,.inl ⟨rfl,G9 HT0⟩,?_⟩;exact(((G9 HB3).setCell (by simp) _).setCell (by simp) _).setCell (by simp) _
 .simp only[AQ]at h1;obtain⟨rfl,_,rfl⟩:=h1;have hg2:=hlow2 g rfl;have CD:=BT0 (yQ w1.heap.size g (FV a1 ss.length c1) ss (G9 HA) (by omega)) c2 es _ ⟨N2,O1.lower (AZ _),by omega,fun k hk=>by have:=hlow1 k hk;omega⟩ O2 (by omega);rw[G9 HT]at CD;clear O1 N2;go_wp2_with fail;generalize w2.alloc (FW #[I0 s,I0 z,FV (G8 ⟨g,0,G6⟩) es.length c2] 70)=W2 at*;refine CD.mono ?_;rintro e w3 ⟨rfl,O3,hg3⟩;have X1:=((G9 HK1).grown hg3 (fun e=>by have:=BQ e;omega)).other (a:=⟨w2.heap.size,2,G6⟩) (by simp only;omega) (FV (G8 ⟨g,0,G6⟩) R.length c2);have X0:=(G9 HK2).grown hg3 (fun e=>by have:=BQ e;omega);have x2:=X0.c2;have x3:=X0.fr 2;have X2:=X0.set2 (v':=FV (G8 ⟨g,0,G6⟩) R.length c2);have B3:=((G9 HB2).grown hg3 (G9 HB2).size (fun k e=>by cases e;omega)).setCell (p:=⟨w2.heap.size,2,G6⟩) (by simp only;omega) (FV (G8 ⟨g,0,G6⟩) R.length c2);have O4:=O3.other (a:=⟨w2.heap.size,2,G6⟩) (by simp only;omega) (FV (G8 ⟨g,0,G6⟩) R.length c2);have p0:=X2.c0;have p1:=X2.c1;have p2:=X2.c2;have r0:=X1.c0;have r1:=X1.c1;have r2:=X1.c2;have f0:=X1.fr 0;have f1:=X1.fr 1;have f2:=X1.fr 2;have HB3:=GH B3;have HO4:=GH O4;clear CD hg3 X1 X2 X0 B3 O3 O4;go_upto_region 4 with fail;generalize w3.setCell ⟨w2.heap.size,2,G6⟩ (FV (G8 ⟨g,0,G6⟩) R.length c2)=w4 at*;go_wp2_with fail;refine bodyPost_ret (v:=.agg #[I0 s,I0 z,FV (G8 ⟨g,0,G6⟩) R.length c2]) (by simp[results,results83,go_sem,r0,r1,r2]) rfl ⟨_,rfl,.inr ⟨g,c2,rfl,by omega,?_⟩,?_⟩
  .exact(((G9 HO4).other (by simp only;omega) _).other (by simp only;omega) _).other (by simp only;omega) _
  .exact(((G9 HB3).setCell (by simp only;omega) _).setCell (by simp only;omega) _).setCell (by simp only;omega) _
theorem KJ(ns:List En):(GL ns).length=ns.length*3:=GX ns
theorem JD.A61{pre tl:List En}(h:JD W g cap (pre++tl))(new:List En)(hfit:pre.length+new.length<=cap):JD (W.setCells g (pre.length*3) (GL new)) g cap (pre++new):=h.splice new hfit
theorem JD.CX7{A B:List En}{y:En}(h:JD W g cap (A++y::B))(x:En):JD (W.setCells g (A.length*3) (OX x)) g cap (A++x::B):=h.vK x
theorem JD.BT6{fs:List En}(h:JD W g cap fs){j:Nat}(hj:j<cap*3):(W.cell? ⟨g,j,G6⟩).isSome=true:=h.some hj
theorem AF9(w:FX)(ty:TypeId)(b o dLen dCap:Nat)(a:Addr)(sLen sCap:Nat)(cs:List FZ)(hn:cs.length=Nat.min sLen dLen*3)
  (hsrc:∀j v,cs[j]?=G8 v->w.cell? (a.add j)=G8 v) (hc:∀j,j<cs.length->(w.cell? ⟨b,o+j,G6⟩).isSome=true) (hf:∀j,j<cs.length->w.frozen? ⟨b,o+j,G6⟩=false) (h1:∀v∈cs,v.oneCell'=true):
  (EC #[68,68] ty #[FV (G8 ⟨b,o,G6⟩) dLen dCap,FV (G8 a) sLen sCap]).run prog w=.ok (goInt (Nat.min sLen dLen)) (w.setCells b o cs):=by
 have hl:=run_loadCells_list (P:=prog) w a cs hsrc;have hst:=run_storeCells_cells (P:=prog) b o cs 0 w (by simpa using hc) (by simpa using hf) h1;obtain⟨i0,hi0,hz0,hz1,hz2⟩:=BP7;simp[EC,run_underlying underlying68,Builtin.lenOf,Builtin.firstCells,sizeOf,typeInfo,hi0,hz1,<-hn,hl,hst]
theorem A62(v:FZ)(A:List En)(x:En)(B b:Nat)(w:FX)(ho:I5 w B v A)(hB:B<=w.heap.size)(hl:A.length<=400)(h1:JU w b x):
  G5 prog 92 #[v,I0 A.length,FV (G8 ⟨b,0,G6⟩) 1 1] w fun e w'=>
   ∃v',e=.returned v'/\I5 w' B v' (A++[x])/\w.grownBy w' v.ownBlock/\(v'.ownBlock=v.ownBlock\/v'.ownBlock=G8 w.heap.size):=by
 obtain⟨i0,hi0,hz0,hz1,hz2⟩:=BP7;have hrow:=ho.row;have HR:=GH hrow;have H1:=GH h1.row;have V:∃a c,v=FV a A.length c/\A.length<=c:=by
  rcases ho with⟨rfl,rfl⟩|⟨g,cap,rfl,_,h⟩
  .exact⟨G6,0,rfl,AA _⟩
  .exact⟨_,cap,rfl,h.le⟩
 obtain⟨a,c,rfl,hc⟩:=V;clear ho hrow h1;rcases Nat.lt_or_ge A.length c with hcl|hcl
 .have hne:¬c=A.length:=by omega
  go_enter func92,ntmps92;go_wp2_with (at_builtin;refine wpList_append_own_at _ rfl _ _ 68 rfl B 74 i0 _ 3 40 underlying68 hi0 hz0 hz1 hz2 rfl (by decide) _ A.length (GL A) rfl (G9 HR) ⟨b,0,G6⟩ 1 1 (OX x) rfl (by rfl) ?qc2 ((Lay.one x)) ?qc4 ?qc5 hB ?_)
  case qc2=>
   intro j u hj;rw[BM];exact G9 H1 j u hj
  case qc4=>simp only[maxLen];omega
  case qc5=>omega
  intro v' w1 hown hgrow _ hloc
  go_wp2
  go_ret;exact⟨v',rfl,I5.LD (by rw[AP,JJ];exact hown),hgrow,hloc⟩
 .obtain rfl:c=A.length:=by omega
  go_enter func92,ntmps92;go_wp2_with (at_builtin;refine wpList_append_own_at _ rfl _ _ 68 rfl B 74 i0 _ 3 40 underlying68 hi0 hz0 hz1 hz2 rfl (by decide) _ A.length (GL A) rfl (G9 HR) ⟨b,0,G6⟩ 1 1 (OX x) rfl (by rfl) ?qc2 ((Lay.one x)) ?qc4 ?qc5 hB ?_)
  case qc2=>
   intro j u hj;rw[BM];exact G9 H1 j u hj
  case qc4=>simp only[maxLen];omega
  case qc5=>omega
  intro v' w1 hown hgrow _ hloc
  go_wp2
  go_ret;exact⟨v',rfl,I5.LD (by rw[AP,JJ];exact hown),hgrow,hloc⟩
theorem tC(g cap:Nat)(A R:List En)(y x:En)(n b:Nat)(w:FX)(ho:JD w g cap (A++y::R))(hn:n=A.length+R.length+1)(hsm:n<=400)(hroom:n+1<=cap)(h1:JU w b x)(hbg:b≠g):
  G5 prog 92 #[FV (G8 ⟨g,0,G6⟩) n cap,I0 A.length,FV (G8 ⟨b,0,G6⟩) 1 1] w fun e w'=>
   e=.returned (FV (G8 ⟨g,0,G6⟩) (n+1) cap)/\JD w' g cap (A++x::y::R)/\w.grownBy w' (G8 g):=by
 have hcl:=ho.capLe;simp only[maxLen]at hcl;have hrow:=ho.row;have AZ0:w.shape? g=G8 (74,cap*3):=by
  obtain⟨rest,q1,q2,_⟩:=ho;rw[AP,BH]at q2;simp[World.shape?,q1,KJ];exact⟨rfl,q2⟩
 have AZ1:w.shape? b=G8 (74,3):=by unfold JU at h1;simp[World.shape?,h1];exact⟨rfl,rfl⟩
 have hfb:∀j,w.frozen? ⟨b,j,G6⟩=false:=fun j=>by unfold JU at h1;simp[FC,h1]
 have hov:∀lb cb,(callFunc 135 #[FV (G8 ⟨b,0,G6⟩) 1 1,FV (G8 ⟨g,(A.length+1)*3,G6⟩) lb cb]).run prog w=.ok (.value (.bool false)) w:=fun lb cb=>by
  rw[run_callFunc_extern func135 (by kernel_rfl) (by kernel_rfl) (by kernel_rfl) (e:=Extern.SlicesOverlaps.overlaps #[68,68] #[4]) (by kernel_rfl),
   Lib.run_overlaps_apart w 68 4 74 underlying68 3 sizeOf74 ⟨b,0,G6⟩ ⟨g,(A.length+1)*3,G6⟩ 1 1 lb cb hbg 74 74 3 (cap*3) AZ1 AZ0 (by omega) (hfb 0) (hfb 3)]
  rfl
 obtain⟨W1,hW1⟩:∃W1,W1=w.drew.setCells g ((A.length+1)*3) (GL (y::R)):=⟨_,rfl⟩;have ho1:JD W1 g cap (A++y::y::R):=by
  have h:JD w.drew g cap ((A++[y])++R):=by rw[BZ];exact ho
  have:=h.A61 (y::R) (by simp;omega);rw[hW1];simpa using this
 have hg1:w.grownBy W1 (G8 g):=by rw[hW1];have:=IC (g:=g) (GL (y::R)) ((A.length+1)*3) w.drew;exact⟨this.os,this.tape,this.output,this.size,this.block⟩
 have hcp1:∀ty dc sc,(EC #[68,68] ty #[FV (G8 ⟨g,(A.length+1)*3,G6⟩) (n-A.length) dc,FV (G8 ⟨g,A.length*3,G6⟩) (n+1-A.length) sc]).run prog w.drew=.ok (goInt (Nat.min (n+1-A.length) (n-A.length))) W1:=fun ty dc sc=>by
  rw[hW1];exact AF9 w.drew ty g _ _ dc ⟨g,A.length*3,G6⟩ _ sc (GL (y::R)) (by rw[KJ];simp only[Nat.min_def,BH];split<;>omega)
   (fun j v hj=>by
    rw[BM];have:=hrow (A.length*3+j) v (by rw[I8,BD (by rw[KJ];omega),KJ,FH];exact hj);rw[BK]at this;exact this)
   (fun j hj=>by rw[KJ]at hj;exact ho.BT6 (by simp at hj;omega)) (fun j _=>ho.frozen _) (JK _)
 have hcp2:∀ty dc,(EC #[68,68] ty #[FV (G8 ⟨g,A.length*3,G6⟩) (n+1-A.length) dc,FV (G8 ⟨b,0,G6⟩) 1 1]).run prog W1=.ok (goInt (Nat.min 1 (n+1-A.length))) (W1.setCells g (A.length*3) (OX x)):=fun ty dc=>
  AF9 W1 ty g _ _ dc ⟨b,0,G6⟩ 1 1 (OX x) (by simp only[Nat.min_def,OX,BH,EZ];split<;>omega)
   (fun j v hj=>by
    rw[BM];have hb2:W1.heap[b]?=w.heap[b]? :=hg1.block b (by unfold JU at h1;exact(AL.1 h1).1) (fun e=>hbg (BQ e));have h2:JU W1 b x:=hb2.trans h1;exact h2.row j v hj)
   (fun j hj=>ho1.BT6 (by simp[OX]at hj;omega)) (fun j _=>ho1.frozen _) ((Lay.one x))
 have FIN:Hid (JD (W1.setCells g (A.length*3) (OX x)) g cap (A++x::y::R)/\w.grownBy (W1.setCells g (A.length*3) (OX x)) (G8 g)):=
  ⟨ho1.CX7 x,IW hg1 (IC _ _ _)⟩
 have hin:A.length<n:=by omega
 have C27:(A.length:Int)<(n:Int):=by omega
 have hw1:IntKind.i64.wrap ((A.length:Int)+1)=(A.length:Int)+1:=by rw[IntKind.wrap_i64];omega
 have hb1:(0:Int)<=(A.length:Int)+1:=by omega
 have hb2:¬ (cap=A.length+1):=by omega
 have hb3:(A.length:Int)<=(n:Int)+1:=by omega
 have hb4:¬ (cap=A.length):=by omega
 have hb5:(A.length:Int)+1<=(n:Int)+1:=by omega
 have hb6:¬ ((cap:Int)<(n:Int)+1):=by omega
 have hz2:¬ ((A.length:Int)=(n:Int)):=by omega
 have htn:((A.length:Int)+1).toNat=A.length+1:=by omega
 clear hW1 ho1 hg1 hrow AZ0 AZ1 hfb ho h1 hn;go_enter func92,ntmps92;go_wp2_with (simp only[hov])
 go_region_law (refine N7 rfl (.tmp 73) (.tmp 76) 68 68 rfl (FV (G8 ⟨g,(A.length+1)*3,G6⟩) (n-A.length) (cap-(A.length+1))) (FV (G8 ⟨g,A.length*3,G6⟩) (n+1-A.length) (cap-A.length)) (by simp[Act.eval,Act.put]) (by simp[Act.eval,Act.put]) (hcp1 _ _ _) ?_)
 go_wp2_with (at_builtin;refine LH _ rfl _ _ 68 68 rfl _ _ rfl rfl (hcp2 _ _) ?_);go_ret;exact⟨rfl,FIN.out⟩
theorem CQ1(k:Nat):(BJ (Value.agg #[.string ⟨#[]⟩,.string ⟨#[]⟩,.bool false]).cells k).size=k*3:=by
 simp[BJ,Value.cells]
theorem yR(g cap:Nat)(A R:List En)(y x:En)(n b:Nat)(w:FX)(ho:JD w g cap (A++y::R))(hn:n=A.length+R.length+1)(hsm:n<=400)(hroom:cap<n+1)(h1:JU w b x):
  G5 prog 92 #[FV (G8 ⟨g,0,G6⟩) n cap,I0 A.length,FV (G8 ⟨b,0,G6⟩) 1 1] w fun e w'=>
   ∃cap',e=.returned (FV (G8 ⟨w.heap.size,0,G6⟩) (n+1) cap')/\JD w' w.heap.size cap' (A++x::y::R)/\B0 w w':=by
 have hcap:cap=n:=by have:=ho.le;simp at this;omega
 obtain⟨i0,hi0,hz0,hz1,hz2⟩:=BP7;have hrow:=ho.row;have hgw:=ho.lt;have hbw:b<w.heap.size:=by unfold JU at h1;exact(AL.1 h1).1
 have hold:(Builtin.firstCells i0.size A.length (FV (G8 ⟨g,0,G6⟩) A.length cap)).run prog w.drew=.ok (GL A).toArray w.drew:=by
  rw[hz1];exact run_firstCells_some w.drew 3 A.length ⟨g,0,G6⟩ A.length cap (GL A) (KJ A) (fun j v hj=>by
   rw[BM];exact hrow j v (by rw[I8,BN (AV.1 hj).1];exact hj))
 obtain⟨G,hG⟩:∃G,G=grownCap w (n+1) cap 74:=⟨_,rfl⟩;have hGn:n+1<=G:=by rw[hG];exact grownCap_ge w _ _ _
 have hGm:G<=maxLen:=by rw[hG];exact grownCap_le_maxLen w (n+1) cap _ (by unfold maxLen;omega)
 have hG63:G<=9223372036854775807:=by have:=hGm;unfold maxLen at this;omega
 obtain⟨ROW,hROW⟩:∃ROW:Array FZ,ROW=(GL A).toArray++BJ (Value.agg #[.string ⟨#[]⟩,.string ⟨#[]⟩,.bool false]).cells (n+1-A.length)++BJ (Value.agg #[.string ⟨#[]⟩,.string ⟨#[]⟩,.bool false]).cells (G-(n+1)):=⟨_,rfl⟩;obtain⟨W1,hW1⟩:∃W1,W1=w.drew.alloc (FW ROW 74):=⟨_,rfl⟩;have hik:A.length+(n+1-A.length)=n+1:=by omega
 have hrz:∀ty,(Builtin.append_ #[68,3] ty #[FV (G8 ⟨g,0,G6⟩) A.length cap,I0 ((n:Int)+1-(A.length:Int))]).run prog w=
   .ok (FV (G8 ⟨w.heap.size,0,G6⟩) (n+1) G) W1:=fun ty=>by
  have h:=Lib.run_append_grow_zeros w 68 3 ty 74 i0 _ .i64 .i64 underlying68 underlying3 hi0 hz0 (G8 ⟨g,0,G6⟩) A.length cap (GL A) hold (n+1-A.length) (by omega) (by omega) (by omega) (by omega) (by rw[hz2];omega) (by rw[hz2,hik];exact growslice_fits hroom (by omega));rw[hik,<-hG,<-hROW,<-hW1]at h;rw[show (n:Int)+1-(A.length:Int)=((n+1-A.length:Nat):Int) by omega];exact h
 have ho1:JD W1 w.heap.size G A:=by
  refine⟨(BJ (Value.agg #[.string ⟨#[]⟩,.string ⟨#[]⟩,.bool false]).cells (n+1-A.length)++BJ (Value.agg #[.string ⟨#[]⟩,.string ⟨#[]⟩,.bool false]).cells (G-(n+1))).toList,?_,?_,by omega,hGm⟩
  .rw[hW1,hROW];have:=heap_alloc_new w.drew (FW ((GL A).toArray++BJ (Value.agg #[.string ⟨#[]⟩,.string ⟨#[]⟩,.bool false]).cells (n+1-A.length)++BJ (Value.agg #[.string ⟨#[]⟩,.string ⟨#[]⟩,.bool false]).cells (G-(n+1))) 74);refine Eq.trans this ?_
   congr 2
   apply Array.toList_inj.1
   simp
  .simp only[show Lay.k En=3 from rfl,Array.length_toList,Array.size_append,CQ1];omega
 have hB1:B0 w W1:=by rw[hW1];exact((AB _ w).drew).alloc (AA _) _
 obtain⟨W2,hW2⟩:∃W2,W2=W1.setCells w.heap.size (A.length*3) (OX x):=⟨_,rfl⟩;have ho2:JD W2 w.heap.size G (A++[x]):=by
  have h:JD W1 w.heap.size G (A++[]):=by rw[DV];exact ho1
  have:=h.A61 [x] (by simp;omega);rw[hW2];rw[JW,SX,DV]at this;exact this
 have hg2:W1.grownBy W2 (G8 w.heap.size):=by rw[hW2];exact IC _ _ _
 have hB2:B0 w W2:=hB1.grown hg2 hB1.size (fun k e=>by cases e;exact AA _);have hcpA:∀ty dc,(EC #[68,68] ty #[FV (G8 ⟨w.heap.size,A.length*3,G6⟩) (n+1-A.length) dc,FV (G8 ⟨b,0,G6⟩) 1 1]).run prog W1=.ok (goInt (Nat.min 1 (n+1-A.length))) W2:=fun ty dc=>by
  rw[hW2];exact AF9 W1 ty w.heap.size _ _ dc ⟨b,0,G6⟩ 1 1 (OX x) (by simp only[Nat.min_def,OX,BH,EZ];split<;>omega)
   (fun j v hj=>by rw[BM];exact(show JU W1 b x from(hB1.block b hbw).trans h1).row j v hj)
   (fun j hj=>ho1.BT6 (by simp[OX]at hj;omega)) (fun j _=>ho1.frozen _) ((Lay.one x))
 obtain⟨W3,hW3⟩:∃W3,W3=W2.drew.setCells w.heap.size ((A.length+1)*3) (GL (y::R)):=⟨_,rfl⟩;have hcpB:∀ty dc sc,(EC #[68,68] ty #[FV (G8 ⟨w.heap.size,(A.length+1)*3,G6⟩) (n-A.length) dc,FV (G8 ⟨g,A.length*3,G6⟩) (n-A.length) sc]).run prog W2.drew=.ok (goInt (Nat.min (n-A.length) (n-A.length))) W3:=fun ty dc sc=>by
  rw[hW3];exact AF9 W2.drew ty w.heap.size _ _ dc ⟨g,A.length*3,G6⟩ _ sc (GL (y::R)) (by rw[KJ];simp only[Nat.min_self,BH];omega)
   (fun j v hj=>by
    rw[BM];have:=hrow (A.length*3+j) v (by rw[I8,BD (by rw[KJ];omega),KJ,FH];exact hj);rw[BK]at this;exact(hB2.cell (p:=⟨g,A.length*3+j,G6⟩) hgw).trans this)
   (fun j hj=>by rw[KJ]at hj;exact ho2.drew.BT6 (by simp at hj;omega)) (fun j _=>ho2.drew.frozen _) (JK _)
 have FIN:Hid (JD W3 w.heap.size G (A++x::y::R)/\B0 w W3):=by
  refine⟨?_,?_⟩
  .have h:JD W2.drew w.heap.size G ((A++[x])++[]):=by rw[DV];exact ho2
   have:=h.A61 (y::R) (by simp;omega);rw[hW3];simpa using this
  .rw[hW3];exact hB2.drew.grown (IC _ _ _) hB2.size (fun k e=>by cases e;exact AA _)
 have hin:A.length<n:=by omega
 have C27:(A.length:Int)<(n:Int):=by omega
 have hw1:IntKind.i64.wrap ((A.length:Int)+1)=(A.length:Int)+1:=by rw[IntKind.wrap_i64];omega
 have hb1:(0:Int)<=(A.length:Int)+1:=by omega
 have hb2:¬ (G=A.length+1):=by omega
 have hb3:(A.length:Int)<=(n:Int)+1:=by omega
 have hb4:¬ (n=A.length):=by omega
 have hb5:(A.length:Int)+1<=(n:Int)+1:=by omega
 have hb6:¬ (G=A.length):=by omega
 have hb7:(A.length:Int)<=(n:Int):=by omega
 have hz3:¬ ((A.length:Int)=(n:Int)):=by omega
 have htn:((A.length:Int)+1).toNat=A.length+1:=by omega
 subst hcap;clear hn hROW hW1 hW2 hW3 hG hrow ho h1 ho1 ho2 hB1 hB2 hg2 hold hik;go_enter func92,ntmps92;go_wp2_with (first
  |(at_builtin;refine Lib.wpList_append_run _ rfl _ _ _ _ rfl _ _ rfl rfl _ _ (hrz _) ?_)
  |(at_builtin;refine LH _ rfl _ _ 68 68 rfl _ _ rfl rfl (hcpA _ _) ?_))
 go_region_law (refine N7 rfl (.tmp 50) (.tmp 53) 68 68 rfl (FV (G8 ⟨w.heap.size,(A.length+1)*3,G6⟩) (cap-A.length) (G-(A.length+1))) (FV (G8 ⟨g,A.length*3,G6⟩) (cap-A.length) (cap-A.length)) (by simp[Act.eval,Act.put]) (by simp[Act.eval,Act.put]) (hcpB _ _ _) ?_)
 go_wp2
 go_ret;exact⟨G,rfl,FIN.out⟩
theorem A63(v:FZ)(A R:List En)(x:En)(q:Nat)(w:FX)(ho:I5 w 0 v (A++R))(hl:(A++R).length<=400)(h1:JU w q x)(hq:v.ownBlock≠G8 q):
  G5 prog 92 #[v,I0 A.length,FV (G8 ⟨q,0,G6⟩) 1 1] w fun e w'=>
   ∃v',e=.returned v'/\I5 w' 0 v' (A++x::R)/\w.grownBy w' v.ownBlock/\(v'.ownBlock=v.ownBlock\/∃k,w.heap.size<=k/\v'.ownBlock=G8 k):=by
 cases R with
 |nil=>
  rw[DV]at ho hl;refine(A62 v A x 0 q w ho (AZ _) hl h1).mono ?_;rintro e w' ⟨v',rfl,h2,h3,h4⟩;refine⟨v',rfl,h2,h3,?_⟩;rcases h4 with h|h
  .exact .inl h
  .exact .inr ⟨_,AA _,h⟩
 |cons y R=>
  rcases ho with⟨_,h⟩|⟨g,cap,rfl,_,ho⟩
  .simp at h
  .have hn:(A++y::R).length=A.length+R.length+1:=by simp;omega
   by_cases hc:(A++y::R).length+1<=cap
   .refine(tC g cap A R y x _ q w ho hn hl hc h1 (fun e=>hq (by rw[e];rfl))).mono ?_;rintro e w' ⟨rfl,h2,h3⟩;exact⟨_,rfl,.inr ⟨g,cap,by simp;omega,AZ _,h2⟩,h3,.inl rfl⟩
   .refine(yR g cap A R y x _ q w ho hn hl (by omega) h1).mono ?_;rintro e w' ⟨cap',rfl,h2,h3⟩;exact⟨_,rfl,.inr ⟨w.heap.size,cap',by simp;omega,AZ _,h2⟩,⟨h3.os,h3.tape,h3.output,h3.size,fun k hk _=>h3.block k hk⟩,.inr ⟨_,AA _,rfl⟩⟩
