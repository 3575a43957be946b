/-
  Part.
-/
import Derived.Test.YtnlikdglijgjpaaGreatDoorLOF
import Derived.Sort.OwnSorted
import Derived.Test.YtnlikdglijgjpaaGreatDoorLOD
set_option maxRecDepth 20000
set_option maxHeartbeats 8000000
namespace Go.Proofs.YtnlikdglijgjpaaGreatDoor
open Go.RowKit Go.Proofs.Tryz
open _root_.Nat renaming le_refl->A8,lt_of_lt_of_le->AX,zero_le->AY,zero_add->BI,add_assoc->EJ,add_sub_cancel_left->FC
open Go.RowKit.Below renaming refl->AA,heap_setCell->BF
open _root_.Array renaming getElem?_eq_some_iff->AB
open _root_.List renaming getElem?_eq_getElem->AL,length_append->AO,getElem?_eq_some_iff->AU,mem_of_getElem?->AZ,getElem?_append_right->BA,length_cons->BG,getElem?_append_left->BK,take_of_length_le->BM,mem_cons->BP,append_assoc->BR,eq_nil_of_length_eq_zero->BU,append_nil->DN,mem_filter->EI,length_nil->EU,mem_map->EW,filter_append->EZ
open Go.Value.slice renaming injEq->AP
open Go.World renaming cell?->AV,frozen?->F8
open _root_.Option.some renaming injEq->BD,inj->BO
open Go.Builtin renaming zeroCells->BH,copy_->DX
open Go.Addr renaming add_lit->BJ
open Go.Value renaming ownBlock->DC,slice->FT
open Go.Lib renaming run_eql_slice_nil->EO,compareBytes->ER
open _root_.Option renaming map_eq_some_iff->FM,none->FZ,some->G5
open Go.Obj renaming cells->FU
open Go renaming World->FV,Value->FW,Calls->FX
variable{w W V:FV}{b off i k B g q cap:Nat}{xs:List En}{x:En}{α:Type}{v:FW}{s z:Int}{pr:En->Bool}{I:FV->Prop}
def OD(e:En):List FW:=[S0 e.p,S0 e.d,.bool e.t]
def enV(e:En):FW:=.agg #[S0 e.p,S0 e.d,.bool e.t]
def clV(s z:Int)(v:FW):FW:=.agg #[I0 s,I0 z,v]
instance layC:Lay En:=⟨3,OD,79,fun _=>rfl,fun x u hu=>by simp[OD]at hu;rcases hu with rfl|rfl|rfl<;>rfl⟩
theorem IC.en0(h:IC w b off (GH xs))(hi:xs[i]?=G5 x):w.cell? ⟨b,off+i*3,FZ⟩=G5 (S0 x.p):=
 h (i*3) _ (GV xs i x hi 0 (by decide))
theorem IC.en1(h:IC w b off (GH xs))(hi:xs[i]?=G5 x):w.cell? ⟨b,off+i*3+1,FZ⟩=G5 (S0 x.d):=by
 rw[EJ];exact h (i*3+1) _ (GV xs i x hi 1 (by decide))
theorem IC.en2(h:IC w b off (GH xs))(hi:xs[i]?=G5 x):w.cell? ⟨b,off+i*3+2,FZ⟩=G5 (.bool x.t):=by
 rw[EJ];exact h (i*3+2) _ (GV xs i x hi 2 (by decide))
theorem CM0:(prog.info? 79).map (fun i=>(i.zero,i.size,i.bytes))=G5 (G5 (.agg #[.string ⟨#[]⟩,.string ⟨#[]⟩,.bool false]),3,40):=by kernel_rfl
theorem BP2:∃i0,prog.info? 79=G5 i0/\i0.zero=G5 (.agg #[.string ⟨#[]⟩,.string ⟨#[]⟩,.bool false])/\i0.size=3/\i0.bytes=40:=by
 obtain⟨i0,h,e⟩:=FM.1 CM0;simp only[Prod.mk.injEq]at e;exact⟨i0,h,e⟩
theorem qY(w:FV)(x:En):JM (w.alloc (FU #[S0 x.p,S0 x.d,.bool x.t] 79)) w.heap.size x:=heap_alloc_new w _
theorem crow[Lay α]{xs:List α}(hv:IE w v xs):∀W,B0 w W->∀ (k:Nat) (x:α),xs[k]?=G5 x->∃b off cap,v=FT (G5 ⟨b,off,FZ⟩) xs.length cap/\b<w.heap.size/\IC W b off (GH xs):=fun W hW k x hx=>by
 obtain⟨b,off,cap,e,hb,hr,_,_⟩:=N8 hv (fun h0=>by obtain⟨h1,_⟩:=AU.1 hx;rw[h0]at h1;simp at h1);exact⟨b,off,cap,e,hb,hr.kept hW hb⟩
def OA(W:FV)(k:Nat)(s z:Int)(v:FW):Prop:=W.heap[k]?=G5 (FU #[I0 s,I0 z,v] 76 (0,0))
theorem OA.lt(h:OA W k s z v):k<W.heap.size:=(AB.1 h).1
theorem OA.c0(h:OA W k s z v):W.cell? ⟨k,0,FZ⟩=G5 (I0 s):=by unfold OA at h;simp[AV,h]
theorem OA.c1(h:OA W k s z v):W.cell? ⟨k,1,FZ⟩=G5 (I0 z):=by unfold OA at h;simp[AV,h]
theorem OA.c2(h:OA W k s z v):W.cell? ⟨k,2,FZ⟩=G5 v:=by unfold OA at h;simp[AV,h]
theorem OA.fr(h:OA W k s z v)(j:Nat):W.frozen? ⟨k,j,FZ⟩=false:=by unfold OA at h;simp[F8,h]
theorem OA.kept(h:OA W k s z v)(hb:Below B W V)(hk:k<B):OA V k s z v:=(hb.block k hk).trans h
theorem OA.next(h:OA W k s z v)(hb:B0 W V):OA V k s z v:=h.kept hb h.lt
theorem OA.grown{r:Option Nat}(h:OA W k s z v)(hg:W.grownBy V r)(hr:G5 k≠r):OA V k s z v:=(hg.block k h.lt hr).trans h
theorem OA.new(w:FV)(s z:Int)(v:FW):OA (w.alloc (FU #[I0 s,I0 z,v] 76)) w.heap.size s z v:=heap_alloc_new w _
theorem OA.set0{s':Int}(h:OA W k s z v):OA (W.setCell ⟨k,0,FZ⟩ (I0 s')) k s' z v:=by unfold OA at h⊢;rw[GU _ h];rfl
theorem OA.set1{z':Int}(h:OA W k s z v):OA (W.setCell ⟨k,1,FZ⟩ (I0 z')) k s z' v:=by unfold OA at h⊢;rw[GU _ h];rfl
theorem OA.set2{v':FW}(h:OA W k s z v):OA (W.setCell ⟨k,2,FZ⟩ v') k s z v':=by unfold OA at h⊢;rw[GU _ h];rfl
theorem OA.other(h:OA W k s z v){a:Addr}(ha:k≠a.block)(u:FW):OA (W.setCell a u) k s z v:=(BF W a u k ha).trans h
theorem JM.ltz[Lay α]{x:α}(h:JM W b x):b<W.heap.size:=(AB.1 h).1
theorem JM.ZA[Lay α]{x:α}(h:JM W b x)(hb:Below B W V)(hk:b<B):JM V b x:=(hb.block b hk).trans h
theorem JM.OM[Lay α]{x:α}(h:JM W b x){a:Addr}(ha:b≠a.block)(u:FW):JM (W.setCell a u) b x:=(BF W a u b ha).trans h
theorem JM.e0(h:JM W b x):W.cell? ⟨b,0,FZ⟩=G5 (S0 x.p):=h.row 0 _ rfl
theorem JM.e1(h:JM W b x):W.cell? ⟨b,1,FZ⟩=G5 (S0 x.d):=by have:=h.row 1 _ rfl;simpa using this
theorem JM.e2(h:JM W b x):W.cell? ⟨b,2,FZ⟩=G5 (.bool x.t):=by have:=h.row 2 _ rfl;simpa using this
theorem H7.OM[Lay α]{xs:List α}(h:H7 W B v xs){j:Nat}(hk:k<B)(u:FW):H7 (W.setCell ⟨k,j,FZ⟩ u) B v xs:=by
 rcases h with h|⟨g,cap,rfl,hB,h⟩
 .exact .inl h
 .exact .inr ⟨g,cap,rfl,hB,h.other (by simp only;omega) u⟩
theorem H7.above[Lay α]{xs:List α}(h:H7 W B v xs):∀k,v.ownBlock=G5 k->B<=k:=by
 rcases h with⟨rfl,rfl⟩|⟨g,cap,rfl,hB,h⟩
 .intro k hk;simp[DC]at hk
 .intro k hk;simp only[DC,BD]at hk;omega
theorem fB(s:List UInt8)(w:FV)(hs:s.length<=281474976710656):
  FX prog 65 #[S0 s] w (R0 w (S0 s)):=by
 have C:=fun W=>stringslite_Clone ⟨s.toArray⟩ W (show (ByteArray.mk s.toArray).size<=_ from hs);go_enter func65,ntmps65;go_wp2_with fail;refine(C _).mono ?_;rintro e w1 ⟨rfl,hb1⟩;go_wp2_with fail;go_ret;exact⟨rfl,hb1⟩
theorem AD2(a:Addr)(cap:Nat)(xs:List En)(w:FV)(hl:xs.length*40<=140737488355328)(hc:∀j u,(GH xs)[j]?=G5 u->w.cell? (a.add j)=G5 u):
  FX prog 32 #[FT (G5 a) xs.length cap] w fun e w'=>∃v',e=.returned v'/\H7 w' w.heap.size v' xs/\B0 w w':=by
 have q22:∀ (w:FV) (a:Option Addr) (n c n' c':Nat),(binOp .eql 74 (FT a n c) (FT FZ n' c')).run prog w=.ok (.bool a.isNone) w:=fun w a n c n' c'=>EO w _ _ a n c n' c' underlying74;have H:=G7 hc;clear hc;obtain⟨i0,hi0,hz0,hz1,hz2⟩:=BP2;go_enter func32,ntmps32;go_wp2_with (at_builtin;refine wpList_append_own _ rfl _ _ 74 rfl w.heap.size 79 i0 _ 3 40 underlying74 hi0 hz0 hz1 hz2 rfl (by decide) _ _ _ rfl (World.ownsRow_made w #[] 0 (A8 _) (AY _) (by simp)) a xs.length cap (GH xs) rfl ?qc1 ?qc2 ?qc3 ?qc4 ?qc5 ?qc6 ?_)
 case qc1=>exact GN xs
 case qc2=>
  intro j u hj;exact Lib.cell?_alloc_some _ (G6 H j u hj)
 case qc3=>exact JF xs
 case qc4=>simp only[maxLen];omega
 case qc5=>omega
 case qc6=>simp
 intro v' w1 hown hgrow hnil
 go_wp2
 go_ret;refine⟨v',rfl,H7.L9 (by first|exact hown|(simp only[List.nil_append,BI]at hown;exact hown)|simpa using hown),?_⟩;exact((AA _ w).alloc (A8 _) _).grown hgrow (by simp) (by intro k hk;simp[DC]at hk;omega)
theorem C82(n c:Nat)(w:FV):
  FX prog 32 #[FT FZ n c] w fun e w'=>e=.returned (N0)/\w'=w:=by
 have q22:∀ (w:FV) (a:Option Addr) (n c n' c':Nat),(binOp .eql 74 (FT a n c) (FT FZ n' c')).run prog w=.ok (.bool a.isNone) w:=fun w a n c n' c'=>EO w _ _ a n c n' c' underlying74;go_enter func32,ntmps32
 go_wp2
 go_ret;exact⟨rfl,rfl⟩
theorem C83(v:FW)(xs:List En)(w:FV)(hv:IE w v xs)(hl:xs.length*40<=140737488355328):
  FX prog 32 #[v] w fun e w'=>∃v',e=.returned v'/\H7 w' w.heap.size v' xs/\B0 w w':=by
 rcases hv with⟨a,cap,rfl,rfl,_⟩|⟨b,off,cap,rfl,_,_,hb,_,hr⟩
 .cases a with
  |none=>exact(C82 0 cap w).mono fun e w' ⟨he,hw⟩=>⟨_,he,.inl ⟨rfl,rfl⟩,by rw[hw];exact AA _ _⟩
  |some a=>exact AD2 a cap [] w (by simp) (fun j u h=>by simp[GH]at h)
 .exact AD2 ⟨b,off,FZ⟩ cap xs w hl (fun j u h=>by rw[BJ];exact hr j u h)
theorem AD3(x:En)(w:FV)(hp:x.p.length<=140737488355328)(hd:x.d.length<=140737488355328):
  FX prog 95 #[.agg #[S0 x.p,S0 x.d,.bool x.t]] w (R0 w (.agg #[S0 x.p,S0 x.d,.bool x.t])):=by
 obtain⟨xp,xd,xt⟩:=x;simp only at*;have Kp:=fun W=>fB xp W (by omega);have Kd:=fun W=>fB xd W (by omega);go_enter func95,ntmps95;go_wp2_with fail;generalize hW0:(w.alloc (FU #[S0 xp,S0 xd,.bool xt] 79)).alloc (FU #[.string ⟨#[]⟩,.string ⟨#[]⟩,.bool false] 79)=W0;have hB0:B0 w W0:=by rw[<-hW0];exact G9 (G8 _ _) (G8 _ _)
 have hz0:W0.heap.size=w.heap.size+2:=by rw[<-hW0];simp
 have p0:W0.cell? ⟨w.heap.size,0,FZ⟩=G5 (S0 xp):=by rw[<-hW0];simp
 have r0:W0.cell? ⟨w.heap.size+1,0,FZ⟩=G5 (.string ⟨#[]⟩):=by rw[<-hW0];simp
 have p1:W0.cell? ⟨w.heap.size,1,FZ⟩=G5 (S0 xd):=by rw[<-hW0];simp
 have r1:W0.cell? ⟨w.heap.size+1,1,FZ⟩=G5 (.string ⟨#[]⟩):=by rw[<-hW0];simp
 have p2:W0.cell? ⟨w.heap.size,2,FZ⟩=G5 (.bool xt):=by rw[<-hW0];simp
 have r2:W0.cell? ⟨w.heap.size+1,2,FZ⟩=G5 (.bool false):=by rw[<-hW0];simp
 have pf:∀j,W0.frozen? ⟨w.heap.size,j,FZ⟩=false:=by intro j;rw[<-hW0];simp
 have rf:∀j,W0.frozen? ⟨w.heap.size+1,j,FZ⟩=false:=by intro j;rw[<-hW0];simp
 clear hW0;have d0:∀d os,(Sort.grow (redrawn W0 d) os).cell? ⟨w.heap.size,0,FZ⟩=G5 (S0 xp):=fun d os=>cell_regrown p0 d os;have g0:∀d os,(Sort.grow (redrawn W0 d) os).frozen? ⟨w.heap.size,0,FZ⟩=false:=fun d os=>by rw[(below_regrown W0 d os).frozen (p:=⟨w.heap.size,0,FZ⟩) (by simp only;omega)];exact pf 0
 have s0:∀d os,(Sort.grow (redrawn W0 d) os).setCell ⟨w.heap.size,0,FZ⟩ (S0 xp)=Sort.grow (redrawn W0 d) os:=fun d os=>I8 (d0 d os);have c0:=fun d os=>Calls.regrown_of (w:=W0) (d:=d) (os:=os) (Kp _);have d1:∀d os,(Sort.grow (redrawn W0 d) os).cell? ⟨w.heap.size,1,FZ⟩=G5 (S0 xd):=fun d os=>cell_regrown p1 d os;have g1:∀d os,(Sort.grow (redrawn W0 d) os).frozen? ⟨w.heap.size,1,FZ⟩=false:=fun d os=>by rw[(below_regrown W0 d os).frozen (p:=⟨w.heap.size,1,FZ⟩) (by simp only;omega)];exact pf 1
 have s1:∀d os,(Sort.grow (redrawn W0 d) os).setCell ⟨w.heap.size,1,FZ⟩ (S0 xd)=Sort.grow (redrawn W0 d) os:=fun d os=>I8 (d1 d os);have c1:=fun d os=>Calls.regrown_of (w:=W0) (d:=d) (os:=os) (Kd _);refine wp_region_quiet_below (by kernel_rfl) (by kernel_rfl) ?_
 repeat (first|go_big_quiet_step (first|with_reducible exact c0 _ _|with_reducible exact c1 _ _)|quiet_step (first|with_reducible exact c0 _ _|with_reducible exact c1 _ _))
 refine wpQuiet_nil ?_;intro _ hw';obtain⟨⟨dq,osq⟩,hw''⟩:=hw';subst hw'';have hb1:=below_regrown W0 dq osq;have hB:=G9 hB0 hb1;have e0:=(hb1.cell (p:=⟨w.heap.size,0,FZ⟩) (by simp only;omega)).trans p0;have u0:=(hb1.cell (p:=⟨w.heap.size+1,0,FZ⟩) (by simp only;omega)).trans r0;have v0:=(hb1.frozen (p:=⟨w.heap.size+1,0,FZ⟩) (by simp only;omega)).trans (rf 0);have e1:=(hb1.cell (p:=⟨w.heap.size,1,FZ⟩) (by simp only;omega)).trans p1;have u1:=(hb1.cell (p:=⟨w.heap.size+1,1,FZ⟩) (by simp only;omega)).trans r1;have v1:=(hb1.frozen (p:=⟨w.heap.size+1,1,FZ⟩) (by simp only;omega)).trans (rf 1);have e2:=(hb1.cell (p:=⟨w.heap.size,2,FZ⟩) (by simp only;omega)).trans p2;have u2:=(hb1.cell (p:=⟨w.heap.size+1,2,FZ⟩) (by simp only;omega)).trans r2;have v2:=(hb1.frozen (p:=⟨w.heap.size+1,2,FZ⟩) (by simp only;omega)).trans (rf 2);generalize Sort.grow (redrawn W0 dq) osq=w1 at*;clear hb1 hB0 hz0 pf rf p0 r0 p1 r1 p2 r2 d0 g0 s0 c0 Kp d1 g1 s1 c1 Kd;go_wp2_with fail;refine bodyPost_ret (v:=.agg #[S0 xp,S0 xd,.bool xt]) (by simp[results,results95,go_sem,u0,u1,u2]) rfl ⟨rfl,?_⟩;exact(((hB.setCell (by simp) _).setCell (by simp) _).setCell (by simp) _)
theorem ZB(s z:Int)(v:FW)(es:List En)(w:FV)(hv:IE w v es)(hs:wM es)(hl:es.length*40<=140737488355328):
  FX prog 86 #[clV s z v] w fun e w'=>∃v',e=.returned (clV s z v')/\H7 w' w.heap.size v' es/\B0 w w':=by
 have CC:=fun W (hW:B0 w W)=>C83 v es W (hv.next hW) hl;have HO:Hid (∀x∈es,∀W,FX prog 95 #[.agg #[S0 x.p,S0 x.d,.bool x.t]] W (R0 W (.agg #[S0 x.p,S0 x.d,.bool x.t]))):=G7 fun x hm W=>AD3 x W (hs x hm).1 (hs x hm).2;obtain⟨a,c,rfl⟩:=GL hv;unfold clV;clear hv hs;go_enter func86,ntmps86;go_wp2_with fail;refine(CC _ (G9 (G8 _ _) (G8 _ _))).mono ?_;rintro e w1 ⟨v',rfl,ho,hb1⟩;have HB1:=G7 (G9 (G9 (G8 w _) (G8 _ _)) hb1);have X1:=((OA.new w s z (FT a es.length c)).next (G8 _ (FU #[I0 0,I0 0,N0] 76))).next hb1;have X2:=(OA.new (w.alloc (FU #[I0 s,I0 z,FT a es.length c] 76)) 0 0 (N0)).next hb1;have hs1:(w.alloc (FU #[I0 s,I0 z,FT a es.length c] 76)).heap.size=w.heap.size+1:=by simp
 rw[hs1]at X2;have hz1:w.heap.size+2<=w1.heap.size:=by have:=hb1.size;simpa using this
 have c2:=X1.c2;have f2:=X1.fr 2;have Y1:=X1.set2 (v':=v');have Y2:=X2.other (a:=⟨w.heap.size,2,FZ⟩) (by simp) v';rcases ho with⟨rfl,rfl⟩|⟨g,cap,rfl,hg,ho⟩
 .clear CC hb1 X1 X2;have HY1:=G7 Y1;have HY2:=G7 Y2;clear Y1 Y2;go_wp2_with fail
  go_loopg [12] 1 (fun _ s wr=>s=I0 0/\wr=w1.setCell ⟨w.heap.size,2,FZ⟩ (N0))
  case atStart=>exact⟨rfl,rfl⟩
  case round=>
   obtain⟨rfl,rfl⟩:=hrel;have q0:=(G6 HY1).c0;have q1:=(G6 HY1).c1;have q2:=(G6 HY1).c2;have r0:=(G6 HY2).c0;have r1:=(G6 HY2).c1;have r2:=(G6 HY2).c2;have t0:=(G6 HY2).fr 0;have t1:=(G6 HY2).fr 1;have t2:=(G6 HY2).fr 2;have HB2:=G7 ((G6 HB1).setCell (p:=⟨w.heap.size,2,FZ⟩) (A8 _) (N0));generalize w1.setCell ⟨w.heap.size,2,FZ⟩ (N0)=W at*;go_wp2_with fail;refine bodyPost_ret (v:=.agg #[I0 s,I0 z,N0]) (by simp[results,results86,go_sem,r0,r1,r2]) rfl ⟨_,rfl,.inl ⟨rfl,rfl⟩,?_⟩;exact(((G6 HB2).setCell (by simp) _).setCell (by simp) _).setCell (by simp) _
 .have hgl:=ho.lt;have hg2:w.heap.size+2<=g:=by simpa using hg
  have HW:=G7 (ho.other (a:=⟨w.heap.size,2,FZ⟩) (by simp only;omega) (FT (G5 ⟨g,0,FZ⟩) es.length cap));have HY1:=G7 Y1;have HY2:=G7 Y2;have HB2:=G7 ((G6 HB1).setCell (p:=⟨w.heap.size,2,FZ⟩) (A8 _) (FT (G5 ⟨g,0,FZ⟩) es.length cap));have hzs:(w1.setCell ⟨w.heap.size,2,FZ⟩ (FT (G5 ⟨g,0,FZ⟩) es.length cap)).heap.size=w1.heap.size:=by simp[World.setCell]
  clear ho CC hb1 X1 X2 Y1 Y2 hg;go_wp2_with fail;generalize w1.setCell ⟨w.heap.size,2,FZ⟩ (FT (G5 ⟨g,0,FZ⟩) es.length cap)=W at*
  go_loopg [12] es.length (fun kx s wr=>∃k:Nat,s=I0 k/\k<=es.length/\es.length-k<=kx/\Hid (B0 W wr))
  case atStart=>exact⟨0,rfl,AY _,by omega,G7 (AA _ _)⟩
  case round=>
   obtain⟨k,rfl,hk,hkx,hB⟩:=hrel;have Z1:=(G6 HY1).next (G6 hB);by_cases hlt:k<es.length
   .obtain⟨x,hx⟩:∃x,es[k]?=G5 x:=⟨_,AL hlt⟩;have o:=(G6 HW).next (G6 hB);have QM:=o.lt;have a0:=o.row.en0 hx;have a1:=o.row.en1 hx;have a2:=o.row.en2 hx;simp only[BI]at a0 a1 a2;have CX:=G6 HO x (AZ hx);have hzr:=(G6 hB).size;obtain⟨yp,yd,yt⟩:=x;simp only at a0 a1 a2 CX;have N1:=qY wr ⟨yp,yd,yt⟩;simp only at N1;have O2:=o.next (G8 wr (FU #[S0 yp,S0 yd,.bool yt] 79));have b2:=(Z1.next (G8 wr (FU #[S0 yp,S0 yd,.bool yt] 79))).c2;have p0:=N1.e0;have p1:=N1.e1;have p2:=N1.e2;have r0:=O2.row.en0 hx;have r1:=O2.row.en1 hx;have r2:=O2.row.en2 hx;have rf:=O2.frozen;have hg3:=O2.lt;simp only[BI]at r0 r1 r2 p0 p1 p2;have HB3:=G7 (G9 (G6 hB) (G8 wr (FU #[S0 yp,S0 yd,.bool yt] 79)));clear hx o O2 N1 Z1;go_wp2_with fail;generalize wr.alloc (FU #[S0 yp,S0 yd,.bool yt] 79)=W0 at*;have b2':=fun d os=>cell_regrown b2 d os;have p0':=fun d os=>cell_regrown p0 d os;have p1':=fun d os=>cell_regrown p1 d os;have p2':=fun d os=>cell_regrown p2 d os;have r0':=fun d os=>cell_regrown r0 d os;have r1':=fun d os=>cell_regrown r1 d os;have r2':=fun d os=>cell_regrown r2 d os;have t0:∀d os,(Sort.grow (redrawn W0 d) os).frozen? ⟨g,k*3,FZ⟩=false:=fun d os=>by rw[(below_regrown W0 d os).frozen (p:=⟨g,k*3,FZ⟩) hg3];exact rf _
    have t1:∀d os,(Sort.grow (redrawn W0 d) os).frozen? ⟨g,k*3+1,FZ⟩=false:=fun d os=>by rw[(below_regrown W0 d os).frozen (p:=⟨g,k*3+1,FZ⟩) hg3];exact rf _
    have t2:∀d os,(Sort.grow (redrawn W0 d) os).frozen? ⟨g,k*3+2,FZ⟩=false:=fun d os=>by rw[(below_regrown W0 d os).frozen (p:=⟨g,k*3+2,FZ⟩) hg3];exact rf _
    have s0:=fun d os=>I8 (r0' d os);have s1:=fun d os=>I8 (r1' d os);have s2:=fun d os=>I8 (r2' d os);have c0:=fun d os=>Calls.regrown_of (w:=W0) (d:=d) (os:=os) (CX _);clear rf p0 p1 p2 r0 r1 r2 b2;refine wp_region_quiet_below (by kernel_rfl) (by kernel_rfl) ?_
    repeat (first|go_big_quiet_step (with_reducible exact c0 _ _)|quiet_step (with_reducible exact c0 _ _))
    refine wpQuiet_nil ?_;intro _ hw';obtain⟨⟨dq,osq⟩,hw''⟩:=hw';subst hw'';have hB2:=G7 (G9 (G6 HB3) (below_regrown W0 dq osq));generalize Sort.grow (redrawn W0 dq) osq=w2 at*;clear b2' p0' p1' p2' r0' r1' r2' t0 t1 t2 s0 s1 s2 c0 CX;go_wp2_with fail
    go_roundg (es.length-(k+1))
    case measure=>omega
    case rel=>exact⟨k+1,rfl,by omega,A8 _,hB2⟩
   .have Z2:=(G6 HY2).next (G6 hB);have q0:=Z1.c0;have q1:=Z1.c1;have q2:=Z1.c2;have r0:=Z2.c0;have r1:=Z2.c1;have r2:=Z2.c2;have t0:=Z2.fr 0;have t1:=Z2.fr 1;have t2:=Z2.fr 2;have O2:=(G6 HW).next (G6 hB);clear Z1 Z2;go_wp2_with fail;refine bodyPost_ret (v:=.agg #[I0 s,I0 z,FT (G5 ⟨g,0,FZ⟩) es.length cap]) (by simp[results,results86,go_sem,r0,r1,r2]) rfl ⟨_,rfl,.inr ⟨g,cap,rfl,by omega,?_⟩,?_⟩
    .exact((O2.other (by simp only;omega) _).other (by simp only;omega) _).other (by simp only;omega) _
    .exact(((G9 (G6 HB2) (G6 hB)).setCell (by simp) _).setCell (by simp) _).setCell (by simp) _
theorem AD4(n:En)(p:List UInt8)(w:FV):
  FX prog 136 #[enV n,S0 p] w (R0 w (I0 (ER n.p p))):=by
 unfold enV;go_enter func136,ntmps136;go_wp2_with fail;refine(strings_Compare _ _ _).mono ?_;rintro e w1 ⟨rfl,rfl⟩;go_wp2_with fail;go_ret;exact⟨rfl,G8 _ _⟩
def rC(R:List En)(p:List UInt8):Bool:=match R with
 |[]=>false
 |f::_=>decide (f.p=p)
theorem AO1(A R:List En)(p:List UInt8)(lo:∀a∈A,bl a.p p=true)(hi:∀a∈R,bl a.p p=false)(i:Nat)(h:i<A.length+R.length):∃y,(A++R)[i]?=G5 y/\bl y.p p=decide (i<A.length):=by
 by_cases h1:i<A.length
 .refine⟨A[i],by rw[BK h1,AL h1],?_⟩;rw[lo _ (List.getElem_mem h1)];simp[h1]
 .have h2:i-A.length<R.length:=by omega
  refine⟨R[i-A.length],by rw[BA (by omega),AL h2],?_⟩;rw[hi _ (List.getElem_mem h2)];simp[h1]
theorem BP4(b off cap:Nat)(A R:List En)(p:List UInt8)(w:FV)(hcap:A.length+R.length<=100000)(hb:b<w.heap.size)(h:IC w b off (GH (A++R)))
  (lo:∀a∈A,bl a.p p=true) (hi:∀a∈R,bl a.p p=false):
  FX prog 135 #[FT (G5 ⟨b,off,FZ⟩) (A.length+R.length) cap,S0 p,.func (.func 136) #[] #[]] w fun e w'=>
   e=.returned (.tuple #[I0 A.length,.bool (rC R p)])/\B0 w w':=by
 have H:=G7 h;have SG:=G7 (AO1 A R p lo hi);obtain⟨fin,hfin⟩:∃x,rC R p=x:=⟨_,rfl⟩;have HF:=G7 hfin;rw[hfin];clear h hfin lo hi;go_enter func135,ntmps135;go_wp2_with fail
 go_loopg [9,10] (A.length+R.length) (fun kx s9 s10 wr=>∃lo hi:Nat,s9=I0 lo/\s10=I0 hi/\lo<=A.length/\A.length<=hi/\hi<=A.length+R.length/\hi-lo<=kx/\Hid (B0 w wr))
 case atStart=>exact⟨0,A.length+R.length,rfl,rfl,AY _,by omega,A8 _,by omega,G7 (AA _ _)⟩
 case round=>
  obtain⟨lo,hi,rfl,rfl,h1,h2,h3,hg,hB⟩:=hrel;by_cases hlt:lo<hi
  .obtain⟨y,hy,hyn⟩:=G6 SG ((lo+hi)/2) (by omega);have HY:=G7 hyn;have r:=(G6 H).kept (G6 hB) hb;have e0:=r.en0 hy;have e1:=r.en1 hy;have e2:=r.en2 hy;clear hyn hy r;have hc:=A65 y.p p;rw[G6 HY]at hc;have CM:=fun W=>AD4 y p W;generalize ER y.p p=cv at hc CM;by_cases hm:(lo+hi)/2<A.length
   .have hn:cv<0:=by simpa [hm]using hc
    clear hc;go_wp2_with fail;refine(CM _).mono ?_;rintro e w1 ⟨rfl,hb1⟩;have hB2:B0 w w1:=(G6 hB).trans (hb1.mono (G6 hB).size);clear CM;go_wp2_with fail
    go_roundg (hi-((lo+hi)/2+1))
    case measure=>omega
    case rel=>exact⟨(lo+hi)/2+1,hi,by rw[show ((lo:Int)+(hi:Int))/2+1=(((lo+hi)/2+1:Nat):Int) by omega],rfl,by omega,h2,h3,A8 _,G7 hB2⟩
   .have hn:¬cv<0:=by simpa [hm]using hc
    clear hc;go_wp2_with fail;refine(CM _).mono ?_;rintro e w1 ⟨rfl,hb1⟩;have hB2:B0 w w1:=(G6 hB).trans (hb1.mono (G6 hB).size);clear CM;go_wp2_with fail
    go_roundg ((lo+hi)/2-lo)
    case measure=>omega
    case rel=>exact⟨lo,(lo+hi)/2,rfl,by rw[show ((lo:Int)+(hi:Int))/2=(((lo+hi)/2:Nat):Int) by omega],h1,by omega,by omega,A8 _,G7 hB2⟩
  .obtain rfl:lo=A.length:=by omega
   obtain rfl:hi=A.length:=by omega
   cases R with
   |nil=>
    go_wp2_with fail
    go_ret2
    exact⟨by rw[<-G6 HF];rfl,G6 hB⟩
   |cons f R=>
    have r:=(G6 H).kept (G6 hB) hb;have hy:(A++f::R)[A.length]?=G5 f:=by simp
    have e0:=r.en0 hy;have e1:=r.en1 hy;have e2:=r.en2 hy;clear hy r;have hc:=fP f.p p;have CM:=fun W=>AD4 f p W;have hf:fin=decide (f.p=p):=(G6 HF).symm;rw[<-hc]at hf;clear hc HF;generalize ER f.p p=cv at hf CM;subst hf;simp only[BG];go_wp2_with fail;refine(CM _).mono ?_;rintro e w1 ⟨rfl,hb1⟩;have hB2:B0 w w1:=(G6 hB).trans (hb1.mono (G6 hB).size);clear CM;go_wp2_with fail
    go_ret2
    exact⟨by rfl,hB2⟩
theorem B68(a:Option Addr)(cap:Nat)(p:List UInt8)(w:FV):
  FX prog 135 #[FT a 0 cap,S0 p,.func (.func 136) #[] #[]] w fun e w'=>
   e=.returned (.tuple #[I0 0,.bool false])/\B0 w w':=by
 go_enter func135,ntmps135;go_wp2_with fail
 go_loopg [9,10] 1 (fun _ s9 s10 wr=>s9=I0 0/\s10=I0 0/\Hid (B0 w wr))
 case atStart=>exact⟨rfl,rfl,G7 (AA _ _)⟩
 case round=>
  obtain⟨rfl,rfl,hB⟩:=hrel;go_wp2_with fail
  go_ret2
  exact⟨rfl,G6 hB⟩
theorem kS(v:FW)(ns A R:List En)(p:List UInt8)(w:FV)(hv:IE w v ns)(hl:ns.length<=100000)(he:ns=A++R)(lo:∀a∈A,bl a.p p=true)(hi:∀a∈R,bl a.p p=false):
  FX prog 93 #[v,S0 p] w (R0 w (.tuple #[I0 A.length,.bool (rC R p)])):=by
 have C:∀W:FV,B0 w W->FX prog 135 #[v,S0 p,.func (.func 136) #[] #[]] W fun e w'=>
   e=.returned (.tuple #[I0 A.length,.bool (rC R p)])/\B0 W w':=fun W hW=>by
  rcases hv with⟨a,cap,rfl,h0,_⟩|⟨b,off,cap,rfl,_,_,hb,_,hr⟩
  .rw[h0]at he;obtain⟨rfl,rfl⟩:A=[]/\R=[]:=by
    have:=congrArg List.length he;simp at this;exact⟨BU (by omega),BU (by omega)⟩
   exact B68 a cap p W
  .subst he;rw[AO];exact BP4 b off cap A R p W (by simpa using hl) (AX hb hW.size) (hr.kept hW hb) lo hi
 have C':=G7 C;obtain⟨a,c,rfl⟩:=GL hv;clear C hv hl he lo hi;generalize rC R p=hd at C'⊢;go_enter func93,ntmps93;go_wp2_with fail;refine(G6 C' _ (AA _ _)).mono ?_;rintro e w1 ⟨rfl,hb1⟩;go_wp2_with fail
 go_ret2
 exact⟨rfl,hb1⟩
theorem A33(v:FW)(ns A B:List En)(f:En)(p:List UInt8)(w:FV)(hv:IE w v ns)(hl:ns.length<=100000)(T:AB9 ns A f B p):
  FX prog 93 #[v,S0 p] w (R0 w (.tuple #[I0 A.length,.bool true])):=by
 have:=kS v ns A (f::B) p w hv hl T.eq T.lo (fun a ha=>by
  rcases BP.1 ha with rfl|h
  .rw[T.nm];exact QF _
  .exact OB (T.hi a h))
 rwa[show rC (f::B) p=true from by simp[rC,T.nm]]at this
theorem B69(v:FW)(ns A B:List En)(p:List UInt8)(w:FV)(hv:IE w v ns)(hl:ns.length<=100000)(G:CS0 ns A B p):
  FX prog 93 #[v,S0 p] w (R0 w (.tuple #[I0 A.length,.bool false])):=by
 have:=kS v ns A B p w hv hl G.eq G.lo (fun a ha=>OB (G.hi a ha));rwa[show rC B p=false from by
  cases B with
  |nil=>rfl
  |cons f B=>have:=VW (G.hi f (by simp));simp[rC,this.symm]]at this
theorem BP5(s:Int)(w:FV)(h1:1<=s)(h2:s<=2147483647):
  FX prog 20 #[I0 s] w (R0 w (.tuple #[clV s 0 (N0),I0 0])):=by
 unfold clV;go_enter func20,ntmps20;go_wp2_with fail;refine bodyPost_ret (v:=.tuple #[.agg #[I0 s,I0 0,N0],I0 0]) (by simp[results,results20,go_sem]) rfl ⟨rfl,?_⟩
 first|exact G8 _ _|exact(((G8 w _).setCell (by simp) _).setCell (by simp) _).setCell (by simp) _
theorem C84(s z z':Int)(a:Option Addr)(n c:Nat)(w:FV)(h:z'<z):
  FX prog 54 #[clV s z (FT a n c),I0 z'] w (R0 w (.tuple #[clV 0 0 (N0),I0 15])):=by
 unfold clV;go_enter func54,ntmps54;go_wp2_with fail;refine bodyPost_ret (v:=.tuple #[.agg #[I0 0,I0 0,N0],I0 15]) (by simp[results,results54,go_sem]) rfl ⟨rfl,?_⟩
 first|exact G9 (G8 _ _) (G8 _ _)|exact(((G9 (G8 w _) (G8 _ _)).setCell (by simp) _).setCell (by simp) _).setCell (by simp) _
theorem AD5(s z z':Int)(v:FW)(es:List En)(w:FV)(hv:IE w v es)(hs:wM es)(hl:es.length*40<=140737488355328)(h:z<=z'):
  FX prog 54 #[clV s z v,I0 z'] w fun e w'=>∃v',e=.returned (.tuple #[clV s z' v',I0 0])/\H7 w' w.heap.size v' es/\B0 w w':=by
 have CC:=fun W (hW:B0 w W)=>ZB s z v es W (hv.next hW) hs hl;obtain⟨a,c,rfl⟩:=GL hv;unfold clV at CC⊢;clear hv hs;go_enter func54,ntmps54;go_wp2_with fail;refine(CC _ (G9 (G8 _ _) (G8 _ _))).mono ?_;rintro e w1 ⟨v1,rfl,ho1,hb1⟩;obtain⟨a1,c1,rfl,_⟩:=ho1.slice;have X2:=(OA.new (w.alloc (FU #[I0 s,I0 z,FT a es.length c] 76)) 0 0 (N0)).next hb1;have hs1:(w.alloc (FU #[I0 s,I0 z,FT a es.length c] 76)).heap.size=w.heap.size+1:=by simp
 rw[hs1]at X2;have hz1:=hb1.size;have hz2:w.heap.size+2<=w1.heap.size:=by simpa using hz1
 have B2:=G9 (G9 (G9 (G8 w _) (G8 _ _)) hb1) (G8 w1 (FU #[I0 s,I0 z',FT a1 es.length c1] 76));have O2:=ho1.next (G8 w1 (FU #[I0 s,I0 z',FT a1 es.length c1] 76));have Y2:=X2.next (G8 w1 (FU #[I0 s,I0 z',FT a1 es.length c1] 76));have Y1:=OA.new w1 s z' (FT a1 es.length c1);have r0:=Y2.c0;have r1:=Y2.c1;have r2:=Y2.c2;have f0:=Y2.fr 0;have f1:=Y2.fr 1;have f2:=Y2.fr 2;have q0:=Y1.c0;have q1:=Y1.c1;have q2:=Y1.c2;have HB2:=G7 B2;have HO2:=G7 O2;clear CC hb1 X2 Y2 Y1 B2 O2 hz1;have hO1:=G7 ho1;clear ho1;go_wp2_with fail;refine bodyPost_ret (v:=.tuple #[.agg #[I0 s,I0 z',FT a1 es.length c1],I0 0]) (by simp[results,results54,go_sem,r0,r1,r2]) rfl ⟨_,rfl,?_,?_⟩
 .exact((((G6 HO2).OM (by simp) _).OM (by simp) _).OM (by simp) _).lower (by simp;omega)
 .exact(((G6 HB2).setCell (by simp) _).setCell (by simp) _).setCell (by simp) _
def chP(s:Int)(l:List Nt):List (List UInt8):=(l.filter fun n=>decide (n.s=s)&& !decide (n.k=4)).map fun n=>n.p
def XG(l:List (List UInt8)):List (List UInt8):=l.mergeSort fun x y=>decide (x<=y)
theorem BR7(s:Int)(l:List Nt)(p:List UInt8):CK9 s l p=decide (p∈XG (chP s l)):=by
 rw[Bool.eq_iff_iff];constructor
 .intro h;obtain⟨n,h1,h2⟩:=List.any_eq_true.1 h;rw[Bool.and_eq_true]at h2;exact decide_eq_true (List.mem_mergeSort.2 (EW.2 ⟨n,EI.2 ⟨h1,h2.1⟩,of_decide_eq_true h2.2⟩))
 .intro h;obtain⟨n,h1,h2⟩:=EW.1 (List.mem_mergeSort.1 (of_decide_eq_true h));obtain⟨h3,h4⟩:=EI.1 h1;exact List.any_eq_true.2 ⟨n,h3,by rw[Bool.and_eq_true];exact⟨h4,decide_eq_true h2⟩⟩
theorem BR8(x y:List UInt8):decide (x<=y)= !bl y x:=by
 rw[show bl y x=decide (y<x)from Go.Proofs.bytesLess_eq y x];by_cases h:y<x
 .simp[h,List.not_le.2 h]
 .simp[h,List.not_lt.1 h]
theorem B90{a b c:List UInt8}(h1:bl b a=false)(h2:bl c b=false):bl c a=false:=by
 cases h:bl c a with
 |false=>rfl
 |true=>
  cases h3:bl a b with
  |true=>rw[QX _ _ _ h h3]at h2;cases h2
  |false=>rw[TA _ _ h3 h1]at h;rw[h]at h2;cases h2
theorem B91(l:List (List UInt8)):(XG l).Pairwise fun a b=>bl b a=false:=by
 have:=List.pairwise_mergeSort (le:=fun x y:List UInt8=>decide (x<=y)) (fun a b c h1 h2=>by
  rw[BR8]at h1 h2⊢;simp only[Bool.not_eq_true']at h1 h2⊢;exact B90 h1 h2) (fun a b=>by
  rw[BR8,BR8]
  cases h:bl b a with
  |false=>rfl
  |true=>rw[OB h];rfl) l
 refine this.imp fun {a b} h=>?_;rw[BR8]at h;simpa using h
theorem xU(p:List UInt8):∀l:List (List UInt8),(l.Pairwise fun a b=>bl b a=false)->∃A R,l=A++R/\(∀a∈A,bl a p=true)/\(∀a∈R,bl a p=false)/\(decide (p∈l)=match R with|[]=>false|f::_=>decide (f=p))
 |[],_=>⟨[],[],rfl,by simp,by simp,by simp⟩
 |x::r,h=>by
  obtain⟨hx,hr⟩:=List.pairwise_cons.1 h
  cases h1:bl x p with
  |true=>
   obtain⟨A,R,e,lo,hi,hm⟩:=xU p r hr;refine⟨x::A,R,by rw[e];rfl,by simp[h1];exact lo,hi,?_⟩;rw[<-hm];have:p≠x:=fun e=>by rw[e,QF]at h1;cases h1
   simp[this]
  |false=>
   refine⟨[],x::r,rfl,by simp,?_,?_⟩
   .intro a ha;rcases BP.1 ha with rfl|ha
    .exact h1
    .cases hb:bl a p with
     |false=>rfl
     |true=>
      have h2:=hx a ha
      cases h3:bl x a with
      |true=>rw[QX _ _ _ h3 hb]at h1;cases h1
      |false=>rw[TA _ _ h3 h2,hb]at h1;cases h1
   .by_cases hp:x=p
    .simp[hp]
    .have:p∉x::r:=by
      intro hm;rcases BP.1 hm with rfl|hm
      .exact hp rfl
      .have h2:=hx p hm;exact hp (TA _ _ h1 h2)
     simp[this,hp]
theorem B92(x:List UInt8)(w:FV):FX prog 207 #[S0 x] w fun e w'=>e=.returned (.bool false)/\w'=w:=by
 go_enter func207,ntmps207
 go_wp2
 go_ret;exact⟨by simp,rfl⟩
theorem B93(x:List UInt8)(w:FV):FX prog 178 #[S0 x] w fun e w'=>e=.returned (.bool false)/\w'=w:=by
 go_enter func178,ntmps178
 go_wp2
 go_ret;exact⟨by simp,rfl⟩
theorem AO9(x y:List UInt8)(w:FV):FX prog 177 #[S0 x,S0 y] w fun e w'=>e=.returned (.bool (bl x y))/\w'=w:=by
 go_enter func177,ntmps177;go_wp2_with fail;refine(B92 _ _).mono ?_;rintro e w1 ⟨rfl,rfl⟩;go_wp2_with fail;go_ret;exact⟨rfl,rfl⟩
def CN9(R:List (List UInt8))(p:List UInt8):Bool:=match R with
 |[]=>false
 |f::_=>decide (f=p)
theorem AP0(A R:List (List UInt8))(p:List UInt8)(lo:∀a∈A,bl a p=true)(hi:∀a∈R,bl a p=false)(i:Nat)(h:i<A.length+R.length):∃y,(A++R)[i]?=G5 y/\bl y p=decide (i<A.length):=by
 by_cases h1:i<A.length
 .refine⟨A[i],by rw[BK h1,AL h1],?_⟩;rw[lo _ (List.getElem_mem h1)];simp[h1]
 .have h2:i-A.length<R.length:=by omega
  refine⟨R[i-A.length],by rw[BA (by omega),AL h2],?_⟩;rw[hi _ (List.getElem_mem h2)];simp[h1]
theorem CB9(b off cap:Nat)(A R:List (List UInt8))(p:List UInt8)(w:FV)(hcap:A.length+R.length<=281474976710656)(h:IC w b off (GH (A++R)))
  (lo:∀a∈A,bl a p=true) (hi:∀a∈R,bl a p=false):
  FX prog 130 #[FT (G5 ⟨b,off,FZ⟩) (A.length+R.length) cap,S0 p] w fun e w'=>
   e=.returned (.tuple #[I0 A.length,.bool (CN9 R p)])/\w'=w:=by
 have H:=G7 h;have SG:=G7 (AP0 A R p lo hi);obtain⟨fin,hfin⟩:∃x,CN9 R p=x:=⟨_,rfl⟩;have HF:=G7 hfin;rw[hfin];clear h hfin lo hi;go_enter func130,ntmps130;go_wp2_with fail
 go_loopg [7,8] (A.length+R.length) (fun kx s9 s10 wr=>∃lo hi:Nat,s9=I0 lo/\s10=I0 hi/\lo<=A.length/\A.length<=hi/\hi<=A.length+R.length/\hi-lo<=kx/\wr=w)
 case atStart=>exact⟨0,A.length+R.length,rfl,rfl,AY _,by omega,A8 _,by omega,rfl⟩
 case round=>
  obtain⟨lo,hi,rfl,rfl,h1,h2,h3,hg,rfl⟩:=hrel;by_cases hlt:lo<hi
  .obtain⟨y,hy,hyn⟩:=G6 SG ((lo+hi)/2) (by omega);have e0:=(G6 H).s0 hy;clear hy;have CM:=fun W=>AO9 y p W;rw[hyn]at CM;clear hyn;by_cases hm:(lo+hi)/2<A.length
   .simp only[hm,decide_true]at CM;go_wp2_with fail;refine(CM _).mono ?_;rintro e w1 ⟨rfl,rfl⟩;clear CM;go_wp2_with fail
    go_roundg (hi-((lo+hi)/2+1))
    case measure=>omega
    case rel=>exact⟨(lo+hi)/2+1,hi,by rw[show ((lo:Int)+(hi:Int))/2+1=(((lo+hi)/2+1:Nat):Int) by omega],rfl,by omega,h2,h3,A8 _,rfl⟩
   .simp only[hm,decide_false]at CM;go_wp2_with fail;refine(CM _).mono ?_;rintro e w1 ⟨rfl,rfl⟩;clear CM;go_wp2_with fail
    go_roundg ((lo+hi)/2-lo)
    case measure=>omega
    case rel=>exact⟨lo,(lo+hi)/2,rfl,by rw[show ((lo:Int)+(hi:Int))/2=(((lo+hi)/2:Nat):Int) by omega],h1,by omega,by omega,A8 _,rfl⟩
  .obtain rfl:lo=A.length:=by omega
   obtain rfl:hi=A.length:=by omega
   cases R with
   |nil=>
    go_wp2_with fail
    go_ret2
    exact⟨by rw[<-G6 HF];rfl,rfl⟩
   |cons f R=>
    have e0:=(G6 H).s0 (show (A++f::R)[A.length]?=G5 f by simp);have hf:decide (f=p)=fin:=G6 HF;clear HF;simp only[BG];by_cases hfs:f=p
    .subst hfs;simp only[decide_true]at hf;subst hf;go_wp2_with fail
     go_ret2
     exact⟨rfl,rfl⟩
    .simp only[hfs,decide_false]at hf;subst hf;have hq:(f==p)=false:=by simpa using hfs
     clear hfs;go_wp2_with fail;refine(B93 _ _).mono ?_;rintro e w1 ⟨rfl,rfl⟩;go_wp2_with fail
     go_ret2
     exact⟨rfl,rfl⟩
theorem BR9(a:Option Addr)(cap:Nat)(p:List UInt8)(w:FV):
  FX prog 130 #[FT a 0 cap,S0 p] w fun e w'=>e=.returned (.tuple #[I0 0,.bool false])/\w'=w:=by
 go_enter func130,ntmps130;go_wp2_with fail
 go_loopg [7,8] 1 (fun _ s9 s10 wr=>s9=I0 0/\s10=I0 0/\wr=w)
 case atStart=>exact⟨rfl,rfl,rfl⟩
 case round=>
  obtain⟨rfl,rfl,rfl⟩:=hrel;go_wp2_with fail
  go_ret2
  exact⟨rfl,rfl⟩
theorem AP1(v:FW)(ss:List (List UInt8))(p:List UInt8)(w:FV)(hv:IE w v ss)(hl:ss.length<=281474976710656)(hs:ss.Pairwise fun a b=>bl b a=false):
  ∃i:Nat,FX prog 130 #[v,S0 p] w fun e w'=>e=.returned (.tuple #[I0 i,.bool (decide (p∈ss))])/\w'=w:=by
 rcases hv with⟨a,cap,rfl,rfl,_⟩|⟨b,off,cap,rfl,_,_,hb,_,hr⟩
 .refine⟨0,?_⟩;have:=BR9 a cap p w;simpa using this
 .obtain⟨A,R,rfl,lo,hi,hm⟩:=xU p ss hs;refine⟨A.length,?_⟩;have:=CB9 b off cap A R p w (by simpa using hl) hr lo hi;rw[AO];rw[hm]
  cases R<;>exact this
def YL(m:Nat):List FW:=(BH (Value.agg #[.string ⟨#[]⟩,.string ⟨#[]⟩,.bool false]).cells m).toList
theorem VB(m:Nat):(YL m).length=m*3:=by
 rw[YL,Array.length_toList,size_zeroCells];rfl
theorem AP2(m:Nat):∀u∈YL m,u.oneCell'=true:=by
 intro u hu;simp only[YL,BH,Value.cells,Array.toList_map,EW]at hu;obtain⟨i,_,rfl⟩:=hu;have:i%3<3:=Nat.mod_lt _ (by decide);show (#[Value.string ⟨#[]⟩,.string ⟨#[]⟩,.bool false][i%3]!).oneCell'=true;rcases(show i%3=0\/i%3=1\/i%3=2 by omega)with e|e|e<;>rw[e]<;>rfl
theorem AP3(w:FV)(ty:TypeId)(b o m c:Nat)(hm:0<m)(hc:∀j,j<m*3->(w.cell? ⟨b,o+j,FZ⟩).isSome=true)(hf:∀j,j<m*3->w.frozen? ⟨b,o+j,FZ⟩=false):
  (Builtin.clear_ #[74] ty #[FT (G5 ⟨b,o,FZ⟩) m c]).run prog w=.ok (.tuple #[]) (w.setCells b o (YL m)):=by
 have hst:=run_storeCells_cells (P:=prog) b o (YL m) 0 w (by rw[VB];simpa using hc) (by rw[VB];simpa using hf) (AP2 m);simp only[Nat.add_zero]at hst;obtain⟨k,rfl⟩:∃k,m=k+1:=⟨m-1,by omega⟩;simp[Builtin.clear_,run_underlying underlying74];exact(by
  have:=hst;unfold YL at this⊢;rw[this];rfl)
structure B94(g:FuncId)(B:Nat)(q:Nat)(pr:En->Bool)(I:FV->Prop):Prop where
 two:g=129
 keep:∀W V,I W->W.grownBy V (G5 q)->I V
 gives:∀W x,I W->FX prog g #[.agg #[S0 x.p,S0 x.d,.bool x.t],P0 B] W fun r w'=>r=.returned (.bool (pr x))/\B0 W w'
theorem CC0{g:FuncId}{B q:Nat}{pr:En->Bool}{I:FV->Prop}(C:B94 g B q pr I)(b off cap:Nat)(A:List En)(x:En)(R:List En)(w:FV)(hi:I w)(hb:b<w.heap.size)(hr:IC w b off (GH (A++x::R)))(hl:(A++x::R).length<=140737488355328)
  (hA:∀a∈A,pr a=false) (hx:pr x=true):
  FX prog 176 #[FT (G5 ⟨b,off,FZ⟩) (A++x::R).length cap,.func (.func g) #[] #[P0 B]] w (R0 w (I0 A.length)):=by
 have HR:=G7 (fun W (hW:B0 w W)=>hr.kept hW hb);have HC:=G7 C;have HI:=G7 (fun W (hW:B0 w W)=>C.keep w W hi (LK hW));have HX:=G7 hx;have HA:=G7 hA;have hAn:A.length<(A++x::R).length:=by simp
 obtain⟨n,hn⟩:∃n,(A++x::R).length=n:=⟨_,rfl⟩;rw[hn]at hl hAn⊢;have HN:=G7 hn;have two:=C.two;clear hr C hi hx hA hn;subst two
 all_goals
  go_enter func176,ntmps176;go_wp2_with fail
  go_loopg [8] n (fun kx s8 wr=>∃k:Nat,s8=I0 k/\k<=A.length/\n-k<=kx/\Hid (B0 w wr))
  case atStart=>exact⟨0,rfl,AY _,A8 _,G7 (AA _ _)⟩
  case round=>
   obtain⟨k,rfl,hk,hg,hB⟩:=hrel;have hlt:k<n:=by omega
   obtain⟨y,hy⟩:∃y,(A++x::R)[k]?=G5 y:=⟨_,AL (by rw[G6 HN];exact hlt)⟩;have qr:=G6 HR wr (G6 hB);have d0:=qr.en0 hy;have d1:=qr.en1 hy;have d2:=qr.en2 hy;have hbw:b<wr.heap.size:=AX hb (G6 hB).size;have CX:=(G6 HC).gives wr y (G6 HI wr (G6 hB));by_cases hka:k<A.length
   .have hp:pr y=false:=G6 HA y (by
     rw[BK hka]at hy;exact AZ hy)
    rw[hp]at CX;clear qr hy hp;go_wp2_with fail;refine CX.mono ?_;rintro e w1 ⟨rfl,hb1⟩;have hB1:=G9 (G6 hB) hb1;clear CX hb1;go_wp2_with fail
    go_roundg (n-(k+1))
    case measure=>omega
    case rel=>exact⟨k+1,rfl,by omega,A8 _,G7 hB1⟩
   .obtain rfl:k=A.length:=by omega
    have hp:pr y=true:=by
     have:(A++x::R)[A.length]?=G5 x:=by simp
     rw[this]at hy
     cases hy
     exact G6 HX
    rw[hp]at CX;clear qr hy hp;go_wp2_with fail;refine CX.mono ?_;rintro e w1 ⟨rfl,hb1⟩;have hB1:=G9 (G6 hB) hb1;clear CX hb1;go_wp2_with fail;go_ret;exact⟨rfl,hB1⟩
theorem xW{g:FuncId}(C:B94 g B q pr I)(v:FW)(A:List En)(w:FV)(hi:I w)(hv:IE w v A)(hl:A.length<=140737488355328)(hA:∀a∈A,pr a=false):
  FX prog 176 #[v,.func (.func g) #[] #[P0 B]] w (R0 w (I0 (-1))):=by
 have KR:∀W,B0 w W->∀k x,A[k]?=G5 x->∃b off cap,v=FT (G5 ⟨b,off,FZ⟩) A.length cap/\b<w.heap.size/\IC W b off (GH A):=fun W hW k x hx=>by
  obtain⟨b,off,cap,e,hb,hr,_,_⟩:=N8 hv (fun h0=>by obtain⟨h1,_⟩:=AU.1 hx;rw[h0]at h1;simp at h1);exact⟨b,off,cap,e,hb,hr.kept hW hb⟩
 have HKR:=G7 KR;have HC:=G7 C;have HI:=G7 (fun W (hW:B0 w W)=>C.keep w W hi (LK hW));have HA:=G7 hA;have two:=C.two;obtain⟨va,vc,rfl⟩:=GL hv;clear C hi hA KR hv;subst two
 all_goals
  go_enter func176,ntmps176;go_wp2_with fail
  go_loopg [8] A.length (fun kx s8 wr=>∃k:Nat,s8=I0 k/\k<=A.length/\A.length-k<=kx/\Hid (B0 w wr))
  case atStart=>exact⟨0,rfl,AY _,A8 _,G7 (AA _ _)⟩
  case round=>
   obtain⟨k,rfl,hk,hg,hB⟩:=hrel;by_cases hlt:k<A.length
   .obtain⟨y,hy⟩:∃y,A[k]?=G5 y:=⟨_,AL hlt⟩;obtain⟨b,off,cap,he,hb,qr⟩:=G6 HKR wr (G6 hB) k y hy;simp only[AP]at he;obtain⟨rfl,_,rfl⟩:=he;have d0:=qr.en0 hy;have d1:=qr.en1 hy;have d2:=qr.en2 hy;have hbw:b<wr.heap.size:=AX hb (G6 hB).size;have CX:=(G6 HC).gives wr y (G6 HI wr (G6 hB));have hp:pr y=false:=G6 HA y (AZ hy);rw[hp]at CX;clear qr hy hp;go_wp2_with fail;refine CX.mono ?_;rintro e w1 ⟨rfl,hb1⟩;have hB1:=G9 (G6 hB) hb1;clear CX hb1;go_wp2_with fail
    go_roundg (A.length-(k+1))
    case measure=>omega
    case rel=>exact⟨k+1,rfl,by omega,A8 _,G7 hB1⟩
   .obtain rfl:k=A.length:=by omega
    go_wp2_with fail;go_ret;exact⟨rfl,G6 hB⟩
theorem xX(pr:En->Bool):∀ws:List En,(∀a∈ws,pr a=false)\/∃A x R,ws=A++x::R/\(∀a∈A,pr a=false)/\pr x=true
 |[]=>.inl (by simp)
 |y::r=>by
  cases h:pr y
  .rcases xX pr r with h1|⟨A,x,R,rfl,h1,h2⟩
   .exact .inl (by intro a ha;rcases BP.1 ha with rfl|ha;exact h;exact h1 a ha)
   .exact .inr ⟨y::A,x,R,rfl,(by intro a ha;rcases BP.1 ha with rfl|ha;exact h;exact h1 a ha),h2⟩
  .exact .inr ⟨[],y,r,rfl,by simp,h⟩
theorem oJ{ws:List En}(h:∀a∈ws,pr a=false):ws.filter (fun x=> !pr x)=ws:=by
 rw[List.filter_eq_self];intro a ha;simp[h a ha]
theorem BS0{g:FuncId}(C:B94 g B q pr I)(cap:Nat)(ws:List En)(w:FV)(hi:I w)(ho:J9 w q cap ws)(hl:ws.length<=140737488355328):
  FX prog 128 #[FT (G5 ⟨q,0,FZ⟩) ws.length cap,.func (.func g) #[] #[P0 B]] w fun e w'=>
   e=.returned (FT (G5 ⟨q,0,FZ⟩) (ws.filter (fun x=> !pr x)).length cap)/\J9 w' q cap (ws.filter (fun x=> !pr x))/\w.grownBy w' (G5 q):=by
 rcases xX pr ws with hA|⟨A,x,R,hws,hA,hx⟩
 .rw[oJ hA];have CN:=xW C _ ws w hi (H7.seq (.inr ⟨q,cap,rfl,AY _,ho⟩)) hl hA;have HO:=G7 ho;have two:=C.two;clear C hA hi ho;subst two
  all_goals
   go_enter func128,ntmps128;go_wp2_with fail;refine CN.mono ?_;rintro e w1 ⟨rfl,hb1⟩;have HB:=G7 hb1;clear CN hb1;go_wp2_with fail;go_ret;exact⟨rfl,(G6 HO).next (G6 HB),LK (G6 HB)⟩
 .obtain⟨n,hn⟩:∃n,ws.length=n:=⟨_,rfl⟩;have hAn:A.length<n:=by rw[<-hn,hws];simp
  have hnc:n<=cap:=by rw[<-hn];exact ho.le
  have hcl:=ho.capLe;simp only[maxLen]at hcl;have CA:=CC0 C q 0 cap A x R w hi ho.lt (by rw[<-hws];exact ho.row) (by rw[<-hws];exact hl) hA hx;rw[<-hws,hn]at CA;obtain⟨T,hT⟩:∃T,ws.filter (fun x=> !pr x)=T:=⟨_,rfl⟩;rw[hn]at hl⊢;rw[hT];have HTk:Hid (∀j,n<=j->(ws.take j).filter (fun x=> !pr x)=T):=G7 (fun j hj=>by rw[BM (by omega)];exact hT);have HF0:Hid ((ws.take (A.length+1)).filter (fun x=> !pr x)=A):=G7 (by
   rw[hws,List.take_append,BM (by omega),EZ,oJ hA];simp[hx])
  have HG0:Hid (ws=A++[x]++ws.drop (A.length+1)):=G7 (by
   rw[hws];simp)
  have HN:=G7 hn;have HO:=G7 ho;have HC:=G7 C;have HI:=G7 (fun W (hW:w.grownBy W (G5 q))=>C.keep w W hi hW);have two:=C.two;clear hn hws hA hx ho C hT hi;subst two
  all_goals
   go_enter func128,ntmps128;go_wp2_with fail;refine CA.mono ?_;rintro e w1 ⟨rfl,hb1⟩;have HB:=G7 hb1;clear CA hb1;go_wp2_with fail
   go_loopg [5,6] n (fun kx s5 s6 wr=>∃ (j:Nat) (F G:List En),s5=I0 F.length/\s6=I0 j/\j<=n/\n-j<=kx/\F.length+G.length=j/\0<G.length/\Hid ((ws.take j).filter (fun x=> !pr x)=F)/\Hid (J9 wr q cap (F++G++ws.drop j))/\Hid (w.grownBy wr (G5 q)))
   case atStart=>exact⟨A.length+1,A,[x],rfl,rfl,by omega,by omega,rfl,by simp,HF0,G7 (by rw[<-G6 HG0];exact(G6 HO).next (G6 HB)),G7 (LK (G6 HB))⟩
   case round=>
    obtain⟨j,F,G,rfl,rfl,hj,hg,hFG,hG0,hF,hO,hW⟩:=hrel;have hFj:F.length<j:=by omega
    by_cases hlt:j<n
    .obtain⟨y,hy⟩:∃y,ws[j]?=G5 y:=⟨_,AL (by rw[G6 HN];exact hlt)⟩;have hd:ws.drop j=y::ws.drop (j+1):=by
      obtain⟨h1,h2⟩:=AU.1 hy;rw[List.drop_eq_getElem_cons h1,h2]
     have hf:(ws.take (j+1)).filter (fun x=> !pr x)=F++(if pr y=true then []else [y]):=by
      rw[P6 hy,EZ,G6 hF]
      cases hpy:pr y<;>simp[hpy]
     rw[hd]at hO;have hyr:(F++G++y::ws.drop (j+1))[j]?=G5 y:=by
      rw[BA (by simp;omega)];simp[hFG]
     obtain⟨z,G',rfl⟩:∃z G',G=z::G':=by
      cases G with
      |nil=>simp at hG0
      |cons z G'=>exact⟨z,G',rfl⟩
     have hzr:(F++z::G'++y::ws.drop (j+1))[F.length]?=G5 z:=by simp
     have d0:=(G6 hO).row.en0 hyr;have d1:=(G6 hO).row.en1 hyr;have d2:=(G6 hO).row.en2 hyr;have hq:=(G6 hO).lt;have hqn:q≠wr.heap.size:=by omega
     simp only[BI]at d0 d1 d2;have HW1:=G7 (IL (G6 hW) (LK (G8 wr (FU #[S0 y.p,S0 y.d,.bool y.t] 79))));have CX:=(G6 HC).gives _ y (G6 HI _ (G6 HW1));have hjn:(j:Int)<(n:Int):=by omega
     by_cases hp:pr y=true
     .rw[hp]at CX hf;rw[if_pos rfl,DN]at hf;have HF:=G7 hf;clear hy hd hf hyr hp hzr;go_wp2_with fail;refine CX.mono ?_;rintro e w2 ⟨rfl,hb2⟩;have HO2:Hid (J9 w2 q cap (F++(z::G'++[y])++ws.drop (j+1))):=G7 (by
       have:=((G6 hO).next (G8 wr (FU #[S0 y.p,S0 y.d,.bool y.t] 79))).next hb2;simpa using this)
      have HW2:=G7 (IL (G6 HW1) (LK hb2));clear CX hb2;go_wp2_with fail
      go_roundg (n-(j+1))
      case measure=>omega
      case rel=>exact⟨j+1,F,z::G'++[y],rfl,rfl,by omega,A8 _,by simp at hFG⊢;omega,by simp,HF,HO2,HW2⟩
     .have hp':pr y=false:=by simpa using hp
      rw[hp']at CX;rw[if_neg hp]at hf;have HF:=G7 hf;clear hy hd hf hyr hp hp';have hFn:(F.length:Int)<(n:Int):=by omega
      go_wp2_with fail;refine CX.mono ?_;rintro e w2 ⟨rfl,hb2⟩;have O2:=((G6 hO).next (G8 wr (FU #[S0 y.p,S0 y.d,.bool y.t] 79))).next hb2;have c0:w2.cell? ⟨wr.heap.size,0,FZ⟩=G5 (S0 y.p):=by rw[hb2.cell (p:=⟨wr.heap.size,0,FZ⟩) (by simp)];simp
      have c1:w2.cell? ⟨wr.heap.size,1,FZ⟩=G5 (S0 y.d):=by rw[hb2.cell (p:=⟨wr.heap.size,1,FZ⟩) (by simp)];simp
      have c2:w2.cell? ⟨wr.heap.size,2,FZ⟩=G5 (.bool y.t):=by rw[hb2.cell (p:=⟨wr.heap.size,2,FZ⟩) (by simp)];simp
      have e0:=O2.row.en0 hzr;have e1:=O2.row.en1 hzr;have e2:=O2.row.en2 hzr;simp only[BI]at e0 e1 e2;have f0:=O2.frozen (F.length*3);have f1:=O2.frozen (F.length*3+1);have f2:=O2.frozen (F.length*3+2);have hz2:wr.heap.size<w2.heap.size:=by have:=hb2.size;simp at this;omega
      have HO3:Hid (J9 (((w2.setCell ⟨q,F.length*3,FZ⟩ (S0 y.p)).setCell ⟨q,F.length*3+1,FZ⟩ (S0 y.d)).setCell ⟨q,F.length*3+2,FZ⟩ (.bool y.t)) q cap ((F++[y])++(G'++[y])++ws.drop (j+1))):=G7 (by
       have O2':J9 w2 q cap (F++z::(G'++y::ws.drop (j+1))):=by simpa using O2
       have:=O2'.uI y;have e:F++[y]++(G'++[y])++ws.drop (j+1)=F++y::(G'++y::ws.drop (j+1)):=by simp
       rw[e];exact this)
      have HW3:Hid (w.grownBy (((w2.setCell ⟨q,F.length*3,FZ⟩ (S0 y.p)).setCell ⟨q,F.length*3+1,FZ⟩ (S0 y.d)).setCell ⟨q,F.length*3+2,FZ⟩ (.bool y.t)) (G5 q)):=
       G7 (IL (IL (IL (IL (G6 HW1) (LK hb2)) (PU _)) (PU _)) (PU _))
      clear CX hb2 O2 hzr;go_wp2_with fail
      go_roundg (n-(j+1))
      case measure=>omega
      case rel=>exact⟨j+1,F++[y],G'++[y],by rw[AO];rfl,rfl,by omega,A8 _,by simp at hFG⊢;omega,by simp,HF,HO3,HW3⟩
    .obtain rfl:j=n:=by omega
     have hTF:T=F:=((G6 HTk j (A8 _)).symm.trans (G6 hF));have OF:J9 wr q cap F:=J9.head (B:=G++ws.drop j) (by have:=G6 hO;rwa[BR]at this);have CR3:∀ty c,(Builtin.clear_ #[74] ty #[FT (G5 ⟨q,F.length*3,FZ⟩) (j-F.length) c]).run prog wr=.ok (.tuple #[]) (wr.setCells q (F.length*3) (YL (j-F.length))):=fun ty c=>
      AP3 wr ty q _ _ c (by omega) (fun i hi=>OF.some (show F.length*3+i<cap*3 by omega)) (fun i hi=>OF.frozen _)
     have FIN:Hid (J9 (wr.setCells q (F.length*3) (YL (j-F.length))) q cap F/\w.grownBy (wr.setCells q (F.length*3) (YL (j-F.length))) (G5 q)):=
      G7 ⟨OF.spare _ _ (A8 _) (by rw[VB];show _<=cap*3;omega),IL (G6 hW) (H8 _ _ _)⟩
     have hcn:¬ (cap=F.length):=by omega
     have hFc:F.length<=cap:=by omega
     have hFn:F.length<=j:=by omega
     have hjj:¬ ((j:Int)<(j:Int)):=by omega
     clear OF hO hW hF HTk HF0 HG0;subst hTF;go_wp2_with fail;go_ret;exact⟨rfl,(G6 FIN).1,(G6 FIN).2⟩
open Go.Sort
theorem CC1:(prog.info? 9).map (fun i=>(i.zero,i.size,i.bytes))=G5 (G5 (.string ⟨#[]⟩),1,16):=by kernel_rfl
theorem CO0:∃i0,prog.info? 9=G5 i0/\i0.zero=G5 (.string ⟨#[]⟩)/\i0.size=1/\i0.bytes=16:=by
 obtain⟨i0,h,e⟩:=FM.1 CC1;simp only[Prod.mk.injEq]at e;exact⟨i0,h,e⟩
theorem B95(l:List (List UInt8)):GH l=l.map encStr:=by
 induction l with
 |nil=>rfl
 |cons x r ih=>rw[JK,ih];rfl
theorem CC3{l:List Nt}{n:Nt}(h:l[k]?=G5 n)(h1:n.s=s)(h2:n.k≠4):chP s (l.take (k+1))=chP s (l.take k)++[n.p]:=by
 rw[P6 h];simp[chP,h1,h2]
theorem BX9{l:List Nt}{n:Nt}(h:l[k]?=G5 n)(h1:n.s≠s\/n.k=4):chP s (l.take (k+1))=chP s (l.take k):=by
 rw[P6 h];rcases h1 with h1|h1<;>simp[chP,h1]
theorem A44(s:Int)(l:List Nt):(chP s l).length<=l.length:=by unfold chP;rw[List.length_map];exact List.length_filter_le _ _
theorem oK{n:Nat}{ss:List (List UInt8)}{os:Array Obj}(hB:B<=g)(h:J9 W g cap ss):H7 (Sort.grow (Sort.putRow encStr (Sort.ahead W n) g 0 (XG ss).toArray) os) B (FT (G5 ⟨g,0,FZ⟩) ss.length cap) (XG ss)/\Holds encStr W g 0 ss.toArray:=by
 obtain⟨rest,h1,h2,h3,h4⟩:=h;have hk:ss.length*1+rest.length=cap*1:=h2;have hl:(XG ss).length=ss.length:=by unfold XG;simp
 refine⟨?_,holds_of_block h1 (by rw[B95];simp)⟩;have:=ownsRow_sorted (n:=n) (os:=os) (ts:=XG ss) hl hB h1 h3 h4 (by simp[B95];omega);rw[<-hl]at this⊢;refine H7.L9 ?_;rw[B95];exact this
theorem xY(s:Int)(v:FW)(l:List Nt)(w:FV)(hv:IE w v l)(hl:l.length*32<=140737488355328):
  FX prog 127 #[I0 s,v] w fun e w'=>∃v',e=.returned v'/\H7 w' w.heap.size v' (XG (chP s l))/\B0 w w':=by
 have KR:=G7 (crow hv);obtain⟨i0,hi0,hz0,hz1,hz2⟩:=CO0;obtain⟨va,vc,rfl⟩:=GL hv;clear hv;go_enter func127,ntmps127;go_wp2_with fail
 go_loopg [5,10] l.length (fun kx s5 s10 wr=>∃ (k n:Nat) (a:Option Addr) (c:Nat),s10=I0 k/\s5=FT a n c/\Hid ((chP s (l.take k)).length=n)/\k<=l.length/\l.length-k<=kx/\Hid (H7 wr w.heap.size (FT a n c) (chP s (l.take k)))/\Hid (B0 w wr))
 case atStart=>exact⟨0,0,FZ,0,rfl,rfl,G7 rfl,AY _,A8 _,G7 (.inl ⟨rfl,rfl⟩),G7 (AA _ _)⟩
 case round=>
  obtain⟨k,n,a,c,rfl,rfl,hn,hk,hg,hO,hB⟩:=hrel;by_cases hlt:k<l.length
  .obtain⟨x,hx⟩:∃x,l[k]?=G5 x:=⟨_,AL hlt⟩;obtain⟨b,off,cap,he,hb,q⟩:=G6 KR wr (G6 hB) k x hx;simp only[AP]at he;obtain⟨rfl,_,rfl⟩:=he;have d0:=q.t0 hx;have d1:=q.t1 hx;have d2:=q.t2 hx;have hbw:b<wr.heap.size:=AX hb (G6 hB).size;have HB1:=G7 (G9 (G6 hB) (G8 wr (FU #[I0 x.s,I0 x.k,S0 x.p] 48)));have HO1:=G7 ((G6 hO).next (G8 wr (FU #[I0 x.s,I0 x.k,S0 x.p] 48)));have hnl:n<=k:=by rw[<-G6 hn];exact Nat.le_trans (A44 _ _) (by simp;omega)
   by_cases h1:x.s=s
   .have hsb:(x.s==s)=true:=by simpa using h1
    by_cases h2:x.k=4
    .have hkb:(x.k==4)=true:=by simpa using h2
     have HE:=G7 (BX9 hx (s:=s) (.inr h2));clear q hx h1 h2;go_wp2_with fail
     go_roundg (l.length-(k+1))
     case measure=>omega
     case rel=>exact⟨k+1,n,a,c,rfl,rfl,by rw[G6 HE];exact hn,by omega,A8 _,by rw[G6 HE];exact HO1,HB1⟩
    .have hkb:(x.k==4)=false:=by simpa using h2
     have HE:=G7 (CC3 hx h1 h2);clear q hx h1 h2;have HR:=G7 (((G6 HO1).next (G8 _ (FU #[S0 x.p] 9))).row);rw[G6 hn]at HR;have HB2:=G7 (G9 (G6 HB1) (G8 _ (FU #[S0 x.p] 9)));have HA:=G7 (G6 HO1).above;clear hO HO1;go_wp2_with (at_builtin;refine wpList_append_own _ rfl _ _ 207 rfl w.heap.size 9 i0 _ 1 16 underlying207 hi0 hz0 hz1 hz2 rfl (by decide) _ n (GH (chP s (l.take k))) rfl (G6 HR) ⟨wr.heap.size+1,0,FZ⟩ 1 1 [S0 x.p] rfl (by rfl) ?qc2 (by simp[Value.oneCell']) ?qc4 ?qc5 (G6 HB2).size ?_)
     case qc2=>
      intro j u hj
      match j with
      |0=>simp only[List.getElem?_cons_zero,BD]at hj;subst hj;rw[BJ];simp
      |j+1=>simp at hj
     case qc4=>simp only[maxLen];omega
     case qc5=>omega
     intro v' w1 hown hgrow _;have O2:H7 w1 w.heap.size v' (chP s (l.take (k+1))):=H7.L9 (by rw[G6 HE,AO,J8,G6 hn];exact hown);obtain⟨a2,c2,rfl,_⟩:=O2.slice;have HO2:=G7 O2;have HB3:=G7 ((G6 HB2).grown hgrow (G6 HB2).size (G6 HA));clear O2 hown hgrow;go_wp2_with fail
     go_roundg (l.length-(k+1))
     case measure=>omega
     case rel=>exact⟨k+1,_,a2,c2,rfl,rfl,G7 rfl,by omega,A8 _,HO2,HB3⟩
   .have hsb:(x.s==s)=false:=by simpa using h1
    have HE:=G7 (BX9 hx (s:=s) (.inl h1));clear q hx h1;go_wp2_with fail
    go_roundg (l.length-(k+1))
    case measure=>omega
    case rel=>exact⟨k+1,n,a,c,rfl,rfl,by rw[G6 HE];exact hn,by omega,A8 _,by rw[G6 HE];exact HO1,HB1⟩
  .obtain rfl:k=l.length:=by omega
   rw[List.take_length]at hO hn;have hnl:n<=l.length:=by rw[<-G6 hn];exact A44 _ _
   rcases G6 hO with⟨h1,h0⟩|⟨g,cap,h1,hgB,ho⟩
   .simp only[AP]at h1;obtain⟨rfl,rfl,rfl⟩:=h1;have HS0:Hid (XG (chP s l)=[]):=G7 (by rw[h0];simp[XG]);clear h0 hO;have CS:=fun W=>slices_Sort_string_none FZ 0 W;go_wp2_with fail;refine(CS _).mono ?_;rintro e w1 ⟨rfl,rfl⟩;go_wp2_with fail;go_ret;exact⟨_,rfl,.inl ⟨rfl,G6 HS0⟩,G6 hB⟩
   .simp only[AP]at h1;obtain⟨rfl,h3,rfl⟩:=h1;have CS:FX prog 175 #[FT (G5 ⟨g,0,FZ⟩) (chP s l).length c] wr fun e w'=>e=.returned (.tuple #[])/\∃n os,w'=Sort.grow (Sort.putRow encStr (Sort.ahead wr n) g 0 (XG (chP s l)).toArray) os:=slices_Sort_string g 0 c (chP s l) wr (oK (n:=0) (os:=#[]) hgB ho).2 ho.lt (by rw[<-h3];omega);rw[<-h3]at CS;have HO:=G7 ho;have H3:=G7 h3;clear hO ho h3;go_wp2_with fail;refine CS.mono ?_;rintro e w1 ⟨rfl,m,os,rfl⟩;have O4:=(oK (n:=m) (os:=os) hgB (G6 HO)).1;have B4:=(G6 hB).grown (grownBy_sorted (n:=m) (os:=os) (g:=g) (XG (chP s l)).toArray) (G6 hB).size (fun j e=>by cases e;exact hgB);rw[<-G6 H3]at O4;have HO4:=G7 O4;have HB4:=G7 B4;clear CS O4 B4;generalize Sort.grow (Sort.putRow encStr (Sort.ahead wr m) g 0 (XG (chP s l)).toArray) os=w4 at*;go_wp2_with fail;go_ret;exact⟨_,rfl,G6 HO4,G6 HB4⟩
structure CO1(B q:Nat)(va:FW)(ss:List (List UInt8))(W:FV):Prop where
 box:W.heap[B]?=G5 (FU #[va] 207 (0,0))
 own:H7 W 0 va ss
 ne:B≠q
 nq:∀k,va.ownBlock=G5 k->k≠q
theorem B96(B q:Nat)(va:FW)(ss:List (List UInt8))(hs:ss.Pairwise fun a b=>bl b a=false)(hl:ss.length<=281474976710656)(W:FV)(x:En)(hI:CO1 B q va ss W):
  FX prog 129 #[.agg #[S0 x.p,S0 x.d,.bool x.t],P0 B] W fun r w'=>r=.returned (.bool (decide (x.p∈ss)))/\B0 W w':=by
 have C:=fun V (hV:B0 W V)=>AP1 va ss x.p V (hI.own.next hV).seq hl hs;have c0:(W.alloc (FU #[S0 x.p,S0 x.d,.bool x.t] 79)).cell? ⟨B,0,FZ⟩=G5 va:=by
  have hb:=hI.box;have hlt:=(AB.1 hb).1;rw[(G8 W _).cell (p:=⟨B,0,FZ⟩) hlt];simp[AV,hb]
 have hBl:B<W.heap.size:=(AB.1 hI.box).1;obtain⟨a,c,rfl,_⟩:=hI.own.slice;clear hI;generalize decide (x.p∈ss)=hd at C⊢;generalize ss.length=n at*;obtain⟨xp,xd,xt⟩:=x;simp only at*;go_enter func129,ntmps129;go_wp2_with fail;obtain⟨i,C2⟩:=C _ (G8 _ _);refine C2.mono ?_;rintro e w1 ⟨rfl,rfl⟩;go_wp2_with fail;go_ret;exact⟨rfl,G8 _ _⟩
theorem xZ(B q:Nat)(va:FW)(ss:List (List UInt8))(hs:ss.Pairwise fun a b=>bl b a=false)(hl:ss.length<=281474976710656):B94 129 B q (fun x=>decide (x.p∈ss)) (CO1 B q va ss):=
 ⟨rfl,fun _ _ h hg=>⟨(hg.block B (AB.1 h.box).1 (fun e=>h.ne (BO e))).trans h.box,h.own.grown hg (fun k hk e=>h.nq k hk (BO e)),h.ne,h.nq⟩,fun W x h=>B96 B q va ss hs hl W x h⟩
theorem BS1{g:FuncId}(C:B94 g B q pr I)(w:FV)(hi:I w):
  FX prog 128 #[N0,.func (.func g) #[] #[P0 B]] w (R0 w (N0)):=by
 have CN:=xW C (N0) [] w hi (IE.nil w) (by simp) (by simp);have two:=C.two;clear C hi;subst two;go_enter func128,ntmps128;go_wp2_with fail;refine CN.mono ?_;rintro e w1 ⟨rfl,hb1⟩;go_wp2_with fail;go_ret;exact⟨rfl,hb1⟩
theorem B97(s:Int)(l:List Nt):(XG (chP s l)).length<=l.length:=by
 unfold XG;rw[List.length_mergeSort];exact A44 s l
theorem A45(s:Int)(l:List Nt)(es:List En):es.filter (fun x=> !decide (x.p∈XG (chP s l)))=U8 s l es:=by
 unfold U8
 congr 1
 funext x
 rw[BR7]
theorem B98(s z:Int)(v vl:FW)(es:List En)(l:List Nt)(w:FV)(hv:IE w v es)(hs:wM es)(hl:es.length*40<=140737488355328)(hvl:IE w vl l)(hll:l.length*32<=140737488355328):
  FX prog 85 #[clV s z v,vl] w fun e w'=>∃v',e=.returned (clV s z v')/\H7 w' w.heap.size v' (U8 s l es)/\B0 w w':=by
 have CH:=fun W (hW:B0 w W)=>xY s vl l W (hvl.next hW) hll;have CC:=fun W (hW:B0 w W)=>ZB s z v es W (hv.next hW) hs hl;have HT:=G7 (A45 s l es);have HA:=G7 (B91 (chP s l));have hsl:=B97 s l;obtain⟨a,c,rfl⟩:=GL hv;obtain⟨al,cl,rfl⟩:=GL hvl;unfold clV at CC⊢;clear hv hs hvl;generalize XG (chP s l)=ss at*;generalize U8 s l es=R at*;go_enter func85,ntmps85;go_wp2_with fail;have B0:B0 w ((w.alloc (FU #[I0 s,I0 z,FT a es.length c] 76)).alloc (FU #[I0 0,I0 0,N0] 76)):=G9 (G8 _ _) (G8 _ _);have K0:=(OA.new w s z (FT a es.length c)).next (G8 _ (FU #[I0 0,I0 0,N0] 76));have K1:=OA.new (w.alloc (FU #[I0 s,I0 z,FT a es.length c] 76)) 0 0 (N0);have hz0:((w.alloc (FU #[I0 s,I0 z,FT a es.length c] 76)).alloc (FU #[I0 0,I0 0,N0] 76)).heap.size=w.heap.size+2:=by simp
 rw[show (w.alloc (FU #[I0 s,I0 z,FT a es.length c] 76)).heap.size=w.heap.size+1 by simp]at K1;generalize (w.alloc (FU #[I0 s,I0 z,FT a es.length c] 76)).alloc (FU #[I0 0,I0 0,N0] 76)=W0 at*;refine(CH _ B0).mono ?_;rintro e w1 ⟨va,rfl,ho1,hb1⟩;obtain⟨a1,c1,rfl,_⟩:=ho1.slice;have K0:=(K0.next hb1).next (G8 w1 (FU #[FT a1 ss.length c1] 207));have K1:=(K1.next hb1).next (G8 w1 (FU #[FT a1 ss.length c1] 207));have N1:=heap_alloc_new w1 (FU #[FT a1 ss.length c1] 207);have O1:=ho1.next (G8 w1 (FU #[FT a1 ss.length c1] 207));have B1:=G9 (G9 B0 hb1) (G8 w1 (FU #[FT a1 ss.length c1] 207));have hz1:=hb1.size;have hlow1:=ho1.low;have hs1:(w1.alloc (FU #[FT a1 ss.length c1] 207)).heap.size=w1.heap.size+1:=by simp
 have k0:=K0.c0;have k1:=K0.c1;have k2:=K0.c2;clear CH ho1 hb1 B0 K0;have HK1:=G7 K1;have HN1:=G7 N1;have HO1:=G7 O1;have HB1:=G7 B1;clear K1 N1 O1 B1;go_wp2_with fail;generalize w1.alloc (FU #[FT a1 ss.length c1] 207)=W1 at*;refine(CC _ (G6 HB1)).mono ?_;rintro e w2 ⟨v2,rfl,ho2,hb2⟩;obtain⟨a2,c2,rfl,_⟩:=ho2.slice;have hlow2:=ho2.low;have hz2:=hb2.size;have hab2:=ho2.above;have K1:=((G6 HK1).next hb2).next (G8 w2 (FU #[I0 s,I0 z,FT a2 es.length c2] 76));have K2:=OA.new w2 s z (FT a2 es.length c2);have N2:=(Below.block (G8 w2 (FU #[I0 s,I0 z,FT a2 es.length c2] 76)) w1.heap.size (by omega)).trans ((hb2.block w1.heap.size (by omega)).trans (G6 HN1));have O1:=((G6 HO1).next hb2).next (G8 w2 (FU #[I0 s,I0 z,FT a2 es.length c2] 76));have O2:=ho2.next (G8 w2 (FU #[I0 s,I0 z,FT a2 es.length c2] 76));have B2:=G9 (G9 (G6 HB1) hb2) (G8 w2 (FU #[I0 s,I0 z,FT a2 es.length c2] 76));have hs2:(w2.alloc (FU #[I0 s,I0 z,FT a2 es.length c2] 76)).heap.size=w2.heap.size+1:=by simp
 have q2:=K2.c2;have HK1:=G7 K1;have HK2:=G7 K2;have HB2:=G7 B2;clear CC hb2 ho2 HN1 HO1 HB1 k0 k1 k2 K1 K2 B2;rcases O2 with⟨h1,h2⟩|⟨g,cap,h1,hg,O2⟩
 .simp only[AP]at h1;obtain⟨rfl,h3,rfl⟩:=h1;have CD:=BS1 (xZ w1.heap.size (w2.heap.size+7) (FT a1 ss.length c1) ss (G6 HA) (by omega)) _ ⟨N2,O1.lower (AY _),by omega,fun k hk=>by have:=hlow1 k hk;omega⟩;rw[h3]at CD q2 HK2 HK1 HB2⊢;have HT0:Hid (R=[]):=G7 (by rw[<-G6 HT,h2];rfl);clear O1 N2 h2 h3;go_wp2_with fail;generalize w2.alloc (FU #[I0 s,I0 z,N0] 76)=W2 at*;refine CD.mono ?_;rintro e w3 ⟨rfl,hb3⟩;have X1:=(G6 HK1).next hb3;have X2:=(G6 HK2).next hb3;have B3:=G9 (G6 HB2) hb3;have p0:=X2.c0;have p1:=X2.c1;have p2:=X2.c2;have p3:=X2.fr 2;have ps:=I8 p2;have r0:=X1.c0;have r1:=X1.c1;have r2:=X1.c2;have f0:=X1.fr 0;have f1:=X1.fr 1;have f2:=X1.fr 2;have HB3:=G7 B3;clear CD hb3 X1 X2 B3;go_wp2_with fail;refine bodyPost_ret (v:=.agg #[I0 s,I0 z,N0]) (by simp[results,results85,go_sem,r0,r1,r2]) rfl ⟨_,rfl,.inl ⟨rfl,G6 HT0⟩,?_⟩;exact(((G6 HB3).setCell (by simp) _).setCell (by simp) _).setCell (by simp) _
 .simp only[AP]at h1;obtain⟨rfl,_,rfl⟩:=h1;have hg2:=hlow2 g rfl;have CD:=BS0 (xZ w1.heap.size g (FT a1 ss.length c1) ss (G6 HA) (by omega)) c2 es _ ⟨N2,O1.lower (AY _),by omega,fun k hk=>by have:=hlow1 k hk;omega⟩ O2 (by omega);rw[G6 HT]at CD;clear O1 N2;go_wp2_with fail;generalize w2.alloc (FU #[I0 s,I0 z,FT (G5 ⟨g,0,FZ⟩) es.length c2] 76)=W2 at*;refine CD.mono ?_;rintro e w3 ⟨rfl,O3,hg3⟩;have X1:=((G6 HK1).grown hg3 (fun e=>by have:=BO e;omega)).other (a:=⟨w2.heap.size,2,FZ⟩) (by simp only;omega) (FT (G5 ⟨g,0,FZ⟩) R.length c2);have X0:=(G6 HK2).grown hg3 (fun e=>by have:=BO e;omega);have x2:=X0.c2;have x3:=X0.fr 2;have X2:=X0.set2 (v':=FT (G5 ⟨g,0,FZ⟩) R.length c2);have B3:=((G6 HB2).grown hg3 (G6 HB2).size (fun k e=>by cases e;omega)).setCell (p:=⟨w2.heap.size,2,FZ⟩) (by simp only;omega) (FT (G5 ⟨g,0,FZ⟩) R.length c2);have O4:=O3.other (a:=⟨w2.heap.size,2,FZ⟩) (by simp only;omega) (FT (G5 ⟨g,0,FZ⟩) R.length c2);have p0:=X2.c0;have p1:=X2.c1;have p2:=X2.c2;have r0:=X1.c0;have r1:=X1.c1;have r2:=X1.c2;have f0:=X1.fr 0;have f1:=X1.fr 1;have f2:=X1.fr 2;have HB3:=G7 B3;have HO4:=G7 O4;clear CD hg3 X1 X2 X0 B3 O3 O4;go_upto_region 4 with fail;generalize w3.setCell ⟨w2.heap.size,2,FZ⟩ (FT (G5 ⟨g,0,FZ⟩) R.length c2)=w4 at*;go_wp2_with fail;refine bodyPost_ret (v:=.agg #[I0 s,I0 z,FT (G5 ⟨g,0,FZ⟩) R.length c2]) (by simp[results,results85,go_sem,r0,r1,r2]) rfl ⟨_,rfl,.inr ⟨g,c2,rfl,by omega,?_⟩,?_⟩
  .exact(((G6 HO4).other (by simp only;omega) _).other (by simp only;omega) _).other (by simp only;omega) _
  .exact(((G6 HB3).setCell (by simp only;omega) _).setCell (by simp only;omega) _).setCell (by simp only;omega) _
theorem KF(ns:List En):(GH ns).length=ns.length*3:=GN ns
theorem J9.A47{pre tl:List En}(h:J9 W g cap (pre++tl))(new:List En)(hfit:pre.length+new.length<=cap):J9 (W.setCells g (pre.length*3) (GH new)) g cap (pre++new):=h.splice new hfit
theorem J9.CW4{A B:List En}{y:En}(h:J9 W g cap (A++y::B))(x:En):J9 (W.setCells g (A.length*3) (OD x)) g cap (A++x::B):=h.uI x
theorem J9.BS6{fs:List En}(h:J9 W g cap fs){j:Nat}(hj:j<cap*3):(W.cell? ⟨g,j,FZ⟩).isSome=true:=h.some hj
theorem AE9(w:FV)(ty:TypeId)(b o dLen dCap:Nat)(a:Addr)(sLen sCap:Nat)(cs:List FW)(hn:cs.length=Nat.min sLen dLen*3)
  (hsrc:∀j v,cs[j]?=G5 v->w.cell? (a.add j)=G5 v) (hc:∀j,j<cs.length->(w.cell? ⟨b,o+j,FZ⟩).isSome=true) (hf:∀j,j<cs.length->w.frozen? ⟨b,o+j,FZ⟩=false) (h1:∀v∈cs,v.oneCell'=true):
  (DX #[74,74] ty #[FT (G5 ⟨b,o,FZ⟩) dLen dCap,FT (G5 a) sLen sCap]).run prog w=.ok (goInt (Nat.min sLen dLen)) (w.setCells b o cs):=by
 have hl:=run_loadCells_list (P:=prog) w a cs hsrc;have hst:=run_storeCells_cells (P:=prog) b o cs 0 w (by simpa using hc) (by simpa using hf) h1;obtain⟨i0,hi0,hz0,hz1,hz2⟩:=BP2;simp[DX,run_underlying underlying74,Builtin.lenOf,Builtin.firstCells,sizeOf,typeInfo,hi0,hz1,<-hn,hl,hst]
theorem A48(v:FW)(A:List En)(x:En)(B b:Nat)(w:FV)(ho:H7 w B v A)(hB:B<=w.heap.size)(hl:A.length<=400)(h1:JM w b x):
  FX prog 94 #[v,I0 A.length,FT (G5 ⟨b,0,FZ⟩) 1 1] w fun e w'=>
   ∃v',e=.returned v'/\H7 w' B v' (A++[x])/\w.grownBy w' v.ownBlock/\(v'.ownBlock=v.ownBlock\/v'.ownBlock=G5 w.heap.size):=by
 obtain⟨i0,hi0,hz0,hz1,hz2⟩:=BP2;have hrow:=ho.row;have HR:=G7 hrow;have H1:=G7 h1.row;have V:∃a c,v=FT a A.length c/\A.length<=c:=by
  rcases ho with⟨rfl,rfl⟩|⟨g,cap,rfl,_,h⟩
  .exact⟨FZ,0,rfl,A8 _⟩
  .exact⟨_,cap,rfl,h.le⟩
 obtain⟨a,c,rfl,hc⟩:=V;clear ho hrow h1;rcases Nat.lt_or_ge A.length c with hcl|hcl
 .have hne:¬c=A.length:=by omega
  go_enter func94,ntmps94;go_wp2_with (at_builtin;refine wpList_append_own_at _ rfl _ _ 74 rfl B 79 i0 _ 3 40 underlying74 hi0 hz0 hz1 hz2 rfl (by decide) _ A.length (GH A) rfl (G6 HR) ⟨b,0,FZ⟩ 1 1 (OD x) rfl (by rfl) ?qc2 ((Lay.one x)) ?qc4 ?qc5 hB ?_)
  case qc2=>
   intro j u hj;rw[BJ];exact G6 H1 j u hj
  case qc4=>simp only[maxLen];omega
  case qc5=>omega
  intro v' w1 hown hgrow _ hloc
  go_wp2
  go_ret;exact⟨v',rfl,H7.L9 (by rw[AO,J8];exact hown),hgrow,hloc⟩
 .obtain rfl:c=A.length:=by omega
  go_enter func94,ntmps94;go_wp2_with (at_builtin;refine wpList_append_own_at _ rfl _ _ 74 rfl B 79 i0 _ 3 40 underlying74 hi0 hz0 hz1 hz2 rfl (by decide) _ A.length (GH A) rfl (G6 HR) ⟨b,0,FZ⟩ 1 1 (OD x) rfl (by rfl) ?qc2 ((Lay.one x)) ?qc4 ?qc5 hB ?_)
  case qc2=>
   intro j u hj;rw[BJ];exact G6 H1 j u hj
  case qc4=>simp only[maxLen];omega
  case qc5=>omega
  intro v' w1 hown hgrow _ hloc
  go_wp2
  go_ret;exact⟨v',rfl,H7.L9 (by rw[AO,J8];exact hown),hgrow,hloc⟩
theorem rU(g cap:Nat)(A R:List En)(y x:En)(n b:Nat)(w:FV)(ho:J9 w g cap (A++y::R))(hn:n=A.length+R.length+1)(hsm:n<=400)(hroom:n+1<=cap)(h1:JM w b x)(hbg:b≠g):
  FX prog 94 #[FT (G5 ⟨g,0,FZ⟩) n cap,I0 A.length,FT (G5 ⟨b,0,FZ⟩) 1 1] w fun e w'=>
   e=.returned (FT (G5 ⟨g,0,FZ⟩) (n+1) cap)/\J9 w' g cap (A++x::y::R)/\w.grownBy w' (G5 g):=by
 have hcl:=ho.capLe;simp only[maxLen]at hcl;have hrow:=ho.row;have AY2:w.shape? g=G5 (79,cap*3):=by
  obtain⟨rest,q1,q2,_⟩:=ho;rw[AO,BG]at q2;simp[World.shape?,q1,KF];exact⟨rfl,q2⟩
 have AY3:w.shape? b=G5 (79,3):=by unfold JM at h1;simp[World.shape?,h1];exact⟨rfl,rfl⟩
 have hfb:∀j,w.frozen? ⟨b,j,FZ⟩=false:=fun j=>by unfold JM at h1;simp[F8,h1]
 have hov:∀lb cb,(callFunc 137 #[FT (G5 ⟨b,0,FZ⟩) 1 1,FT (G5 ⟨g,(A.length+1)*3,FZ⟩) lb cb]).run prog w=.ok (.value (.bool false)) w:=fun lb cb=>by
  rw[run_callFunc_extern func137 (by kernel_rfl) (by kernel_rfl) (by kernel_rfl) (e:=Extern.SlicesOverlaps.overlaps #[74,74] #[4]) (by kernel_rfl),
   Lib.run_overlaps_apart w 74 4 79 underlying74 3 sizeOf79 ⟨b,0,FZ⟩ ⟨g,(A.length+1)*3,FZ⟩ 1 1 lb cb hbg 79 79 3 (cap*3) AY3 AY2 (by omega) (hfb 0) (hfb 3)]
  rfl
 obtain⟨W1,hW1⟩:∃W1,W1=w.drew.setCells g ((A.length+1)*3) (GH (y::R)):=⟨_,rfl⟩;have ho1:J9 W1 g cap (A++y::y::R):=by
  have h:J9 w.drew g cap ((A++[y])++R):=by rw[BR];exact ho
  have:=h.A47 (y::R) (by simp;omega);rw[hW1];simpa using this
 have hg1:w.grownBy W1 (G5 g):=by rw[hW1];have:=H8 (g:=g) (GH (y::R)) ((A.length+1)*3) w.drew;exact⟨this.os,this.tape,this.output,this.size,this.block⟩
 have hcp1:∀ty dc sc,(DX #[74,74] ty #[FT (G5 ⟨g,(A.length+1)*3,FZ⟩) (n-A.length) dc,FT (G5 ⟨g,A.length*3,FZ⟩) (n+1-A.length) sc]).run prog w.drew=.ok (goInt (Nat.min (n+1-A.length) (n-A.length))) W1:=fun ty dc sc=>by
  rw[hW1];exact AE9 w.drew ty g _ _ dc ⟨g,A.length*3,FZ⟩ _ sc (GH (y::R)) (by rw[KF];simp only[Nat.min_def,BG];split<;>omega)
   (fun j v hj=>by
    rw[BJ];have:=hrow (A.length*3+j) v (by rw[H6,BA (by rw[KF];omega),KF,FC];exact hj);rw[BI]at this;exact this)
   (fun j hj=>by rw[KF]at hj;exact ho.BS6 (by simp at hj;omega)) (fun j _=>ho.frozen _) (JF _)
 have hcp2:∀ty dc,(DX #[74,74] ty #[FT (G5 ⟨g,A.length*3,FZ⟩) (n+1-A.length) dc,FT (G5 ⟨b,0,FZ⟩) 1 1]).run prog W1=.ok (goInt (Nat.min 1 (n+1-A.length))) (W1.setCells g (A.length*3) (OD x)):=fun ty dc=>
  AE9 W1 ty g _ _ dc ⟨b,0,FZ⟩ 1 1 (OD x) (by simp only[Nat.min_def,OD,BG,EU];split<;>omega)
   (fun j v hj=>by
    rw[BJ];have hb2:W1.heap[b]?=w.heap[b]? :=hg1.block b (by unfold JM at h1;exact(AB.1 h1).1) (fun e=>hbg (BO e));have h2:JM W1 b x:=hb2.trans h1;exact h2.row j v hj)
   (fun j hj=>ho1.BS6 (by simp[OD]at hj;omega)) (fun j _=>ho1.frozen _) ((Lay.one x))
 have FIN:Hid (J9 (W1.setCells g (A.length*3) (OD x)) g cap (A++x::y::R)/\w.grownBy (W1.setCells g (A.length*3) (OD x)) (G5 g)):=
  ⟨ho1.CW4 x,IL hg1 (H8 _ _ _)⟩
 have hin:A.length<n:=by omega
 have C17:(A.length:Int)<(n:Int):=by omega
 have hw1:IntKind.i64.wrap ((A.length:Int)+1)=(A.length:Int)+1:=by rw[IntKind.wrap_i64];omega
 have hb1:(0:Int)<=(A.length:Int)+1:=by omega
 have hb2:¬ (cap=A.length+1):=by omega
 have hb3:(A.length:Int)<=(n:Int)+1:=by omega
 have hb4:¬ (cap=A.length):=by omega
 have hb5:(A.length:Int)+1<=(n:Int)+1:=by omega
 have hb6:¬ ((cap:Int)<(n:Int)+1):=by omega
 have hz2:¬ ((A.length:Int)=(n:Int)):=by omega
 have htn:((A.length:Int)+1).toNat=A.length+1:=by omega
 clear hW1 ho1 hg1 hrow AY2 AY3 hfb ho h1 hn;go_enter func94,ntmps94;go_wp2_with (simp only[hov])
 go_region_law (refine MV rfl (.tmp 73) (.tmp 76) 74 74 rfl (FT (G5 ⟨g,(A.length+1)*3,FZ⟩) (n-A.length) (cap-(A.length+1))) (FT (G5 ⟨g,A.length*3,FZ⟩) (n+1-A.length) (cap-A.length)) (by simp[Act.eval,Act.put]) (by simp[Act.eval,Act.put]) (hcp1 _ _ _) ?_)
 go_wp2_with (at_builtin;refine LD _ rfl _ _ 74 74 rfl _ _ rfl rfl (hcp2 _ _) ?_);go_ret;exact⟨rfl,FIN.out⟩
theorem CO8(k:Nat):(BH (Value.agg #[.string ⟨#[]⟩,.string ⟨#[]⟩,.bool false]).cells k).size=k*3:=by
 simp[BH,Value.cells]
theorem yA(g cap:Nat)(A R:List En)(y x:En)(n b:Nat)(w:FV)(ho:J9 w g cap (A++y::R))(hn:n=A.length+R.length+1)(hsm:n<=400)(hroom:cap<n+1)(h1:JM w b x):
  FX prog 94 #[FT (G5 ⟨g,0,FZ⟩) n cap,I0 A.length,FT (G5 ⟨b,0,FZ⟩) 1 1] w fun e w'=>
   ∃cap',e=.returned (FT (G5 ⟨w.heap.size,0,FZ⟩) (n+1) cap')/\J9 w' w.heap.size cap' (A++x::y::R)/\B0 w w':=by
 have hcap:cap=n:=by have:=ho.le;simp at this;omega
 obtain⟨i0,hi0,hz0,hz1,hz2⟩:=BP2;have hrow:=ho.row;have hgw:=ho.lt;have hbw:b<w.heap.size:=by unfold JM at h1;exact(AB.1 h1).1
 have hold:(Builtin.firstCells i0.size A.length (FT (G5 ⟨g,0,FZ⟩) A.length cap)).run prog w.drew=.ok (GH A).toArray w.drew:=by
  rw[hz1];exact run_firstCells_some w.drew 3 A.length ⟨g,0,FZ⟩ A.length cap (GH A) (KF A) (fun j v hj=>by
   rw[BJ];exact hrow j v (by rw[H6,BK (AU.1 hj).1];exact hj))
 obtain⟨G,hG⟩:∃G,G=grownCap w (n+1) cap 79:=⟨_,rfl⟩;have hGn:n+1<=G:=by rw[hG];exact grownCap_ge w _ _ _
 have hGm:G<=maxLen:=by rw[hG];exact grownCap_le_maxLen w (n+1) cap _ (by unfold maxLen;omega)
 have hG63:G<=9223372036854775807:=by have:=hGm;unfold maxLen at this;omega
 obtain⟨ROW,hROW⟩:∃ROW:Array FW,ROW=(GH A).toArray++BH (Value.agg #[.string ⟨#[]⟩,.string ⟨#[]⟩,.bool false]).cells (n+1-A.length)++BH (Value.agg #[.string ⟨#[]⟩,.string ⟨#[]⟩,.bool false]).cells (G-(n+1)):=⟨_,rfl⟩;obtain⟨W1,hW1⟩:∃W1,W1=w.drew.alloc (FU ROW 79):=⟨_,rfl⟩;have hik:A.length+(n+1-A.length)=n+1:=by omega
 have hrz:∀ty,(Builtin.append_ #[74,3] ty #[FT (G5 ⟨g,0,FZ⟩) A.length cap,I0 ((n:Int)+1-(A.length:Int))]).run prog w=
   .ok (FT (G5 ⟨w.heap.size,0,FZ⟩) (n+1) G) W1:=fun ty=>by
  have h:=Lib.run_append_grow_zeros w 74 3 ty 79 i0 _ .i64 .i64 underlying74 underlying3 hi0 hz0 (G5 ⟨g,0,FZ⟩) A.length cap (GH A) hold (n+1-A.length) (by omega) (by omega) (by omega) (by omega) (by rw[hz2];omega) (by rw[hz2,hik];exact growslice_fits hroom (by omega));rw[hik,<-hG,<-hROW,<-hW1]at h;rw[show (n:Int)+1-(A.length:Int)=((n+1-A.length:Nat):Int) by omega];exact h
 have ho1:J9 W1 w.heap.size G A:=by
  refine⟨(BH (Value.agg #[.string ⟨#[]⟩,.string ⟨#[]⟩,.bool false]).cells (n+1-A.length)++BH (Value.agg #[.string ⟨#[]⟩,.string ⟨#[]⟩,.bool false]).cells (G-(n+1))).toList,?_,?_,by omega,hGm⟩
  .rw[hW1,hROW];have:=heap_alloc_new w.drew (FU ((GH A).toArray++BH (Value.agg #[.string ⟨#[]⟩,.string ⟨#[]⟩,.bool false]).cells (n+1-A.length)++BH (Value.agg #[.string ⟨#[]⟩,.string ⟨#[]⟩,.bool false]).cells (G-(n+1))) 79);refine Eq.trans this ?_
   congr 2
   apply Array.toList_inj.1
   simp
  .simp only[show Lay.k En=3 from rfl,Array.length_toList,Array.size_append,CO8];omega
 have hB1:B0 w W1:=by rw[hW1];exact((AA _ w).drew).alloc (A8 _) _
 obtain⟨W2,hW2⟩:∃W2,W2=W1.setCells w.heap.size (A.length*3) (OD x):=⟨_,rfl⟩;have ho2:J9 W2 w.heap.size G (A++[x]):=by
  have h:J9 W1 w.heap.size G (A++[]):=by rw[DN];exact ho1
  have:=h.A47 [x] (by simp;omega);rw[hW2];rw[JK,RX,DN]at this;exact this
 have hg2:W1.grownBy W2 (G5 w.heap.size):=by rw[hW2];exact H8 _ _ _
 have hB2:B0 w W2:=hB1.grown hg2 hB1.size (fun k e=>by cases e;exact A8 _);have hcpA:∀ty dc,(DX #[74,74] ty #[FT (G5 ⟨w.heap.size,A.length*3,FZ⟩) (n+1-A.length) dc,FT (G5 ⟨b,0,FZ⟩) 1 1]).run prog W1=.ok (goInt (Nat.min 1 (n+1-A.length))) W2:=fun ty dc=>by
  rw[hW2];exact AE9 W1 ty w.heap.size _ _ dc ⟨b,0,FZ⟩ 1 1 (OD x) (by simp only[Nat.min_def,OD,BG,EU];split<;>omega)
   (fun j v hj=>by rw[BJ];exact(show JM W1 b x from(hB1.block b hbw).trans h1).row j v hj)
   (fun j hj=>ho1.BS6 (by simp[OD]at hj;omega)) (fun j _=>ho1.frozen _) ((Lay.one x))
 obtain⟨W3,hW3⟩:∃W3,W3=W2.drew.setCells w.heap.size ((A.length+1)*3) (GH (y::R)):=⟨_,rfl⟩;have hcpB:∀ty dc sc,(DX #[74,74] ty #[FT (G5 ⟨w.heap.size,(A.length+1)*3,FZ⟩) (n-A.length) dc,FT (G5 ⟨g,A.length*3,FZ⟩) (n-A.length) sc]).run prog W2.drew=.ok (goInt (Nat.min (n-A.length) (n-A.length))) W3:=fun ty dc sc=>by
  rw[hW3];exact AE9 W2.drew ty w.heap.size _ _ dc ⟨g,A.length*3,FZ⟩ _ sc (GH (y::R)) (by rw[KF];simp only[Nat.min_self,BG];omega)
   (fun j v hj=>by
    rw[BJ];have:=hrow (A.length*3+j) v (by rw[H6,BA (by rw[KF];omega),KF,FC];exact hj);rw[BI]at this;exact(hB2.cell (p:=⟨g,A.length*3+j,FZ⟩) hgw).trans this)
   (fun j hj=>by rw[KF]at hj;exact ho2.drew.BS6 (by simp at hj;omega)) (fun j _=>ho2.drew.frozen _) (JF _)
 have FIN:Hid (J9 W3 w.heap.size G (A++x::y::R)/\B0 w W3):=by
  refine⟨?_,?_⟩
  .have h:J9 W2.drew w.heap.size G ((A++[x])++[]):=by rw[DN];exact ho2
   have:=h.A47 (y::R) (by simp;omega);rw[hW3];simpa using this
  .rw[hW3];exact hB2.drew.grown (H8 _ _ _) hB2.size (fun k e=>by cases e;exact A8 _)
 have hin:A.length<n:=by omega
 have C17:(A.length:Int)<(n:Int):=by omega
 have hw1:IntKind.i64.wrap ((A.length:Int)+1)=(A.length:Int)+1:=by rw[IntKind.wrap_i64];omega
 have hb1:(0:Int)<=(A.length:Int)+1:=by omega
 have hb2:¬ (G=A.length+1):=by omega
 have hb3:(A.length:Int)<=(n:Int)+1:=by omega
 have hb4:¬ (n=A.length):=by omega
 have hb5:(A.length:Int)+1<=(n:Int)+1:=by omega
 have hb6:¬ (G=A.length):=by omega
 have hb7:(A.length:Int)<=(n:Int):=by omega
 have hz3:¬ ((A.length:Int)=(n:Int)):=by omega
 have htn:((A.length:Int)+1).toNat=A.length+1:=by omega
 subst hcap;clear hn hROW hW1 hW2 hW3 hG hrow ho h1 ho1 ho2 hB1 hB2 hg2 hold hik;go_enter func94,ntmps94;go_wp2_with (first
  |(at_builtin;refine Lib.wpList_append_run _ rfl _ _ _ _ rfl _ _ rfl rfl _ _ (hrz _) ?_)
  |(at_builtin;refine LD _ rfl _ _ 74 74 rfl _ _ rfl rfl (hcpA _ _) ?_))
 go_region_law (refine MV rfl (.tmp 50) (.tmp 53) 74 74 rfl (FT (G5 ⟨w.heap.size,(A.length+1)*3,FZ⟩) (cap-A.length) (G-(A.length+1))) (FT (G5 ⟨g,A.length*3,FZ⟩) (cap-A.length) (cap-A.length)) (by simp[Act.eval,Act.put]) (by simp[Act.eval,Act.put]) (hcpB _ _ _) ?_)
 go_wp2
 go_ret;exact⟨G,rfl,FIN.out⟩
theorem A49(v:FW)(A R:List En)(x:En)(q:Nat)(w:FV)(ho:H7 w 0 v (A++R))(hl:(A++R).length<=400)(h1:JM w q x)(hq:v.ownBlock≠G5 q):
  FX prog 94 #[v,I0 A.length,FT (G5 ⟨q,0,FZ⟩) 1 1] w fun e w'=>
   ∃v',e=.returned v'/\H7 w' 0 v' (A++x::R)/\w.grownBy w' v.ownBlock/\(v'.ownBlock=v.ownBlock\/∃k,w.heap.size<=k/\v'.ownBlock=G5 k):=by
 cases R with
 |nil=>
  rw[DN]at ho hl;refine(A48 v A x 0 q w ho (AY _) hl h1).mono ?_;rintro e w' ⟨v',rfl,h2,h3,h4⟩;refine⟨v',rfl,h2,h3,?_⟩;rcases h4 with h|h
  .exact .inl h
  .exact .inr ⟨_,A8 _,h⟩
 |cons y R=>
  rcases ho with⟨_,h⟩|⟨g,cap,rfl,_,ho⟩
  .simp at h
  .have hn:(A++y::R).length=A.length+R.length+1:=by simp;omega
   by_cases hc:(A++y::R).length+1<=cap
   .refine(rU g cap A R y x _ q w ho hn hl hc h1 (fun e=>hq (by rw[e];rfl))).mono ?_;rintro e w' ⟨rfl,h2,h3⟩;exact⟨_,rfl,.inr ⟨g,cap,by simp;omega,AY _,h2⟩,h3,.inl rfl⟩
   .refine(yA g cap A R y x _ q w ho hn hl (by omega) h1).mono ?_;rintro e w' ⟨cap',rfl,h2,h3⟩;exact⟨_,rfl,.inr ⟨w.heap.size,cap',by simp;omega,AY _,h2⟩,⟨h3.os,h3.tape,h3.output,h3.size,fun k hk _=>h3.block k hk⟩,.inr ⟨_,A8 _,rfl⟩⟩
