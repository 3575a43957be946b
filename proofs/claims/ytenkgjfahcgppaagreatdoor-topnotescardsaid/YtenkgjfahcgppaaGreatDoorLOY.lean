/-
  Part.
-/
import Derived.Test.YtenkgjfahcgppaaGreatDoorLOG
import Derived.Sort.OwnSorted
set_option maxRecDepth 20000
set_option maxHeartbeats 8000000
namespace Go.Proofs.YtenkgjfahcgppaaGreatDoor
open Go.RowKit Go.Proofs.Tryz
variable{w W V:World}{b off i k B q:Nat}{xs:List En}{x:En}{α:Type}{v:Value}{s z:Int}{g:FuncId}{pr:En->Bool}{I:World->Prop}
def JZ(e:En):List Value:=[S0 e.p,S0 e.d,.bool e.t]
def enV(e:En):Value:=.agg #[S0 e.p,S0 e.d,.bool e.t]
def clV(s z:Int)(v:Value):Value:=.agg #[I0 s,I0 z,v]
instance layC:Lay En:=⟨3,JZ,72,fun _=>rfl,fun x u hu=>by simp[JZ]at hu;rcases hu with rfl|rfl|rfl<;>rfl⟩
theorem BL.en0(h:BL w b off (AO xs))(hi:xs[i]?=some x):w.cell? ⟨b,off+i*3,none⟩=some (S0 x.p):=
 h (i*3) _ (AZ xs i x hi 0 (by decide))
theorem BL.en1(h:BL w b off (AO xs))(hi:xs[i]?=some x):w.cell? ⟨b,off+i*3+1,none⟩=some (S0 x.d):=by
 rw[Nat.add_assoc];exact h (i*3+1) _ (AZ xs i x hi 1 (by decide))
theorem BL.en2(h:BL w b off (AO xs))(hi:xs[i]?=some x):w.cell? ⟨b,off+i*3+2,none⟩=some (.bool x.t):=by
 rw[Nat.add_assoc];exact h (i*3+2) _ (AZ xs i x hi 2 (by decide))
theorem CE6:(prog.info? 72).map (fun i=>(i.zero,i.size,i.bytes))=some (some (.agg #[.string ⟨#[]⟩,.string ⟨#[]⟩,.bool false]),3,40):=by kernel_rfl
theorem BI5:∃i0,prog.info? 72=some i0/\i0.zero=some (.agg #[.string ⟨#[]⟩,.string ⟨#[]⟩,.bool false])/\i0.size=3/\i0.bytes=40:=by
 obtain⟨i0,h,e⟩:=Option.map_eq_some_iff.1 CE6;simp only[Prod.mk.injEq]at e;exact⟨i0,h,e⟩
theorem YC(w:World)(x:En):EW (w.alloc (.cells #[S0 x.p,S0 x.d,.bool x.t] 72)) w.heap.size x:=heap_alloc_new w _
theorem crow[Lay α]{xs:List α}(hv:BQ w v xs):∀W,B0 w W->∀ (k:Nat) (x:α),xs[k]?=some x->∃b off cap,v=.slice (some ⟨b,off,none⟩) xs.length cap/\b<w.heap.size/\BL W b off (AO xs):=fun W hW k x hx=>by
 obtain⟨b,off,cap,e,hb,hr,_,_⟩:=J7 hv (fun h0=>by obtain⟨h1,_⟩:=List.getElem?_eq_some_iff.1 hx;rw[h0]at h1;simp at h1);exact⟨b,off,cap,e,hb,hr.kept hW hb⟩
def JD(W:World)(k:Nat)(s z:Int)(v:Value):Prop:=W.heap[k]?=some (.cells #[I0 s,I0 z,v] 77 (0,0))
theorem JD.lt(h:JD W k s z v):k<W.heap.size:=(Array.getElem?_eq_some_iff.1 h).1
theorem JD.c0(h:JD W k s z v):W.cell? ⟨k,0,none⟩=some (I0 s):=by unfold JD at h;simp[World.cell?,h]
theorem JD.c1(h:JD W k s z v):W.cell? ⟨k,1,none⟩=some (I0 z):=by unfold JD at h;simp[World.cell?,h]
theorem JD.c2(h:JD W k s z v):W.cell? ⟨k,2,none⟩=some v:=by unfold JD at h;simp[World.cell?,h]
theorem JD.fr(h:JD W k s z v)(j:Nat):W.frozen? ⟨k,j,none⟩=false:=by unfold JD at h;simp[World.frozen?,h]
theorem JD.kept(h:JD W k s z v)(hb:Below B W V)(hk:k<B):JD V k s z v:=(hb.block k hk).trans h
theorem JD.next(h:JD W k s z v)(hb:B0 W V):JD V k s z v:=h.kept hb h.lt
theorem JD.grown{r:Option Nat}(h:JD W k s z v)(hg:W.grownBy V r)(hr:some k≠r):JD V k s z v:=(hg.block k h.lt hr).trans h
theorem JD.new(w:World)(s z:Int)(v:Value):JD (w.alloc (.cells #[I0 s,I0 z,v] 77)) w.heap.size s z v:=heap_alloc_new w _
theorem JD.set0{s':Int}(h:JD W k s z v):JD (W.setCell ⟨k,0,none⟩ (I0 s')) k s' z v:=by unfold JD at h⊢;rw[AV _ h];rfl
theorem JD.set1{z':Int}(h:JD W k s z v):JD (W.setCell ⟨k,1,none⟩ (I0 z')) k s z' v:=by unfold JD at h⊢;rw[AV _ h];rfl
theorem JD.set2{v':Value}(h:JD W k s z v):JD (W.setCell ⟨k,2,none⟩ v') k s z v':=by unfold JD at h⊢;rw[AV _ h];rfl
theorem JD.other(h:JD W k s z v){a:Addr}(ha:k≠a.block)(u:Value):JD (W.setCell a u) k s z v:=(Below.heap_setCell W a u k ha).trans h
theorem EW.frz[Lay α]{x:α}(h:EW W b x)(j:Nat):W.frozen? ⟨b,j,none⟩=false:=by unfold EW at h;simp[World.frozen?,h]
theorem EW.ltz[Lay α]{x:α}(h:EW W b x):b<W.heap.size:=(Array.getElem?_eq_some_iff.1 h).1
theorem EW.QK[Lay α]{x:α}(h:EW W b x)(hb:Below B W V)(hk:b<B):EW V b x:=(hb.block b hk).trans h
theorem EW.KJ[Lay α]{x:α}(h:EW W b x){a:Addr}(ha:b≠a.block)(u:Value):EW (W.setCell a u) b x:=(Below.heap_setCell W a u b ha).trans h
theorem EW.e0(h:EW W b x):W.cell? ⟨b,0,none⟩=some (S0 x.p):=h.row 0 _ rfl
theorem EW.e1(h:EW W b x):W.cell? ⟨b,1,none⟩=some (S0 x.d):=by have:=h.row 1 _ rfl;simpa using this
theorem EW.e2(h:EW W b x):W.cell? ⟨b,2,none⟩=some (.bool x.t):=by have:=h.row 2 _ rfl;simpa using this
theorem BD.KJ[Lay α]{xs:List α}(h:BD W B v xs){j:Nat}(hk:k<B)(u:Value):BD (W.setCell ⟨k,j,none⟩ u) B v xs:=by
 rcases h with h|⟨g,cap,rfl,hB,h⟩
 .exact .inl h
 .exact .inr ⟨g,cap,rfl,hB,h.other (by simp only;omega) u⟩
theorem BD.above[Lay α]{xs:List α}(h:BD W B v xs):∀k,v.ownBlock=some k->B<=k:=by
 rcases h with⟨rfl,rfl⟩|⟨g,cap,rfl,hB,h⟩
 .intro k hk;simp[Value.ownBlock]at hk
 .intro k hk;simp only[Value.ownBlock,Option.some.injEq]at hk;omega
theorem aG(s:List UInt8)(w:World)(hs:s.length<=281474976710656):
  Calls prog 72 #[S0 s] w (R0 w (S0 s)):=by
 have C:=fun W=>stringslite_Clone ⟨s.toArray⟩ W (show (ByteArray.mk s.toArray).size<=_ from hs);go_enter func72,ntmps72;go_wp2_with fail;refine(C _).mono ?_;rintro e w1 ⟨rfl,hb1⟩;go_wp2_with fail;go_ret;exact⟨rfl,hb1⟩
theorem A63(a:Addr)(cap:Nat)(xs:List En)(w:World)(hl:xs.length*40<=140737488355328)(hc:∀j u,(AO xs)[j]?=some u->w.cell? (a.add j)=some u):
  Calls prog 46 #[.slice (some a) xs.length cap] w fun e w'=>∃v',e=.returned v'/\BD w' w.heap.size v' xs/\B0 w w':=by
 have q22:∀ (w:World) (a:Option Addr) (n c n' c':Nat),(binOp .eql 75 (.slice a n c) (.slice none n' c')).run prog w=.ok (.bool a.isNone) w:=fun w a n c n' c'=>Lib.run_eql_slice_nil w _ _ a n c n' c' underlying75;have H:=AA hc;clear hc;obtain⟨i0,hi0,hz0,hz1,hz2⟩:=BI5;go_enter func46,ntmps46;go_wp2_with (at_builtin;refine wpList_append_own _ rfl _ _ 75 rfl w.heap.size 72 i0 _ 3 40 underlying75 hi0 hz0 hz1 hz2 rfl (by decide) _ _ _ rfl (World.ownsRow_made w #[] 0 (Nat.le_refl _) (Nat.zero_le _) (by simp)) a xs.length cap (AO xs) rfl ?qc1 ?qc2 ?qc3 ?qc4 ?qc5 ?qc6 ?_)
 case qc1=>exact BA xs
 case qc2=>
  intro j u hj;exact Lib.cell?_alloc_some _ (A8 H j u hj)
 case qc3=>exact EZ xs
 case qc4=>simp only[maxLen];omega
 case qc5=>omega
 case qc6=>simp
 intro v' w1 hown hgrow hnil
 go_wp2
 go_ret;refine⟨v',rfl,BD.G8 (by first|exact hown|(simp only[List.nil_append,Nat.zero_add]at hown;exact hown)|simpa using hown),?_⟩;exact((Below.refl _ w).alloc (Nat.le_refl _) _).grown hgrow (by simp) (by intro k hk;simp[Value.ownBlock]at hk;omega)
theorem C07(n c:Nat)(w:World):
  Calls prog 46 #[.slice none n c] w fun e w'=>e=.returned (N0)/\w'=w:=by
 have q22:∀ (w:World) (a:Option Addr) (n c n' c':Nat),(binOp .eql 75 (.slice a n c) (.slice none n' c')).run prog w=.ok (.bool a.isNone) w:=fun w a n c n' c'=>Lib.run_eql_slice_nil w _ _ a n c n' c' underlying75;go_enter func46,ntmps46
 go_wp2
 go_ret;exact⟨rfl,rfl⟩
theorem AZ4(v:Value)(xs:List En)(w:World)(hv:BQ w v xs)(hl:xs.length*40<=140737488355328):
  Calls prog 46 #[v] w fun e w'=>∃v',e=.returned v'/\BD w' w.heap.size v' xs/\B0 w w':=by
 rcases hv with⟨a,cap,rfl,rfl,_⟩|⟨b,off,cap,rfl,_,_,hb,_,hr⟩
 .cases a with
  |none=>exact(C07 0 cap w).mono fun e w' ⟨he,hw⟩=>⟨_,he,.inl ⟨rfl,rfl⟩,by rw[hw];exact Below.refl _ _⟩
  |some a=>exact A63 a cap [] w (by simp) (fun j u h=>by simp[AO]at h)
 .exact A63 ⟨b,off,none⟩ cap xs w hl (fun j u h=>by rw[Addr.add_lit];exact hr j u h)
theorem nM(x:En)(w:World)(hp:x.p.length<=140737488355328)(hd:x.d.length<=140737488355328):
  Calls prog 45 #[.agg #[S0 x.p,S0 x.d,.bool x.t]] w (R0 w (.agg #[S0 x.p,S0 x.d,.bool x.t])):=by
 obtain⟨xp,xd,xt⟩:=x;simp only at*;have Kp:=fun W=>aG xp W (by omega);have Kd:=fun W=>aG xd W (by omega);go_enter func45,ntmps45;go_wp2_with fail;generalize hW0:(w.alloc (.cells #[S0 xp,S0 xd,.bool xt] 72)).alloc (.cells #[.string ⟨#[]⟩,.string ⟨#[]⟩,.bool false] 72)=W0;have hB0:B0 w W0:=by rw[<-hW0];exact AL (AB _ _) (AB _ _)
 have hz0:W0.heap.size=w.heap.size+2:=by rw[<-hW0];simp
 have p0:W0.cell? ⟨w.heap.size,0,none⟩=some (S0 xp):=by rw[<-hW0];simp
 have r0:W0.cell? ⟨w.heap.size+1,0,none⟩=some (.string ⟨#[]⟩):=by rw[<-hW0];simp
 have p1:W0.cell? ⟨w.heap.size,1,none⟩=some (S0 xd):=by rw[<-hW0];simp
 have r1:W0.cell? ⟨w.heap.size+1,1,none⟩=some (.string ⟨#[]⟩):=by rw[<-hW0];simp
 have p2:W0.cell? ⟨w.heap.size,2,none⟩=some (.bool xt):=by rw[<-hW0];simp
 have r2:W0.cell? ⟨w.heap.size+1,2,none⟩=some (.bool false):=by rw[<-hW0];simp
 have pf:∀j,W0.frozen? ⟨w.heap.size,j,none⟩=false:=by intro j;rw[<-hW0];simp
 have rf:∀j,W0.frozen? ⟨w.heap.size+1,j,none⟩=false:=by intro j;rw[<-hW0];simp
 clear hW0;have d0:∀d os,(Sort.grow (redrawn W0 d) os).cell? ⟨w.heap.size,0,none⟩=some (S0 xp):=fun d os=>cell_regrown p0 d os;have g0:∀d os,(Sort.grow (redrawn W0 d) os).frozen? ⟨w.heap.size,0,none⟩=false:=fun d os=>by rw[(below_regrown W0 d os).frozen (p:=⟨w.heap.size,0,none⟩) (by simp only;omega)];exact pf 0
 have s0:∀d os,(Sort.grow (redrawn W0 d) os).setCell ⟨w.heap.size,0,none⟩ (S0 xp)=Sort.grow (redrawn W0 d) os:=fun d os=>BJ (d0 d os);have c0:=fun d os=>Calls.regrown_of (w:=W0) (d:=d) (os:=os) (Kp _);have d1:∀d os,(Sort.grow (redrawn W0 d) os).cell? ⟨w.heap.size,1,none⟩=some (S0 xd):=fun d os=>cell_regrown p1 d os;have g1:∀d os,(Sort.grow (redrawn W0 d) os).frozen? ⟨w.heap.size,1,none⟩=false:=fun d os=>by rw[(below_regrown W0 d os).frozen (p:=⟨w.heap.size,1,none⟩) (by simp only;omega)];exact pf 1
 have s1:∀d os,(Sort.grow (redrawn W0 d) os).setCell ⟨w.heap.size,1,none⟩ (S0 xd)=Sort.grow (redrawn W0 d) os:=fun d os=>BJ (d1 d os);have c1:=fun d os=>Calls.regrown_of (w:=W0) (d:=d) (os:=os) (Kd _);refine wp_region_quiet_below (by kernel_rfl) (by kernel_rfl) ?_
 repeat (first|go_big_quiet_step (first|with_reducible exact c0 _ _|with_reducible exact c1 _ _)|quiet_step (first|with_reducible exact c0 _ _|with_reducible exact c1 _ _))
 refine wpQuiet_nil ?_;intro _ hw';obtain⟨⟨dq,osq⟩,hw''⟩:=hw';subst hw'';have hb1:=below_regrown W0 dq osq;have hB:=AL hB0 hb1;have e0:=(hb1.cell (p:=⟨w.heap.size,0,none⟩) (by simp only;omega)).trans p0;have u0:=(hb1.cell (p:=⟨w.heap.size+1,0,none⟩) (by simp only;omega)).trans r0;have v0:=(hb1.frozen (p:=⟨w.heap.size+1,0,none⟩) (by simp only;omega)).trans (rf 0);have e1:=(hb1.cell (p:=⟨w.heap.size,1,none⟩) (by simp only;omega)).trans p1;have u1:=(hb1.cell (p:=⟨w.heap.size+1,1,none⟩) (by simp only;omega)).trans r1;have v1:=(hb1.frozen (p:=⟨w.heap.size+1,1,none⟩) (by simp only;omega)).trans (rf 1);have e2:=(hb1.cell (p:=⟨w.heap.size,2,none⟩) (by simp only;omega)).trans p2;have u2:=(hb1.cell (p:=⟨w.heap.size+1,2,none⟩) (by simp only;omega)).trans r2;have v2:=(hb1.frozen (p:=⟨w.heap.size+1,2,none⟩) (by simp only;omega)).trans (rf 2);generalize Sort.grow (redrawn W0 dq) osq=w1 at*;clear hb1 hB0 hz0 pf rf p0 r0 p1 r1 p2 r2 d0 g0 s0 c0 Kp d1 g1 s1 c1 Kd;go_wp2_with fail;refine bodyPost_ret (v:=.agg #[S0 xp,S0 xd,.bool xt]) (by simp[results,results45,go_sem,u0,u1,u2]) rfl ⟨rfl,?_⟩;exact(((hB.setCell (by simp) _).setCell (by simp) _).setCell (by simp) _)
theorem WL(s z:Int)(v:Value)(es:List En)(w:World)(hv:BQ w v es)(hs:kK es)(hl:es.length*40<=140737488355328):
  Calls prog 150 #[clV s z v] w fun e w'=>∃v',e=.returned (clV s z v')/\BD w' w.heap.size v' es/\B0 w w':=by
 have CC:=fun W (hW:B0 w W)=>AZ4 v es W (hv.next hW) hl;have HO:Hid (∀x∈es,∀W,Calls prog 45 #[.agg #[S0 x.p,S0 x.d,.bool x.t]] W (R0 W (.agg #[S0 x.p,S0 x.d,.bool x.t]))):=AA fun x hm W=>nM x W (hs x hm).1 (hs x hm).2;obtain⟨a,c,rfl⟩:=AU hv;unfold clV;clear hv hs;go_enter func150,ntmps150;go_wp2_with fail;refine(CC _ (AL (AB _ _) (AB _ _))).mono ?_;rintro e w1 ⟨v',rfl,ho,hb1⟩;have HB1:=AA (AL (AL (AB w _) (AB _ _)) hb1);have X1:=((JD.new w s z (.slice a es.length c)).next (AB _ (.cells #[I0 0,I0 0,N0] 77))).next hb1;have X2:=(JD.new (w.alloc (.cells #[I0 s,I0 z,.slice a es.length c] 77)) 0 0 (N0)).next hb1;have hs1:(w.alloc (.cells #[I0 s,I0 z,.slice a es.length c] 77)).heap.size=w.heap.size+1:=by simp
 rw[hs1]at X2;have hz1:w.heap.size+2<=w1.heap.size:=by have:=hb1.size;simpa using this
 have c2:=X1.c2;have f2:=X1.fr 2;have Y1:=X1.set2 (v':=v');have Y2:=X2.other (a:=⟨w.heap.size,2,none⟩) (by simp) v';rcases ho with⟨rfl,rfl⟩|⟨g,cap,rfl,hg,ho⟩
 .clear CC hb1 X1 X2;have HY1:=AA Y1;have HY2:=AA Y2;clear Y1 Y2;go_wp2_with fail
  go_loopg [12] 1 (fun _ s wr=>s=I0 0/\wr=w1.setCell ⟨w.heap.size,2,none⟩ (N0))
  case atStart=>exact⟨rfl,rfl⟩
  case round=>
   obtain⟨rfl,rfl⟩:=hrel;have q0:=(A8 HY1).c0;have q1:=(A8 HY1).c1;have q2:=(A8 HY1).c2;have r0:=(A8 HY2).c0;have r1:=(A8 HY2).c1;have r2:=(A8 HY2).c2;have t0:=(A8 HY2).fr 0;have t1:=(A8 HY2).fr 1;have t2:=(A8 HY2).fr 2;have HB2:=AA ((A8 HB1).setCell (p:=⟨w.heap.size,2,none⟩) (Nat.le_refl _) (N0));generalize w1.setCell ⟨w.heap.size,2,none⟩ (N0)=W at*;go_wp2_with fail;refine bodyPost_ret (v:=.agg #[I0 s,I0 z,N0]) (by simp[results,results150,go_sem,r0,r1,r2]) rfl ⟨_,rfl,.inl ⟨rfl,rfl⟩,?_⟩;exact(((A8 HB2).setCell (by simp) _).setCell (by simp) _).setCell (by simp) _
 .have hgl:=ho.lt;have hg2:w.heap.size+2<=g:=by simpa using hg
  have HW:=AA (ho.other (a:=⟨w.heap.size,2,none⟩) (by simp only;omega) (.slice (some ⟨g,0,none⟩) es.length cap));have HY1:=AA Y1;have HY2:=AA Y2;have HB2:=AA ((A8 HB1).setCell (p:=⟨w.heap.size,2,none⟩) (Nat.le_refl _) (.slice (some ⟨g,0,none⟩) es.length cap));have hzs:(w1.setCell ⟨w.heap.size,2,none⟩ (.slice (some ⟨g,0,none⟩) es.length cap)).heap.size=w1.heap.size:=by simp[World.setCell]
  clear ho CC hb1 X1 X2 Y1 Y2 hg;go_wp2_with fail;generalize w1.setCell ⟨w.heap.size,2,none⟩ (.slice (some ⟨g,0,none⟩) es.length cap)=W at*
  go_loopg [12] es.length (fun kx s wr=>∃k:Nat,s=I0 k/\k<=es.length/\es.length-k<=kx/\Hid (B0 W wr))
  case atStart=>exact⟨0,rfl,Nat.zero_le _,by omega,AA (Below.refl _ _)⟩
  case round=>
   obtain⟨k,rfl,hk,hkx,hB⟩:=hrel;have Z1:=(A8 HY1).next (A8 hB);by_cases hlt:k<es.length
   .obtain⟨x,hx⟩:∃x,es[k]?=some x:=⟨_,List.getElem?_eq_getElem hlt⟩;have o:=(A8 HW).next (A8 hB);have NC:=o.lt;have a0:=o.row.en0 hx;have a1:=o.row.en1 hx;have a2:=o.row.en2 hx;simp only[Nat.zero_add]at a0 a1 a2;have CX:=A8 HO x (List.mem_of_getElem? hx);have hzr:=(A8 hB).size;obtain⟨yp,yd,yt⟩:=x;simp only at a0 a1 a2 CX;have N1:=YC wr ⟨yp,yd,yt⟩;simp only at N1;have O2:=o.next (AB wr (.cells #[S0 yp,S0 yd,.bool yt] 72));have b2:=(Z1.next (AB wr (.cells #[S0 yp,S0 yd,.bool yt] 72))).c2;have p0:=N1.e0;have p1:=N1.e1;have p2:=N1.e2;have r0:=O2.row.en0 hx;have r1:=O2.row.en1 hx;have r2:=O2.row.en2 hx;have rf:=O2.frozen;have hg3:=O2.lt;simp only[Nat.zero_add]at r0 r1 r2 p0 p1 p2;have HB3:=AA (AL (A8 hB) (AB wr (.cells #[S0 yp,S0 yd,.bool yt] 72)));clear hx o O2 N1 Z1;go_wp2_with fail;generalize wr.alloc (.cells #[S0 yp,S0 yd,.bool yt] 72)=W0 at*;have b2':=fun d os=>cell_regrown b2 d os;have p0':=fun d os=>cell_regrown p0 d os;have p1':=fun d os=>cell_regrown p1 d os;have p2':=fun d os=>cell_regrown p2 d os;have r0':=fun d os=>cell_regrown r0 d os;have r1':=fun d os=>cell_regrown r1 d os;have r2':=fun d os=>cell_regrown r2 d os;have t0:∀d os,(Sort.grow (redrawn W0 d) os).frozen? ⟨g,k*3,none⟩=false:=fun d os=>by rw[(below_regrown W0 d os).frozen (p:=⟨g,k*3,none⟩) hg3];exact rf _
    have t1:∀d os,(Sort.grow (redrawn W0 d) os).frozen? ⟨g,k*3+1,none⟩=false:=fun d os=>by rw[(below_regrown W0 d os).frozen (p:=⟨g,k*3+1,none⟩) hg3];exact rf _
    have t2:∀d os,(Sort.grow (redrawn W0 d) os).frozen? ⟨g,k*3+2,none⟩=false:=fun d os=>by rw[(below_regrown W0 d os).frozen (p:=⟨g,k*3+2,none⟩) hg3];exact rf _
    have s0:=fun d os=>BJ (r0' d os);have s1:=fun d os=>BJ (r1' d os);have s2:=fun d os=>BJ (r2' d os);have c0:=fun d os=>Calls.regrown_of (w:=W0) (d:=d) (os:=os) (CX _);clear rf p0 p1 p2 r0 r1 r2 b2;refine wp_region_quiet_below (by kernel_rfl) (by kernel_rfl) ?_
    repeat (first|go_big_quiet_step (with_reducible exact c0 _ _)|quiet_step (with_reducible exact c0 _ _))
    refine wpQuiet_nil ?_;intro _ hw';obtain⟨⟨dq,osq⟩,hw''⟩:=hw';subst hw'';have hB2:=AA (AL (A8 HB3) (below_regrown W0 dq osq));generalize Sort.grow (redrawn W0 dq) osq=w2 at*;clear b2' p0' p1' p2' r0' r1' r2' t0 t1 t2 s0 s1 s2 c0 CX;go_wp2_with fail
    go_roundg (es.length-(k+1))
    case measure=>omega
    case rel=>exact⟨k+1,rfl,by omega,Nat.le_refl _,hB2⟩
   .have Z2:=(A8 HY2).next (A8 hB);have q0:=Z1.c0;have q1:=Z1.c1;have q2:=Z1.c2;have r0:=Z2.c0;have r1:=Z2.c1;have r2:=Z2.c2;have t0:=Z2.fr 0;have t1:=Z2.fr 1;have t2:=Z2.fr 2;have O2:=(A8 HW).next (A8 hB);clear Z1 Z2;go_wp2_with fail;refine bodyPost_ret (v:=.agg #[I0 s,I0 z,.slice (some ⟨g,0,none⟩) es.length cap]) (by simp[results,results150,go_sem,r0,r1,r2]) rfl ⟨_,rfl,.inr ⟨g,cap,rfl,by omega,?_⟩,?_⟩
    .exact((O2.other (by simp only;omega) _).other (by simp only;omega) _).other (by simp only;omega) _
    .exact(((AL (A8 HB2) (A8 hB)).setCell (by simp) _).setCell (by simp) _).setCell (by simp) _
theorem A64(n:En)(p:List UInt8)(w:World):
  Calls prog 70 #[enV n,S0 p] w (R0 w (I0 (Lib.compareBytes n.p p))):=by
 unfold enV;go_enter func70,ntmps70;go_wp2_with fail;refine(strings_Compare _ _ _).mono ?_;rintro e w1 ⟨rfl,rfl⟩;go_wp2_with fail;go_ret;exact⟨rfl,AB _ _⟩
def nO(R:List En)(p:List UInt8):Bool:=match R with
 |[]=>false
 |f::_=>decide (f.p=p)
theorem AH1(A R:List En)(p:List UInt8)(lo:∀a∈A,bl a.p p=true)(hi:∀a∈R,bl a.p p=false)(i:Nat)(h:i<A.length+R.length):∃y,(A++R)[i]?=some y/\bl y.p p=decide (i<A.length):=by
 by_cases h1:i<A.length
 .refine⟨A[i],by rw[List.getElem?_append_left h1,List.getElem?_eq_getElem h1],?_⟩;rw[lo _ (List.getElem_mem h1)];simp[h1]
 .have h2:i-A.length<R.length:=by omega
  refine⟨R[i-A.length],by rw[List.getElem?_append_right (by omega),List.getElem?_eq_getElem h2],?_⟩;rw[hi _ (List.getElem_mem h2)];simp[h1]
theorem BI7(b off cap:Nat)(A R:List En)(p:List UInt8)(w:World)(hcap:A.length+R.length<=100000)(hb:b<w.heap.size)(h:BL w b off (AO (A++R)))
  (lo:∀a∈A,bl a.p p=true) (hi:∀a∈R,bl a.p p=false):
  Calls prog 69 #[.slice (some ⟨b,off,none⟩) (A.length+R.length) cap,S0 p,.func (.func 70) #[] #[]] w fun e w'=>
   e=.returned (.tuple #[I0 A.length,.bool (nO R p)])/\B0 w w':=by
 have H:=AA h;have SG:=AA (AH1 A R p lo hi);obtain⟨fin,hfin⟩:∃x,nO R p=x:=⟨_,rfl⟩;have HF:=AA hfin;rw[hfin];clear h hfin lo hi;go_enter func69,ntmps69;go_wp2_with fail
 go_loopg [9,10] (A.length+R.length) (fun kx s9 s10 wr=>∃lo hi:Nat,s9=I0 lo/\s10=I0 hi/\lo<=A.length/\A.length<=hi/\hi<=A.length+R.length/\hi-lo<=kx/\Hid (B0 w wr))
 case atStart=>exact⟨0,A.length+R.length,rfl,rfl,Nat.zero_le _,by omega,Nat.le_refl _,by omega,AA (Below.refl _ _)⟩
 case round=>
  obtain⟨lo,hi,rfl,rfl,h1,h2,h3,hg,hB⟩:=hrel;by_cases hlt:lo<hi
  .obtain⟨y,hy,hyn⟩:=A8 SG ((lo+hi)/2) (by omega);have HY:=AA hyn;have r:=(A8 H).kept (A8 hB) hb;have e0:=r.en0 hy;have e1:=r.en1 hy;have e2:=r.en2 hy;clear hyn hy r;have hc:=A04 y.p p;rw[A8 HY]at hc;have CM:=fun W=>A64 y p W;generalize Lib.compareBytes y.p p=cv at hc CM;by_cases hm:(lo+hi)/2<A.length
   .have hn:cv<0:=by simpa [hm]using hc
    clear hc;go_wp2_with fail;refine(CM _).mono ?_;rintro e w1 ⟨rfl,hb1⟩;have hB2:B0 w w1:=(A8 hB).trans (hb1.mono (A8 hB).size);clear CM;go_wp2_with fail
    go_roundg (hi-((lo+hi)/2+1))
    case measure=>omega
    case rel=>exact⟨(lo+hi)/2+1,hi,by rw[show ((lo:Int)+(hi:Int))/2+1=(((lo+hi)/2+1:Nat):Int) by omega],rfl,by omega,h2,h3,Nat.le_refl _,AA hB2⟩
   .have hn:¬cv<0:=by simpa [hm]using hc
    clear hc;go_wp2_with fail;refine(CM _).mono ?_;rintro e w1 ⟨rfl,hb1⟩;have hB2:B0 w w1:=(A8 hB).trans (hb1.mono (A8 hB).size);clear CM;go_wp2_with fail
    go_roundg ((lo+hi)/2-lo)
    case measure=>omega
    case rel=>exact⟨lo,(lo+hi)/2,rfl,by rw[show ((lo:Int)+(hi:Int))/2=(((lo+hi)/2:Nat):Int) by omega],h1,by omega,by omega,Nat.le_refl _,AA hB2⟩
  .obtain rfl:lo=A.length:=by omega
   obtain rfl:hi=A.length:=by omega
   cases R with
   |nil=>
    go_wp2_with fail
    go_ret2
    exact⟨by rw[<-A8 HF];rfl,A8 hB⟩
   |cons f R=>
    have r:=(A8 H).kept (A8 hB) hb;have hy:(A++f::R)[A.length]?=some f:=by simp
    have e0:=r.en0 hy;have e1:=r.en1 hy;have e2:=r.en2 hy;clear hy r;have hc:=aV f.p p;have CM:=fun W=>A64 f p W;have hf:fin=decide (f.p=p):=(A8 HF).symm;rw[<-hc]at hf;clear hc HF;generalize Lib.compareBytes f.p p=cv at hf CM;subst hf;simp only[List.length_cons];go_wp2_with fail;refine(CM _).mono ?_;rintro e w1 ⟨rfl,hb1⟩;have hB2:B0 w w1:=(A8 hB).trans (hb1.mono (A8 hB).size);clear CM;go_wp2_with fail
    go_ret2
    exact⟨by rfl,hB2⟩
theorem AZ5(a:Option Addr)(cap:Nat)(p:List UInt8)(w:World):
  Calls prog 69 #[.slice a 0 cap,S0 p,.func (.func 70) #[] #[]] w fun e w'=>
   e=.returned (.tuple #[I0 0,.bool false])/\B0 w w':=by
 go_enter func69,ntmps69;go_wp2_with fail
 go_loopg [9,10] 1 (fun _ s9 s10 wr=>s9=I0 0/\s10=I0 0/\Hid (B0 w wr))
 case atStart=>exact⟨rfl,rfl,AA (Below.refl _ _)⟩
 case round=>
  obtain⟨rfl,rfl,hB⟩:=hrel;go_wp2_with fail
  go_ret2
  exact⟨rfl,A8 hB⟩
theorem gK(v:Value)(ns A R:List En)(p:List UInt8)(w:World)(hv:BQ w v ns)(hl:ns.length<=100000)(he:ns=A++R)(lo:∀a∈A,bl a.p p=true)(hi:∀a∈R,bl a.p p=false):
  Calls prog 44 #[v,S0 p] w (R0 w (.tuple #[I0 A.length,.bool (nO R p)])):=by
 have C:∀W:World,B0 w W->Calls prog 69 #[v,S0 p,.func (.func 70) #[] #[]] W fun e w'=>
   e=.returned (.tuple #[I0 A.length,.bool (nO R p)])/\B0 W w':=fun W hW=>by
  rcases hv with⟨a,cap,rfl,h0,_⟩|⟨b,off,cap,rfl,_,_,hb,_,hr⟩
  .rw[h0]at he;obtain⟨rfl,rfl⟩:A=[]/\R=[]:=by
    have:=congrArg List.length he;simp at this;exact⟨List.eq_nil_of_length_eq_zero (by omega),List.eq_nil_of_length_eq_zero (by omega)⟩
   exact AZ5 a cap p W
  .subst he;rw[List.length_append];exact BI7 b off cap A R p W (by simpa using hl) (Nat.lt_of_lt_of_le hb hW.size) (hr.kept hW hb) lo hi
 have C':=AA C;obtain⟨a,c,rfl⟩:=AU hv;clear C hv hl he lo hi;generalize nO R p=hd at C'⊢;go_enter func44,ntmps44;go_wp2_with fail;refine(A8 C' _ (Below.refl _ _)).mono ?_;rintro e w1 ⟨rfl,hb1⟩;go_wp2_with fail
 go_ret2
 exact⟨rfl,hb1⟩
theorem gQ(v:Value)(ns A B:List En)(f:En)(p:List UInt8)(w:World)(hv:BQ w v ns)(hl:ns.length<=100000)(T:kJ ns A f B p):
  Calls prog 44 #[v,S0 p] w (R0 w (.tuple #[I0 A.length,.bool true])):=by
 have:=gK v ns A (f::B) p w hv hl T.eq T.lo (fun a ha=>by
  rcases List.mem_cons.1 ha with rfl|h
  .rw[T.nm];exact MQ _
  .exact JW (T.hi a h))
 rwa[show nO (f::B) p=true from by simp[nO,T.nm]]at this
theorem sW(v:Value)(ns A B:List En)(p:List UInt8)(w:World)(hv:BQ w v ns)(hl:ns.length<=100000)(G:C77 ns A B p):
  Calls prog 44 #[v,S0 p] w (R0 w (.tuple #[I0 A.length,.bool false])):=by
 have:=gK v ns A B p w hv hl G.eq G.lo (fun a ha=>JW (G.hi a ha));rwa[show nO B p=false from by
  cases B with
  |nil=>rfl
  |cons f B=>have:=PZ (G.hi f (by simp));simp[nO,this.symm]]at this
theorem AZ6(s z:Int)(v:Value)(es:List En)(p:List UInt8)(w:World)(hv:BQ w v es)(hs:kK es)(hl:es.length<=100000)(ha:AK7 es):
  Calls prog 20 #[clV s z v,S0 p] w (R0 w (.tuple #[enV (CM5 (aQ es p)),.bool (aQ es p).isSome])):=by
 have KR:=AA (crow hv);have HW:=AA (sO p es ha);have HV:=AA hv;have HS:=AA hs;obtain⟨a,c,rfl⟩:=AU hv;unfold clV enV;clear hv hs ha;rcases A8 HW with⟨A,f,B,T⟩|⟨A,B,G⟩
 .rw[T.look];simp only[CM5,Option.isSome_some];have hAl:A.length<es.length:=by rw[T.eq];simp
  have hAi:(A.length:Int)<(es.length:Int):=by omega
  have hf:es[A.length]?=some f:=by rw[T.eq];simp
  have CF:=fun W (hW:B0 w W)=>gQ _ es A B f p W ((A8 HV).next hW) hl T;have CO:=fun W=>nM f W (A8 HS f (List.mem_of_getElem? hf)).1 (A8 HS f (List.mem_of_getElem? hf)).2;have HF:=AA hf;clear T HW hf;go_enter func20,ntmps20;go_wp2_with fail;refine(CF _ (AL (AB _ _) (AB _ _))).mono ?_;rintro e w1 ⟨rfl,hb1⟩;have HB1:=AA (AL (AL (AB w _) (AB _ _)) hb1);obtain⟨b,off,cap,he,hb,r⟩:=A8 KR w1 (A8 HB1) A.length f (A8 HF);simp only[Value.slice.injEq]at he;obtain⟨rfl,_,rfl⟩:=he;have d0:=r.en0 (A8 HF);have d1:=r.en1 (A8 HF);have d2:=r.en2 (A8 HF);have X1:=((JD.new w s z (.slice (some ⟨b,off,none⟩) es.length c)).next (AB _ (.cells #[.string ⟨#[]⟩,.string ⟨#[]⟩,.bool false] 72))).next hb1;have X2:=(YC (w.alloc (.cells #[I0 s,I0 z,.slice (some ⟨b,off,none⟩) es.length c] 77)) noneE).QK hb1 (by simp);have hs1:(w.alloc (.cells #[I0 s,I0 z,.slice (some ⟨b,off,none⟩) es.length c] 77)).heap.size=w.heap.size+1:=by simp
  rw[hs1]at X2;have c2:=X1.c2;have hz1:=hb1.size;have HX2:=AA X2;clear X1 X2 CF hb1 r;go_wp2_with fail;refine(CO _).mono ?_;rintro e w2 ⟨rfl,hb2⟩;have Y2:=(A8 HX2).QK hb2 (A8 HX2).ltz;have r0:=Y2.e0;have r1:=Y2.e1;have r2:=Y2.e2;have f0:=Y2.frz 0;have f1:=Y2.frz 1;have f2:=Y2.frz 2;have HB2:=AA (AL (A8 HB1) hb2);clear CO hb2 Y2;go_wp2_with fail;refine bodyPost_ret (v:=.tuple #[.agg #[S0 f.p,S0 f.d,.bool f.t],.bool true]) (by simp[results,results20,go_sem,r0,r1,r2]) rfl ⟨rfl,?_⟩;exact(((A8 HB2).setCell (by simp) _).setCell (by simp) _).setCell (by simp) _
 .rw[G.look];simp only[CM5,Option.isSome_none,noneE];have CF:=fun W (hW:B0 w W)=>sW _ es A B p W ((A8 HV).next hW) hl G;clear G HW;go_enter func20,ntmps20;go_wp2_with fail;refine(CF _ (AL (AB _ _) (AB _ _))).mono ?_;rintro e w1 ⟨rfl,hb1⟩;have HB1:=AA (AL (AL (AB w _) (AB _ _)) hb1);have X2:=(YC (w.alloc (.cells #[I0 s,I0 z,.slice a es.length c] 77)) noneE).QK hb1 (by simp);have hs1:(w.alloc (.cells #[I0 s,I0 z,.slice a es.length c] 77)).heap.size=w.heap.size+1:=by simp
  rw[hs1]at X2;have r0:=X2.e0;have r1:=X2.e1;have r2:=X2.e2;have f0:=X2.frz 0;have f1:=X2.frz 1;have f2:=X2.frz 2;simp only[noneE]at r0 r1 r2;clear CF hb1 X2;go_wp2_with fail;refine bodyPost_ret (v:=.tuple #[.agg #[.string ⟨[].toArray⟩,.string ⟨[].toArray⟩,.bool false],.bool false]) (by simp[results,results20,go_sem,r0,r1,r2]) rfl ⟨rfl,?_⟩;exact(((A8 HB1).setCell (by simp) _).setCell (by simp) _).setCell (by simp) _
theorem BI8(s:Int)(w:World)(h1:1<=s)(h2:s<=2147483647):
  Calls prog 49 #[I0 s] w (R0 w (.tuple #[clV s 0 (N0),I0 0])):=by
 unfold clV;go_enter func49,ntmps49;go_wp2_with fail;refine bodyPost_ret (v:=.tuple #[.agg #[I0 s,I0 0,N0],I0 0]) (by simp[results,results49,go_sem]) rfl ⟨rfl,?_⟩
 first|exact AB _ _|exact(((AB w _).setCell (by simp) _).setCell (by simp) _).setCell (by simp) _
theorem C08(s z z':Int)(a:Option Addr)(n c:Nat)(w:World)(h:z'<z):
  Calls prog 110 #[clV s z (.slice a n c),I0 z'] w (R0 w (.tuple #[clV 0 0 (N0),I0 15])):=by
 unfold clV;go_enter func110,ntmps110;go_wp2_with fail;refine bodyPost_ret (v:=.tuple #[.agg #[I0 0,I0 0,N0],I0 15]) (by simp[results,results110,go_sem]) rfl ⟨rfl,?_⟩
 first|exact AL (AB _ _) (AB _ _)|exact(((AL (AB w _) (AB _ _)).setCell (by simp) _).setCell (by simp) _).setCell (by simp) _
theorem A65(s z z':Int)(v:Value)(es:List En)(w:World)(hv:BQ w v es)(hs:kK es)(hl:es.length*40<=140737488355328)(h:z<=z'):
  Calls prog 110 #[clV s z v,I0 z'] w fun e w'=>∃v',e=.returned (.tuple #[clV s z' v',I0 0])/\BD w' w.heap.size v' es/\B0 w w':=by
 have CC:=fun W (hW:B0 w W)=>WL s z v es W (hv.next hW) hs hl;obtain⟨a,c,rfl⟩:=AU hv;unfold clV at CC⊢;clear hv hs;go_enter func110,ntmps110;go_wp2_with fail;refine(CC _ (AL (AB _ _) (AB _ _))).mono ?_;rintro e w1 ⟨v1,rfl,ho1,hb1⟩;obtain⟨a1,c1,rfl,_⟩:=ho1.slice;have X2:=(JD.new (w.alloc (.cells #[I0 s,I0 z,.slice a es.length c] 77)) 0 0 (N0)).next hb1;have hs1:(w.alloc (.cells #[I0 s,I0 z,.slice a es.length c] 77)).heap.size=w.heap.size+1:=by simp
 rw[hs1]at X2;have hz1:=hb1.size;have hz2:w.heap.size+2<=w1.heap.size:=by simpa using hz1
 have B2:=AL (AL (AL (AB w _) (AB _ _)) hb1) (AB w1 (.cells #[I0 s,I0 z',.slice a1 es.length c1] 77));have O2:=ho1.next (AB w1 (.cells #[I0 s,I0 z',.slice a1 es.length c1] 77));have Y2:=X2.next (AB w1 (.cells #[I0 s,I0 z',.slice a1 es.length c1] 77));have Y1:=JD.new w1 s z' (.slice a1 es.length c1);have r0:=Y2.c0;have r1:=Y2.c1;have r2:=Y2.c2;have f0:=Y2.fr 0;have f1:=Y2.fr 1;have f2:=Y2.fr 2;have q0:=Y1.c0;have q1:=Y1.c1;have q2:=Y1.c2;have HB2:=AA B2;have HO2:=AA O2;clear CC hb1 X2 Y2 Y1 B2 O2 hz1;have hO1:=AA ho1;clear ho1;go_wp2_with fail;refine bodyPost_ret (v:=.tuple #[.agg #[I0 s,I0 z',.slice a1 es.length c1],I0 0]) (by simp[results,results110,go_sem,r0,r1,r2]) rfl ⟨_,rfl,?_,?_⟩
 .exact((((A8 HO2).KJ (by simp) _).KJ (by simp) _).KJ (by simp) _).lower (by simp;omega)
 .exact(((A8 HB2).setCell (by simp) _).setCell (by simp) _).setCell (by simp) _
def chP(s:Int)(l:List Nt):List (List UInt8):=(l.filter fun n=>decide (n.s=s)&& !decide (n.k=4)).map fun n=>n.p
def UF(l:List (List UInt8)):List (List UInt8):=l.mergeSort fun x y=>decide (x<=y)
theorem BL4(s:Int)(l:List Nt)(p:List UInt8):BH8 s l p=decide (p∈UF (chP s l)):=by
 rw[Bool.eq_iff_iff];constructor
 .intro h;obtain⟨n,h1,h2⟩:=List.any_eq_true.1 h;rw[Bool.and_eq_true]at h2;exact decide_eq_true (List.mem_mergeSort.2 (List.mem_map.2 ⟨n,List.mem_filter.2 ⟨h1,h2.1⟩,of_decide_eq_true h2.2⟩))
 .intro h;obtain⟨n,h1,h2⟩:=List.mem_map.1 (List.mem_mergeSort.1 (of_decide_eq_true h));obtain⟨h3,h4⟩:=List.mem_filter.1 h1;exact List.any_eq_true.2 ⟨n,h3,by rw[Bool.and_eq_true];exact⟨h4,decide_eq_true h2⟩⟩
theorem BL5(x y:List UInt8):decide (x<=y)= !bl y x:=by
 rw[show bl y x=decide (y<x)from Go.Proofs.bytesLess_eq y x];by_cases h:y<x
 .simp[h,List.not_le.2 h]
 .simp[h,List.not_lt.1 h]
theorem B26{a b c:List UInt8}(h1:bl b a=false)(h2:bl c b=false):bl c a=false:=by
 cases h:bl c a with
 |false=>rfl
 |true=>
  cases h3:bl a b with
  |true=>rw[NV _ _ _ h h3]at h2;cases h2
  |false=>rw[P6 _ _ h3 h1]at h;rw[h]at h2;cases h2
theorem B27(l:List (List UInt8)):(UF l).Pairwise fun a b=>bl b a=false:=by
 have:=List.pairwise_mergeSort (le:=fun x y:List UInt8=>decide (x<=y)) (fun a b c h1 h2=>by
  rw[BL5]at h1 h2⊢;simp only[Bool.not_eq_true']at h1 h2⊢;exact B26 h1 h2) (fun a b=>by
  rw[BL5,BL5]
  cases h:bl b a with
  |false=>rfl
  |true=>rw[JW h];rfl) l
 refine this.imp fun {a b} h=>?_;rw[BL5]at h;simpa using h
theorem uF(p:List UInt8):∀l:List (List UInt8),(l.Pairwise fun a b=>bl b a=false)->∃A R,l=A++R/\(∀a∈A,bl a p=true)/\(∀a∈R,bl a p=false)/\(decide (p∈l)=match R with|[]=>false|f::_=>decide (f=p))
 |[],_=>⟨[],[],rfl,by simp,by simp,by simp⟩
 |x::r,h=>by
  obtain⟨hx,hr⟩:=List.pairwise_cons.1 h
  cases h1:bl x p with
  |true=>
   obtain⟨A,R,e,lo,hi,hm⟩:=uF p r hr;refine⟨x::A,R,by rw[e];rfl,by simp[h1];exact lo,hi,?_⟩;rw[<-hm];have:p≠x:=fun e=>by rw[e,MQ]at h1;cases h1
   simp[this]
  |false=>
   refine⟨[],x::r,rfl,by simp,?_,?_⟩
   .intro a ha;rcases List.mem_cons.1 ha with rfl|ha
    .exact h1
    .cases hb:bl a p with
     |false=>rfl
     |true=>
      have h2:=hx a ha
      cases h3:bl x a with
      |true=>rw[NV _ _ _ h3 hb]at h1;cases h1
      |false=>rw[P6 _ _ h3 h2,hb]at h1;cases h1
   .by_cases hp:x=p
    .simp[hp]
    .have:p∉x::r:=by
      intro hm;rcases List.mem_cons.1 hm with rfl|hm
      .exact hp rfl
      .have h2:=hx p hm;exact hp (P6 _ _ h1 h2)
     simp[this,hp]
theorem B28(x:List UInt8)(w:World):Calls prog 243 #[S0 x] w fun e w'=>e=.returned (.bool false)/\w'=w:=by
 go_enter func243,ntmps243
 go_wp2
 go_ret;exact⟨by simp,rfl⟩
theorem B29(x:List UInt8)(w:World):Calls prog 228 #[S0 x] w fun e w'=>e=.returned (.bool false)/\w'=w:=by
 go_enter func228,ntmps228
 go_wp2
 go_ret;exact⟨by simp,rfl⟩
theorem AI3(x y:List UInt8)(w:World):Calls prog 227 #[S0 x,S0 y] w fun e w'=>e=.returned (.bool (bl x y))/\w'=w:=by
 go_enter func227,ntmps227;go_wp2_with fail;refine(B28 _ _).mono ?_;rintro e w1 ⟨rfl,rfl⟩;go_wp2_with fail;go_ret;exact⟨rfl,rfl⟩
def CH4(R:List (List UInt8))(p:List UInt8):Bool:=match R with
 |[]=>false
 |f::_=>decide (f=p)
theorem AI4(A R:List (List UInt8))(p:List UInt8)(lo:∀a∈A,bl a p=true)(hi:∀a∈R,bl a p=false)(i:Nat)(h:i<A.length+R.length):∃y,(A++R)[i]?=some y/\bl y p=decide (i<A.length):=by
 by_cases h1:i<A.length
 .refine⟨A[i],by rw[List.getElem?_append_left h1,List.getElem?_eq_getElem h1],?_⟩;rw[lo _ (List.getElem_mem h1)];simp[h1]
 .have h2:i-A.length<R.length:=by omega
  refine⟨R[i-A.length],by rw[List.getElem?_append_right (by omega),List.getElem?_eq_getElem h2],?_⟩;rw[hi _ (List.getElem_mem h2)];simp[h1]
theorem C50(b off cap:Nat)(A R:List (List UInt8))(p:List UInt8)(w:World)(hcap:A.length+R.length<=281474976710656)(h:BL w b off (AO (A++R)))
  (lo:∀a∈A,bl a p=true) (hi:∀a∈R,bl a p=false):
  Calls prog 190 #[.slice (some ⟨b,off,none⟩) (A.length+R.length) cap,S0 p] w fun e w'=>
   e=.returned (.tuple #[I0 A.length,.bool (CH4 R p)])/\w'=w:=by
 have H:=AA h;have SG:=AA (AI4 A R p lo hi);obtain⟨fin,hfin⟩:∃x,CH4 R p=x:=⟨_,rfl⟩;have HF:=AA hfin;rw[hfin];clear h hfin lo hi;go_enter func190,ntmps190;go_wp2_with fail
 go_loopg [7,8] (A.length+R.length) (fun kx s9 s10 wr=>∃lo hi:Nat,s9=I0 lo/\s10=I0 hi/\lo<=A.length/\A.length<=hi/\hi<=A.length+R.length/\hi-lo<=kx/\wr=w)
 case atStart=>exact⟨0,A.length+R.length,rfl,rfl,Nat.zero_le _,by omega,Nat.le_refl _,by omega,rfl⟩
 case round=>
  obtain⟨lo,hi,rfl,rfl,h1,h2,h3,hg,rfl⟩:=hrel;by_cases hlt:lo<hi
  .obtain⟨y,hy,hyn⟩:=A8 SG ((lo+hi)/2) (by omega);have e0:=(A8 H).s0 hy;clear hy;have CM:=fun W=>AI3 y p W;rw[hyn]at CM;clear hyn;by_cases hm:(lo+hi)/2<A.length
   .simp only[hm,decide_true]at CM;go_wp2_with fail;refine(CM _).mono ?_;rintro e w1 ⟨rfl,rfl⟩;clear CM;go_wp2_with fail
    go_roundg (hi-((lo+hi)/2+1))
    case measure=>omega
    case rel=>exact⟨(lo+hi)/2+1,hi,by rw[show ((lo:Int)+(hi:Int))/2+1=(((lo+hi)/2+1:Nat):Int) by omega],rfl,by omega,h2,h3,Nat.le_refl _,rfl⟩
   .simp only[hm,decide_false]at CM;go_wp2_with fail;refine(CM _).mono ?_;rintro e w1 ⟨rfl,rfl⟩;clear CM;go_wp2_with fail
    go_roundg ((lo+hi)/2-lo)
    case measure=>omega
    case rel=>exact⟨lo,(lo+hi)/2,rfl,by rw[show ((lo:Int)+(hi:Int))/2=(((lo+hi)/2:Nat):Int) by omega],h1,by omega,by omega,Nat.le_refl _,rfl⟩
  .obtain rfl:lo=A.length:=by omega
   obtain rfl:hi=A.length:=by omega
   cases R with
   |nil=>
    go_wp2_with fail
    go_ret2
    exact⟨by rw[<-A8 HF];rfl,rfl⟩
   |cons f R=>
    have e0:=(A8 H).s0 (show (A++f::R)[A.length]?=some f by simp);have hf:decide (f=p)=fin:=A8 HF;clear HF;simp only[List.length_cons];by_cases hfs:f=p
    .subst hfs;simp only[decide_true]at hf;subst hf;go_wp2_with fail
     go_ret2
     exact⟨rfl,rfl⟩
    .simp only[hfs,decide_false]at hf;subst hf;have hq:(f==p)=false:=by simpa using hfs
     clear hfs;go_wp2_with fail;refine(B29 _ _).mono ?_;rintro e w1 ⟨rfl,rfl⟩;go_wp2_with fail
     go_ret2
     exact⟨rfl,rfl⟩
theorem BL6(a:Option Addr)(cap:Nat)(p:List UInt8)(w:World):
  Calls prog 190 #[.slice a 0 cap,S0 p] w fun e w'=>e=.returned (.tuple #[I0 0,.bool false])/\w'=w:=by
 go_enter func190,ntmps190;go_wp2_with fail
 go_loopg [7,8] 1 (fun _ s9 s10 wr=>s9=I0 0/\s10=I0 0/\wr=w)
 case atStart=>exact⟨rfl,rfl,rfl⟩
 case round=>
  obtain⟨rfl,rfl,rfl⟩:=hrel;go_wp2_with fail
  go_ret2
  exact⟨rfl,rfl⟩
theorem AI5(v:Value)(ss:List (List UInt8))(p:List UInt8)(w:World)(hv:BQ w v ss)(hl:ss.length<=281474976710656)(hs:ss.Pairwise fun a b=>bl b a=false):
  ∃i:Nat,Calls prog 190 #[v,S0 p] w fun e w'=>e=.returned (.tuple #[I0 i,.bool (decide (p∈ss))])/\w'=w:=by
 rcases hv with⟨a,cap,rfl,rfl,_⟩|⟨b,off,cap,rfl,_,_,hb,_,hr⟩
 .refine⟨0,?_⟩;have:=BL6 a cap p w;simpa using this
 .obtain⟨A,R,rfl,lo,hi,hm⟩:=uF p ss hs;refine⟨A.length,?_⟩;have:=C50 b off cap A R p w (by simpa using hl) hr lo hi;rw[List.length_append];rw[hm]
  cases R<;>exact this
def VT(m:Nat):List Value:=(Builtin.zeroCells (Value.agg #[.string ⟨#[]⟩,.string ⟨#[]⟩,.bool false]).cells m).toList
theorem RV(m:Nat):(VT m).length=m*3:=by
 rw[VT,Array.length_toList,size_zeroCells];rfl
theorem AI6(m:Nat):∀u∈VT m,u.oneCell'=true:=by
 intro u hu;simp only[VT,Builtin.zeroCells,Value.cells,Array.toList_map,List.mem_map]at hu;obtain⟨i,_,rfl⟩:=hu;have:i%3<3:=Nat.mod_lt _ (by decide);show (#[Value.string ⟨#[]⟩,.string ⟨#[]⟩,.bool false][i%3]!).oneCell'=true;rcases(show i%3=0\/i%3=1\/i%3=2 by omega)with e|e|e<;>rw[e]<;>rfl
theorem AI7(w:World)(ty:TypeId)(b o m c:Nat)(hm:0<m)(hc:∀j,j<m*3->(w.cell? ⟨b,o+j,none⟩).isSome=true)(hf:∀j,j<m*3->w.frozen? ⟨b,o+j,none⟩=false):
  (Builtin.clear_ #[75] ty #[.slice (some ⟨b,o,none⟩) m c]).run prog w=.ok (.tuple #[]) (w.setCells b o (VT m)):=by
 have hst:=run_storeCells_cells (P:=prog) b o (VT m) 0 w (by rw[RV];simpa using hc) (by rw[RV];simpa using hf) (AI6 m);simp only[Nat.add_zero]at hst;obtain⟨k,rfl⟩:∃k,m=k+1:=⟨m-1,by omega⟩;simp[Builtin.clear_,run_underlying underlying75];exact(by
  have:=hst;unfold VT at this⊢;rw[this];rfl)
structure B30(g:FuncId)(B:Nat)(q:Nat)(pr:En->Bool)(I:World->Prop):Prop where
 two:g=189
 keep:∀W V,I W->W.grownBy V (some q)->I V
 gives:∀W x,I W->Calls prog g #[.agg #[S0 x.p,S0 x.d,.bool x.t],P0 B] W fun r w'=>r=.returned (.bool (pr x))/\B0 W w'
theorem C51{g:FuncId}{B q:Nat}{pr:En->Bool}{I:World->Prop}(C:B30 g B q pr I)(b off cap:Nat)(A:List En)(x:En)(R:List En)(w:World)(hi:I w)(hb:b<w.heap.size)(hr:BL w b off (AO (A++x::R)))(hl:(A++x::R).length<=140737488355328)
  (hA:∀a∈A,pr a=false) (hx:pr x=true):
  Calls prog 226 #[.slice (some ⟨b,off,none⟩) (A++x::R).length cap,.func (.func g) #[] #[P0 B]] w (R0 w (I0 A.length)):=by
 have HR:=AA (fun W (hW:B0 w W)=>hr.kept hW hb);have HC:=AA C;have HI:=AA (fun W (hW:B0 w W)=>C.keep w W hi (GV hW));have HX:=AA hx;have HA:=AA hA;have hAn:A.length<(A++x::R).length:=by simp
 obtain⟨n,hn⟩:∃n,(A++x::R).length=n:=⟨_,rfl⟩;rw[hn]at hl hAn⊢;have HN:=AA hn;have two:=C.two;clear hr C hi hx hA hn;subst two
 all_goals
  go_enter func226,ntmps226;go_wp2_with fail
  go_loopg [8] n (fun kx s8 wr=>∃k:Nat,s8=I0 k/\k<=A.length/\n-k<=kx/\Hid (B0 w wr))
  case atStart=>exact⟨0,rfl,Nat.zero_le _,Nat.le_refl _,AA (Below.refl _ _)⟩
  case round=>
   obtain⟨k,rfl,hk,hg,hB⟩:=hrel;have hlt:k<n:=by omega
   obtain⟨y,hy⟩:∃y,(A++x::R)[k]?=some y:=⟨_,List.getElem?_eq_getElem (by rw[A8 HN];exact hlt)⟩;have qr:=A8 HR wr (A8 hB);have d0:=qr.en0 hy;have d1:=qr.en1 hy;have d2:=qr.en2 hy;have hbw:b<wr.heap.size:=Nat.lt_of_lt_of_le hb (A8 hB).size;have CX:=(A8 HC).gives wr y (A8 HI wr (A8 hB));by_cases hka:k<A.length
   .have hp:pr y=false:=A8 HA y (by
     rw[List.getElem?_append_left hka]at hy;exact List.mem_of_getElem? hy)
    rw[hp]at CX;clear qr hy hp;go_wp2_with fail;refine CX.mono ?_;rintro e w1 ⟨rfl,hb1⟩;have hB1:=AL (A8 hB) hb1;clear CX hb1;go_wp2_with fail
    go_roundg (n-(k+1))
    case measure=>omega
    case rel=>exact⟨k+1,rfl,by omega,Nat.le_refl _,AA hB1⟩
   .obtain rfl:k=A.length:=by omega
    have hp:pr y=true:=by
     have:(A++x::R)[A.length]?=some x:=by simp
     rw[this]at hy
     cases hy
     exact A8 HX
    rw[hp]at CX;clear qr hy hp;go_wp2_with fail;refine CX.mono ?_;rintro e w1 ⟨rfl,hb1⟩;have hB1:=AL (A8 hB) hb1;clear CX hb1;go_wp2_with fail;go_ret;exact⟨rfl,hB1⟩
theorem uG(C:B30 g B q pr I)(v:Value)(A:List En)(w:World)(hi:I w)(hv:BQ w v A)(hl:A.length<=140737488355328)(hA:∀a∈A,pr a=false):
  Calls prog 226 #[v,.func (.func g) #[] #[P0 B]] w (R0 w (I0 (-1))):=by
 have KR:∀W,B0 w W->∀k x,A[k]?=some x->∃b off cap,v=.slice (some ⟨b,off,none⟩) A.length cap/\b<w.heap.size/\BL W b off (AO A):=fun W hW k x hx=>by
  obtain⟨b,off,cap,e,hb,hr,_,_⟩:=J7 hv (fun h0=>by obtain⟨h1,_⟩:=List.getElem?_eq_some_iff.1 hx;rw[h0]at h1;simp at h1);exact⟨b,off,cap,e,hb,hr.kept hW hb⟩
 have HKR:=AA KR;have HC:=AA C;have HI:=AA (fun W (hW:B0 w W)=>C.keep w W hi (GV hW));have HA:=AA hA;have two:=C.two;obtain⟨va,vc,rfl⟩:=AU hv;clear C hi hA KR hv;subst two
 all_goals
  go_enter func226,ntmps226;go_wp2_with fail
  go_loopg [8] A.length (fun kx s8 wr=>∃k:Nat,s8=I0 k/\k<=A.length/\A.length-k<=kx/\Hid (B0 w wr))
  case atStart=>exact⟨0,rfl,Nat.zero_le _,Nat.le_refl _,AA (Below.refl _ _)⟩
  case round=>
   obtain⟨k,rfl,hk,hg,hB⟩:=hrel;by_cases hlt:k<A.length
   .obtain⟨y,hy⟩:∃y,A[k]?=some y:=⟨_,List.getElem?_eq_getElem hlt⟩;obtain⟨b,off,cap,he,hb,qr⟩:=A8 HKR wr (A8 hB) k y hy;simp only[Value.slice.injEq]at he;obtain⟨rfl,_,rfl⟩:=he;have d0:=qr.en0 hy;have d1:=qr.en1 hy;have d2:=qr.en2 hy;have hbw:b<wr.heap.size:=Nat.lt_of_lt_of_le hb (A8 hB).size;have CX:=(A8 HC).gives wr y (A8 HI wr (A8 hB));have hp:pr y=false:=A8 HA y (List.mem_of_getElem? hy);rw[hp]at CX;clear qr hy hp;go_wp2_with fail;refine CX.mono ?_;rintro e w1 ⟨rfl,hb1⟩;have hB1:=AL (A8 hB) hb1;clear CX hb1;go_wp2_with fail
    go_roundg (A.length-(k+1))
    case measure=>omega
    case rel=>exact⟨k+1,rfl,by omega,Nat.le_refl _,AA hB1⟩
   .obtain rfl:k=A.length:=by omega
    go_wp2_with fail;go_ret;exact⟨rfl,A8 hB⟩
theorem uH(pr:En->Bool):∀ws:List En,(∀a∈ws,pr a=false)\/∃A x R,ws=A++x::R/\(∀a∈A,pr a=false)/\pr x=true
 |[]=>.inl (by simp)
 |y::r=>by
  cases h:pr y
  .rcases uH pr r with h1|⟨A,x,R,rfl,h1,h2⟩
   .exact .inl (by intro a ha;rcases List.mem_cons.1 ha with rfl|ha;exact h;exact h1 a ha)
   .exact .inr ⟨y::A,x,R,rfl,(by intro a ha;rcases List.mem_cons.1 ha with rfl|ha;exact h;exact h1 a ha),h2⟩
  .exact .inr ⟨[],y,r,rfl,by simp,h⟩
theorem kV{ws:List En}(h:∀a∈ws,pr a=false):ws.filter (fun x=> !pr x)=ws:=by
 rw[List.filter_eq_self];intro a ha;simp[h a ha]
theorem BL7(C:B30 g B q pr I)(cap:Nat)(ws:List En)(w:World)(hi:I w)(ho:DY w q cap ws)(hl:ws.length<=140737488355328):
  Calls prog 188 #[.slice (some ⟨q,0,none⟩) ws.length cap,.func (.func g) #[] #[P0 B]] w fun e w'=>
   e=.returned (.slice (some ⟨q,0,none⟩) (ws.filter (fun x=> !pr x)).length cap)/\DY w' q cap (ws.filter (fun x=> !pr x))/\w.grownBy w' (some q):=by
 rcases uH pr ws with hA|⟨A,x,R,hws,hA,hx⟩
 .rw[kV hA];have CN:=uG C _ ws w hi (BD.seq (.inr ⟨q,cap,rfl,Nat.zero_le _,ho⟩)) hl hA;have HO:=AA ho;have two:=C.two;clear C hA hi ho;subst two
  all_goals
   go_enter func188,ntmps188;go_wp2_with fail;refine CN.mono ?_;rintro e w1 ⟨rfl,hb1⟩;have HB:=AA hb1;clear CN hb1;go_wp2_with fail;go_ret;exact⟨rfl,(A8 HO).next (A8 HB),GV (A8 HB)⟩
 .obtain⟨n,hn⟩:∃n,ws.length=n:=⟨_,rfl⟩;have hAn:A.length<n:=by rw[<-hn,hws];simp
  have hnc:n<=cap:=by rw[<-hn];exact ho.le
  have hcl:=ho.capLe;simp only[maxLen]at hcl;have CA:=C51 C q 0 cap A x R w hi ho.lt (by rw[<-hws];exact ho.row) (by rw[<-hws];exact hl) hA hx;rw[<-hws,hn]at CA;obtain⟨T,hT⟩:∃T,ws.filter (fun x=> !pr x)=T:=⟨_,rfl⟩;rw[hn]at hl⊢;rw[hT];have HTk:Hid (∀j,n<=j->(ws.take j).filter (fun x=> !pr x)=T):=AA (fun j hj=>by rw[List.take_of_length_le (by omega)];exact hT);have HF0:Hid ((ws.take (A.length+1)).filter (fun x=> !pr x)=A):=AA (by
   rw[hws,List.take_append,List.take_of_length_le (by omega),List.filter_append,kV hA];simp[hx])
  have HG0:Hid (ws=A++[x]++ws.drop (A.length+1)):=AA (by
   rw[hws];simp)
  have HN:=AA hn;have HO:=AA ho;have HC:=AA C;have HI:=AA (fun W (hW:w.grownBy W (some q))=>C.keep w W hi hW);have two:=C.two;clear hn hws hA hx ho C hT hi;subst two
  all_goals
   go_enter func188,ntmps188;go_wp2_with fail;refine CA.mono ?_;rintro e w1 ⟨rfl,hb1⟩;have HB:=AA hb1;clear CA hb1;go_wp2_with fail
   go_loopg [5,6] n (fun kx s5 s6 wr=>∃ (j:Nat) (F G:List En),s5=I0 F.length/\s6=I0 j/\j<=n/\n-j<=kx/\F.length+G.length=j/\0<G.length/\Hid ((ws.take j).filter (fun x=> !pr x)=F)/\Hid (DY wr q cap (F++G++ws.drop j))/\Hid (w.grownBy wr (some q)))
   case atStart=>exact⟨A.length+1,A,[x],rfl,rfl,by omega,by omega,rfl,by simp,HF0,AA (by rw[<-A8 HG0];exact(A8 HO).next (A8 HB)),AA (GV (A8 HB))⟩
   case round=>
    obtain⟨j,F,G,rfl,rfl,hj,hg,hFG,hG0,hF,hO,hW⟩:=hrel;have hFj:F.length<j:=by omega
    by_cases hlt:j<n
    .obtain⟨y,hy⟩:∃y,ws[j]?=some y:=⟨_,List.getElem?_eq_getElem (by rw[A8 HN];exact hlt)⟩;have hd:ws.drop j=y::ws.drop (j+1):=by
      obtain⟨h1,h2⟩:=List.getElem?_eq_some_iff.1 hy;rw[List.drop_eq_getElem_cons h1,h2]
     have hf:(ws.take (j+1)).filter (fun x=> !pr x)=F++(if pr y=true then []else [y]):=by
      rw[LD hy,List.filter_append,A8 hF]
      cases hpy:pr y<;>simp[hpy]
     rw[hd]at hO;have hyr:(F++G++y::ws.drop (j+1))[j]?=some y:=by
      rw[List.getElem?_append_right (by simp;omega)];simp[hFG]
     obtain⟨z,G',rfl⟩:∃z G',G=z::G':=by
      cases G with
      |nil=>simp at hG0
      |cons z G'=>exact⟨z,G',rfl⟩
     have hzr:(F++z::G'++y::ws.drop (j+1))[F.length]?=some z:=by simp
     have d0:=(A8 hO).row.en0 hyr;have d1:=(A8 hO).row.en1 hyr;have d2:=(A8 hO).row.en2 hyr;have hq:=(A8 hO).lt;have hqn:q≠wr.heap.size:=by omega
     simp only[Nat.zero_add]at d0 d1 d2;have HW1:=AA (BZ (A8 hW) (GV (AB wr (.cells #[S0 y.p,S0 y.d,.bool y.t] 72))));have CX:=(A8 HC).gives _ y (A8 HI _ (A8 HW1));have hjn:(j:Int)<(n:Int):=by omega
     by_cases hp:pr y=true
     .rw[hp]at CX hf;rw[if_pos rfl,List.append_nil]at hf;have HF:=AA hf;clear hy hd hf hyr hp hzr;go_wp2_with fail;refine CX.mono ?_;rintro e w2 ⟨rfl,hb2⟩;have HO2:Hid (DY w2 q cap (F++(z::G'++[y])++ws.drop (j+1))):=AA (by
       have:=((A8 hO).next (AB wr (.cells #[S0 y.p,S0 y.d,.bool y.t] 72))).next hb2;simpa using this)
      have HW2:=AA (BZ (A8 HW1) (GV hb2));clear CX hb2;go_wp2_with fail
      go_roundg (n-(j+1))
      case measure=>omega
      case rel=>exact⟨j+1,F,z::G'++[y],rfl,rfl,by omega,Nat.le_refl _,by simp at hFG⊢;omega,by simp,HF,HO2,HW2⟩
     .have hp':pr y=false:=by simpa using hp
      rw[hp']at CX;rw[if_neg hp]at hf;have HF:=AA hf;clear hy hd hf hyr hp hp';have hFn:(F.length:Int)<(n:Int):=by omega
      go_wp2_with fail;refine CX.mono ?_;rintro e w2 ⟨rfl,hb2⟩;have O2:=((A8 hO).next (AB wr (.cells #[S0 y.p,S0 y.d,.bool y.t] 72))).next hb2;have c0:w2.cell? ⟨wr.heap.size,0,none⟩=some (S0 y.p):=by rw[hb2.cell (p:=⟨wr.heap.size,0,none⟩) (by simp)];simp
      have c1:w2.cell? ⟨wr.heap.size,1,none⟩=some (S0 y.d):=by rw[hb2.cell (p:=⟨wr.heap.size,1,none⟩) (by simp)];simp
      have c2:w2.cell? ⟨wr.heap.size,2,none⟩=some (.bool y.t):=by rw[hb2.cell (p:=⟨wr.heap.size,2,none⟩) (by simp)];simp
      have e0:=O2.row.en0 hzr;have e1:=O2.row.en1 hzr;have e2:=O2.row.en2 hzr;simp only[Nat.zero_add]at e0 e1 e2;have f0:=O2.frozen (F.length*3);have f1:=O2.frozen (F.length*3+1);have f2:=O2.frozen (F.length*3+2);have hz2:wr.heap.size<w2.heap.size:=by have:=hb2.size;simp at this;omega
      have HO3:Hid (DY (((w2.setCell ⟨q,F.length*3,none⟩ (S0 y.p)).setCell ⟨q,F.length*3+1,none⟩ (S0 y.d)).setCell ⟨q,F.length*3+2,none⟩ (.bool y.t)) q cap ((F++[y])++(G'++[y])++ws.drop (j+1))):=AA (by
       have O2':DY w2 q cap (F++z::(G'++y::ws.drop (j+1))):=by simpa using O2
       have:=O2'.qJ y;have e:F++[y]++(G'++[y])++ws.drop (j+1)=F++y::(G'++y::ws.drop (j+1)):=by simp
       rw[e];exact this)
      have HW3:Hid (w.grownBy (((w2.setCell ⟨q,F.length*3,none⟩ (S0 y.p)).setCell ⟨q,F.length*3+1,none⟩ (S0 y.d)).setCell ⟨q,F.length*3+2,none⟩ (.bool y.t)) (some q)):=
       AA (BZ (BZ (BZ (BZ (A8 HW1) (GV hb2)) (LY _)) (LY _)) (LY _))
      clear CX hb2 O2 hzr;go_wp2_with fail
      go_roundg (n-(j+1))
      case measure=>omega
      case rel=>exact⟨j+1,F++[y],G'++[y],by rw[List.length_append];rfl,rfl,by omega,Nat.le_refl _,by simp at hFG⊢;omega,by simp,HF,HO3,HW3⟩
    .obtain rfl:j=n:=by omega
     have hTF:T=F:=((A8 HTk j (Nat.le_refl _)).symm.trans (A8 hF));have OF:DY wr q cap F:=DY.head (B:=G++ws.drop j) (by have:=A8 hO;rwa[List.append_assoc]at this);have CL8:∀ty c,(Builtin.clear_ #[75] ty #[.slice (some ⟨q,F.length*3,none⟩) (j-F.length) c]).run prog wr=.ok (.tuple #[]) (wr.setCells q (F.length*3) (VT (j-F.length))):=fun ty c=>
      AI7 wr ty q _ _ c (by omega) (fun i hi=>OF.some (show F.length*3+i<cap*3 by omega)) (fun i hi=>OF.frozen _)
     have FIN:Hid (DY (wr.setCells q (F.length*3) (VT (j-F.length))) q cap F/\w.grownBy (wr.setCells q (F.length*3) (VT (j-F.length))) (some q)):=
      AA ⟨OF.spare _ _ (Nat.le_refl _) (by rw[RV];show _<=cap*3;omega),BZ (A8 hW) (BI _ _ _)⟩
     have hcn:¬ (cap=F.length):=by omega
     have hFc:F.length<=cap:=by omega
     have hFn:F.length<=j:=by omega
     have hjj:¬ ((j:Int)<(j:Int)):=by omega
     clear OF hO hW hF HTk HF0 HG0;subst hTF;go_wp2_with fail;go_ret;exact⟨rfl,(A8 FIN).1,(A8 FIN).2⟩
open Go.Sort
theorem C52:(prog.info? 9).map (fun i=>(i.zero,i.size,i.bytes))=some (some (.string ⟨#[]⟩),1,16):=by kernel_rfl
theorem CH5:∃i0,prog.info? 9=some i0/\i0.zero=some (.string ⟨#[]⟩)/\i0.size=1/\i0.bytes=16:=by
 obtain⟨i0,h,e⟩:=Option.map_eq_some_iff.1 C52;simp only[Prod.mk.injEq]at e;exact⟨i0,h,e⟩
theorem B31(l:List (List UInt8)):AO l=l.map encStr:=by
 induction l with
 |nil=>rfl
 |cons x r ih=>rw[F7,ih];rfl
theorem C53{l:List Nt}{n:Nt}(h:l[k]?=some n)(h1:n.s=s)(h2:n.k≠4):chP s (l.take (k+1))=chP s (l.take k)++[n.p]:=by
 rw[LD h];simp[chP,h1,h2]
theorem BS1{l:List Nt}{n:Nt}(h:l[k]?=some n)(h1:n.s≠s\/n.k=4):chP s (l.take (k+1))=chP s (l.take k):=by
 rw[LD h];rcases h1 with h1|h1<;>simp[chP,h1]
theorem zJ(s:Int)(l:List Nt):(chP s l).length<=l.length:=by unfold chP;rw[List.length_map];exact List.length_filter_le _ _
theorem kW{g cap n:Nat}{ss:List (List UInt8)}{os:Array Obj}(hB:B<=g)(h:DY W g cap ss):BD (Sort.grow (Sort.putRow encStr (Sort.ahead W n) g 0 (UF ss).toArray) os) B (.slice (some ⟨g,0,none⟩) ss.length cap) (UF ss)/\Holds encStr W g 0 ss.toArray:=by
 obtain⟨rest,h1,h2,h3,h4⟩:=h;have hk:ss.length*1+rest.length=cap*1:=h2;have hl:(UF ss).length=ss.length:=by unfold UF;simp
 refine⟨?_,holds_of_block h1 (by rw[B31];simp)⟩;have:=ownsRow_sorted (n:=n) (os:=os) (ts:=UF ss) hl hB h1 h3 h4 (by simp[B31];omega);rw[<-hl]at this⊢;refine BD.G8 ?_;rw[B31];exact this
theorem uI(s:Int)(v:Value)(l:List Nt)(w:World)(hv:BQ w v l)(hl:l.length*32<=140737488355328):
  Calls prog 187 #[I0 s,v] w fun e w'=>∃v',e=.returned v'/\BD w' w.heap.size v' (UF (chP s l))/\B0 w w':=by
 have KR:=AA (crow hv);obtain⟨i0,hi0,hz0,hz1,hz2⟩:=CH5;obtain⟨va,vc,rfl⟩:=AU hv;clear hv;go_enter func187,ntmps187;go_wp2_with fail
 go_loopg [5,10] l.length (fun kx s5 s10 wr=>∃ (k n:Nat) (a:Option Addr) (c:Nat),s10=I0 k/\s5=.slice a n c/\Hid ((chP s (l.take k)).length=n)/\k<=l.length/\l.length-k<=kx/\Hid (BD wr w.heap.size (.slice a n c) (chP s (l.take k)))/\Hid (B0 w wr))
 case atStart=>exact⟨0,0,none,0,rfl,rfl,AA rfl,Nat.zero_le _,Nat.le_refl _,AA (.inl ⟨rfl,rfl⟩),AA (Below.refl _ _)⟩
 case round=>
  obtain⟨k,n,a,c,rfl,rfl,hn,hk,hg,hO,hB⟩:=hrel;by_cases hlt:k<l.length
  .obtain⟨x,hx⟩:∃x,l[k]?=some x:=⟨_,List.getElem?_eq_getElem hlt⟩;obtain⟨b,off,cap,he,hb,q⟩:=A8 KR wr (A8 hB) k x hx;simp only[Value.slice.injEq]at he;obtain⟨rfl,_,rfl⟩:=he;have d0:=q.t0 hx;have d1:=q.t1 hx;have d2:=q.t2 hx;have hbw:b<wr.heap.size:=Nat.lt_of_lt_of_le hb (A8 hB).size;have HB1:=AA (AL (A8 hB) (AB wr (.cells #[I0 x.s,I0 x.k,S0 x.p] 69)));have HO1:=AA ((A8 hO).next (AB wr (.cells #[I0 x.s,I0 x.k,S0 x.p] 69)));have hnl:n<=k:=by rw[<-A8 hn];exact Nat.le_trans (zJ _ _) (by simp;omega)
   by_cases h1:x.s=s
   .have hsb:(x.s==s)=true:=by simpa using h1
    by_cases h2:x.k=4
    .have hkb:(x.k==4)=true:=by simpa using h2
     have HE:=AA (BS1 hx (s:=s) (.inr h2));clear q hx h1 h2;go_wp2_with fail
     go_roundg (l.length-(k+1))
     case measure=>omega
     case rel=>exact⟨k+1,n,a,c,rfl,rfl,by rw[A8 HE];exact hn,by omega,Nat.le_refl _,by rw[A8 HE];exact HO1,HB1⟩
    .have hkb:(x.k==4)=false:=by simpa using h2
     have HE:=AA (C53 hx h1 h2);clear q hx h1 h2;have HR:=AA (((A8 HO1).next (AB _ (.cells #[S0 x.p] 9))).row);rw[A8 hn]at HR;have HB2:=AA (AL (A8 HB1) (AB _ (.cells #[S0 x.p] 9)));have HA:=AA (A8 HO1).above;clear hO HO1;go_wp2_with (at_builtin;refine wpList_append_own _ rfl _ _ 155 rfl w.heap.size 9 i0 _ 1 16 underlying155 hi0 hz0 hz1 hz2 rfl (by decide) _ n (AO (chP s (l.take k))) rfl (A8 HR) ⟨wr.heap.size+1,0,none⟩ 1 1 [S0 x.p] rfl (by rfl) ?qc2 (by simp[Value.oneCell']) ?qc4 ?qc5 (A8 HB2).size ?_)
     case qc2=>
      intro j u hj
      match j with
      |0=>simp only[List.getElem?_cons_zero,Option.some.injEq]at hj;subst hj;rw[Addr.add_lit];simp
      |j+1=>simp at hj
     case qc4=>simp only[maxLen];omega
     case qc5=>omega
     intro v' w1 hown hgrow _;have O2:BD w1 w.heap.size v' (chP s (l.take (k+1))):=BD.G8 (by rw[A8 HE,List.length_append,EK,A8 hn];exact hown);obtain⟨a2,c2,rfl,_⟩:=O2.slice;have HO2:=AA O2;have HB3:=AA ((A8 HB2).grown hgrow (A8 HB2).size (A8 HA));clear O2 hown hgrow;go_wp2_with fail
     go_roundg (l.length-(k+1))
     case measure=>omega
     case rel=>exact⟨k+1,_,a2,c2,rfl,rfl,AA rfl,by omega,Nat.le_refl _,HO2,HB3⟩
   .have hsb:(x.s==s)=false:=by simpa using h1
    have HE:=AA (BS1 hx (s:=s) (.inl h1));clear q hx h1;go_wp2_with fail
    go_roundg (l.length-(k+1))
    case measure=>omega
    case rel=>exact⟨k+1,n,a,c,rfl,rfl,by rw[A8 HE];exact hn,by omega,Nat.le_refl _,by rw[A8 HE];exact HO1,HB1⟩
  .obtain rfl:k=l.length:=by omega
   rw[List.take_length]at hO hn;have hnl:n<=l.length:=by rw[<-A8 hn];exact zJ _ _
   rcases A8 hO with⟨h1,h0⟩|⟨g,cap,h1,hgB,ho⟩
   .simp only[Value.slice.injEq]at h1;obtain⟨rfl,rfl,rfl⟩:=h1;have HS0:Hid (UF (chP s l)=[]):=AA (by rw[h0];simp[UF]);clear h0 hO;have CS:=fun W=>slices_Sort_string_none none 0 W;go_wp2_with fail;refine(CS _).mono ?_;rintro e w1 ⟨rfl,rfl⟩;go_wp2_with fail;go_ret;exact⟨_,rfl,.inl ⟨rfl,A8 HS0⟩,A8 hB⟩
   .simp only[Value.slice.injEq]at h1;obtain⟨rfl,h3,rfl⟩:=h1;have CS:Calls prog 225 #[.slice (some ⟨g,0,none⟩) (chP s l).length c] wr fun e w'=>e=.returned (.tuple #[])/\∃n os,w'=Sort.grow (Sort.putRow encStr (Sort.ahead wr n) g 0 (UF (chP s l)).toArray) os:=slices_Sort_string g 0 c (chP s l) wr (kW (n:=0) (os:=#[]) hgB ho).2 ho.lt (by rw[<-h3];omega);rw[<-h3]at CS;have HO:=AA ho;have H3:=AA h3;clear hO ho h3;go_wp2_with fail;refine CS.mono ?_;rintro e w1 ⟨rfl,m,os,rfl⟩;have O4:=(kW (n:=m) (os:=os) hgB (A8 HO)).1;have B4:=(A8 hB).grown (grownBy_sorted (n:=m) (os:=os) (g:=g) (UF (chP s l)).toArray) (A8 hB).size (fun j e=>by cases e;exact hgB);rw[<-A8 H3]at O4;have HO4:=AA O4;have HB4:=AA B4;clear CS O4 B4;generalize Sort.grow (Sort.putRow encStr (Sort.ahead wr m) g 0 (UF (chP s l)).toArray) os=w4 at*;go_wp2_with fail;go_ret;exact⟨_,rfl,A8 HO4,A8 HB4⟩
structure CH6(B q:Nat)(va:Value)(ss:List (List UInt8))(W:World):Prop where
 box:W.heap[B]?=some (.cells #[va] 155 (0,0))
 own:BD W 0 va ss
 ne:B≠q
 nq:∀k,va.ownBlock=some k->k≠q
theorem B32(B q:Nat)(va:Value)(ss:List (List UInt8))(hs:ss.Pairwise fun a b=>bl b a=false)(hl:ss.length<=281474976710656)(W:World)(x:En)(hI:CH6 B q va ss W):
  Calls prog 189 #[.agg #[S0 x.p,S0 x.d,.bool x.t],P0 B] W fun r w'=>r=.returned (.bool (decide (x.p∈ss)))/\B0 W w':=by
 have C:=fun V (hV:B0 W V)=>AI5 va ss x.p V (hI.own.next hV).seq hl hs;have c0:(W.alloc (.cells #[S0 x.p,S0 x.d,.bool x.t] 72)).cell? ⟨B,0,none⟩=some va:=by
  have hb:=hI.box;have hlt:=(Array.getElem?_eq_some_iff.1 hb).1;rw[(AB W _).cell (p:=⟨B,0,none⟩) hlt];simp[World.cell?,hb]
 have hBl:B<W.heap.size:=(Array.getElem?_eq_some_iff.1 hI.box).1;obtain⟨a,c,rfl,_⟩:=hI.own.slice;clear hI;generalize decide (x.p∈ss)=hd at C⊢;generalize ss.length=n at*;obtain⟨xp,xd,xt⟩:=x;simp only at*;go_enter func189,ntmps189;go_wp2_with fail;obtain⟨i,C2⟩:=C _ (AB _ _);refine C2.mono ?_;rintro e w1 ⟨rfl,rfl⟩;go_wp2_with fail;go_ret;exact⟨rfl,AB _ _⟩
theorem uJ(B q:Nat)(va:Value)(ss:List (List UInt8))(hs:ss.Pairwise fun a b=>bl b a=false)(hl:ss.length<=281474976710656):B30 189 B q (fun x=>decide (x.p∈ss)) (CH6 B q va ss):=
 ⟨rfl,fun _ _ h hg=>⟨(hg.block B (Array.getElem?_eq_some_iff.1 h.box).1 (fun e=>h.ne (Option.some.inj e))).trans h.box,h.own.grown hg (fun k hk e=>h.nq k hk (Option.some.inj e)),h.ne,h.nq⟩,fun W x h=>B32 B q va ss hs hl W x h⟩
theorem BL8(C:B30 g B q pr I)(w:World)(hi:I w):
  Calls prog 188 #[N0,.func (.func g) #[] #[P0 B]] w (R0 w (N0)):=by
 have CN:=uG C (N0) [] w hi (BQ.nil w) (by simp) (by simp);have two:=C.two;clear C hi;subst two;go_enter func188,ntmps188;go_wp2_with fail;refine CN.mono ?_;rintro e w1 ⟨rfl,hb1⟩;go_wp2_with fail;go_ret;exact⟨rfl,hb1⟩
theorem B33(s:Int)(l:List Nt):(UF (chP s l)).length<=l.length:=by
 unfold UF;rw[List.length_mergeSort];exact zJ s l
theorem zK(s:Int)(l:List Nt)(es:List En):es.filter (fun x=> !decide (x.p∈UF (chP s l)))=OU s l es:=by
 unfold OU
 congr 1
 funext x
 rw[BL4]
theorem B34(s z:Int)(v vl:Value)(es:List En)(l:List Nt)(w:World)(hv:BQ w v es)(hs:kK es)(hl:es.length*40<=140737488355328)(hvl:BQ w vl l)(hll:l.length*32<=140737488355328):
  Calls prog 149 #[clV s z v,vl] w fun e w'=>∃v',e=.returned (clV s z v')/\BD w' w.heap.size v' (OU s l es)/\B0 w w':=by
 have CH:=fun W (hW:B0 w W)=>uI s vl l W (hvl.next hW) hll;have CC:=fun W (hW:B0 w W)=>WL s z v es W (hv.next hW) hs hl;have HT:=AA (zK s l es);have HA:=AA (B27 (chP s l));have hsl:=B33 s l;obtain⟨a,c,rfl⟩:=AU hv;obtain⟨al,cl,rfl⟩:=AU hvl;unfold clV at CC⊢;clear hv hs hvl;generalize UF (chP s l)=ss at*;generalize OU s l es=R at*;go_enter func149,ntmps149;go_wp2_with fail;have B0:B0 w ((w.alloc (.cells #[I0 s,I0 z,.slice a es.length c] 77)).alloc (.cells #[I0 0,I0 0,N0] 77)):=AL (AB _ _) (AB _ _);have K0:=(JD.new w s z (.slice a es.length c)).next (AB _ (.cells #[I0 0,I0 0,N0] 77));have K1:=JD.new (w.alloc (.cells #[I0 s,I0 z,.slice a es.length c] 77)) 0 0 (N0);have hz0:((w.alloc (.cells #[I0 s,I0 z,.slice a es.length c] 77)).alloc (.cells #[I0 0,I0 0,N0] 77)).heap.size=w.heap.size+2:=by simp
 rw[show (w.alloc (.cells #[I0 s,I0 z,.slice a es.length c] 77)).heap.size=w.heap.size+1 by simp]at K1;generalize (w.alloc (.cells #[I0 s,I0 z,.slice a es.length c] 77)).alloc (.cells #[I0 0,I0 0,N0] 77)=W0 at*;refine(CH _ B0).mono ?_;rintro e w1 ⟨va,rfl,ho1,hb1⟩;obtain⟨a1,c1,rfl,_⟩:=ho1.slice;have K0:=(K0.next hb1).next (AB w1 (.cells #[.slice a1 ss.length c1] 155));have K1:=(K1.next hb1).next (AB w1 (.cells #[.slice a1 ss.length c1] 155));have N1:=heap_alloc_new w1 (.cells #[.slice a1 ss.length c1] 155);have O1:=ho1.next (AB w1 (.cells #[.slice a1 ss.length c1] 155));have B1:=AL (AL B0 hb1) (AB w1 (.cells #[.slice a1 ss.length c1] 155));have hz1:=hb1.size;have hlow1:=ho1.low;have hs1:(w1.alloc (.cells #[.slice a1 ss.length c1] 155)).heap.size=w1.heap.size+1:=by simp
 have k0:=K0.c0;have k1:=K0.c1;have k2:=K0.c2;clear CH ho1 hb1 B0 K0;have HK1:=AA K1;have HN1:=AA N1;have HO1:=AA O1;have HB1:=AA B1;clear K1 N1 O1 B1;go_wp2_with fail;generalize w1.alloc (.cells #[.slice a1 ss.length c1] 155)=W1 at*;refine(CC _ (A8 HB1)).mono ?_;rintro e w2 ⟨v2,rfl,ho2,hb2⟩;obtain⟨a2,c2,rfl,_⟩:=ho2.slice;have hlow2:=ho2.low;have hz2:=hb2.size;have hab2:=ho2.above;have K1:=((A8 HK1).next hb2).next (AB w2 (.cells #[I0 s,I0 z,.slice a2 es.length c2] 77));have K2:=JD.new w2 s z (.slice a2 es.length c2);have N2:=(Below.block (AB w2 (.cells #[I0 s,I0 z,.slice a2 es.length c2] 77)) w1.heap.size (by omega)).trans ((hb2.block w1.heap.size (by omega)).trans (A8 HN1));have O1:=((A8 HO1).next hb2).next (AB w2 (.cells #[I0 s,I0 z,.slice a2 es.length c2] 77));have O2:=ho2.next (AB w2 (.cells #[I0 s,I0 z,.slice a2 es.length c2] 77));have B2:=AL (AL (A8 HB1) hb2) (AB w2 (.cells #[I0 s,I0 z,.slice a2 es.length c2] 77));have hs2:(w2.alloc (.cells #[I0 s,I0 z,.slice a2 es.length c2] 77)).heap.size=w2.heap.size+1:=by simp
 have q2:=K2.c2;have HK1:=AA K1;have HK2:=AA K2;have HB2:=AA B2;clear CC hb2 ho2 HN1 HO1 HB1 k0 k1 k2 K1 K2 B2;rcases O2 with⟨h1,h2⟩|⟨g,cap,h1,hg,O2⟩
 .simp only[Value.slice.injEq]at h1;obtain⟨rfl,h3,rfl⟩:=h1;have CD:=BL8 (uJ w1.heap.size (w2.heap.size+7) (.slice a1 ss.length c1) ss (A8 HA) (by omega)) _ ⟨N2,O1.lower (Nat.zero_le _),by omega,fun k hk=>by have:=hlow1 k hk;omega⟩;rw[h3]at CD q2 HK2 HK1 HB2⊢;have HT0:Hid (R=[]):=AA (by rw[<-A8 HT,h2];rfl);clear O1 N2 h2 h3;go_wp2_with fail;generalize w2.alloc (.cells #[I0 s,I0 z,N0] 77)=W2 at*;refine CD.mono ?_;rintro e w3 ⟨rfl,hb3⟩;have X1:=(A8 HK1).next hb3;have X2:=(A8 HK2).next hb3;have B3:=AL (A8 HB2) hb3;have p0:=X2.c0;have p1:=X2.c1;have p2:=X2.c2;have p3:=X2.fr 2;have ps:=BJ p2;have r0:=X1.c0;have r1:=X1.c1;have r2:=X1.c2;have f0:=X1.fr 0;have f1:=X1.fr 1;have f2:=X1.fr 2;have HB3:=AA B3;clear CD hb3 X1 X2 B3;go_wp2_with fail;refine bodyPost_ret (v:=.agg #[I0 s,I0 z,N0]) (by simp[results,results149,go_sem,r0,r1,r2]) rfl ⟨_,rfl,.inl ⟨rfl,A8 HT0⟩,?_⟩;exact(((A8 HB3).setCell (by simp) _).setCell (by simp) _).setCell (by simp) _
 .simp only[Value.slice.injEq]at h1;obtain⟨rfl,_,rfl⟩:=h1;have hg2:=hlow2 g rfl;have CD:=BL7 (uJ w1.heap.size g (.slice a1 ss.length c1) ss (A8 HA) (by omega)) c2 es _ ⟨N2,O1.lower (Nat.zero_le _),by omega,fun k hk=>by have:=hlow1 k hk;omega⟩ O2 (by omega);rw[A8 HT]at CD;clear O1 N2;go_wp2_with fail;generalize w2.alloc (.cells #[I0 s,I0 z,.slice (some ⟨g,0,none⟩) es.length c2] 77)=W2 at*;refine CD.mono ?_;rintro e w3 ⟨rfl,O3,hg3⟩;have X1:=((A8 HK1).grown hg3 (fun e=>by have:=Option.some.inj e;omega)).other (a:=⟨w2.heap.size,2,none⟩) (by simp only;omega) (.slice (some ⟨g,0,none⟩) R.length c2);have X0:=(A8 HK2).grown hg3 (fun e=>by have:=Option.some.inj e;omega);have x2:=X0.c2;have x3:=X0.fr 2;have X2:=X0.set2 (v':=.slice (some ⟨g,0,none⟩) R.length c2);have B3:=((A8 HB2).grown hg3 (A8 HB2).size (fun k e=>by cases e;omega)).setCell (p:=⟨w2.heap.size,2,none⟩) (by simp only;omega) (.slice (some ⟨g,0,none⟩) R.length c2);have O4:=O3.other (a:=⟨w2.heap.size,2,none⟩) (by simp only;omega) (.slice (some ⟨g,0,none⟩) R.length c2);have p0:=X2.c0;have p1:=X2.c1;have p2:=X2.c2;have r0:=X1.c0;have r1:=X1.c1;have r2:=X1.c2;have f0:=X1.fr 0;have f1:=X1.fr 1;have f2:=X1.fr 2;have HB3:=AA B3;have HO4:=AA O4;clear CD hg3 X1 X2 X0 B3 O3 O4;go_upto_region 4 with fail;generalize w3.setCell ⟨w2.heap.size,2,none⟩ (.slice (some ⟨g,0,none⟩) R.length c2)=w4 at*;go_wp2_with fail;refine bodyPost_ret (v:=.agg #[I0 s,I0 z,.slice (some ⟨g,0,none⟩) R.length c2]) (by simp[results,results149,go_sem,r0,r1,r2]) rfl ⟨_,rfl,.inr ⟨g,c2,rfl,by omega,?_⟩,?_⟩
  .exact(((A8 HO4).other (by simp only;omega) _).other (by simp only;omega) _).other (by simp only;omega) _
  .exact(((A8 HB3).setCell (by simp only;omega) _).setCell (by simp only;omega) _).setCell (by simp only;omega) _
