/-
  Part.
-/
import Derived.Test.YtppjdeblncincaaGreatDoorLOAB
import Derived.Test.YtppjdeblncincaaGreatDoorLOD
set_option maxRecDepth 20000
set_option maxHeartbeats 8000000
namespace Go.Proofs.YtppjdeblncincaaGreatDoor
open Go.RowKit Go.Proofs.Tryz
open _root_.Nat renaming le_refl->A8,zero_le->AZ,zero_add->BJ,add_sub_cancel_left->FD
open _root_.List renaming length_append->AP,getElem?_append_right->BD,length_cons->BH,append_nil->DU,length_nil->EW
open Go.Value.slice renaming injEq->AQ
open Go.Builtin renaming zeroCells->BI,copy_->DY
open Go.Addr renaming add_lit->BK
open Go.Value renaming slice->FU
open Go.Obj renaming cells->FV
open Go renaming World->FW,Value->FX,Calls->FZ
open _root_.Option renaming none->G5,some->G6
variable{W:FW}{g cap:Nat}{A B:List En}{y:En}
open Go.Sort
theorem BB6(s:Int)(l:List Nt):(Y9 (chP s l)).length<=l.length:=by
 unfold Y9;rw[List.length_mergeSort];exact A58 s l
theorem A59(s:Int)(l:List Nt)(es:List En):es.filter (fun x=> !decide (x.p∈Y9 (chP s l)))=UQ s l es:=by
 unfold UQ
 congr 1
 funext x
 rw[BT6]
theorem BB7(s z:Int)(v vl:FX)(es:List En)(l:List Nt)(w:FW)(hv:IL w v es)(hs:xK es)(hl:es.length*40<=140737488355328)(hvl:IL w vl l)(hll:l.length*32<=140737488355328):
  FZ prog 81 #[clV s z v,vl] w fun e w'=>∃v',e=.returned (clV s z v')/\GZ w' w.heap.size v' (UQ s l es)/\B0 w w':=by
 have CH:=fun W (hW:B0 w W)=>yL s vl l W (hvl.next hW) hll;have CC:=fun W (hW:B0 w W)=>ZT s z v es W (hv.next hW) hs hl;have HT:=G8 (A59 s l es);have HA:=G8 (BB0 (chP s l));have hsl:=BB6 s l;obtain⟨a,c,rfl⟩:=GK hv;obtain⟨al,cl,rfl⟩:=GK hvl;unfold clV at CC⊢;clear hv hs hvl;generalize Y9 (chP s l)=ss at*;generalize UQ s l es=R at*;go_enter func81,ntmps81;go_wp2_with fail;have B0:B0 w ((w.alloc (FV #[I0 s,I0 z,FU a es.length c] 44)).alloc (FV #[I0 0,I0 0,N0] 44)):=GH (G9 _ _) (G9 _ _);have K0:=(MZ.new w s z (FU a es.length c)).next (G9 _ (FV #[I0 0,I0 0,N0] 44));have K1:=MZ.new (w.alloc (FV #[I0 s,I0 z,FU a es.length c] 44)) 0 0 (N0);have hz0:((w.alloc (FV #[I0 s,I0 z,FU a es.length c] 44)).alloc (FV #[I0 0,I0 0,N0] 44)).heap.size=w.heap.size+2:=by simp
 rw[show (w.alloc (FV #[I0 s,I0 z,FU a es.length c] 44)).heap.size=w.heap.size+1 by simp]at K1;generalize (w.alloc (FV #[I0 s,I0 z,FU a es.length c] 44)).alloc (FV #[I0 0,I0 0,N0] 44)=W0 at*;refine(CH _ B0).mono ?_;rintro e w1 ⟨va,rfl,ho1,hb1⟩;obtain⟨a1,c1,rfl,_⟩:=ho1.slice;have K0:=(K0.next hb1).next (G9 w1 (FV #[FU a1 ss.length c1] 205));have K1:=(K1.next hb1).next (G9 w1 (FV #[FU a1 ss.length c1] 205));have N1:=heap_alloc_new w1 (FV #[FU a1 ss.length c1] 205);have O1:=ho1.next (G9 w1 (FV #[FU a1 ss.length c1] 205));have B1:=GH (GH B0 hb1) (G9 w1 (FV #[FU a1 ss.length c1] 205));have hz1:=hb1.size;have hlow1:=ho1.low;have hs1:(w1.alloc (FV #[FU a1 ss.length c1] 205)).heap.size=w1.heap.size+1:=by simp
 have k0:=K0.c0;have k1:=K0.c1;have k2:=K0.c2;clear CH ho1 hb1 B0 K0;have HK1:=G8 K1;have HN1:=G8 N1;have HO1:=G8 O1;have HB1:=G8 B1;clear K1 N1 O1 B1;go_wp2_with fail;generalize w1.alloc (FV #[FU a1 ss.length c1] 205)=W1 at*;refine(CC _ (G7 HB1)).mono ?_;rintro e w2 ⟨v2,rfl,ho2,hb2⟩;obtain⟨a2,c2,rfl,_⟩:=ho2.slice;have hlow2:=ho2.low;have hz2:=hb2.size;have hab2:=ho2.above;have K1:=((G7 HK1).next hb2).next (G9 w2 (FV #[I0 s,I0 z,FU a2 es.length c2] 44));have K2:=MZ.new w2 s z (FU a2 es.length c2);have N2:=(Below.block (G9 w2 (FV #[I0 s,I0 z,FU a2 es.length c2] 44)) w1.heap.size (by omega)).trans ((hb2.block w1.heap.size (by omega)).trans (G7 HN1));have O1:=((G7 HO1).next hb2).next (G9 w2 (FV #[I0 s,I0 z,FU a2 es.length c2] 44));have O2:=ho2.next (G9 w2 (FV #[I0 s,I0 z,FU a2 es.length c2] 44));have B2:=GH (GH (G7 HB1) hb2) (G9 w2 (FV #[I0 s,I0 z,FU a2 es.length c2] 44));have hs2:(w2.alloc (FV #[I0 s,I0 z,FU a2 es.length c2] 44)).heap.size=w2.heap.size+1:=by simp
 have q2:=K2.c2;have HK1:=G8 K1;have HK2:=G8 K2;have HB2:=G8 B2;clear CC hb2 ho2 HN1 HO1 HB1 k0 k1 k2 K1 K2 B2;rcases O2 with⟨h1,h2⟩|⟨g,cap,h1,hg,O2⟩
 .simp only[AQ]at h1;obtain⟨rfl,h3,rfl⟩:=h1;have CD:=BU0 (yM w1.heap.size (w2.heap.size+7) (FU a1 ss.length c1) ss (G7 HA) (by omega)) _ ⟨N2,O1.lower (AZ _),by omega,fun k hk=>by have:=hlow1 k hk;omega⟩;rw[h3]at CD q2 HK2 HK1 HB2⊢;have HT0:Hid (R=[]):=G8 (by rw[<-G7 HT,h2];rfl);clear O1 N2 h2 h3;go_wp2_with fail;generalize w2.alloc (FV #[I0 s,I0 z,N0] 44)=W2 at*;refine CD.mono ?_;rintro e w3 ⟨rfl,hb3⟩;have X1:=(G7 HK1).next hb3;have X2:=(G7 HK2).next hb3;have B3:=GH (G7 HB2) hb3;have p0:=X2.c0;have p1:=X2.c1;have p2:=X2.c2;have p3:=X2.fr 2;have ps:=I9 p2;have r0:=X1.c0;have r1:=X1.c1;have r2:=X1.c2;have f0:=X1.fr 0;have f1:=X1.fr 1;have f2:=X1.fr 2;have HB3:=G8 B3;clear CD hb3 X1 X2 B3;go_wp2_with fail;refine bodyPost_ret (v:=.agg #[I0 s,I0 z,N0]) (by simp[results,results81,go_sem,r0,r1,r2]) rfl ⟨_,rfl,.inl ⟨rfl,G7 HT0⟩,?_⟩;exact(((G7 HB3).setCell (by simp) _).setCell (by simp) _).setCell (by simp) _
 .simp only[AQ]at h1;obtain⟨rfl,_,rfl⟩:=h1;have hg2:=hlow2 g rfl;have CD:=BT9 (yM w1.heap.size g (FU a1 ss.length c1) ss (G7 HA) (by omega)) c2 es _ ⟨N2,O1.lower (AZ _),by omega,fun k hk=>by have:=hlow1 k hk;omega⟩ O2 (by omega);rw[G7 HT]at CD;clear O1 N2;go_wp2_with fail;generalize w2.alloc (FV #[I0 s,I0 z,FU (G6 ⟨g,0,G5⟩) es.length c2] 44)=W2 at*;refine CD.mono ?_;rintro e w3 ⟨rfl,O3,hg3⟩;have X1:=((G7 HK1).grown hg3 (fun e=>by have:=Option.some.inj e;omega)).other (a:=⟨w2.heap.size,2,G5⟩) (by simp only;omega) (FU (G6 ⟨g,0,G5⟩) R.length c2);have X0:=(G7 HK2).grown hg3 (fun e=>by have:=Option.some.inj e;omega);have x2:=X0.c2;have x3:=X0.fr 2;have X2:=X0.set2 (v':=FU (G6 ⟨g,0,G5⟩) R.length c2);have B3:=((G7 HB2).grown hg3 (G7 HB2).size (fun k e=>by cases e;omega)).setCell (p:=⟨w2.heap.size,2,G5⟩) (by simp only;omega) (FU (G6 ⟨g,0,G5⟩) R.length c2);have O4:=O3.other (a:=⟨w2.heap.size,2,G5⟩) (by simp only;omega) (FU (G6 ⟨g,0,G5⟩) R.length c2);have p0:=X2.c0;have p1:=X2.c1;have p2:=X2.c2;have r0:=X1.c0;have r1:=X1.c1;have r2:=X1.c2;have f0:=X1.fr 0;have f1:=X1.fr 1;have f2:=X1.fr 2;have HB3:=G8 B3;have HO4:=G8 O4;clear CD hg3 X1 X2 X0 B3 O3 O4;go_upto_region 4 with fail;generalize w3.setCell ⟨w2.heap.size,2,G5⟩ (FU (G6 ⟨g,0,G5⟩) R.length c2)=w4 at*;go_wp2_with fail;refine bodyPost_ret (v:=.agg #[I0 s,I0 z,FU (G6 ⟨g,0,G5⟩) R.length c2]) (by simp[results,results81,go_sem,r0,r1,r2]) rfl ⟨_,rfl,.inr ⟨g,c2,rfl,by omega,?_⟩,?_⟩
  .exact(((G7 HO4).other (by simp only;omega) _).other (by simp only;omega) _).other (by simp only;omega) _
  .exact(((G7 HB3).setCell (by simp only;omega) _).setCell (by simp only;omega) _).setCell (by simp only;omega) _
theorem KH(ns:List En):(GI ns).length=ns.length*3:=H6 ns
theorem JA.A61{pre tl:List En}(h:JA W g cap (pre++tl))(new:List En)(hfit:pre.length+new.length<=cap):JA (W.setCells g (pre.length*3) (GI new)) g cap (pre++new):=h.splice new hfit
theorem JA.CY1(h:JA W g cap (A++y::B))(x:En):JA (W.setCells g (A.length*3) (OH x)) g cap (A++x::B):=h.vC x
theorem JA.BU5{fs:List En}(h:JA W g cap fs){j:Nat}(hj:j<cap*3):(W.cell? ⟨g,j,G5⟩).isSome=true:=h.some hj
theorem AF7(w:FW)(ty:TypeId)(b o dLen dCap:Nat)(a:Addr)(sLen sCap:Nat)(cs:List FX)(hn:cs.length=Nat.min sLen dLen*3)
  (hsrc:∀j v,cs[j]?=G6 v->w.cell? (a.add j)=G6 v) (hc:∀j,j<cs.length->(w.cell? ⟨b,o+j,G5⟩).isSome=true) (hf:∀j,j<cs.length->w.frozen? ⟨b,o+j,G5⟩=false) (h1:∀v∈cs,v.oneCell'=true):
  (DY #[42,42] ty #[FU (G6 ⟨b,o,G5⟩) dLen dCap,FU (G6 a) sLen sCap]).run prog w=.ok (goInt (Nat.min sLen dLen)) (w.setCells b o cs):=by
 have hl:=run_loadCells_list (P:=prog) w a cs hsrc;have hst:=run_storeCells_cells (P:=prog) b o cs 0 w (by simpa using hc) (by simpa using hf) h1;obtain⟨i0,hi0,hz0,hz1,hz2⟩:=BQ1;simp[DY,run_underlying underlying42,Builtin.lenOf,Builtin.firstCells,sizeOf,typeInfo,hi0,hz1,<-hn,hl,hst]
theorem A62(v:FX)(A:List En)(x:En)(B b:Nat)(w:FW)(ho:GZ w B v A)(hB:B<=w.heap.size)(hl:A.length<=400)(h1:JQ w b x):
  FZ prog 88 #[v,I0 A.length,FU (G6 ⟨b,0,G5⟩) 1 1] w fun e w'=>
   ∃v',e=.returned v'/\GZ w' B v' (A++[x])/\w.grownBy w' v.ownBlock/\(v'.ownBlock=v.ownBlock\/v'.ownBlock=G6 w.heap.size):=by
 obtain⟨i0,hi0,hz0,hz1,hz2⟩:=BQ1;have hrow:=ho.row;have HR:=G8 hrow;have H1:=G8 h1.row;have V:∃a c,v=FU a A.length c/\A.length<=c:=by
  rcases ho with⟨rfl,rfl⟩|⟨g,cap,rfl,_,h⟩
  .exact⟨G5,0,rfl,A8 _⟩
  .exact⟨_,cap,rfl,h.le⟩
 obtain⟨a,c,rfl,hc⟩:=V;clear ho hrow h1;rcases Nat.lt_or_ge A.length c with hcl|hcl
 .have hne:¬c=A.length:=by omega
  go_enter func88,ntmps88;go_wp2_with (at_builtin;refine wpList_append_own_at _ rfl _ _ 42 rfl B 88 i0 _ 3 40 underlying42 hi0 hz0 hz1 hz2 rfl (by decide) _ A.length (GI A) rfl (G7 HR) ⟨b,0,G5⟩ 1 1 (OH x) rfl (by rfl) ?qc2 ((Lay.one x)) ?qc4 ?qc5 hB ?_)
  case qc2=>
   intro j u hj;rw[BK];exact G7 H1 j u hj
  case qc4=>simp only[maxLen];omega
  case qc5=>omega
  intro v' w1 hown hgrow _ hloc
  go_wp2
  go_ret;exact⟨v',rfl,GZ.L9 (by rw[AP,JH];exact hown),hgrow,hloc⟩
 .obtain rfl:c=A.length:=by omega
  go_enter func88,ntmps88;go_wp2_with (at_builtin;refine wpList_append_own_at _ rfl _ _ 42 rfl B 88 i0 _ 3 40 underlying42 hi0 hz0 hz1 hz2 rfl (by decide) _ A.length (GI A) rfl (G7 HR) ⟨b,0,G5⟩ 1 1 (OH x) rfl (by rfl) ?qc2 ((Lay.one x)) ?qc4 ?qc5 hB ?_)
  case qc2=>
   intro j u hj;rw[BK];exact G7 H1 j u hj
  case qc4=>simp only[maxLen];omega
  case qc5=>omega
  intro v' w1 hown hgrow _ hloc
  go_wp2
  go_ret;exact⟨v',rfl,GZ.L9 (by rw[AP,JH];exact hown),hgrow,hloc⟩
theorem sW(g cap:Nat)(A R:List En)(y x:En)(n b:Nat)(w:FW)(ho:JA w g cap (A++y::R))(hn:n=A.length+R.length+1)(hsm:n<=400)(hroom:n+1<=cap)(h1:JQ w b x)(hbg:b≠g):
  FZ prog 88 #[FU (G6 ⟨g,0,G5⟩) n cap,I0 A.length,FU (G6 ⟨b,0,G5⟩) 1 1] w fun e w'=>
   e=.returned (FU (G6 ⟨g,0,G5⟩) (n+1) cap)/\JA w' g cap (A++x::y::R)/\w.grownBy w' (G6 g):=by
 have hcl:=ho.capLe;simp only[maxLen]at hcl;have hrow:=ho.row;have AY8:w.shape? g=G6 (88,cap*3):=by
  obtain⟨rest,q1,q2,_⟩:=ho;rw[AP,BH]at q2;simp[World.shape?,q1,KH];exact⟨rfl,q2⟩
 have AY9:w.shape? b=G6 (88,3):=by unfold JQ at h1;simp[World.shape?,h1];exact⟨rfl,rfl⟩
 have hfb:∀j,w.frozen? ⟨b,j,G5⟩=false:=fun j=>by unfold JQ at h1;simp[World.frozen?,h1]
 have hov:∀lb cb,(callFunc 130 #[FU (G6 ⟨b,0,G5⟩) 1 1,FU (G6 ⟨g,(A.length+1)*3,G5⟩) lb cb]).run prog w=.ok (.value (.bool false)) w:=fun lb cb=>by
  rw[run_callFunc_extern func130 (by kernel_rfl) (by kernel_rfl) (by kernel_rfl) (e:=Extern.SlicesOverlaps.overlaps #[42,42] #[4]) (by kernel_rfl),
   Lib.run_overlaps_apart w 42 4 88 underlying42 3 sizeOf88 ⟨b,0,G5⟩ ⟨g,(A.length+1)*3,G5⟩ 1 1 lb cb hbg 88 88 3 (cap*3) AY9 AY8 (by omega) (hfb 0) (hfb 3)]
  rfl
 obtain⟨W1,hW1⟩:∃W1,W1=w.drew.setCells g ((A.length+1)*3) (GI (y::R)):=⟨_,rfl⟩;have ho1:JA W1 g cap (A++y::y::R):=by
  have h:JA w.drew g cap ((A++[y])++R):=by rw[List.append_assoc];exact ho
  have:=h.A61 (y::R) (by simp;omega);rw[hW1];simpa using this
 have hg1:w.grownBy W1 (G6 g):=by rw[hW1];have:=I8 (g:=g) (GI (y::R)) ((A.length+1)*3) w.drew;exact⟨this.os,this.tape,this.output,this.size,this.block⟩
 have hcp1:∀ty dc sc,(DY #[42,42] ty #[FU (G6 ⟨g,(A.length+1)*3,G5⟩) (n-A.length) dc,FU (G6 ⟨g,A.length*3,G5⟩) (n+1-A.length) sc]).run prog w.drew=.ok (goInt (Nat.min (n+1-A.length) (n-A.length))) W1:=fun ty dc sc=>by
  rw[hW1];exact AF7 w.drew ty g _ _ dc ⟨g,A.length*3,G5⟩ _ sc (GI (y::R)) (by rw[KH];simp only[Nat.min_def,BH];split<;>omega)
   (fun j v hj=>by
    rw[BK];have:=hrow (A.length*3+j) v (by rw[I5,BD (by rw[KH];omega),KH,FD];exact hj);rw[BJ]at this;exact this)
   (fun j hj=>by rw[KH]at hj;exact ho.BU5 (by simp at hj;omega)) (fun j _=>ho.frozen _) (JO _)
 have hcp2:∀ty dc,(DY #[42,42] ty #[FU (G6 ⟨g,A.length*3,G5⟩) (n+1-A.length) dc,FU (G6 ⟨b,0,G5⟩) 1 1]).run prog W1=.ok (goInt (Nat.min 1 (n+1-A.length))) (W1.setCells g (A.length*3) (OH x)):=fun ty dc=>
  AF7 W1 ty g _ _ dc ⟨b,0,G5⟩ 1 1 (OH x) (by simp only[Nat.min_def,OH,BH,EW];split<;>omega)
   (fun j v hj=>by
    rw[BK];have hb2:W1.heap[b]?=w.heap[b]? :=hg1.block b (by unfold JQ at h1;exact(Array.getElem?_eq_some_iff.1 h1).1) (fun e=>hbg (Option.some.inj e));have h2:JQ W1 b x:=hb2.trans h1;exact h2.row j v hj)
   (fun j hj=>ho1.BU5 (by simp[OH]at hj;omega)) (fun j _=>ho1.frozen _) ((Lay.one x))
 have FIN:Hid (JA (W1.setCells g (A.length*3) (OH x)) g cap (A++x::y::R)/\w.grownBy (W1.setCells g (A.length*3) (OH x)) (G6 g)):=
  ⟨ho1.CY1 x,IQ hg1 (I8 _ _ _)⟩
 have hin:A.length<n:=by omega
 have C32:(A.length:Int)<(n:Int):=by omega
 have hw1:IntKind.i64.wrap ((A.length:Int)+1)=(A.length:Int)+1:=by rw[IntKind.wrap_i64];omega
 have hb1:(0:Int)<=(A.length:Int)+1:=by omega
 have hb2:¬ (cap=A.length+1):=by omega
 have hb3:(A.length:Int)<=(n:Int)+1:=by omega
 have hb4:¬ (cap=A.length):=by omega
 have hb5:(A.length:Int)+1<=(n:Int)+1:=by omega
 have hb6:¬ ((cap:Int)<(n:Int)+1):=by omega
 have hz2:¬ ((A.length:Int)=(n:Int)):=by omega
 have htn:((A.length:Int)+1).toNat=A.length+1:=by omega
 clear hW1 ho1 hg1 hrow AY8 AY9 hfb ho h1 hn;go_enter func88,ntmps88;go_wp2_with (simp only[hov])
 go_region_law (refine MS rfl (.tmp 73) (.tmp 76) 42 42 rfl (FU (G6 ⟨g,(A.length+1)*3,G5⟩) (n-A.length) (cap-(A.length+1))) (FU (G6 ⟨g,A.length*3,G5⟩) (n+1-A.length) (cap-A.length)) (by simp[Act.eval,Act.put]) (by simp[Act.eval,Act.put]) (hcp1 _ _ _) ?_)
 go_wp2_with (at_builtin;refine LD _ rfl _ _ 42 42 rfl _ _ rfl rfl (hcp2 _ _) ?_);go_ret;exact⟨rfl,FIN.out⟩
theorem CQ1(k:Nat):(BI (Value.agg #[.string ⟨#[]⟩,.string ⟨#[]⟩,.bool false]).cells k).size=k*3:=by
 simp[BI,Value.cells]
theorem yN(g cap:Nat)(A R:List En)(y x:En)(n b:Nat)(w:FW)(ho:JA w g cap (A++y::R))(hn:n=A.length+R.length+1)(hsm:n<=400)(hroom:cap<n+1)(h1:JQ w b x):
  FZ prog 88 #[FU (G6 ⟨g,0,G5⟩) n cap,I0 A.length,FU (G6 ⟨b,0,G5⟩) 1 1] w fun e w'=>
   ∃cap',e=.returned (FU (G6 ⟨w.heap.size,0,G5⟩) (n+1) cap')/\JA w' w.heap.size cap' (A++x::y::R)/\B0 w w':=by
 have hcap:cap=n:=by have:=ho.le;simp at this;omega
 obtain⟨i0,hi0,hz0,hz1,hz2⟩:=BQ1;have hrow:=ho.row;have hgw:=ho.lt;have hbw:b<w.heap.size:=by unfold JQ at h1;exact(Array.getElem?_eq_some_iff.1 h1).1
 have hold:(Builtin.firstCells i0.size A.length (FU (G6 ⟨g,0,G5⟩) A.length cap)).run prog w.drew=.ok (GI A).toArray w.drew:=by
  rw[hz1];exact run_firstCells_some w.drew 3 A.length ⟨g,0,G5⟩ A.length cap (GI A) (KH A) (fun j v hj=>by
   rw[BK];exact hrow j v (by rw[I5,List.getElem?_append_left (List.getElem?_eq_some_iff.1 hj).1];exact hj))
 obtain⟨G,hG⟩:∃G,G=grownCap w (n+1) cap 88:=⟨_,rfl⟩;have hGn:n+1<=G:=by rw[hG];exact grownCap_ge w _ _ _
 have hGm:G<=maxLen:=by rw[hG];exact grownCap_le_maxLen w (n+1) cap _ (by unfold maxLen;omega)
 have hG63:G<=9223372036854775807:=by have:=hGm;unfold maxLen at this;omega
 obtain⟨ROW,hROW⟩:∃ROW:Array FX,ROW=(GI A).toArray++BI (Value.agg #[.string ⟨#[]⟩,.string ⟨#[]⟩,.bool false]).cells (n+1-A.length)++BI (Value.agg #[.string ⟨#[]⟩,.string ⟨#[]⟩,.bool false]).cells (G-(n+1)):=⟨_,rfl⟩;obtain⟨W1,hW1⟩:∃W1,W1=w.drew.alloc (FV ROW 88):=⟨_,rfl⟩;have hik:A.length+(n+1-A.length)=n+1:=by omega
 have hrz:∀ty,(Builtin.append_ #[42,3] ty #[FU (G6 ⟨g,0,G5⟩) A.length cap,I0 ((n:Int)+1-(A.length:Int))]).run prog w=
   .ok (FU (G6 ⟨w.heap.size,0,G5⟩) (n+1) G) W1:=fun ty=>by
  have h:=Lib.run_append_grow_zeros w 42 3 ty 88 i0 _ .i64 .i64 underlying42 underlying3 hi0 hz0 (G6 ⟨g,0,G5⟩) A.length cap (GI A) hold (n+1-A.length) (by omega) (by omega) (by omega) (by omega) (by rw[hz2];omega) (by rw[hz2,hik];exact growslice_fits hroom (by omega));rw[hik,<-hG,<-hROW,<-hW1]at h;rw[show (n:Int)+1-(A.length:Int)=((n+1-A.length:Nat):Int) by omega];exact h
 have ho1:JA W1 w.heap.size G A:=by
  refine⟨(BI (Value.agg #[.string ⟨#[]⟩,.string ⟨#[]⟩,.bool false]).cells (n+1-A.length)++BI (Value.agg #[.string ⟨#[]⟩,.string ⟨#[]⟩,.bool false]).cells (G-(n+1))).toList,?_,?_,by omega,hGm⟩
  .rw[hW1,hROW];have:=heap_alloc_new w.drew (FV ((GI A).toArray++BI (Value.agg #[.string ⟨#[]⟩,.string ⟨#[]⟩,.bool false]).cells (n+1-A.length)++BI (Value.agg #[.string ⟨#[]⟩,.string ⟨#[]⟩,.bool false]).cells (G-(n+1))) 88);refine Eq.trans this ?_
   congr 2
   apply Array.toList_inj.1
   simp
  .simp only[show Lay.k En=3 from rfl,Array.length_toList,Array.size_append,CQ1];omega
 have hB1:B0 w W1:=by rw[hW1];exact((Below.refl _ w).drew).alloc (A8 _) _
 obtain⟨W2,hW2⟩:∃W2,W2=W1.setCells w.heap.size (A.length*3) (OH x):=⟨_,rfl⟩;have ho2:JA W2 w.heap.size G (A++[x]):=by
  have h:JA W1 w.heap.size G (A++[]):=by rw[DU];exact ho1
  have:=h.A61 [x] (by simp;omega);rw[hW2];rw[JU,SE,DU]at this;exact this
 have hg2:W1.grownBy W2 (G6 w.heap.size):=by rw[hW2];exact I8 _ _ _
 have hB2:B0 w W2:=hB1.grown hg2 hB1.size (fun k e=>by cases e;exact A8 _);have hcpA:∀ty dc,(DY #[42,42] ty #[FU (G6 ⟨w.heap.size,A.length*3,G5⟩) (n+1-A.length) dc,FU (G6 ⟨b,0,G5⟩) 1 1]).run prog W1=.ok (goInt (Nat.min 1 (n+1-A.length))) W2:=fun ty dc=>by
  rw[hW2];exact AF7 W1 ty w.heap.size _ _ dc ⟨b,0,G5⟩ 1 1 (OH x) (by simp only[Nat.min_def,OH,BH,EW];split<;>omega)
   (fun j v hj=>by rw[BK];exact(show JQ W1 b x from(hB1.block b hbw).trans h1).row j v hj)
   (fun j hj=>ho1.BU5 (by simp[OH]at hj;omega)) (fun j _=>ho1.frozen _) ((Lay.one x))
 obtain⟨W3,hW3⟩:∃W3,W3=W2.drew.setCells w.heap.size ((A.length+1)*3) (GI (y::R)):=⟨_,rfl⟩;have hcpB:∀ty dc sc,(DY #[42,42] ty #[FU (G6 ⟨w.heap.size,(A.length+1)*3,G5⟩) (n-A.length) dc,FU (G6 ⟨g,A.length*3,G5⟩) (n-A.length) sc]).run prog W2.drew=.ok (goInt (Nat.min (n-A.length) (n-A.length))) W3:=fun ty dc sc=>by
  rw[hW3];exact AF7 W2.drew ty w.heap.size _ _ dc ⟨g,A.length*3,G5⟩ _ sc (GI (y::R)) (by rw[KH];simp only[Nat.min_self,BH];omega)
   (fun j v hj=>by
    rw[BK];have:=hrow (A.length*3+j) v (by rw[I5,BD (by rw[KH];omega),KH,FD];exact hj);rw[BJ]at this;exact(hB2.cell (p:=⟨g,A.length*3+j,G5⟩) hgw).trans this)
   (fun j hj=>by rw[KH]at hj;exact ho2.drew.BU5 (by simp at hj;omega)) (fun j _=>ho2.drew.frozen _) (JO _)
 have FIN:Hid (JA W3 w.heap.size G (A++x::y::R)/\B0 w W3):=by
  refine⟨?_,?_⟩
  .have h:JA W2.drew w.heap.size G ((A++[x])++[]):=by rw[DU];exact ho2
   have:=h.A61 (y::R) (by simp;omega);rw[hW3];simpa using this
  .rw[hW3];exact hB2.drew.grown (I8 _ _ _) hB2.size (fun k e=>by cases e;exact A8 _)
 have hin:A.length<n:=by omega
 have C32:(A.length:Int)<(n:Int):=by omega
 have hw1:IntKind.i64.wrap ((A.length:Int)+1)=(A.length:Int)+1:=by rw[IntKind.wrap_i64];omega
 have hb1:(0:Int)<=(A.length:Int)+1:=by omega
 have hb2:¬ (G=A.length+1):=by omega
 have hb3:(A.length:Int)<=(n:Int)+1:=by omega
 have hb4:¬ (n=A.length):=by omega
 have hb5:(A.length:Int)+1<=(n:Int)+1:=by omega
 have hb6:¬ (G=A.length):=by omega
 have hb7:(A.length:Int)<=(n:Int):=by omega
 have hz3:¬ ((A.length:Int)=(n:Int)):=by omega
 have htn:((A.length:Int)+1).toNat=A.length+1:=by omega
 subst hcap;clear hn hROW hW1 hW2 hW3 hG hrow ho h1 ho1 ho2 hB1 hB2 hg2 hold hik;go_enter func88,ntmps88;go_wp2_with (first
  |(at_builtin;refine Lib.wpList_append_run _ rfl _ _ _ _ rfl _ _ rfl rfl _ _ (hrz _) ?_)
  |(at_builtin;refine LD _ rfl _ _ 42 42 rfl _ _ rfl rfl (hcpA _ _) ?_))
 go_region_law (refine MS rfl (.tmp 50) (.tmp 53) 42 42 rfl (FU (G6 ⟨w.heap.size,(A.length+1)*3,G5⟩) (cap-A.length) (G-(A.length+1))) (FU (G6 ⟨g,A.length*3,G5⟩) (cap-A.length) (cap-A.length)) (by simp[Act.eval,Act.put]) (by simp[Act.eval,Act.put]) (hcpB _ _ _) ?_)
 go_wp2
 go_ret;exact⟨G,rfl,FIN.out⟩
theorem A63(v:FX)(A R:List En)(x:En)(q:Nat)(w:FW)(ho:GZ w 0 v (A++R))(hl:(A++R).length<=400)(h1:JQ w q x)(hq:v.ownBlock≠G6 q):
  FZ prog 88 #[v,I0 A.length,FU (G6 ⟨q,0,G5⟩) 1 1] w fun e w'=>
   ∃v',e=.returned v'/\GZ w' 0 v' (A++x::R)/\w.grownBy w' v.ownBlock/\(v'.ownBlock=v.ownBlock\/∃k,w.heap.size<=k/\v'.ownBlock=G6 k):=by
 cases R with
 |nil=>
  rw[DU]at ho hl;refine(A62 v A x 0 q w ho (AZ _) hl h1).mono ?_;rintro e w' ⟨v',rfl,h2,h3,h4⟩;refine⟨v',rfl,h2,h3,?_⟩;rcases h4 with h|h
  .exact .inl h
  .exact .inr ⟨_,A8 _,h⟩
 |cons y R=>
  rcases ho with⟨_,h⟩|⟨g,cap,rfl,_,ho⟩
  .simp at h
  .have hn:(A++y::R).length=A.length+R.length+1:=by simp;omega
   by_cases hc:(A++y::R).length+1<=cap
   .refine(sW g cap A R y x _ q w ho hn hl hc h1 (fun e=>hq (by rw[e];rfl))).mono ?_;rintro e w' ⟨rfl,h2,h3⟩;exact⟨_,rfl,.inr ⟨g,cap,by simp;omega,AZ _,h2⟩,h3,.inl rfl⟩
   .refine(yN g cap A R y x _ q w ho hn hl (by omega) h1).mono ?_;rintro e w' ⟨cap',rfl,h2,h3⟩;exact⟨_,rfl,.inr ⟨w.heap.size,cap',by simp;omega,AZ _,h2⟩,⟨h3.os,h3.tape,h3.output,h3.size,fun k hk _=>h3.block k hk⟩,.inr ⟨_,A8 _,rfl⟩⟩
structure lX(w W:FW)(k q g cap:Nat)(s z:Int)(x:En)(A:List En)(y:En)(B:List En):Prop where
 hk:w.heap.size=k
 old:B0 w W
 res:MZ W (k+2) 0 0 (N0)
 one:JQ W (k+1) x
 box:MZ W q s z (FU (G6 ⟨g,0,G5⟩) (A++y::B).length cap)
 hq:k+3<=q
 hg:k+3<=g
 own:JA W g cap (A++y::B)
 ne:g≠q
theorem lX.next{w V:FW}{k q:Nat}{s z:Int}{x:En}(h:lX w W k q g cap s z x A y B)(hb:B0 W V):lX w V k q g cap s z x A y B:=
 ⟨h.hk,GH h.old hb,h.res.next hb,h.one.ZR hb h.one.ltz,h.box.next hb,h.hq,h.hg,h.own.next hb,h.ne⟩
theorem lX.fin{w:FW}{k q:Nat}{s z:Int}{x:En}(h:lX w W k q g cap s z x A y B):
  MZ (((W.setCell ⟨g,A.length*3,G5⟩ (S0 x.p)).setCell ⟨g,A.length*3+1,G5⟩ (S0 x.d)).setCell ⟨g,A.length*3+2,G5⟩ (.bool x.t)) q s z (FU (G6 ⟨g,0,G5⟩) (A++y::B).length cap)/\
  MZ (((W.setCell ⟨g,A.length*3,G5⟩ (S0 x.p)).setCell ⟨g,A.length*3+1,G5⟩ (S0 x.d)).setCell ⟨g,A.length*3+2,G5⟩ (.bool x.t)) (k+2) 0 0 (N0)/\
  JA (((W.setCell ⟨g,A.length*3,G5⟩ (S0 x.p)).setCell ⟨g,A.length*3+1,G5⟩ (S0 x.d)).setCell ⟨g,A.length*3+2,G5⟩ (.bool x.t)) g cap (A++x::B)/\
  B0 w (((W.setCell ⟨g,A.length*3,G5⟩ (S0 x.p)).setCell ⟨g,A.length*3+1,G5⟩ (S0 x.d)).setCell ⟨g,A.length*3+2,G5⟩ (.bool x.t)):=by
 have h1:=h.ne;have h2:=h.hg;have h3:=h.hk;refine⟨((h.box.other (by simp only;omega) _).other (by simp only;omega) _).other (by simp only;omega) _,((h.res.other (by simp only;omega) _).other (by simp only;omega) _).other (by simp only;omega) _,h.own.vC x,?_⟩;exact((h.old.setCell (by simp only;omega) _).setCell (by simp only;omega) _).setCell (by simp only;omega) _
theorem AF8(w:FW)(s z:Int)(v:FX)(x:En):∃W,W=((w.alloc (FV #[I0 s,I0 z,v] 44)).alloc (FV #[S0 x.p,S0 x.d,.bool x.t] 88)).alloc (FV #[I0 0,I0 0,N0] 44)/\
  B0 w W/\MZ W w.heap.size s z v/\JQ W (w.heap.size+1) x/\MZ W (w.heap.size+2) 0 0 (N0)/\W.heap.size=w.heap.size+3:=by
 refine⟨_,rfl,GH (GH (G9 _ _) (G9 _ _)) (G9 _ _),((MZ.new w s z v).next (G9 _ _)).next (G9 _ _),?_,?_,by simp⟩
 .have:=(rQ (w.alloc (FV #[I0 s,I0 z,v] 44)) x).ZR (G9 _ (FV #[I0 0,I0 0,N0] 44)) (by simp);simpa using this
 .have:=MZ.new ((w.alloc (Obj.cells #[I0 s,I0 z,v] 44)).alloc (Obj.cells #[Value.string (ByteArray.mk x.p.toArray),.string (ByteArray.mk x.d.toArray),.bool x.t] 88)) 0 0 (N0);simpa using this
theorem BC2(s z:Int)(v:FX)(es:List En)(x:En)(w:FW)(hv:IL w v es)(hs:xK es)(hl:es.length<=400)(ha:B62 es)(hx:x.p.length<=140737488355328/\x.d.length<=140737488355328):
  FZ prog 61 #[clV s z v,enV x] w fun e w'=>∃v',e=.returned (clV s z v')/\GZ w' w.heap.size v' (WH es x)/\B0 w w':=by
 have CC:=fun W (hW:B0 w W)=>ZT s z v es W (hv.next hW) hs (by omega);have CO:=fun W=>AD7 (IY x) W (oV hx).1 (oV hx).2;have HW:=G8 (AC7 x.p es ha);obtain⟨a,c,rfl⟩:=GK hv;unfold clV at CC⊢;unfold enV;clear hv hs ha hx;obtain⟨k,hk⟩:∃k,k=w.heap.size:=⟨_,rfl⟩;go_enter func61,ntmps61
 cases ht:x.t
 case' true=>
  obtain⟨W,hW,B0,K0,K1,K2,hz⟩:=AF8 w s z (FU a es.length c) x;have K1:JQ W (w.heap.size+1) (IY x):=by rw[B63 ht];exact K1
  rw[ht]at hW;have q0:=K1.e2
 case' false=>
  obtain⟨W,hW,B0,K0,K1,K2,hz⟩:=AF8 w s z (FU a es.length c) ⟨x.p,[],false⟩;have K1:JQ W (w.heap.size+1) (IY x):=by rw[BP5 ht,ht];exact K1
 all_goals
  go_wp2_with fail;rw[<-hW];refine(CC _ B0).mono ?_;rintro e w1 ⟨v1,rfl,ho1,hb1⟩;have B1:=GH B0 hb1;have K1':=(K1.ZR hb1 K1.ltz).ZR (G9 w1 (FV #[I0 s,I0 z,v1] 44)) (Nat.lt_of_lt_of_le K1.ltz hb1.size);have K2':=(K2.next hb1).next (G9 w1 (FV #[I0 s,I0 z,v1] 44));have ho2:=ho1.next (G9 w1 (FV #[I0 s,I0 z,v1] 44));have K3:=MZ.new w1 s z v1;have B2:=GH B1 (G9 w1 (FV #[I0 s,I0 z,v1] 44));have hz1:=hb1.size;have hlow:=ho1.low;have HNP:=G8 (A40 x);have hq0:=K3.c2;have hq1:=K1'.e0;rw[G7 HNP]at hq1;obtain⟨q,hq⟩:∃q,q=w1.heap.size:=⟨_,rfl⟩;have hzq:(w1.alloc (FV #[I0 s,I0 z,v1] 44)).heap.size=w1.heap.size+1:=by simp
  have hab:=ho1.above;obtain⟨a1,c1,rfl,_⟩:=ho1.slice;have HC:=G8 K3;have HK1:=G8 K1';have HK2:=G8 K2';have HB2:=G8 B2;have HO:=G8 ho2;clear K1 K2 K1' K2' K3 ho1 ho2 hb1 B1 B2 B0 CC K0;rcases G7 HW with⟨A,f,B,T⟩|⟨A,B,G⟩
  .have CF:=A44 (FU a1 es.length c1) es A B f x.p _ (G7 HO).seq (by omega) T;go_wp2_with fail;generalize w1.alloc (FV #[I0 s,I0 z,FU a1 es.length c1] 44)=W1 at*;refine CF.mono ?_;rintro e w2 ⟨rfl,hb2⟩;have O3:=(G7 HO).next hb2;rw[T.eq]at O3;rcases O3 with⟨_,h0⟩|⟨g,cap,hga,hgB,O3⟩
   .simp at h0
   have HT:Hid (WH es x=A++IY x::B):=G8 T.keep;have ST:lX w w2 k q g cap s z (IY x) A f B:=⟨hk.symm,GH (G7 HB2) hb2,by have:=(G7 HK2).next hb2;rw[hk];exact this,by rw[hk];exact(G7 HK1).ZR hb2 (G7 HK1).ltz,
    by have:=(G7 HC).next hb2;rw[<-hga,hq,<-T.eq];exact this,by omega,by omega,O3,fun e=>by have:=hlow g (by rw[<-T.eq]at hga;rw[hga];rfl);omega⟩
   clear CF O3 hgB hb2;have hAl:A.length<es.length:=by rw[T.eq];simp
   have hAi:(A.length:Int)<(es.length:Int):=by omega
   rw[<-T.eq]at hga;have HEl:=G8 (congrArg List.length T.eq);clear T hq0 hq1;simp only[AQ]at hga;obtain⟨rfl,_,rfl⟩:=hga;have HS:=G8 ST;have HX:=G8 hz;have HY:=G8 hk;clear hz hk;have p0:=ST.box.c2;rw[<-G7 HEl]at p0;have p1:=ST.one.e0;have p2:=ST.one.e1;have p3:=ST.one.e2;rw[G7 HY]at p1 p2 p3;rw[hq]at p0;have KB:∀W2,B0 w2 W2->W2.cell? ⟨w1.heap.size,2,G5⟩=G6 (FU (G6 ⟨g,0,G5⟩) es.length c1)/\(∃u,W2.cell? ⟨g,A.length*3,G5⟩=G6 u)/\(∃u,W2.cell? ⟨g,A.length*3+1,G5⟩=G6 u)/\(∃u,W2.cell? ⟨g,A.length*3+2,G5⟩=G6 u)/\(∀j,W2.frozen? ⟨g,j,G5⟩=false)/\
     W2.cell? ⟨w.heap.size+1,0,G5⟩=G6 (S0 (IY x).p)/\W2.cell? ⟨w.heap.size+1,1,G5⟩=G6 (S0 (IY x).d)/\W2.cell? ⟨w.heap.size+1,2,G5⟩=G6 (.bool (IY x).t):=fun W2 hb=>by
    have S2:=(G7 HS).next hb;have b0:=S2.box.c2;rw[<-G7 HEl,hq]at b0;have r:=S2.own.row;have b1:=S2.one.e0;have b2:=S2.one.e1;have b3:=S2.one.e2;rw[G7 HY]at b1 b2 b3;have r0:W2.cell? ⟨g,A.length*3,G5⟩=G6 (S0 f.p):=by have:=r.en0 (i:=A.length) (x:=f) (by simp);simpa using this
    have r1:W2.cell? ⟨g,A.length*3+1,G5⟩=G6 (S0 f.d):=by have:=r.en1 (i:=A.length) (x:=f) (by simp);simpa using this
    have r2:W2.cell? ⟨g,A.length*3+2,G5⟩=G6 (.bool f.t):=by have:=r.en2 (i:=A.length) (x:=f) (by simp);simpa using this
    exact⟨b0,⟨_,r0⟩,⟨_,r1⟩,⟨_,r2⟩,S2.own.frozen,b1,b2,b3⟩
   have HKB:=G8 KB;clear ST KB;go_wp2_with fail;have KS:∀W2,B0 w2 W2->W2.cell? ⟨w1.heap.size,2,G5⟩=G6 (FU (G6 ⟨g,0,G5⟩) es.length c1)/\W2.cell? ⟨w.heap.size+1,0,G5⟩=G6 (S0 (IY x).p)/\W2.cell? ⟨w.heap.size+1,1,G5⟩=G6 (S0 (IY x).d)/\W2.cell? ⟨w.heap.size+1,2,G5⟩=G6 (.bool (IY x).t):=fun W2 hb=>by
    obtain⟨b0,_,_,_,_,b4,b5,b6⟩:=G7 HKB W2 hb;exact⟨b0,b4,b5,b6⟩
   have HKS:=G8 KS;have HKT:Hid (∀W2,B0 w2 W2->(((W2.setCell ⟨g,A.length*3,G5⟩ (S0 (IY x).p)).setCell ⟨g,A.length*3+1,G5⟩ (S0 (IY x).d)).setCell ⟨g,A.length*3+2,G5⟩ (.bool (IY x).t)).cell? ⟨w1.heap.size,2,G5⟩=G6 (FU (G6 ⟨g,0,G5⟩) es.length c1)/\(((W2.setCell ⟨g,A.length*3,G5⟩ (S0 (IY x).p)).setCell ⟨g,A.length*3+1,G5⟩ (S0 (IY x).d)).setCell ⟨g,A.length*3+2,G5⟩ (.bool (IY x).t)).cell? ⟨w.heap.size+1,0,G5⟩=G6 (S0 (IY x).p)/\(((W2.setCell ⟨g,A.length*3,G5⟩ (S0 (IY x).p)).setCell ⟨g,A.length*3+1,G5⟩ (S0 (IY x).d)).setCell ⟨g,A.length*3+2,G5⟩ (.bool (IY x).t)).cell? ⟨w.heap.size+1,1,G5⟩=G6 (S0 (IY x).d)/\(((W2.setCell ⟨g,A.length*3,G5⟩ (S0 (IY x).p)).setCell ⟨g,A.length*3+1,G5⟩ (S0 (IY x).d)).setCell ⟨g,A.length*3+2,G5⟩ (.bool (IY x).t)).cell? ⟨w.heap.size+1,2,G5⟩=G6 (.bool (IY x).t)):=G8 fun W2 hb=>by
    have S2:=(G7 HS).next hb;have hne:=S2.ne;have hgk:=S2.hg;have b0:=((S2.box.other (a:=⟨g,A.length*3,G5⟩) (by simp only;omega) (S0 (IY x).p)).other (a:=⟨g,A.length*3+1,G5⟩) (by simp only;omega) (S0 (IY x).d)).other (a:=⟨g,A.length*3+2,G5⟩) (by simp only;omega) (.bool (IY x).t)|>.c2;have o1:=((S2.one.OT (a:=⟨g,A.length*3,G5⟩) (by simp only;omega) (S0 (IY x).p)).OT (a:=⟨g,A.length*3+1,G5⟩) (by simp only;omega) (S0 (IY x).d)).OT (a:=⟨g,A.length*3+2,G5⟩) (by simp only;omega) (.bool (IY x).t);have b1:=o1.e0;have b2:=o1.e1;have b3:=o1.e2;rw[<-G7 HEl,hq]at b0;rw[G7 HY]at b1 b2 b3;exact⟨b0,b1,b2,b3⟩
   clear KS
   go_region_held3 (fun w'=>w'.cell? ⟨w1.heap.size,2,G5⟩=G6 (FU (G6 ⟨g,0,G5⟩) es.length c1)/\w'.cell? ⟨w.heap.size+1,0,G5⟩=G6 (S0 (IY x).p)/\w'.cell? ⟨w.heap.size+1,1,G5⟩=G6 (S0 (IY x).d)/\w'.cell? ⟨w.heap.size+1,2,G5⟩=G6 (.bool (IY x).t)) (first|with_reducible exact G7 HKS _ (Below.refl _ _)|with_reducible exact G7 HKS _ (Below.refl _ _).drew|with_reducible exact G7 HKS _ (G7 HB5)|with_reducible exact G7 HKT _ (G7 HB5)) (first
    |(go_at_call 89;with_reducible refine(CO _).mono ?_;rintro e w4 ⟨rfl,hb4⟩;have HB5:Hid (B0 w2 w4):=G8 (IB hb4);obtain⟨b0,⟨u1,b1⟩,⟨u2,b2⟩,⟨u3,b3⟩,bf,b4,b5,b6⟩:=G7 HKB w4 (G7 HB5);have bf0:=bf (A.length*3);have bf1:=bf (A.length*3+1);have bf2:=bf (A.length*3+2);clear bf hb4))
   all_goals
    obtain⟨V1,V2,V3,V4⟩:=((G7 HS).next (G7 HB5)).fin;rw[<-G7 HEl,hq]at V1;rw[G7 HY]at V2;have HV3:=G8 V3;have HV4:=G8 V4;have v0:=V1.c0;have v1:=V1.c1;have v2:=V1.c2;have v3:=V2.c0;have v4:=V2.c1;have v5:=V2.c2;have v6:=V2.fr 0;have v7:=V2.fr 1;have v8:=V2.fr 2;have hgk:=(G7 HS).hg;rw[G7 HY]at hgk;clear V1 V2 V3 V4;generalize ((w4.setCell ⟨g,A.length*3,G5⟩ (S0 (IY x).p)).setCell ⟨g,A.length*3+1,G5⟩ (S0 (IY x).d)).setCell ⟨g,A.length*3+2,G5⟩ (.bool (IY x).t)=w5 at*;go_wp2_with fail;refine bodyPost_ret (v:=.agg #[I0 s,I0 z,FU (G6 ⟨g,0,G5⟩) es.length c1]) (by simp[results,results61,go_sem,v3,v4,v5]) rfl ⟨_,rfl,.inr ⟨g,c1,?_,by omega,?_⟩,?_⟩
    .rw[G7 HT,G7 HEl];simp
    .rw[G7 HT];exact(((G7 HV3).other (by simp only;omega) _).other (by simp only;omega) _).other (by simp only;omega) _
    .exact(((G7 HV4).setCell (by simp only;omega) _).setCell (by simp only;omega) _).setCell (by simp only;omega) _
  .have CF:=B78 (FU a1 es.length c1) es A B x.p _ (G7 HO).seq (by omega) G;go_wp2_with fail;generalize w1.alloc (FV #[I0 s,I0 z,FU a1 es.length c1] 44)=W1 at*;refine CF.mono ?_;rintro e w2 ⟨rfl,hb2⟩;have O3:=(G7 HO).next hb2;rw[G.eq]at O3;have C3:=(G7 HC).next hb2;have c3:=C3.c2;have f3:=C3.fr 2;have HT:Hid (WH es x=A++IY x::B):=G8 G.keep;have HE2:=G8 (congrArg List.length G.eq);have N3:=rQ w2 noneE;have O4:=O3.next (G9 w2 (FV #[S0 (noneE.p),S0 (noneE.d),.bool noneE.t] 88));have CI:=A63 _ A B noneE w2.heap.size _ (O4.lower (AZ _)) (by rw[<-G7 HE2];omega) N3 (fun e=>by have:=O3.low _ e;omega);rw[<-G7 HE2]at CI;have HS0:=G8 ((G7 HK2).next hb2);have HS1:=G8 ((G7 HK1).ZR hb2 (G7 HK1).ltz);have HS2:=G8 (GH (G7 HB2) hb2);have hz2:=hb2.size;clear CF O3 O4 hb2 hq0 hq1 G;have HC3:=G8 C3;clear C3;simp only[noneE]at CI;go_wp2_with fail;refine CI.mono ?_;rintro e w3 ⟨v3,rfl,ho3,hg3,hl3⟩;have hg4:w2.grownBy w3 (Value.slice a1 es.length c1).ownBlock:=⟨hg3.os,hg3.tape,hg3.output,Nat.le_trans (by simp) hg3.size,fun j hj hne=>(hg3.block j (by simp;omega) hne).trans (Below.block (G9 w2 _) j hj)⟩;have hne:∀j,j<k+3->G6 j≠(Value.slice a1 es.length c1).ownBlock:=fun j hj e=>by have:=hab j e.symm;omega
   have hnq:G6 q≠(Value.slice a1 es.length c1).ownBlock:=fun e=>by have:=hlow q e.symm;omega
   have C4:=(G7 HC3).grown hg4 (by rw[<-hq];exact hnq);have c4:=C4.c2;have f4:=C4.fr 2;have R4:=(G7 HS0).grown hg4 (hne _ (by omega));have E4:JQ w3 (w.heap.size+1) (IY x):=(hg4.block _ (G7 HS1).ltz (hne _ (by omega))).trans (G7 HS1);have B4:=(G7 HS2).grown hg4 (G7 HS2).size (fun j e=>by have:=hab j e;omega);have hgp:∀j,v3.ownBlock=G6 j->k+3<=j/\j≠q:=fun j e=>by
    rcases hl3 with h|⟨i,hi,h⟩
    .rw[e]at h;exact⟨by have:=hab j h.symm;omega,fun e2=>hnq (by rw[<-e2];exact h)⟩
    .rw[e]at h
     cases h
     simp at hi;exact⟨by omega,by omega⟩
   rcases ho3 with⟨_,h0⟩|⟨g,cap,rfl,_,O4⟩
   .simp at h0
   obtain⟨hg5,hg6⟩:=hgp g rfl;have ST:lX w (w3.setCell ⟨w1.heap.size,2,G5⟩ (FU (G6 ⟨g,0,G5⟩) (A++(⟨[],[],false⟩:En)::B).length cap)) k q g cap s z (IY x) A ⟨[],[],false⟩ B:=
    ⟨hk.symm,B4.setCell (by simp only;omega) _,by rw[hk];exact R4.other (by simp only;omega) _,by rw[hk];exact E4.OT (by simp only;omega) _,by rw[hq];exact C4.set2,by omega,by omega,O4.other (by simp only;omega) _,by omega⟩
   clear CI C4 R4 E4 B4 O4 hgp hl3 hg3 hg4 hne hnq N3 c3 f3;obtain⟨n,hn⟩:∃n,(A++(⟨[],[],false⟩:En)::B).length=n:=⟨_,rfl⟩;have hAl:A.length<n:=by rw[<-hn];simp
   have hAi:(A.length:Int)<(n:Int):=by omega
   have hn2:n<=500:=by have:=G7 HE2;rw[AP]at this;rw[<-hn,AP,BH];omega
   have HEl:=G8 hn.symm;rw[hn]at ST⊢;clear hn;go_upto_region 7 with fail;generalize w3.setCell ⟨w1.heap.size,2,G5⟩ (FU (G6 ⟨g,0,G5⟩) n cap)=w2 at*;have HS:=G8 ST;have HX:=G8 hz;have HY:=G8 hk;clear hz hk;have p0:=ST.box.c2;rw[<-G7 HEl]at p0;have p1:=ST.one.e0;have p2:=ST.one.e1;have p3:=ST.one.e2;rw[G7 HY]at p1 p2 p3;rw[hq]at p0;have KB:∀W2,B0 w2 W2->W2.cell? ⟨w1.heap.size,2,G5⟩=G6 (FU (G6 ⟨g,0,G5⟩) n cap)/\(∃u,W2.cell? ⟨g,A.length*3,G5⟩=G6 u)/\(∃u,W2.cell? ⟨g,A.length*3+1,G5⟩=G6 u)/\(∃u,W2.cell? ⟨g,A.length*3+2,G5⟩=G6 u)/\(∀j,W2.frozen? ⟨g,j,G5⟩=false)/\
     W2.cell? ⟨w.heap.size+1,0,G5⟩=G6 (S0 (IY x).p)/\W2.cell? ⟨w.heap.size+1,1,G5⟩=G6 (S0 (IY x).d)/\W2.cell? ⟨w.heap.size+1,2,G5⟩=G6 (.bool (IY x).t):=fun W2 hb=>by
    have S2:=(G7 HS).next hb;have b0:=S2.box.c2;rw[<-G7 HEl,hq]at b0;have r:=S2.own.row;have b1:=S2.one.e0;have b2:=S2.one.e1;have b3:=S2.one.e2;rw[G7 HY]at b1 b2 b3;have r0:W2.cell? ⟨g,A.length*3,G5⟩=G6 (.string ⟨(⟨[],[],false⟩:En).p.toArray⟩):=by have:=r.en0 (i:=A.length) (x:=(⟨[],[],false⟩:En)) (by simp);simpa using this
    have r1:W2.cell? ⟨g,A.length*3+1,G5⟩=G6 (.string ⟨(⟨[],[],false⟩:En).d.toArray⟩):=by have:=r.en1 (i:=A.length) (x:=(⟨[],[],false⟩:En)) (by simp);simpa using this
    have r2:W2.cell? ⟨g,A.length*3+2,G5⟩=G6 (.bool (⟨[],[],false⟩:En).t):=by have:=r.en2 (i:=A.length) (x:=(⟨[],[],false⟩:En)) (by simp);simpa using this
    exact⟨b0,⟨_,r0⟩,⟨_,r1⟩,⟨_,r2⟩,S2.own.frozen,b1,b2,b3⟩
   have HKB:=G8 KB;clear ST KB;go_wp2_with fail;have KS:∀W2,B0 w2 W2->W2.cell? ⟨w1.heap.size,2,G5⟩=G6 (FU (G6 ⟨g,0,G5⟩) n cap)/\W2.cell? ⟨w.heap.size+1,0,G5⟩=G6 (S0 (IY x).p)/\W2.cell? ⟨w.heap.size+1,1,G5⟩=G6 (S0 (IY x).d)/\W2.cell? ⟨w.heap.size+1,2,G5⟩=G6 (.bool (IY x).t):=fun W2 hb=>by
    obtain⟨b0,_,_,_,_,b4,b5,b6⟩:=G7 HKB W2 hb;exact⟨b0,b4,b5,b6⟩
   have HKS:=G8 KS;have HKT:Hid (∀W2,B0 w2 W2->(((W2.setCell ⟨g,A.length*3,G5⟩ (S0 (IY x).p)).setCell ⟨g,A.length*3+1,G5⟩ (S0 (IY x).d)).setCell ⟨g,A.length*3+2,G5⟩ (.bool (IY x).t)).cell? ⟨w1.heap.size,2,G5⟩=G6 (FU (G6 ⟨g,0,G5⟩) n cap)/\(((W2.setCell ⟨g,A.length*3,G5⟩ (S0 (IY x).p)).setCell ⟨g,A.length*3+1,G5⟩ (S0 (IY x).d)).setCell ⟨g,A.length*3+2,G5⟩ (.bool (IY x).t)).cell? ⟨w.heap.size+1,0,G5⟩=G6 (S0 (IY x).p)/\(((W2.setCell ⟨g,A.length*3,G5⟩ (S0 (IY x).p)).setCell ⟨g,A.length*3+1,G5⟩ (S0 (IY x).d)).setCell ⟨g,A.length*3+2,G5⟩ (.bool (IY x).t)).cell? ⟨w.heap.size+1,1,G5⟩=G6 (S0 (IY x).d)/\(((W2.setCell ⟨g,A.length*3,G5⟩ (S0 (IY x).p)).setCell ⟨g,A.length*3+1,G5⟩ (S0 (IY x).d)).setCell ⟨g,A.length*3+2,G5⟩ (.bool (IY x).t)).cell? ⟨w.heap.size+1,2,G5⟩=G6 (.bool (IY x).t)):=G8 fun W2 hb=>by
    have S2:=(G7 HS).next hb;have hne:=S2.ne;have hgk:=S2.hg;have b0:=((S2.box.other (a:=⟨g,A.length*3,G5⟩) (by simp only;omega) (S0 (IY x).p)).other (a:=⟨g,A.length*3+1,G5⟩) (by simp only;omega) (S0 (IY x).d)).other (a:=⟨g,A.length*3+2,G5⟩) (by simp only;omega) (.bool (IY x).t)|>.c2;have o1:=((S2.one.OT (a:=⟨g,A.length*3,G5⟩) (by simp only;omega) (S0 (IY x).p)).OT (a:=⟨g,A.length*3+1,G5⟩) (by simp only;omega) (S0 (IY x).d)).OT (a:=⟨g,A.length*3+2,G5⟩) (by simp only;omega) (.bool (IY x).t);have b1:=o1.e0;have b2:=o1.e1;have b3:=o1.e2;rw[<-G7 HEl,hq]at b0;rw[G7 HY]at b1 b2 b3;exact⟨b0,b1,b2,b3⟩
   clear KS
   go_region_held3 (fun w'=>w'.cell? ⟨w1.heap.size,2,G5⟩=G6 (FU (G6 ⟨g,0,G5⟩) n cap)/\w'.cell? ⟨w.heap.size+1,0,G5⟩=G6 (S0 (IY x).p)/\w'.cell? ⟨w.heap.size+1,1,G5⟩=G6 (S0 (IY x).d)/\w'.cell? ⟨w.heap.size+1,2,G5⟩=G6 (.bool (IY x).t)) (first|with_reducible exact G7 HKS _ (Below.refl _ _)|with_reducible exact G7 HKS _ (Below.refl _ _).drew|with_reducible exact G7 HKS _ (G7 HB5)|with_reducible exact G7 HKT _ (G7 HB5)) (first
    |(go_at_call 89;with_reducible refine(CO _).mono ?_;rintro e w4 ⟨rfl,hb4⟩;have HB5:Hid (B0 w2 w4):=G8 (IB hb4);obtain⟨b0,⟨u1,b1⟩,⟨u2,b2⟩,⟨u3,b3⟩,bf,b4,b5,b6⟩:=G7 HKB w4 (G7 HB5);have bf0:=bf (A.length*3);have bf1:=bf (A.length*3+1);have bf2:=bf (A.length*3+2);clear bf hb4))
   all_goals
    obtain⟨V1,V2,V3,V4⟩:=((G7 HS).next (G7 HB5)).fin;rw[<-G7 HEl,hq]at V1;rw[G7 HY]at V2;have HV3:=G8 V3;have HV4:=G8 V4;have v0:=V1.c0;have v1:=V1.c1;have v2:=V1.c2;have v3:=V2.c0;have v4:=V2.c1;have v5:=V2.c2;have v6:=V2.fr 0;have v7:=V2.fr 1;have v8:=V2.fr 2;have hgk:=(G7 HS).hg;rw[G7 HY]at hgk;clear V1 V2 V3 V4;generalize ((w4.setCell ⟨g,A.length*3,G5⟩ (S0 (IY x).p)).setCell ⟨g,A.length*3+1,G5⟩ (S0 (IY x).d)).setCell ⟨g,A.length*3+2,G5⟩ (.bool (IY x).t)=w5 at*;go_wp2_with fail;refine bodyPost_ret (v:=.agg #[I0 s,I0 z,FU (G6 ⟨g,0,G5⟩) n cap]) (by simp[results,results61,go_sem,v3,v4,v5]) rfl ⟨_,rfl,.inr ⟨g,cap,?_,by omega,?_⟩,?_⟩
    .rw[G7 HT,G7 HEl];simp
    .rw[G7 HT];exact(((G7 HV3).other (by simp only;omega) _).other (by simp only;omega) _).other (by simp only;omega) _
    .exact(((G7 HV4).setCell (by simp only;omega) _).setCell (by simp only;omega) _).setCell (by simp only;omega) _
