/-
  Part.
-/
import Derived.Test.YtbaacalmgfkojaaGreatDoorLOAB
import Derived.Test.YtbaacalmgfkojaaGreatDoorLOE
set_option maxRecDepth 20000
set_option maxHeartbeats 8000000
namespace Go.Proofs.YtbaacalmgfkojaaGreatDoor
open Go.RowKit Go.Proofs.Tryz
open _root_.Nat renaming le_refl->A8,zero_le->AY,zero_add->BI,add_sub_cancel_left->FB
open _root_.List renaming length_append->AO,getElem?_append_right->BA,length_cons->BG,append_nil->DL,length_nil->ES
open Go.Value.slice renaming injEq->AP
open Go.Builtin renaming zeroCells->BH,copy_->DW
open Go.Addr renaming add_lit->BJ
open Go.Value renaming slice->FQ
open Go.Obj renaming cells->FT
open Go renaming World->FU,Value->FV,Calls->FW
open _root_.Option renaming none->FX,some->FZ
variable{W:FU}{g cap:Nat}{A B:List En}{y:En}
open Go.Sort
theorem B70(s:Int)(l:List Nt):(XE (chP s l)).length<=l.length:=by
 unfold XE;rw[List.length_mergeSort];exact A31 s l
theorem A32(s:Int)(l:List Nt)(es:List En):es.filter (fun x=> !decide (x.p∈XE (chP s l)))=SK s l es:=by
 unfold SK
 congr 1
 funext x
 rw[BN7]
theorem B71(s z:Int)(v vl:FV)(es:List En)(l:List Nt)(w:FU)(hv:IL w v es)(hs:nP es)(hl:es.length*40<=140737488355328)(hvl:IL w vl l)(hll:l.length*32<=140737488355328):
  FW prog 98 #[clV s z v,vl] w fun e w'=>∃v',e=.returned (clV s z v')/\GZ w' w.heap.size v' (SK s l es)/\B0 w w':=by
 have CH:=fun W (hW:B0 w W)=>xK s vl l W (hvl.next hW) hll;have CC:=fun W (hW:B0 w W)=>YV s z v es W (hv.next hW) hs hl;have HT:=G6 (A32 s l es);have HA:=G6 (B64 (chP s l));have hsl:=B70 s l;obtain⟨a,c,rfl⟩:=GK hv;obtain⟨al,cl,rfl⟩:=GK hvl;unfold clV at CC⊢;clear hv hs hvl;generalize XE (chP s l)=ss at*;generalize SK s l es=R at*;go_enter func98,ntmps98;go_wp2_with fail;have B0:B0 w ((w.alloc (FT #[I0 s,I0 z,FQ a es.length c] 66)).alloc (FT #[I0 0,I0 0,N0] 66)):=G8 (G7 _ _) (G7 _ _);have K0:=(NW.new w s z (FQ a es.length c)).next (G7 _ (FT #[I0 0,I0 0,N0] 66));have K1:=NW.new (w.alloc (FT #[I0 s,I0 z,FQ a es.length c] 66)) 0 0 (N0);have hz0:((w.alloc (FT #[I0 s,I0 z,FQ a es.length c] 66)).alloc (FT #[I0 0,I0 0,N0] 66)).heap.size=w.heap.size+2:=by simp
 rw[show (w.alloc (FT #[I0 s,I0 z,FQ a es.length c] 66)).heap.size=w.heap.size+1 by simp]at K1;generalize (w.alloc (FT #[I0 s,I0 z,FQ a es.length c] 66)).alloc (FT #[I0 0,I0 0,N0] 66)=W0 at*;refine(CH _ B0).mono ?_;rintro e w1 ⟨va,rfl,ho1,hb1⟩;obtain⟨a1,c1,rfl,_⟩:=ho1.slice;have K0:=(K0.next hb1).next (G7 w1 (FT #[FQ a1 ss.length c1] 213));have K1:=(K1.next hb1).next (G7 w1 (FT #[FQ a1 ss.length c1] 213));have N1:=heap_alloc_new w1 (FT #[FQ a1 ss.length c1] 213);have O1:=ho1.next (G7 w1 (FT #[FQ a1 ss.length c1] 213));have B1:=G8 (G8 B0 hb1) (G7 w1 (FT #[FQ a1 ss.length c1] 213));have hz1:=hb1.size;have hlow1:=ho1.low;have hs1:(w1.alloc (FT #[FQ a1 ss.length c1] 213)).heap.size=w1.heap.size+1:=by simp
 have k0:=K0.c0;have k1:=K0.c1;have k2:=K0.c2;clear CH ho1 hb1 B0 K0;have HK1:=G6 K1;have HN1:=G6 N1;have HO1:=G6 O1;have HB1:=G6 B1;clear K1 N1 O1 B1;go_wp2_with fail;generalize w1.alloc (FT #[FQ a1 ss.length c1] 213)=W1 at*;refine(CC _ (G5 HB1)).mono ?_;rintro e w2 ⟨v2,rfl,ho2,hb2⟩;obtain⟨a2,c2,rfl,_⟩:=ho2.slice;have hlow2:=ho2.low;have hz2:=hb2.size;have hab2:=ho2.above;have K1:=((G5 HK1).next hb2).next (G7 w2 (FT #[I0 s,I0 z,FQ a2 es.length c2] 66));have K2:=NW.new w2 s z (FQ a2 es.length c2);have N2:=(Below.block (G7 w2 (FT #[I0 s,I0 z,FQ a2 es.length c2] 66)) w1.heap.size (by omega)).trans ((hb2.block w1.heap.size (by omega)).trans (G5 HN1));have O1:=((G5 HO1).next hb2).next (G7 w2 (FT #[I0 s,I0 z,FQ a2 es.length c2] 66));have O2:=ho2.next (G7 w2 (FT #[I0 s,I0 z,FQ a2 es.length c2] 66));have B2:=G8 (G8 (G5 HB1) hb2) (G7 w2 (FT #[I0 s,I0 z,FQ a2 es.length c2] 66));have hs2:(w2.alloc (FT #[I0 s,I0 z,FQ a2 es.length c2] 66)).heap.size=w2.heap.size+1:=by simp
 have q2:=K2.c2;have HK1:=G6 K1;have HK2:=G6 K2;have HB2:=G6 B2;clear CC hb2 ho2 HN1 HO1 HB1 k0 k1 k2 K1 K2 B2;rcases O2 with⟨h1,h2⟩|⟨g,cap,h1,hg,O2⟩
 .simp only[AP]at h1;obtain⟨rfl,h3,rfl⟩:=h1;have CD:=BO1 (xM w1.heap.size (w2.heap.size+7) (FQ a1 ss.length c1) ss (G5 HA) (by omega)) _ ⟨N2,O1.lower (AY _),by omega,fun k hk=>by have:=hlow1 k hk;omega⟩;rw[h3]at CD q2 HK2 HK1 HB2⊢;have HT0:Hid (R=[]):=G6 (by rw[<-G5 HT,h2];rfl);clear O1 N2 h2 h3;go_wp2_with fail;generalize w2.alloc (FT #[I0 s,I0 z,N0] 66)=W2 at*;refine CD.mono ?_;rintro e w3 ⟨rfl,hb3⟩;have X1:=(G5 HK1).next hb3;have X2:=(G5 HK2).next hb3;have B3:=G8 (G5 HB2) hb3;have p0:=X2.c0;have p1:=X2.c1;have p2:=X2.c2;have p3:=X2.fr 2;have ps:=I5 p2;have r0:=X1.c0;have r1:=X1.c1;have r2:=X1.c2;have f0:=X1.fr 0;have f1:=X1.fr 1;have f2:=X1.fr 2;have HB3:=G6 B3;clear CD hb3 X1 X2 B3;go_wp2_with fail;refine bodyPost_ret (v:=.agg #[I0 s,I0 z,N0]) (by simp[results,results98,go_sem,r0,r1,r2]) rfl ⟨_,rfl,.inl ⟨rfl,G5 HT0⟩,?_⟩;exact(((G5 HB3).setCell (by simp) _).setCell (by simp) _).setCell (by simp) _
 .simp only[AP]at h1;obtain⟨rfl,_,rfl⟩:=h1;have hg2:=hlow2 g rfl;have CD:=BO0 (xM w1.heap.size g (FQ a1 ss.length c1) ss (G5 HA) (by omega)) c2 es _ ⟨N2,O1.lower (AY _),by omega,fun k hk=>by have:=hlow1 k hk;omega⟩ O2 (by omega);rw[G5 HT]at CD;clear O1 N2;go_wp2_with fail;generalize w2.alloc (FT #[I0 s,I0 z,FQ (FZ ⟨g,0,FX⟩) es.length c2] 66)=W2 at*;refine CD.mono ?_;rintro e w3 ⟨rfl,O3,hg3⟩;have X1:=((G5 HK1).grown hg3 (fun e=>by have:=Option.some.inj e;omega)).other (a:=⟨w2.heap.size,2,FX⟩) (by simp only;omega) (FQ (FZ ⟨g,0,FX⟩) R.length c2);have X0:=(G5 HK2).grown hg3 (fun e=>by have:=Option.some.inj e;omega);have x2:=X0.c2;have x3:=X0.fr 2;have X2:=X0.set2 (v':=FQ (FZ ⟨g,0,FX⟩) R.length c2);have B3:=((G5 HB2).grown hg3 (G5 HB2).size (fun k e=>by cases e;omega)).setCell (p:=⟨w2.heap.size,2,FX⟩) (by simp only;omega) (FQ (FZ ⟨g,0,FX⟩) R.length c2);have O4:=O3.other (a:=⟨w2.heap.size,2,FX⟩) (by simp only;omega) (FQ (FZ ⟨g,0,FX⟩) R.length c2);have p0:=X2.c0;have p1:=X2.c1;have p2:=X2.c2;have r0:=X1.c0;have r1:=X1.c1;have r2:=X1.c2;have f0:=X1.fr 0;have f1:=X1.fr 1;have f2:=X1.fr 2;have HB3:=G6 B3;have HO4:=G6 O4;clear CD hg3 X1 X2 X0 B3 O3 O4;go_upto_region 4 with fail;generalize w3.setCell ⟨w2.heap.size,2,FX⟩ (FQ (FZ ⟨g,0,FX⟩) R.length c2)=w4 at*;go_wp2_with fail;refine bodyPost_ret (v:=.agg #[I0 s,I0 z,FQ (FZ ⟨g,0,FX⟩) R.length c2]) (by simp[results,results98,go_sem,r0,r1,r2]) rfl ⟨_,rfl,.inr ⟨g,c2,rfl,by omega,?_⟩,?_⟩
  .exact(((G5 HO4).other (by simp only;omega) _).other (by simp only;omega) _).other (by simp only;omega) _
  .exact(((G5 HB3).setCell (by simp only;omega) _).setCell (by simp only;omega) _).setCell (by simp only;omega) _
theorem KC(ns:List En):(G9 ns).length=ns.length*3:=GX ns
theorem J8.A34{pre tl:List En}(h:J8 W g cap (pre++tl))(new:List En)(hfit:pre.length+new.length<=cap):J8 (W.setCells g (pre.length*3) (G9 new)) g cap (pre++new):=h.splice new hfit
theorem J8.CR0(h:J8 W g cap (A++y::B))(x:En):J8 (W.setCells g (A.length*3) (OC x)) g cap (A++x::B):=h.tY x
theorem J8.BO6{fs:List En}(h:J8 W g cap fs){j:Nat}(hj:j<cap*3):(W.cell? ⟨g,j,FX⟩).isSome=true:=h.some hj
theorem AC5(w:FU)(ty:TypeId)(b o dLen dCap:Nat)(a:Addr)(sLen sCap:Nat)(cs:List FV)(hn:cs.length=Nat.min sLen dLen*3)
  (hsrc:∀j v,cs[j]?=FZ v->w.cell? (a.add j)=FZ v) (hc:∀j,j<cs.length->(w.cell? ⟨b,o+j,FX⟩).isSome=true) (hf:∀j,j<cs.length->w.frozen? ⟨b,o+j,FX⟩=false) (h1:∀v∈cs,v.oneCell'=true):
  (DW #[64,64] ty #[FQ (FZ ⟨b,o,FX⟩) dLen dCap,FQ (FZ a) sLen sCap]).run prog w=.ok (goInt (Nat.min sLen dLen)) (w.setCells b o cs):=by
 have hl:=run_loadCells_list (P:=prog) w a cs hsrc;have hst:=run_storeCells_cells (P:=prog) b o cs 0 w (by simpa using hc) (by simpa using hf) h1;obtain⟨i0,hi0,hz0,hz1,hz2⟩:=BK8;simp[DW,run_underlying underlying64,Builtin.lenOf,Builtin.firstCells,sizeOf,typeInfo,hi0,hz1,<-hn,hl,hst]
theorem A35(v:FV)(A:List En)(x:En)(B b:Nat)(w:FU)(ho:GZ w B v A)(hB:B<=w.heap.size)(hl:A.length<=400)(h1:JM w b x):
  FW prog 104 #[v,I0 A.length,FQ (FZ ⟨b,0,FX⟩) 1 1] w fun e w'=>
   ∃v',e=.returned v'/\GZ w' B v' (A++[x])/\w.grownBy w' v.ownBlock/\(v'.ownBlock=v.ownBlock\/v'.ownBlock=FZ w.heap.size):=by
 obtain⟨i0,hi0,hz0,hz1,hz2⟩:=BK8;have hrow:=ho.row;have HR:=G6 hrow;have H1:=G6 h1.row;have V:∃a c,v=FQ a A.length c/\A.length<=c:=by
  rcases ho with⟨rfl,rfl⟩|⟨g,cap,rfl,_,h⟩
  .exact⟨FX,0,rfl,A8 _⟩
  .exact⟨_,cap,rfl,h.le⟩
 obtain⟨a,c,rfl,hc⟩:=V;clear ho hrow h1;rcases Nat.lt_or_ge A.length c with hcl|hcl
 .have hne:¬c=A.length:=by omega
  go_enter func104,ntmps104;go_wp2_with (at_builtin;refine wpList_append_own_at _ rfl _ _ 64 rfl B 61 i0 _ 3 40 underlying64 hi0 hz0 hz1 hz2 rfl (by decide) _ A.length (G9 A) rfl (G5 HR) ⟨b,0,FX⟩ 1 1 (OC x) rfl (by rfl) ?qc2 ((Lay.one x)) ?qc4 ?qc5 hB ?_)
  case qc2=>
   intro j u hj;rw[BJ];exact G5 H1 j u hj
  case qc4=>simp only[maxLen];omega
  case qc5=>omega
  intro v' w1 hown hgrow _ hloc
  go_wp2
  go_ret;exact⟨v',rfl,GZ.KY (by rw[AO,JE];exact hown),hgrow,hloc⟩
 .obtain rfl:c=A.length:=by omega
  go_enter func104,ntmps104;go_wp2_with (at_builtin;refine wpList_append_own_at _ rfl _ _ 64 rfl B 61 i0 _ 3 40 underlying64 hi0 hz0 hz1 hz2 rfl (by decide) _ A.length (G9 A) rfl (G5 HR) ⟨b,0,FX⟩ 1 1 (OC x) rfl (by rfl) ?qc2 ((Lay.one x)) ?qc4 ?qc5 hB ?_)
  case qc2=>
   intro j u hj;rw[BJ];exact G5 H1 j u hj
  case qc4=>simp only[maxLen];omega
  case qc5=>omega
  intro v' w1 hown hgrow _ hloc
  go_wp2
  go_ret;exact⟨v',rfl,GZ.KY (by rw[AO,JE];exact hown),hgrow,hloc⟩
theorem rM(g cap:Nat)(A R:List En)(y x:En)(n b:Nat)(w:FU)(ho:J8 w g cap (A++y::R))(hn:n=A.length+R.length+1)(hsm:n<=400)(hroom:n+1<=cap)(h1:JM w b x)(hbg:b≠g):
  FW prog 104 #[FQ (FZ ⟨g,0,FX⟩) n cap,I0 A.length,FQ (FZ ⟨b,0,FX⟩) 1 1] w fun e w'=>
   e=.returned (FQ (FZ ⟨g,0,FX⟩) (n+1) cap)/\J8 w' g cap (A++x::y::R)/\w.grownBy w' (FZ g):=by
 have hcl:=ho.capLe;simp only[maxLen]at hcl;have hrow:=ho.row;have AU7:w.shape? g=FZ (61,cap*3):=by
  obtain⟨rest,q1,q2,_⟩:=ho;rw[AO,BG]at q2;simp[World.shape?,q1,KC];exact⟨rfl,q2⟩
 have AU8:w.shape? b=FZ (61,3):=by unfold JM at h1;simp[World.shape?,h1];exact⟨rfl,rfl⟩
 have hfb:∀j,w.frozen? ⟨b,j,FX⟩=false:=fun j=>by unfold JM at h1;simp[World.frozen?,h1]
 have hov:∀lb cb,(callFunc 140 #[FQ (FZ ⟨b,0,FX⟩) 1 1,FQ (FZ ⟨g,(A.length+1)*3,FX⟩) lb cb]).run prog w=.ok (.value (.bool false)) w:=fun lb cb=>by
  rw[run_callFunc_extern func140 (by kernel_rfl) (by kernel_rfl) (by kernel_rfl) (e:=Extern.SlicesOverlaps.overlaps #[64,64] #[4]) (by kernel_rfl),
   Lib.run_overlaps_apart w 64 4 61 underlying64 3 sizeOf61 ⟨b,0,FX⟩ ⟨g,(A.length+1)*3,FX⟩ 1 1 lb cb hbg 61 61 3 (cap*3) AU8 AU7 (by omega) (hfb 0) (hfb 3)]
  rfl
 obtain⟨W1,hW1⟩:∃W1,W1=w.drew.setCells g ((A.length+1)*3) (G9 (y::R)):=⟨_,rfl⟩;have ho1:J8 W1 g cap (A++y::y::R):=by
  have h:J8 w.drew g cap ((A++[y])++R):=by rw[List.append_assoc];exact ho
  have:=h.A34 (y::R) (by simp;omega);rw[hW1];simpa using this
 have hg1:w.grownBy W1 (FZ g):=by rw[hW1];have:=H8 (g:=g) (G9 (y::R)) ((A.length+1)*3) w.drew;exact⟨this.os,this.tape,this.output,this.size,this.block⟩
 have hcp1:∀ty dc sc,(DW #[64,64] ty #[FQ (FZ ⟨g,(A.length+1)*3,FX⟩) (n-A.length) dc,FQ (FZ ⟨g,A.length*3,FX⟩) (n+1-A.length) sc]).run prog w.drew=.ok (goInt (Nat.min (n+1-A.length) (n-A.length))) W1:=fun ty dc sc=>by
  rw[hW1];exact AC5 w.drew ty g _ _ dc ⟨g,A.length*3,FX⟩ _ sc (G9 (y::R)) (by rw[KC];simp only[Nat.min_def,BG];split<;>omega)
   (fun j v hj=>by
    rw[BJ];have:=hrow (A.length*3+j) v (by rw[H7,BA (by rw[KC];omega),KC,FB];exact hj);rw[BI]at this;exact this)
   (fun j hj=>by rw[KC]at hj;exact ho.BO6 (by simp at hj;omega)) (fun j _=>ho.frozen _) (JL _)
 have hcp2:∀ty dc,(DW #[64,64] ty #[FQ (FZ ⟨g,A.length*3,FX⟩) (n+1-A.length) dc,FQ (FZ ⟨b,0,FX⟩) 1 1]).run prog W1=.ok (goInt (Nat.min 1 (n+1-A.length))) (W1.setCells g (A.length*3) (OC x)):=fun ty dc=>
  AC5 W1 ty g _ _ dc ⟨b,0,FX⟩ 1 1 (OC x) (by simp only[Nat.min_def,OC,BG,ES];split<;>omega)
   (fun j v hj=>by
    rw[BJ];have hb2:W1.heap[b]?=w.heap[b]? :=hg1.block b (by unfold JM at h1;exact(Array.getElem?_eq_some_iff.1 h1).1) (fun e=>hbg (Option.some.inj e));have h2:JM W1 b x:=hb2.trans h1;exact h2.row j v hj)
   (fun j hj=>ho1.BO6 (by simp[OC]at hj;omega)) (fun j _=>ho1.frozen _) ((Lay.one x))
 have FIN:Hid (J8 (W1.setCells g (A.length*3) (OC x)) g cap (A++x::y::R)/\w.grownBy (W1.setCells g (A.length*3) (OC x)) (FZ g)):=
  ⟨ho1.CR0 x,IJ hg1 (H8 _ _ _)⟩
 have hin:A.length<n:=by omega
 have BW9:(A.length:Int)<(n:Int):=by omega
 have hw1:IntKind.i64.wrap ((A.length:Int)+1)=(A.length:Int)+1:=by rw[IntKind.wrap_i64];omega
 have hb1:(0:Int)<=(A.length:Int)+1:=by omega
 have hb2:¬ (cap=A.length+1):=by omega
 have hb3:(A.length:Int)<=(n:Int)+1:=by omega
 have hb4:¬ (cap=A.length):=by omega
 have hb5:(A.length:Int)+1<=(n:Int)+1:=by omega
 have hb6:¬ ((cap:Int)<(n:Int)+1):=by omega
 have hz2:¬ ((A.length:Int)=(n:Int)):=by omega
 have htn:((A.length:Int)+1).toNat=A.length+1:=by omega
 clear hW1 ho1 hg1 hrow AU7 AU8 hfb ho h1 hn;go_enter func104,ntmps104;go_wp2_with (simp only[hov])
 go_region_law (refine MQ rfl (.tmp 73) (.tmp 76) 64 64 rfl (FQ (FZ ⟨g,(A.length+1)*3,FX⟩) (n-A.length) (cap-(A.length+1))) (FQ (FZ ⟨g,A.length*3,FX⟩) (n+1-A.length) (cap-A.length)) (by simp[Act.eval,Act.put]) (by simp[Act.eval,Act.put]) (hcp1 _ _ _) ?_)
 go_wp2_with (at_builtin;refine L9 _ rfl _ _ 64 64 rfl _ _ rfl rfl (hcp2 _ _) ?_);go_ret;exact⟨rfl,FIN.out⟩
theorem CJ7(k:Nat):(BH (Value.agg #[.string ⟨#[]⟩,.string ⟨#[]⟩,.bool false]).cells k).size=k*3:=by
 simp[BH,Value.cells]
theorem xO(g cap:Nat)(A R:List En)(y x:En)(n b:Nat)(w:FU)(ho:J8 w g cap (A++y::R))(hn:n=A.length+R.length+1)(hsm:n<=400)(hroom:cap<n+1)(h1:JM w b x):
  FW prog 104 #[FQ (FZ ⟨g,0,FX⟩) n cap,I0 A.length,FQ (FZ ⟨b,0,FX⟩) 1 1] w fun e w'=>
   ∃cap',e=.returned (FQ (FZ ⟨w.heap.size,0,FX⟩) (n+1) cap')/\J8 w' w.heap.size cap' (A++x::y::R)/\B0 w w':=by
 have hcap:cap=n:=by have:=ho.le;simp at this;omega
 obtain⟨i0,hi0,hz0,hz1,hz2⟩:=BK8;have hrow:=ho.row;have hgw:=ho.lt;have hbw:b<w.heap.size:=by unfold JM at h1;exact(Array.getElem?_eq_some_iff.1 h1).1
 have hold:(Builtin.firstCells i0.size A.length (FQ (FZ ⟨g,0,FX⟩) A.length cap)).run prog w.drew=.ok (G9 A).toArray w.drew:=by
  rw[hz1];exact run_firstCells_some w.drew 3 A.length ⟨g,0,FX⟩ A.length cap (G9 A) (KC A) (fun j v hj=>by
   rw[BJ];exact hrow j v (by rw[H7,List.getElem?_append_left (List.getElem?_eq_some_iff.1 hj).1];exact hj))
 obtain⟨G,hG⟩:∃G,G=grownCap w (n+1) cap 61:=⟨_,rfl⟩;have hGn:n+1<=G:=by rw[hG];exact grownCap_ge w _ _ _
 have hGm:G<=maxLen:=by rw[hG];exact grownCap_le_maxLen w (n+1) cap _ (by unfold maxLen;omega)
 have hG63:G<=9223372036854775807:=by have:=hGm;unfold maxLen at this;omega
 obtain⟨ROW,hROW⟩:∃ROW:Array FV,ROW=(G9 A).toArray++BH (Value.agg #[.string ⟨#[]⟩,.string ⟨#[]⟩,.bool false]).cells (n+1-A.length)++BH (Value.agg #[.string ⟨#[]⟩,.string ⟨#[]⟩,.bool false]).cells (G-(n+1)):=⟨_,rfl⟩;obtain⟨W1,hW1⟩:∃W1,W1=w.drew.alloc (FT ROW 61):=⟨_,rfl⟩;have hik:A.length+(n+1-A.length)=n+1:=by omega
 have hrz:∀ty,(Builtin.append_ #[64,3] ty #[FQ (FZ ⟨g,0,FX⟩) A.length cap,I0 ((n:Int)+1-(A.length:Int))]).run prog w=
   .ok (FQ (FZ ⟨w.heap.size,0,FX⟩) (n+1) G) W1:=fun ty=>by
  have h:=Lib.run_append_grow_zeros w 64 3 ty 61 i0 _ .i64 .i64 underlying64 underlying3 hi0 hz0 (FZ ⟨g,0,FX⟩) A.length cap (G9 A) hold (n+1-A.length) (by omega) (by omega) (by omega) (by omega) (by rw[hz2];omega) (by rw[hz2,hik];exact growslice_fits hroom (by omega));rw[hik,<-hG,<-hROW,<-hW1]at h;rw[show (n:Int)+1-(A.length:Int)=((n+1-A.length:Nat):Int) by omega];exact h
 have ho1:J8 W1 w.heap.size G A:=by
  refine⟨(BH (Value.agg #[.string ⟨#[]⟩,.string ⟨#[]⟩,.bool false]).cells (n+1-A.length)++BH (Value.agg #[.string ⟨#[]⟩,.string ⟨#[]⟩,.bool false]).cells (G-(n+1))).toList,?_,?_,by omega,hGm⟩
  .rw[hW1,hROW];have:=heap_alloc_new w.drew (FT ((G9 A).toArray++BH (Value.agg #[.string ⟨#[]⟩,.string ⟨#[]⟩,.bool false]).cells (n+1-A.length)++BH (Value.agg #[.string ⟨#[]⟩,.string ⟨#[]⟩,.bool false]).cells (G-(n+1))) 61);refine Eq.trans this ?_
   congr 2
   apply Array.toList_inj.1
   simp
  .simp only[show Lay.k En=3 from rfl,Array.length_toList,Array.size_append,CJ7];omega
 have hB1:B0 w W1:=by rw[hW1];exact((Below.refl _ w).drew).alloc (A8 _) _
 obtain⟨W2,hW2⟩:∃W2,W2=W1.setCells w.heap.size (A.length*3) (OC x):=⟨_,rfl⟩;have ho2:J8 W2 w.heap.size G (A++[x]):=by
  have h:J8 W1 w.heap.size G (A++[]):=by rw[DL];exact ho1
  have:=h.A34 [x] (by simp;omega);rw[hW2];rw[JQ,RQ,DL]at this;exact this
 have hg2:W1.grownBy W2 (FZ w.heap.size):=by rw[hW2];exact H8 _ _ _
 have hB2:B0 w W2:=hB1.grown hg2 hB1.size (fun k e=>by cases e;exact A8 _);have hcpA:∀ty dc,(DW #[64,64] ty #[FQ (FZ ⟨w.heap.size,A.length*3,FX⟩) (n+1-A.length) dc,FQ (FZ ⟨b,0,FX⟩) 1 1]).run prog W1=.ok (goInt (Nat.min 1 (n+1-A.length))) W2:=fun ty dc=>by
  rw[hW2];exact AC5 W1 ty w.heap.size _ _ dc ⟨b,0,FX⟩ 1 1 (OC x) (by simp only[Nat.min_def,OC,BG,ES];split<;>omega)
   (fun j v hj=>by rw[BJ];exact(show JM W1 b x from(hB1.block b hbw).trans h1).row j v hj)
   (fun j hj=>ho1.BO6 (by simp[OC]at hj;omega)) (fun j _=>ho1.frozen _) ((Lay.one x))
 obtain⟨W3,hW3⟩:∃W3,W3=W2.drew.setCells w.heap.size ((A.length+1)*3) (G9 (y::R)):=⟨_,rfl⟩;have hcpB:∀ty dc sc,(DW #[64,64] ty #[FQ (FZ ⟨w.heap.size,(A.length+1)*3,FX⟩) (n-A.length) dc,FQ (FZ ⟨g,A.length*3,FX⟩) (n-A.length) sc]).run prog W2.drew=.ok (goInt (Nat.min (n-A.length) (n-A.length))) W3:=fun ty dc sc=>by
  rw[hW3];exact AC5 W2.drew ty w.heap.size _ _ dc ⟨g,A.length*3,FX⟩ _ sc (G9 (y::R)) (by rw[KC];simp only[Nat.min_self,BG];omega)
   (fun j v hj=>by
    rw[BJ];have:=hrow (A.length*3+j) v (by rw[H7,BA (by rw[KC];omega),KC,FB];exact hj);rw[BI]at this;exact(hB2.cell (p:=⟨g,A.length*3+j,FX⟩) hgw).trans this)
   (fun j hj=>by rw[KC]at hj;exact ho2.drew.BO6 (by simp at hj;omega)) (fun j _=>ho2.drew.frozen _) (JL _)
 have FIN:Hid (J8 W3 w.heap.size G (A++x::y::R)/\B0 w W3):=by
  refine⟨?_,?_⟩
  .have h:J8 W2.drew w.heap.size G ((A++[x])++[]):=by rw[DL];exact ho2
   have:=h.A34 (y::R) (by simp;omega);rw[hW3];simpa using this
  .rw[hW3];exact hB2.drew.grown (H8 _ _ _) hB2.size (fun k e=>by cases e;exact A8 _)
 have hin:A.length<n:=by omega
 have BW9:(A.length:Int)<(n:Int):=by omega
 have hw1:IntKind.i64.wrap ((A.length:Int)+1)=(A.length:Int)+1:=by rw[IntKind.wrap_i64];omega
 have hb1:(0:Int)<=(A.length:Int)+1:=by omega
 have hb2:¬ (G=A.length+1):=by omega
 have hb3:(A.length:Int)<=(n:Int)+1:=by omega
 have hb4:¬ (n=A.length):=by omega
 have hb5:(A.length:Int)+1<=(n:Int)+1:=by omega
 have hb6:¬ (G=A.length):=by omega
 have hb7:(A.length:Int)<=(n:Int):=by omega
 have hz3:¬ ((A.length:Int)=(n:Int)):=by omega
 have htn:((A.length:Int)+1).toNat=A.length+1:=by omega
 subst hcap;clear hn hROW hW1 hW2 hW3 hG hrow ho h1 ho1 ho2 hB1 hB2 hg2 hold hik;go_enter func104,ntmps104;go_wp2_with (first
  |(at_builtin;refine Lib.wpList_append_run _ rfl _ _ _ _ rfl _ _ rfl rfl _ _ (hrz _) ?_)
  |(at_builtin;refine L9 _ rfl _ _ 64 64 rfl _ _ rfl rfl (hcpA _ _) ?_))
 go_region_law (refine MQ rfl (.tmp 50) (.tmp 53) 64 64 rfl (FQ (FZ ⟨w.heap.size,(A.length+1)*3,FX⟩) (cap-A.length) (G-(A.length+1))) (FQ (FZ ⟨g,A.length*3,FX⟩) (cap-A.length) (cap-A.length)) (by simp[Act.eval,Act.put]) (by simp[Act.eval,Act.put]) (hcpB _ _ _) ?_)
 go_wp2
 go_ret;exact⟨G,rfl,FIN.out⟩
theorem A36(v:FV)(A R:List En)(x:En)(q:Nat)(w:FU)(ho:GZ w 0 v (A++R))(hl:(A++R).length<=400)(h1:JM w q x)(hq:v.ownBlock≠FZ q):
  FW prog 104 #[v,I0 A.length,FQ (FZ ⟨q,0,FX⟩) 1 1] w fun e w'=>
   ∃v',e=.returned v'/\GZ w' 0 v' (A++x::R)/\w.grownBy w' v.ownBlock/\(v'.ownBlock=v.ownBlock\/∃k,w.heap.size<=k/\v'.ownBlock=FZ k):=by
 cases R with
 |nil=>
  rw[DL]at ho hl;refine(A35 v A x 0 q w ho (AY _) hl h1).mono ?_;rintro e w' ⟨v',rfl,h2,h3,h4⟩;refine⟨v',rfl,h2,h3,?_⟩;rcases h4 with h|h
  .exact .inl h
  .exact .inr ⟨_,A8 _,h⟩
 |cons y R=>
  rcases ho with⟨_,h⟩|⟨g,cap,rfl,_,ho⟩
  .simp at h
  .have hn:(A++y::R).length=A.length+R.length+1:=by simp;omega
   by_cases hc:(A++y::R).length+1<=cap
   .refine(rM g cap A R y x _ q w ho hn hl hc h1 (fun e=>hq (by rw[e];rfl))).mono ?_;rintro e w' ⟨rfl,h2,h3⟩;exact⟨_,rfl,.inr ⟨g,cap,by simp;omega,AY _,h2⟩,h3,.inl rfl⟩
   .refine(xO g cap A R y x _ q w ho hn hl (by omega) h1).mono ?_;rintro e w' ⟨cap',rfl,h2,h3⟩;exact⟨_,rfl,.inr ⟨w.heap.size,cap',by simp;omega,AY _,h2⟩,⟨h3.os,h3.tape,h3.output,h3.size,fun k hk _=>h3.block k hk⟩,.inr ⟨_,A8 _,rfl⟩⟩
structure kN(w W:FU)(k q g cap:Nat)(s z:Int)(x:En)(A:List En)(y:En)(B:List En):Prop where
 hk:w.heap.size=k
 old:B0 w W
 res:NW W (k+2) 0 0 (N0)
 one:JM W (k+1) x
 box:NW W q s z (FQ (FZ ⟨g,0,FX⟩) (A++y::B).length cap)
 hq:k+3<=q
 hg:k+3<=g
 own:J8 W g cap (A++y::B)
 ne:g≠q
theorem kN.next{w V:FU}{k q:Nat}{s z:Int}{x:En}(h:kN w W k q g cap s z x A y B)(hb:B0 W V):kN w V k q g cap s z x A y B:=
 ⟨h.hk,G8 h.old hb,h.res.next hb,h.one.UD hb h.one.ltz,h.box.next hb,h.hq,h.hg,h.own.next hb,h.ne⟩
theorem kN.fin{w:FU}{k q:Nat}{s z:Int}{x:En}(h:kN w W k q g cap s z x A y B):
  NW (((W.setCell ⟨g,A.length*3,FX⟩ (S0 x.p)).setCell ⟨g,A.length*3+1,FX⟩ (S0 x.d)).setCell ⟨g,A.length*3+2,FX⟩ (.bool x.t)) q s z (FQ (FZ ⟨g,0,FX⟩) (A++y::B).length cap)/\
  NW (((W.setCell ⟨g,A.length*3,FX⟩ (S0 x.p)).setCell ⟨g,A.length*3+1,FX⟩ (S0 x.d)).setCell ⟨g,A.length*3+2,FX⟩ (.bool x.t)) (k+2) 0 0 (N0)/\
  J8 (((W.setCell ⟨g,A.length*3,FX⟩ (S0 x.p)).setCell ⟨g,A.length*3+1,FX⟩ (S0 x.d)).setCell ⟨g,A.length*3+2,FX⟩ (.bool x.t)) g cap (A++x::B)/\
  B0 w (((W.setCell ⟨g,A.length*3,FX⟩ (S0 x.p)).setCell ⟨g,A.length*3+1,FX⟩ (S0 x.d)).setCell ⟨g,A.length*3+2,FX⟩ (.bool x.t)):=by
 have h1:=h.ne;have h2:=h.hg;have h3:=h.hk;refine⟨((h.box.other (by simp only;omega) _).other (by simp only;omega) _).other (by simp only;omega) _,((h.res.other (by simp only;omega) _).other (by simp only;omega) _).other (by simp only;omega) _,h.own.tY x,?_⟩;exact((h.old.setCell (by simp only;omega) _).setCell (by simp only;omega) _).setCell (by simp only;omega) _
theorem AC6(w:FU)(s z:Int)(v:FV)(x:En):∃W,W=((w.alloc (FT #[I0 s,I0 z,v] 66)).alloc (FT #[S0 x.p,S0 x.d,.bool x.t] 61)).alloc (FT #[I0 0,I0 0,N0] 66)/\
  B0 w W/\NW W w.heap.size s z v/\JM W (w.heap.size+1) x/\NW W (w.heap.size+2) 0 0 (N0)/\W.heap.size=w.heap.size+3:=by
 refine⟨_,rfl,G8 (G8 (G7 _ _) (G7 _ _)) (G7 _ _),((NW.new w s z v).next (G7 _ _)).next (G7 _ _),?_,?_,by simp⟩
 .have:=(aK (w.alloc (FT #[I0 s,I0 z,v] 66)) x).UD (G7 _ (FT #[I0 0,I0 0,N0] 66)) (by simp);simpa using this
 .have:=NW.new ((w.alloc (Obj.cells #[I0 s,I0 z,v] 66)).alloc (Obj.cells #[Value.string (ByteArray.mk x.p.toArray),.string (ByteArray.mk x.d.toArray),.bool x.t] 61)) 0 0 (N0);simpa using this
theorem B76(s z:Int)(v:FV)(es:List En)(x:En)(w:FU)(hv:IL w v es)(hs:nP es)(hl:es.length<=400)(ha:AO2 es)(hx:x.p.length<=140737488355328/\x.d.length<=140737488355328):
  FW prog 70 #[clV s z v,enV x] w fun e w'=>∃v',e=.returned (clV s z v')/\GZ w' w.heap.size v' (VK es x)/\B0 w w':=by
 have CC:=fun W (hW:B0 w W)=>YV s z v es W (hv.next hW) hs (by omega);have CO:=fun W=>qO (IQ x) W (nR hx).1 (nR hx).2;have HW:=G6 (wF x.p es ha);obtain⟨a,c,rfl⟩:=GK hv;unfold clV at CC⊢;unfold enV;clear hv hs ha hx;obtain⟨k,hk⟩:∃k,k=w.heap.size:=⟨_,rfl⟩;go_enter func70,ntmps70
 cases ht:x.t
 case' true=>
  obtain⟨W,hW,B0,K0,K1,K2,hz⟩:=AC6 w s z (FQ a es.length c) x;have K1:JM W (w.heap.size+1) (IQ x):=by rw[B24 ht];exact K1
  rw[ht]at hW;have q0:=K1.e2
 case' false=>
  obtain⟨W,hW,B0,K0,K1,K2,hz⟩:=AC6 w s z (FQ a es.length c) ⟨x.p,[],false⟩;have K1:JM W (w.heap.size+1) (IQ x):=by rw[BK2 ht,ht];exact K1
 all_goals
  go_wp2_with fail;rw[<-hW];refine(CC _ B0).mono ?_;rintro e w1 ⟨v1,rfl,ho1,hb1⟩;have B1:=G8 B0 hb1;have K1':=(K1.UD hb1 K1.ltz).UD (G7 w1 (FT #[I0 s,I0 z,v1] 66)) (Nat.lt_of_lt_of_le K1.ltz hb1.size);have K2':=(K2.next hb1).next (G7 w1 (FT #[I0 s,I0 z,v1] 66));have ho2:=ho1.next (G7 w1 (FT #[I0 s,I0 z,v1] 66));have K3:=NW.new w1 s z v1;have B2:=G8 B1 (G7 w1 (FT #[I0 s,I0 z,v1] 66));have hz1:=hb1.size;have hlow:=ho1.low;have HNP:=G6 (A17 x);have hq0:=K3.c2;have hq1:=K1'.e0;rw[G5 HNP]at hq1;obtain⟨q,hq⟩:∃q,q=w1.heap.size:=⟨_,rfl⟩;have hzq:(w1.alloc (FT #[I0 s,I0 z,v1] 66)).heap.size=w1.heap.size+1:=by simp
  have hab:=ho1.above;obtain⟨a1,c1,rfl,_⟩:=ho1.slice;have HC:=G6 K3;have HK1:=G6 K1';have HK2:=G6 K2';have HB2:=G6 B2;have HO:=G6 ho2;clear K1 K2 K1' K2' K3 ho1 ho2 hb1 B1 B2 B0 CC K0;rcases G5 HW with⟨A,f,B,T⟩|⟨A,B,G⟩
  .have CF:=kD (FQ a1 es.length c1) es A B f x.p _ (G5 HO).seq (by omega) T;go_wp2_with fail;generalize w1.alloc (FT #[I0 s,I0 z,FQ a1 es.length c1] 66)=W1 at*;refine CF.mono ?_;rintro e w2 ⟨rfl,hb2⟩;have O3:=(G5 HO).next hb2;rw[T.eq]at O3;rcases O3 with⟨_,h0⟩|⟨g,cap,hga,hgB,O3⟩
   .simp at h0
   have HT:Hid (VK es x=A++IQ x::B):=G6 T.keep;have ST:kN w w2 k q g cap s z (IQ x) A f B:=⟨hk.symm,G8 (G5 HB2) hb2,by have:=(G5 HK2).next hb2;rw[hk];exact this,by rw[hk];exact(G5 HK1).UD hb2 (G5 HK1).ltz,
    by have:=(G5 HC).next hb2;rw[<-hga,hq,<-T.eq];exact this,by omega,by omega,O3,fun e=>by have:=hlow g (by rw[<-T.eq]at hga;rw[hga];rfl);omega⟩
   clear CF O3 hgB hb2;have hAl:A.length<es.length:=by rw[T.eq];simp
   have hAi:(A.length:Int)<(es.length:Int):=by omega
   rw[<-T.eq]at hga;have HEl:=G6 (congrArg List.length T.eq);clear T hq0 hq1;simp only[AP]at hga;obtain⟨rfl,_,rfl⟩:=hga;have HS:=G6 ST;have HX:=G6 hz;have HY:=G6 hk;clear hz hk;have p0:=ST.box.c2;rw[<-G5 HEl]at p0;have p1:=ST.one.e0;have p2:=ST.one.e1;have p3:=ST.one.e2;rw[G5 HY]at p1 p2 p3;rw[hq]at p0;have KB:∀W2,B0 w2 W2->W2.cell? ⟨w1.heap.size,2,FX⟩=FZ (FQ (FZ ⟨g,0,FX⟩) es.length c1)/\(∃u,W2.cell? ⟨g,A.length*3,FX⟩=FZ u)/\(∃u,W2.cell? ⟨g,A.length*3+1,FX⟩=FZ u)/\(∃u,W2.cell? ⟨g,A.length*3+2,FX⟩=FZ u)/\(∀j,W2.frozen? ⟨g,j,FX⟩=false)/\
     W2.cell? ⟨w.heap.size+1,0,FX⟩=FZ (S0 (IQ x).p)/\W2.cell? ⟨w.heap.size+1,1,FX⟩=FZ (S0 (IQ x).d)/\W2.cell? ⟨w.heap.size+1,2,FX⟩=FZ (.bool (IQ x).t):=fun W2 hb=>by
    have S2:=(G5 HS).next hb;have b0:=S2.box.c2;rw[<-G5 HEl,hq]at b0;have r:=S2.own.row;have b1:=S2.one.e0;have b2:=S2.one.e1;have b3:=S2.one.e2;rw[G5 HY]at b1 b2 b3;have r0:W2.cell? ⟨g,A.length*3,FX⟩=FZ (S0 f.p):=by have:=r.en0 (i:=A.length) (x:=f) (by simp);simpa using this
    have r1:W2.cell? ⟨g,A.length*3+1,FX⟩=FZ (S0 f.d):=by have:=r.en1 (i:=A.length) (x:=f) (by simp);simpa using this
    have r2:W2.cell? ⟨g,A.length*3+2,FX⟩=FZ (.bool f.t):=by have:=r.en2 (i:=A.length) (x:=f) (by simp);simpa using this
    exact⟨b0,⟨_,r0⟩,⟨_,r1⟩,⟨_,r2⟩,S2.own.frozen,b1,b2,b3⟩
   have HKB:=G6 KB;clear ST KB;go_wp2_with fail;have KS:∀W2,B0 w2 W2->W2.cell? ⟨w1.heap.size,2,FX⟩=FZ (FQ (FZ ⟨g,0,FX⟩) es.length c1)/\W2.cell? ⟨w.heap.size+1,0,FX⟩=FZ (S0 (IQ x).p)/\W2.cell? ⟨w.heap.size+1,1,FX⟩=FZ (S0 (IQ x).d)/\W2.cell? ⟨w.heap.size+1,2,FX⟩=FZ (.bool (IQ x).t):=fun W2 hb=>by
    obtain⟨b0,_,_,_,_,b4,b5,b6⟩:=G5 HKB W2 hb;exact⟨b0,b4,b5,b6⟩
   have HKS:=G6 KS;have HKT:Hid (∀W2,B0 w2 W2->(((W2.setCell ⟨g,A.length*3,FX⟩ (S0 (IQ x).p)).setCell ⟨g,A.length*3+1,FX⟩ (S0 (IQ x).d)).setCell ⟨g,A.length*3+2,FX⟩ (.bool (IQ x).t)).cell? ⟨w1.heap.size,2,FX⟩=FZ (FQ (FZ ⟨g,0,FX⟩) es.length c1)/\(((W2.setCell ⟨g,A.length*3,FX⟩ (S0 (IQ x).p)).setCell ⟨g,A.length*3+1,FX⟩ (S0 (IQ x).d)).setCell ⟨g,A.length*3+2,FX⟩ (.bool (IQ x).t)).cell? ⟨w.heap.size+1,0,FX⟩=FZ (S0 (IQ x).p)/\(((W2.setCell ⟨g,A.length*3,FX⟩ (S0 (IQ x).p)).setCell ⟨g,A.length*3+1,FX⟩ (S0 (IQ x).d)).setCell ⟨g,A.length*3+2,FX⟩ (.bool (IQ x).t)).cell? ⟨w.heap.size+1,1,FX⟩=FZ (S0 (IQ x).d)/\(((W2.setCell ⟨g,A.length*3,FX⟩ (S0 (IQ x).p)).setCell ⟨g,A.length*3+1,FX⟩ (S0 (IQ x).d)).setCell ⟨g,A.length*3+2,FX⟩ (.bool (IQ x).t)).cell? ⟨w.heap.size+1,2,FX⟩=FZ (.bool (IQ x).t)):=G6 fun W2 hb=>by
    have S2:=(G5 HS).next hb;have hne:=S2.ne;have hgk:=S2.hg;have b0:=((S2.box.other (a:=⟨g,A.length*3,FX⟩) (by simp only;omega) (S0 (IQ x).p)).other (a:=⟨g,A.length*3+1,FX⟩) (by simp only;omega) (S0 (IQ x).d)).other (a:=⟨g,A.length*3+2,FX⟩) (by simp only;omega) (.bool (IQ x).t)|>.c2;have o1:=((S2.one.OL (a:=⟨g,A.length*3,FX⟩) (by simp only;omega) (S0 (IQ x).p)).OL (a:=⟨g,A.length*3+1,FX⟩) (by simp only;omega) (S0 (IQ x).d)).OL (a:=⟨g,A.length*3+2,FX⟩) (by simp only;omega) (.bool (IQ x).t);have b1:=o1.e0;have b2:=o1.e1;have b3:=o1.e2;rw[<-G5 HEl,hq]at b0;rw[G5 HY]at b1 b2 b3;exact⟨b0,b1,b2,b3⟩
   clear KS
   go_region_held3 (fun w'=>w'.cell? ⟨w1.heap.size,2,FX⟩=FZ (FQ (FZ ⟨g,0,FX⟩) es.length c1)/\w'.cell? ⟨w.heap.size+1,0,FX⟩=FZ (S0 (IQ x).p)/\w'.cell? ⟨w.heap.size+1,1,FX⟩=FZ (S0 (IQ x).d)/\w'.cell? ⟨w.heap.size+1,2,FX⟩=FZ (.bool (IQ x).t)) (first|with_reducible exact G5 HKS _ (Below.refl _ _)|with_reducible exact G5 HKS _ (Below.refl _ _).drew|with_reducible exact G5 HKS _ (G5 HB5)|with_reducible exact G5 HKT _ (G5 HB5)) (first
    |(go_at_call 26;with_reducible refine(CO _).mono ?_;rintro e w4 ⟨rfl,hb4⟩;have HB5:Hid (B0 w2 w4):=G6 (I8 hb4);obtain⟨b0,⟨u1,b1⟩,⟨u2,b2⟩,⟨u3,b3⟩,bf,b4,b5,b6⟩:=G5 HKB w4 (G5 HB5);have bf0:=bf (A.length*3);have bf1:=bf (A.length*3+1);have bf2:=bf (A.length*3+2);clear bf hb4))
   all_goals
    obtain⟨V1,V2,V3,V4⟩:=((G5 HS).next (G5 HB5)).fin;rw[<-G5 HEl,hq]at V1;rw[G5 HY]at V2;have HV3:=G6 V3;have HV4:=G6 V4;have v0:=V1.c0;have v1:=V1.c1;have v2:=V1.c2;have v3:=V2.c0;have v4:=V2.c1;have v5:=V2.c2;have v6:=V2.fr 0;have v7:=V2.fr 1;have v8:=V2.fr 2;have hgk:=(G5 HS).hg;rw[G5 HY]at hgk;clear V1 V2 V3 V4;generalize ((w4.setCell ⟨g,A.length*3,FX⟩ (S0 (IQ x).p)).setCell ⟨g,A.length*3+1,FX⟩ (S0 (IQ x).d)).setCell ⟨g,A.length*3+2,FX⟩ (.bool (IQ x).t)=w5 at*;go_wp2_with fail;refine bodyPost_ret (v:=.agg #[I0 s,I0 z,FQ (FZ ⟨g,0,FX⟩) es.length c1]) (by simp[results,results70,go_sem,v3,v4,v5]) rfl ⟨_,rfl,.inr ⟨g,c1,?_,by omega,?_⟩,?_⟩
    .rw[G5 HT,G5 HEl];simp
    .rw[G5 HT];exact(((G5 HV3).other (by simp only;omega) _).other (by simp only;omega) _).other (by simp only;omega) _
    .exact(((G5 HV4).setCell (by simp only;omega) _).setCell (by simp only;omega) _).setCell (by simp only;omega) _
  .have CF:=wM (FQ a1 es.length c1) es A B x.p _ (G5 HO).seq (by omega) G;go_wp2_with fail;generalize w1.alloc (FT #[I0 s,I0 z,FQ a1 es.length c1] 66)=W1 at*;refine CF.mono ?_;rintro e w2 ⟨rfl,hb2⟩;have O3:=(G5 HO).next hb2;rw[G.eq]at O3;have C3:=(G5 HC).next hb2;have c3:=C3.c2;have f3:=C3.fr 2;have HT:Hid (VK es x=A++IQ x::B):=G6 G.keep;have HE2:=G6 (congrArg List.length G.eq);have N3:=aK w2 noneE;have O4:=O3.next (G7 w2 (FT #[S0 (noneE.p),S0 (noneE.d),.bool noneE.t] 61));have CI:=A36 _ A B noneE w2.heap.size _ (O4.lower (AY _)) (by rw[<-G5 HE2];omega) N3 (fun e=>by have:=O3.low _ e;omega);rw[<-G5 HE2]at CI;have HS0:=G6 ((G5 HK2).next hb2);have HS1:=G6 ((G5 HK1).UD hb2 (G5 HK1).ltz);have HS2:=G6 (G8 (G5 HB2) hb2);have hz2:=hb2.size;clear CF O3 O4 hb2 hq0 hq1 G;have HC3:=G6 C3;clear C3;simp only[noneE]at CI;go_wp2_with fail;refine CI.mono ?_;rintro e w3 ⟨v3,rfl,ho3,hg3,hl3⟩;have hg4:w2.grownBy w3 (Value.slice a1 es.length c1).ownBlock:=⟨hg3.os,hg3.tape,hg3.output,Nat.le_trans (by simp) hg3.size,fun j hj hne=>(hg3.block j (by simp;omega) hne).trans (Below.block (G7 w2 _) j hj)⟩;have hne:∀j,j<k+3->FZ j≠(Value.slice a1 es.length c1).ownBlock:=fun j hj e=>by have:=hab j e.symm;omega
   have hnq:FZ q≠(Value.slice a1 es.length c1).ownBlock:=fun e=>by have:=hlow q e.symm;omega
   have C4:=(G5 HC3).grown hg4 (by rw[<-hq];exact hnq);have c4:=C4.c2;have f4:=C4.fr 2;have R4:=(G5 HS0).grown hg4 (hne _ (by omega));have E4:JM w3 (w.heap.size+1) (IQ x):=(hg4.block _ (G5 HS1).ltz (hne _ (by omega))).trans (G5 HS1);have B4:=(G5 HS2).grown hg4 (G5 HS2).size (fun j e=>by have:=hab j e;omega);have hgp:∀j,v3.ownBlock=FZ j->k+3<=j/\j≠q:=fun j e=>by
    rcases hl3 with h|⟨i,hi,h⟩
    .rw[e]at h;exact⟨by have:=hab j h.symm;omega,fun e2=>hnq (by rw[<-e2];exact h)⟩
    .rw[e]at h
     cases h
     simp at hi;exact⟨by omega,by omega⟩
   rcases ho3 with⟨_,h0⟩|⟨g,cap,rfl,_,O4⟩
   .simp at h0
   obtain⟨hg5,hg6⟩:=hgp g rfl;have ST:kN w (w3.setCell ⟨w1.heap.size,2,FX⟩ (FQ (FZ ⟨g,0,FX⟩) (A++(⟨[],[],false⟩:En)::B).length cap)) k q g cap s z (IQ x) A ⟨[],[],false⟩ B:=
    ⟨hk.symm,B4.setCell (by simp only;omega) _,by rw[hk];exact R4.other (by simp only;omega) _,by rw[hk];exact E4.OL (by simp only;omega) _,by rw[hq];exact C4.set2,by omega,by omega,O4.other (by simp only;omega) _,by omega⟩
   clear CI C4 R4 E4 B4 O4 hgp hl3 hg3 hg4 hne hnq N3 c3 f3;obtain⟨n,hn⟩:∃n,(A++(⟨[],[],false⟩:En)::B).length=n:=⟨_,rfl⟩;have hAl:A.length<n:=by rw[<-hn];simp
   have hAi:(A.length:Int)<(n:Int):=by omega
   have hn2:n<=500:=by have:=G5 HE2;rw[AO]at this;rw[<-hn,AO,BG];omega
   have HEl:=G6 hn.symm;rw[hn]at ST⊢;clear hn;go_upto_region 7 with fail;generalize w3.setCell ⟨w1.heap.size,2,FX⟩ (FQ (FZ ⟨g,0,FX⟩) n cap)=w2 at*;have HS:=G6 ST;have HX:=G6 hz;have HY:=G6 hk;clear hz hk;have p0:=ST.box.c2;rw[<-G5 HEl]at p0;have p1:=ST.one.e0;have p2:=ST.one.e1;have p3:=ST.one.e2;rw[G5 HY]at p1 p2 p3;rw[hq]at p0;have KB:∀W2,B0 w2 W2->W2.cell? ⟨w1.heap.size,2,FX⟩=FZ (FQ (FZ ⟨g,0,FX⟩) n cap)/\(∃u,W2.cell? ⟨g,A.length*3,FX⟩=FZ u)/\(∃u,W2.cell? ⟨g,A.length*3+1,FX⟩=FZ u)/\(∃u,W2.cell? ⟨g,A.length*3+2,FX⟩=FZ u)/\(∀j,W2.frozen? ⟨g,j,FX⟩=false)/\
     W2.cell? ⟨w.heap.size+1,0,FX⟩=FZ (S0 (IQ x).p)/\W2.cell? ⟨w.heap.size+1,1,FX⟩=FZ (S0 (IQ x).d)/\W2.cell? ⟨w.heap.size+1,2,FX⟩=FZ (.bool (IQ x).t):=fun W2 hb=>by
    have S2:=(G5 HS).next hb;have b0:=S2.box.c2;rw[<-G5 HEl,hq]at b0;have r:=S2.own.row;have b1:=S2.one.e0;have b2:=S2.one.e1;have b3:=S2.one.e2;rw[G5 HY]at b1 b2 b3;have r0:W2.cell? ⟨g,A.length*3,FX⟩=FZ (.string ⟨(⟨[],[],false⟩:En).p.toArray⟩):=by have:=r.en0 (i:=A.length) (x:=(⟨[],[],false⟩:En)) (by simp);simpa using this
    have r1:W2.cell? ⟨g,A.length*3+1,FX⟩=FZ (.string ⟨(⟨[],[],false⟩:En).d.toArray⟩):=by have:=r.en1 (i:=A.length) (x:=(⟨[],[],false⟩:En)) (by simp);simpa using this
    have r2:W2.cell? ⟨g,A.length*3+2,FX⟩=FZ (.bool (⟨[],[],false⟩:En).t):=by have:=r.en2 (i:=A.length) (x:=(⟨[],[],false⟩:En)) (by simp);simpa using this
    exact⟨b0,⟨_,r0⟩,⟨_,r1⟩,⟨_,r2⟩,S2.own.frozen,b1,b2,b3⟩
   have HKB:=G6 KB;clear ST KB;go_wp2_with fail;have KS:∀W2,B0 w2 W2->W2.cell? ⟨w1.heap.size,2,FX⟩=FZ (FQ (FZ ⟨g,0,FX⟩) n cap)/\W2.cell? ⟨w.heap.size+1,0,FX⟩=FZ (S0 (IQ x).p)/\W2.cell? ⟨w.heap.size+1,1,FX⟩=FZ (S0 (IQ x).d)/\W2.cell? ⟨w.heap.size+1,2,FX⟩=FZ (.bool (IQ x).t):=fun W2 hb=>by
    obtain⟨b0,_,_,_,_,b4,b5,b6⟩:=G5 HKB W2 hb;exact⟨b0,b4,b5,b6⟩
   have HKS:=G6 KS;have HKT:Hid (∀W2,B0 w2 W2->(((W2.setCell ⟨g,A.length*3,FX⟩ (S0 (IQ x).p)).setCell ⟨g,A.length*3+1,FX⟩ (S0 (IQ x).d)).setCell ⟨g,A.length*3+2,FX⟩ (.bool (IQ x).t)).cell? ⟨w1.heap.size,2,FX⟩=FZ (FQ (FZ ⟨g,0,FX⟩) n cap)/\(((W2.setCell ⟨g,A.length*3,FX⟩ (S0 (IQ x).p)).setCell ⟨g,A.length*3+1,FX⟩ (S0 (IQ x).d)).setCell ⟨g,A.length*3+2,FX⟩ (.bool (IQ x).t)).cell? ⟨w.heap.size+1,0,FX⟩=FZ (S0 (IQ x).p)/\(((W2.setCell ⟨g,A.length*3,FX⟩ (S0 (IQ x).p)).setCell ⟨g,A.length*3+1,FX⟩ (S0 (IQ x).d)).setCell ⟨g,A.length*3+2,FX⟩ (.bool (IQ x).t)).cell? ⟨w.heap.size+1,1,FX⟩=FZ (S0 (IQ x).d)/\(((W2.setCell ⟨g,A.length*3,FX⟩ (S0 (IQ x).p)).setCell ⟨g,A.length*3+1,FX⟩ (S0 (IQ x).d)).setCell ⟨g,A.length*3+2,FX⟩ (.bool (IQ x).t)).cell? ⟨w.heap.size+1,2,FX⟩=FZ (.bool (IQ x).t)):=G6 fun W2 hb=>by
    have S2:=(G5 HS).next hb;have hne:=S2.ne;have hgk:=S2.hg;have b0:=((S2.box.other (a:=⟨g,A.length*3,FX⟩) (by simp only;omega) (S0 (IQ x).p)).other (a:=⟨g,A.length*3+1,FX⟩) (by simp only;omega) (S0 (IQ x).d)).other (a:=⟨g,A.length*3+2,FX⟩) (by simp only;omega) (.bool (IQ x).t)|>.c2;have o1:=((S2.one.OL (a:=⟨g,A.length*3,FX⟩) (by simp only;omega) (S0 (IQ x).p)).OL (a:=⟨g,A.length*3+1,FX⟩) (by simp only;omega) (S0 (IQ x).d)).OL (a:=⟨g,A.length*3+2,FX⟩) (by simp only;omega) (.bool (IQ x).t);have b1:=o1.e0;have b2:=o1.e1;have b3:=o1.e2;rw[<-G5 HEl,hq]at b0;rw[G5 HY]at b1 b2 b3;exact⟨b0,b1,b2,b3⟩
   clear KS
   go_region_held3 (fun w'=>w'.cell? ⟨w1.heap.size,2,FX⟩=FZ (FQ (FZ ⟨g,0,FX⟩) n cap)/\w'.cell? ⟨w.heap.size+1,0,FX⟩=FZ (S0 (IQ x).p)/\w'.cell? ⟨w.heap.size+1,1,FX⟩=FZ (S0 (IQ x).d)/\w'.cell? ⟨w.heap.size+1,2,FX⟩=FZ (.bool (IQ x).t)) (first|with_reducible exact G5 HKS _ (Below.refl _ _)|with_reducible exact G5 HKS _ (Below.refl _ _).drew|with_reducible exact G5 HKS _ (G5 HB5)|with_reducible exact G5 HKT _ (G5 HB5)) (first
    |(go_at_call 26;with_reducible refine(CO _).mono ?_;rintro e w4 ⟨rfl,hb4⟩;have HB5:Hid (B0 w2 w4):=G6 (I8 hb4);obtain⟨b0,⟨u1,b1⟩,⟨u2,b2⟩,⟨u3,b3⟩,bf,b4,b5,b6⟩:=G5 HKB w4 (G5 HB5);have bf0:=bf (A.length*3);have bf1:=bf (A.length*3+1);have bf2:=bf (A.length*3+2);clear bf hb4))
   all_goals
    obtain⟨V1,V2,V3,V4⟩:=((G5 HS).next (G5 HB5)).fin;rw[<-G5 HEl,hq]at V1;rw[G5 HY]at V2;have HV3:=G6 V3;have HV4:=G6 V4;have v0:=V1.c0;have v1:=V1.c1;have v2:=V1.c2;have v3:=V2.c0;have v4:=V2.c1;have v5:=V2.c2;have v6:=V2.fr 0;have v7:=V2.fr 1;have v8:=V2.fr 2;have hgk:=(G5 HS).hg;rw[G5 HY]at hgk;clear V1 V2 V3 V4;generalize ((w4.setCell ⟨g,A.length*3,FX⟩ (S0 (IQ x).p)).setCell ⟨g,A.length*3+1,FX⟩ (S0 (IQ x).d)).setCell ⟨g,A.length*3+2,FX⟩ (.bool (IQ x).t)=w5 at*;go_wp2_with fail;refine bodyPost_ret (v:=.agg #[I0 s,I0 z,FQ (FZ ⟨g,0,FX⟩) n cap]) (by simp[results,results70,go_sem,v3,v4,v5]) rfl ⟨_,rfl,.inr ⟨g,cap,?_,by omega,?_⟩,?_⟩
    .rw[G5 HT,G5 HEl];simp
    .rw[G5 HT];exact(((G5 HV3).other (by simp only;omega) _).other (by simp only;omega) _).other (by simp only;omega) _
    .exact(((G5 HV4).setCell (by simp only;omega) _).setCell (by simp only;omega) _).setCell (by simp only;omega) _
