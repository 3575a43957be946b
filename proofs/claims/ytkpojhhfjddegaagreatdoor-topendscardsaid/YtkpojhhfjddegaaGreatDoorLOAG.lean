/-
  Part.
-/
import Derived.Test.YtkpojhhfjddegaaGreatDoorLOY
import Derived.Test.YtkpojhhfjddegaaGreatDoorLOD
set_option maxRecDepth 20000
set_option maxHeartbeats 8000000
namespace Go.Proofs.YtkpojhhfjddegaaGreatDoor
open Go.RowKit Go.Proofs.Tryz
open _root_.Nat renaming le_refl->A8,zero_le->AZ,zero_add->BJ,add_sub_cancel_left->FH
open _root_.List renaming length_append->AP,getElem?_append_right->BD,length_cons->BH,append_nil->DV,length_nil->EZ
open Go.Builtin renaming zeroCells->BI,copy_->EC
open Go.Addr renaming add_lit->BM
open Go.Value renaming slice->FV
open Go.Obj renaming cells->FW
open Go renaming World->FX,Value->FZ
open _root_.Option renaming none->G6,some->G7
variable{W:FX}{g cap:Nat}{A B:List En}{y:En}
theorem KJ(ns:List En):(GK ns).length=ns.length*3:=H7 ns
theorem JB.A90{pre tl:List En}(h:JB W g cap (pre++tl))(new:List En)(hfit:pre.length+new.length<=cap):JB (W.setCells g (pre.length*3) (GK new)) g cap (pre++new):=h.splice new hfit
theorem JB.D11(h:JB W g cap (A++y::B))(x:En):JB (W.setCells g (A.length*3) (OV x)) g cap (A++x::B):=h.wG x
theorem JB.BX3{fs:List En}(h:JB W g cap fs){j:Nat}(hj:j<cap*3):(W.cell? ⟨g,j,G6⟩).isSome=true:=h.some hj
theorem AI6(w:FX)(ty:TypeId)(b o dLen dCap:Nat)(a:Addr)(sLen sCap:Nat)(cs:List FZ)(hn:cs.length=Nat.min sLen dLen*3)
  (hsrc:∀j v,cs[j]?=G7 v->w.cell? (a.add j)=G7 v) (hc:∀j,j<cs.length->(w.cell? ⟨b,o+j,G6⟩).isSome=true) (hf:∀j,j<cs.length->w.frozen? ⟨b,o+j,G6⟩=false) (h1:∀v∈cs,v.oneCell'=true):
  (EC #[37,37] ty #[FV (G7 ⟨b,o,G6⟩) dLen dCap,FV (G7 a) sLen sCap]).run prog w=.ok (goInt (Nat.min sLen dLen)) (w.setCells b o cs):=by
 have hl:=run_loadCells_list (P:=prog) w a cs hsrc;have hst:=run_storeCells_cells (P:=prog) b o cs 0 w (by simpa using hc) (by simpa using hf) h1;obtain⟨i0,hi0,hz0,hz1,hz2⟩:=BS7;simp[EC,run_underlying underlying37,Builtin.lenOf,Builtin.firstCells,sizeOf,typeInfo,hi0,hz1,<-hn,hl,hst]
theorem A91(v:FZ)(A:List En)(x:En)(B b:Nat)(w:FX)(ho:H6 w B v A)(hB:B<=w.heap.size)(hl:A.length<=400)(h1:JM w b x):
  Calls prog 80 #[v,I0 A.length,FV (G7 ⟨b,0,G6⟩) 1 1] w fun e w'=>
   ∃v',e=.returned v'/\H6 w' B v' (A++[x])/\w.grownBy w' v.ownBlock/\(v'.ownBlock=v.ownBlock\/v'.ownBlock=G7 w.heap.size):=by
 obtain⟨i0,hi0,hz0,hz1,hz2⟩:=BS7;have hrow:=ho.row;have HR:=G9 hrow;have H1:=G9 h1.row;have V:∃a c,v=FV a A.length c/\A.length<=c:=by
  rcases ho with⟨rfl,rfl⟩|⟨g,cap,rfl,_,h⟩
  .exact⟨G6,0,rfl,A8 _⟩
  .exact⟨_,cap,rfl,h.le⟩
 obtain⟨a,c,rfl,hc⟩:=V;clear ho hrow h1;rcases Nat.lt_or_ge A.length c with hcl|hcl
 .have hne:¬c=A.length:=by omega
  go_enter func80,ntmps80;go_wp2_with (at_builtin;refine wpList_append_own_at _ rfl _ _ 37 rfl B 77 i0 _ 3 40 underlying37 hi0 hz0 hz1 hz2 rfl (by decide) _ A.length (GK A) rfl (G8 HR) ⟨b,0,G6⟩ 1 1 (OV x) rfl (by rfl) ?qc2 ((Lay.one x)) ?qc4 ?qc5 hB ?_)
  case qc2=>
   intro j u hj;rw[BM];exact G8 H1 j u hj
  case qc4=>simp only[maxLen];omega
  case qc5=>omega
  intro v' w1 hown hgrow _ hloc
  go_wp2
  go_ret;exact⟨v',rfl,H6.LC (by rw[AP,JH];exact hown),hgrow,hloc⟩
 .obtain rfl:c=A.length:=by omega
  go_enter func80,ntmps80;go_wp2_with (at_builtin;refine wpList_append_own_at _ rfl _ _ 37 rfl B 77 i0 _ 3 40 underlying37 hi0 hz0 hz1 hz2 rfl (by decide) _ A.length (GK A) rfl (G8 HR) ⟨b,0,G6⟩ 1 1 (OV x) rfl (by rfl) ?qc2 ((Lay.one x)) ?qc4 ?qc5 hB ?_)
  case qc2=>
   intro j u hj;rw[BM];exact G8 H1 j u hj
  case qc4=>simp only[maxLen];omega
  case qc5=>omega
  intro v' w1 hown hgrow _ hloc
  go_wp2
  go_ret;exact⟨v',rfl,H6.LC (by rw[AP,JH];exact hown),hgrow,hloc⟩
theorem uQ(g cap:Nat)(A R:List En)(y x:En)(n b:Nat)(w:FX)(ho:JB w g cap (A++y::R))(hn:n=A.length+R.length+1)(hsm:n<=400)(hroom:n+1<=cap)(h1:JM w b x)(hbg:b≠g):
  Calls prog 80 #[FV (G7 ⟨g,0,G6⟩) n cap,I0 A.length,FV (G7 ⟨b,0,G6⟩) 1 1] w fun e w'=>
   e=.returned (FV (G7 ⟨g,0,G6⟩) (n+1) cap)/\JB w' g cap (A++x::y::R)/\w.grownBy w' (G7 g):=by
 have hcl:=ho.capLe;simp only[maxLen]at hcl;have hrow:=ho.row;have B21:w.shape? g=G7 (77,cap*3):=by
  obtain⟨rest,q1,q2,_⟩:=ho;rw[AP,BH]at q2;simp[World.shape?,q1,KJ];exact⟨rfl,q2⟩
 have B22:w.shape? b=G7 (77,3):=by unfold JM at h1;simp[World.shape?,h1];exact⟨rfl,rfl⟩
 have hfb:∀j,w.frozen? ⟨b,j,G6⟩=false:=fun j=>by unfold JM at h1;simp[World.frozen?,h1]
 have hov:∀lb cb,(callFunc 125 #[FV (G7 ⟨b,0,G6⟩) 1 1,FV (G7 ⟨g,(A.length+1)*3,G6⟩) lb cb]).run prog w=.ok (.value (.bool false)) w:=fun lb cb=>by
  rw[run_callFunc_extern func125 (by kernel_rfl) (by kernel_rfl) (by kernel_rfl) (e:=Extern.SlicesOverlaps.overlaps #[37,37] #[4]) (by kernel_rfl),
   Lib.run_overlaps_apart w 37 4 77 underlying37 3 sizeOf77 ⟨b,0,G6⟩ ⟨g,(A.length+1)*3,G6⟩ 1 1 lb cb hbg 77 77 3 (cap*3) B22 B21 (by omega) (hfb 0) (hfb 3)]
  rfl
 obtain⟨W1,hW1⟩:∃W1,W1=w.drew.setCells g ((A.length+1)*3) (GK (y::R)):=⟨_,rfl⟩;have ho1:JB W1 g cap (A++y::y::R):=by
  have h:JB w.drew g cap ((A++[y])++R):=by rw[List.append_assoc];exact ho
  have:=h.A90 (y::R) (by simp;omega);rw[hW1];simpa using this
 have hg1:w.grownBy W1 (G7 g):=by rw[hW1];have:=I9 (g:=g) (GK (y::R)) ((A.length+1)*3) w.drew;exact⟨this.os,this.tape,this.output,this.size,this.block⟩
 have hcp1:∀ty dc sc,(EC #[37,37] ty #[FV (G7 ⟨g,(A.length+1)*3,G6⟩) (n-A.length) dc,FV (G7 ⟨g,A.length*3,G6⟩) (n+1-A.length) sc]).run prog w.drew=.ok (goInt (Nat.min (n+1-A.length) (n-A.length))) W1:=fun ty dc sc=>by
  rw[hW1];exact AI6 w.drew ty g _ _ dc ⟨g,A.length*3,G6⟩ _ sc (GK (y::R)) (by rw[KJ];simp only[Nat.min_def,BH];split<;>omega)
   (fun j v hj=>by
    rw[BM];have:=hrow (A.length*3+j) v (by rw[I8,BD (by rw[KJ];omega),KJ,FH];exact hj);rw[BJ]at this;exact this)
   (fun j hj=>by rw[KJ]at hj;exact ho.BX3 (by simp at hj;omega)) (fun j _=>ho.frozen _) (JR _)
 have hcp2:∀ty dc,(EC #[37,37] ty #[FV (G7 ⟨g,A.length*3,G6⟩) (n+1-A.length) dc,FV (G7 ⟨b,0,G6⟩) 1 1]).run prog W1=.ok (goInt (Nat.min 1 (n+1-A.length))) (W1.setCells g (A.length*3) (OV x)):=fun ty dc=>
  AI6 W1 ty g _ _ dc ⟨b,0,G6⟩ 1 1 (OV x) (by simp only[Nat.min_def,OV,BH,EZ];split<;>omega)
   (fun j v hj=>by
    rw[BM];have hb2:W1.heap[b]?=w.heap[b]? :=hg1.block b (by unfold JM at h1;exact(Array.getElem?_eq_some_iff.1 h1).1) (fun e=>hbg (Option.some.inj e));have h2:JM W1 b x:=hb2.trans h1;exact h2.row j v hj)
   (fun j hj=>ho1.BX3 (by simp[OV]at hj;omega)) (fun j _=>ho1.frozen _) ((Lay.one x))
 have FIN:Hid (JB (W1.setCells g (A.length*3) (OV x)) g cap (A++x::y::R)/\w.grownBy (W1.setCells g (A.length*3) (OV x)) (G7 g)):=
  ⟨ho1.D11 x,IV hg1 (I9 _ _ _)⟩
 have hin:A.length<n:=by omega
 have C59:(A.length:Int)<(n:Int):=by omega
 have hw1:IntKind.i64.wrap ((A.length:Int)+1)=(A.length:Int)+1:=by rw[IntKind.wrap_i64];omega
 have hb1:(0:Int)<=(A.length:Int)+1:=by omega
 have hb2:¬ (cap=A.length+1):=by omega
 have hb3:(A.length:Int)<=(n:Int)+1:=by omega
 have hb4:¬ (cap=A.length):=by omega
 have hb5:(A.length:Int)+1<=(n:Int)+1:=by omega
 have hb6:¬ ((cap:Int)<(n:Int)+1):=by omega
 have hz2:¬ ((A.length:Int)=(n:Int)):=by omega
 have htn:((A.length:Int)+1).toNat=A.length+1:=by omega
 clear hW1 ho1 hg1 hrow B21 B22 hfb ho h1 hn;go_enter func80,ntmps80;go_wp2_with (simp only[hov])
 go_region_law (refine MX rfl (.tmp 73) (.tmp 76) 37 37 rfl (FV (G7 ⟨g,(A.length+1)*3,G6⟩) (n-A.length) (cap-(A.length+1))) (FV (G7 ⟨g,A.length*3,G6⟩) (n+1-A.length) (cap-A.length)) (by simp[Act.eval,Act.put]) (by simp[Act.eval,Act.put]) (hcp1 _ _ _) ?_)
 go_wp2_with (at_builtin;refine LG _ rfl _ _ 37 37 rfl _ _ rfl rfl (hcp2 _ _) ?_);go_ret;exact⟨rfl,FIN.out⟩
theorem CT8(k:Nat):(BI (Value.agg #[.string ⟨#[]⟩,.string ⟨#[]⟩,.bool false]).cells k).size=k*3:=by
 simp[BI,Value.cells]
theorem zN(g cap:Nat)(A R:List En)(y x:En)(n b:Nat)(w:FX)(ho:JB w g cap (A++y::R))(hn:n=A.length+R.length+1)(hsm:n<=400)(hroom:cap<n+1)(h1:JM w b x):
  Calls prog 80 #[FV (G7 ⟨g,0,G6⟩) n cap,I0 A.length,FV (G7 ⟨b,0,G6⟩) 1 1] w fun e w'=>
   ∃cap',e=.returned (FV (G7 ⟨w.heap.size,0,G6⟩) (n+1) cap')/\JB w' w.heap.size cap' (A++x::y::R)/\B0 w w':=by
 have hcap:cap=n:=by have:=ho.le;simp at this;omega
 obtain⟨i0,hi0,hz0,hz1,hz2⟩:=BS7;have hrow:=ho.row;have hgw:=ho.lt;have hbw:b<w.heap.size:=by unfold JM at h1;exact(Array.getElem?_eq_some_iff.1 h1).1
 have hold:(Builtin.firstCells i0.size A.length (FV (G7 ⟨g,0,G6⟩) A.length cap)).run prog w.drew=.ok (GK A).toArray w.drew:=by
  rw[hz1];exact run_firstCells_some w.drew 3 A.length ⟨g,0,G6⟩ A.length cap (GK A) (KJ A) (fun j v hj=>by
   rw[BM];exact hrow j v (by rw[I8,List.getElem?_append_left (List.getElem?_eq_some_iff.1 hj).1];exact hj))
 obtain⟨G,hG⟩:∃G,G=grownCap w (n+1) cap 77:=⟨_,rfl⟩;have hGn:n+1<=G:=by rw[hG];exact grownCap_ge w _ _ _
 have hGm:G<=maxLen:=by rw[hG];exact grownCap_le_maxLen w (n+1) cap _ (by unfold maxLen;omega)
 have hG63:G<=9223372036854775807:=by have:=hGm;unfold maxLen at this;omega
 obtain⟨ROW,hROW⟩:∃ROW:Array FZ,ROW=(GK A).toArray++BI (Value.agg #[.string ⟨#[]⟩,.string ⟨#[]⟩,.bool false]).cells (n+1-A.length)++BI (Value.agg #[.string ⟨#[]⟩,.string ⟨#[]⟩,.bool false]).cells (G-(n+1)):=⟨_,rfl⟩;obtain⟨W1,hW1⟩:∃W1,W1=w.drew.alloc (FW ROW 77):=⟨_,rfl⟩;have hik:A.length+(n+1-A.length)=n+1:=by omega
 have hrz:∀ty,(Builtin.append_ #[37,3] ty #[FV (G7 ⟨g,0,G6⟩) A.length cap,I0 ((n:Int)+1-(A.length:Int))]).run prog w=
   .ok (FV (G7 ⟨w.heap.size,0,G6⟩) (n+1) G) W1:=fun ty=>by
  have h:=Lib.run_append_grow_zeros w 37 3 ty 77 i0 _ .i64 .i64 underlying37 underlying3 hi0 hz0 (G7 ⟨g,0,G6⟩) A.length cap (GK A) hold (n+1-A.length) (by omega) (by omega) (by omega) (by omega) (by rw[hz2];omega) (by rw[hz2,hik];exact growslice_fits hroom (by omega));rw[hik,<-hG,<-hROW,<-hW1]at h;rw[show (n:Int)+1-(A.length:Int)=((n+1-A.length:Nat):Int) by omega];exact h
 have ho1:JB W1 w.heap.size G A:=by
  refine⟨(BI (Value.agg #[.string ⟨#[]⟩,.string ⟨#[]⟩,.bool false]).cells (n+1-A.length)++BI (Value.agg #[.string ⟨#[]⟩,.string ⟨#[]⟩,.bool false]).cells (G-(n+1))).toList,?_,?_,by omega,hGm⟩
  .rw[hW1,hROW];have:=heap_alloc_new w.drew (FW ((GK A).toArray++BI (Value.agg #[.string ⟨#[]⟩,.string ⟨#[]⟩,.bool false]).cells (n+1-A.length)++BI (Value.agg #[.string ⟨#[]⟩,.string ⟨#[]⟩,.bool false]).cells (G-(n+1))) 77);refine Eq.trans this ?_
   congr 2
   apply Array.toList_inj.1
   simp
  .simp only[show Lay.k En=3 from rfl,Array.length_toList,Array.size_append,CT8];omega
 have hB1:B0 w W1:=by rw[hW1];exact((Below.refl _ w).drew).alloc (A8 _) _
 obtain⟨W2,hW2⟩:∃W2,W2=W1.setCells w.heap.size (A.length*3) (OV x):=⟨_,rfl⟩;have ho2:JB W2 w.heap.size G (A++[x]):=by
  have h:JB W1 w.heap.size G (A++[]):=by rw[DV];exact ho1
  have:=h.A90 [x] (by simp;omega);rw[hW2];rw[JV,TL,DV]at this;exact this
 have hg2:W1.grownBy W2 (G7 w.heap.size):=by rw[hW2];exact I9 _ _ _
 have hB2:B0 w W2:=hB1.grown hg2 hB1.size (fun k e=>by cases e;exact A8 _);have hcpA:∀ty dc,(EC #[37,37] ty #[FV (G7 ⟨w.heap.size,A.length*3,G6⟩) (n+1-A.length) dc,FV (G7 ⟨b,0,G6⟩) 1 1]).run prog W1=.ok (goInt (Nat.min 1 (n+1-A.length))) W2:=fun ty dc=>by
  rw[hW2];exact AI6 W1 ty w.heap.size _ _ dc ⟨b,0,G6⟩ 1 1 (OV x) (by simp only[Nat.min_def,OV,BH,EZ];split<;>omega)
   (fun j v hj=>by rw[BM];exact(show JM W1 b x from(hB1.block b hbw).trans h1).row j v hj)
   (fun j hj=>ho1.BX3 (by simp[OV]at hj;omega)) (fun j _=>ho1.frozen _) ((Lay.one x))
 obtain⟨W3,hW3⟩:∃W3,W3=W2.drew.setCells w.heap.size ((A.length+1)*3) (GK (y::R)):=⟨_,rfl⟩;have hcpB:∀ty dc sc,(EC #[37,37] ty #[FV (G7 ⟨w.heap.size,(A.length+1)*3,G6⟩) (n-A.length) dc,FV (G7 ⟨g,A.length*3,G6⟩) (n-A.length) sc]).run prog W2.drew=.ok (goInt (Nat.min (n-A.length) (n-A.length))) W3:=fun ty dc sc=>by
  rw[hW3];exact AI6 W2.drew ty w.heap.size _ _ dc ⟨g,A.length*3,G6⟩ _ sc (GK (y::R)) (by rw[KJ];simp only[Nat.min_self,BH];omega)
   (fun j v hj=>by
    rw[BM];have:=hrow (A.length*3+j) v (by rw[I8,BD (by rw[KJ];omega),KJ,FH];exact hj);rw[BJ]at this;exact(hB2.cell (p:=⟨g,A.length*3+j,G6⟩) hgw).trans this)
   (fun j hj=>by rw[KJ]at hj;exact ho2.drew.BX3 (by simp at hj;omega)) (fun j _=>ho2.drew.frozen _) (JR _)
 have FIN:Hid (JB W3 w.heap.size G (A++x::y::R)/\B0 w W3):=by
  refine⟨?_,?_⟩
  .have h:JB W2.drew w.heap.size G ((A++[x])++[]):=by rw[DV];exact ho2
   have:=h.A90 (y::R) (by simp;omega);rw[hW3];simpa using this
  .rw[hW3];exact hB2.drew.grown (I9 _ _ _) hB2.size (fun k e=>by cases e;exact A8 _)
 have hin:A.length<n:=by omega
 have C59:(A.length:Int)<(n:Int):=by omega
 have hw1:IntKind.i64.wrap ((A.length:Int)+1)=(A.length:Int)+1:=by rw[IntKind.wrap_i64];omega
 have hb1:(0:Int)<=(A.length:Int)+1:=by omega
 have hb2:¬ (G=A.length+1):=by omega
 have hb3:(A.length:Int)<=(n:Int)+1:=by omega
 have hb4:¬ (n=A.length):=by omega
 have hb5:(A.length:Int)+1<=(n:Int)+1:=by omega
 have hb6:¬ (G=A.length):=by omega
 have hb7:(A.length:Int)<=(n:Int):=by omega
 have hz3:¬ ((A.length:Int)=(n:Int)):=by omega
 have htn:((A.length:Int)+1).toNat=A.length+1:=by omega
 subst hcap;clear hn hROW hW1 hW2 hW3 hG hrow ho h1 ho1 ho2 hB1 hB2 hg2 hold hik;go_enter func80,ntmps80;go_wp2_with (first
  |(at_builtin;refine Lib.wpList_append_run _ rfl _ _ _ _ rfl _ _ rfl rfl _ _ (hrz _) ?_)
  |(at_builtin;refine LG _ rfl _ _ 37 37 rfl _ _ rfl rfl (hcpA _ _) ?_))
 go_region_law (refine MX rfl (.tmp 50) (.tmp 53) 37 37 rfl (FV (G7 ⟨w.heap.size,(A.length+1)*3,G6⟩) (cap-A.length) (G-(A.length+1))) (FV (G7 ⟨g,A.length*3,G6⟩) (cap-A.length) (cap-A.length)) (by simp[Act.eval,Act.put]) (by simp[Act.eval,Act.put]) (hcpB _ _ _) ?_)
 go_wp2
 go_ret;exact⟨G,rfl,FIN.out⟩
theorem A92(v:FZ)(A R:List En)(x:En)(q:Nat)(w:FX)(ho:H6 w 0 v (A++R))(hl:(A++R).length<=400)(h1:JM w q x)(hq:v.ownBlock≠G7 q):
  Calls prog 80 #[v,I0 A.length,FV (G7 ⟨q,0,G6⟩) 1 1] w fun e w'=>
   ∃v',e=.returned v'/\H6 w' 0 v' (A++x::R)/\w.grownBy w' v.ownBlock/\(v'.ownBlock=v.ownBlock\/∃k,w.heap.size<=k/\v'.ownBlock=G7 k):=by
 cases R with
 |nil=>
  rw[DV]at ho hl;refine(A91 v A x 0 q w ho (AZ _) hl h1).mono ?_;rintro e w' ⟨v',rfl,h2,h3,h4⟩;refine⟨v',rfl,h2,h3,?_⟩;rcases h4 with h|h
  .exact .inl h
  .exact .inr ⟨_,A8 _,h⟩
 |cons y R=>
  rcases ho with⟨_,h⟩|⟨g,cap,rfl,_,ho⟩
  .simp at h
  .have hn:(A++y::R).length=A.length+R.length+1:=by simp;omega
   by_cases hc:(A++y::R).length+1<=cap
   .refine(uQ g cap A R y x _ q w ho hn hl hc h1 (fun e=>hq (by rw[e];rfl))).mono ?_;rintro e w' ⟨rfl,h2,h3⟩;exact⟨_,rfl,.inr ⟨g,cap,by simp;omega,AZ _,h2⟩,h3,.inl rfl⟩
   .refine(zN g cap A R y x _ q w ho hn hl (by omega) h1).mono ?_;rintro e w' ⟨cap',rfl,h2,h3⟩;exact⟨_,rfl,.inr ⟨w.heap.size,cap',by simp;omega,AZ _,h2⟩,⟨h3.os,h3.tape,h3.output,h3.size,fun k hk _=>h3.block k hk⟩,.inr ⟨_,A8 _,rfl⟩⟩
structure mX(w W:FX)(k q g cap:Nat)(s z:Int)(x:En)(A:List En)(y:En)(B:List En):Prop where
 hk:w.heap.size=k
 old:B0 w W
 res:NC W (k+2) 0 0 (N0)
 one:JM W (k+1) x
 box:NC W q s z (FV (G7 ⟨g,0,G6⟩) (A++y::B).length cap)
 hq:k+3<=q
 hg:k+3<=g
 own:JB W g cap (A++y::B)
 ne:g≠q
theorem mX.next{w V:FX}{k q:Nat}{s z:Int}{x:En}(h:mX w W k q g cap s z x A y B)(hb:B0 W V):mX w V k q g cap s z x A y B:=
 ⟨h.hk,GI h.old hb,h.res.next hb,h.one.VI hb h.one.ltz,h.box.next hb,h.hq,h.hg,h.own.next hb,h.ne⟩
theorem mX.fin{w:FX}{k q:Nat}{s z:Int}{x:En}(h:mX w W k q g cap s z x A y B):
  NC (((W.setCell ⟨g,A.length*3,G6⟩ (S0 x.p)).setCell ⟨g,A.length*3+1,G6⟩ (S0 x.d)).setCell ⟨g,A.length*3+2,G6⟩ (.bool x.t)) q s z (FV (G7 ⟨g,0,G6⟩) (A++y::B).length cap)/\
  NC (((W.setCell ⟨g,A.length*3,G6⟩ (S0 x.p)).setCell ⟨g,A.length*3+1,G6⟩ (S0 x.d)).setCell ⟨g,A.length*3+2,G6⟩ (.bool x.t)) (k+2) 0 0 (N0)/\
  JB (((W.setCell ⟨g,A.length*3,G6⟩ (S0 x.p)).setCell ⟨g,A.length*3+1,G6⟩ (S0 x.d)).setCell ⟨g,A.length*3+2,G6⟩ (.bool x.t)) g cap (A++x::B)/\
  B0 w (((W.setCell ⟨g,A.length*3,G6⟩ (S0 x.p)).setCell ⟨g,A.length*3+1,G6⟩ (S0 x.d)).setCell ⟨g,A.length*3+2,G6⟩ (.bool x.t)):=by
 have h1:=h.ne;have h2:=h.hg;have h3:=h.hk;refine⟨((h.box.other (by simp only;omega) _).other (by simp only;omega) _).other (by simp only;omega) _,((h.res.other (by simp only;omega) _).other (by simp only;omega) _).other (by simp only;omega) _,h.own.wG x,?_⟩;exact((h.old.setCell (by simp only;omega) _).setCell (by simp only;omega) _).setCell (by simp only;omega) _
theorem AI7(w:FX)(s z:Int)(v:FZ)(x:En):∃W,W=((w.alloc (FW #[I0 s,I0 z,v] 39)).alloc (FW #[S0 x.p,S0 x.d,.bool x.t] 77)).alloc (FW #[I0 0,I0 0,N0] 39)/\
  B0 w W/\NC W w.heap.size s z v/\JM W (w.heap.size+1) x/\NC W (w.heap.size+2) 0 0 (N0)/\W.heap.size=w.heap.size+3:=by
 refine⟨_,rfl,GI (GI (GH _ _) (GH _ _)) (GH _ _),((NC.new w s z v).next (GH _ _)).next (GH _ _),?_,?_,by simp⟩
 .have:=(tC (w.alloc (FW #[I0 s,I0 z,v] 39)) x).VI (GH _ (FW #[I0 0,I0 0,N0] 39)) (by simp);simpa using this
 .have:=NC.new ((w.alloc (Obj.cells #[I0 s,I0 z,v] 39)).alloc (Obj.cells #[Value.string (ByteArray.mk x.p.toArray),.string (ByteArray.mk x.d.toArray),.bool x.t] 77)) 0 0 (N0);simpa using this
theorem BF0(s z:Int)(v:FZ)(es:List En)(x:En)(w:FX)(hv:IK w v es)(hs:yK es)(hl:es.length<=400)(ha:B90 es)(hx:x.p.length<=140737488355328/\x.d.length<=140737488355328):
  Calls prog 53 #[clV s z v,enV x] w fun e w'=>∃v',e=.returned (clV s z v')/\H6 w' w.heap.size v' (WV es x)/\B0 w w':=by
 have CC:=fun W (hW:B0 w W)=>aG s z v es W (hv.next hW) hs (by omega);have CO:=fun W=>AG6 (IZ x) W (qC hx).1 (qC hx).2;have HW:=G9 (AF7 x.p es ha);obtain⟨a,c,rfl⟩:=GL hv;unfold clV at CC⊢;unfold enV;clear hv hs ha hx;obtain⟨k,hk⟩:∃k,k=w.heap.size:=⟨_,rfl⟩;go_enter func53,ntmps53
 cases ht:x.t
 case' true=>
  obtain⟨W,hW,B0,K0,K1,K2,hz⟩:=AI7 w s z (FV a es.length c) x;have K1:JM W (w.heap.size+1) (IZ x):=by rw[B91 ht];exact K1
  rw[ht]at hW;have q0:=K1.e2
 case' false=>
  obtain⟨W,hW,B0,K0,K1,K2,hz⟩:=AI7 w s z (FV a es.length c) ⟨x.p,[],false⟩;have K1:JM W (w.heap.size+1) (IZ x):=by rw[BS1 ht,ht];exact K1
 all_goals
  go_wp2_with fail;rw[<-hW];refine(CC _ B0).mono ?_;rintro e w1 ⟨v1,rfl,ho1,hb1⟩;have B1:=GI B0 hb1;have K1':=(K1.VI hb1 K1.ltz).VI (GH w1 (FW #[I0 s,I0 z,v1] 39)) (Nat.lt_of_lt_of_le K1.ltz hb1.size);have K2':=(K2.next hb1).next (GH w1 (FW #[I0 s,I0 z,v1] 39));have ho2:=ho1.next (GH w1 (FW #[I0 s,I0 z,v1] 39));have K3:=NC.new w1 s z v1;have B2:=GI B1 (GH w1 (FW #[I0 s,I0 z,v1] 39));have hz1:=hb1.size;have hlow:=ho1.low;have HNP:=G9 (A68 x);have hq0:=K3.c2;have hq1:=K1'.e0;rw[G8 HNP]at hq1;obtain⟨q,hq⟩:∃q,q=w1.heap.size:=⟨_,rfl⟩;have hzq:(w1.alloc (FW #[I0 s,I0 z,v1] 39)).heap.size=w1.heap.size+1:=by simp
  have hab:=ho1.above;obtain⟨a1,c1,rfl,_⟩:=ho1.slice;have HC:=G9 K3;have HK1:=G9 K1';have HK2:=G9 K2';have HB2:=G9 B2;have HO:=G9 ho2;clear K1 K2 K1' K2' K3 ho1 ho2 hb1 B1 B2 B0 CC K0;rcases G8 HW with⟨A,f,B,T⟩|⟨A,B,G⟩
  .have CF:=A72 (FV a1 es.length c1) es A B f x.p _ (G8 HO).seq (by omega) T;go_wp2_with fail;generalize w1.alloc (FW #[I0 s,I0 z,FV a1 es.length c1] 39)=W1 at*;refine CF.mono ?_;rintro e w2 ⟨rfl,hb2⟩;have O3:=(G8 HO).next hb2;rw[T.eq]at O3;rcases O3 with⟨_,h0⟩|⟨g,cap,hga,hgB,O3⟩
   .simp at h0
   have HT:Hid (WV es x=A++IZ x::B):=G9 T.keep;have ST:mX w w2 k q g cap s z (IZ x) A f B:=⟨hk.symm,GI (G8 HB2) hb2,by have:=(G8 HK2).next hb2;rw[hk];exact this,by rw[hk];exact(G8 HK1).VI hb2 (G8 HK1).ltz,
    by have:=(G8 HC).next hb2;rw[<-hga,hq,<-T.eq];exact this,by omega,by omega,O3,fun e=>by have:=hlow g (by rw[<-T.eq]at hga;rw[hga];rfl);omega⟩
   clear CF O3 hgB hb2;have hAl:A.length<es.length:=by rw[T.eq];simp
   have hAi:(A.length:Int)<(es.length:Int):=by omega
   rw[<-T.eq]at hga;have HEl:=G9 (congrArg List.length T.eq);clear T hq0 hq1;simp only[Value.slice.injEq]at hga;obtain⟨rfl,_,rfl⟩:=hga;have HS:=G9 ST;have HX:=G9 hz;have HY:=G9 hk;clear hz hk;have p0:=ST.box.c2;rw[<-G8 HEl]at p0;have p1:=ST.one.e0;have p2:=ST.one.e1;have p3:=ST.one.e2;rw[G8 HY]at p1 p2 p3;rw[hq]at p0;have KB:∀W2,B0 w2 W2->W2.cell? ⟨w1.heap.size,2,G6⟩=G7 (FV (G7 ⟨g,0,G6⟩) es.length c1)/\(∃u,W2.cell? ⟨g,A.length*3,G6⟩=G7 u)/\(∃u,W2.cell? ⟨g,A.length*3+1,G6⟩=G7 u)/\(∃u,W2.cell? ⟨g,A.length*3+2,G6⟩=G7 u)/\(∀j,W2.frozen? ⟨g,j,G6⟩=false)/\
     W2.cell? ⟨w.heap.size+1,0,G6⟩=G7 (S0 (IZ x).p)/\W2.cell? ⟨w.heap.size+1,1,G6⟩=G7 (S0 (IZ x).d)/\W2.cell? ⟨w.heap.size+1,2,G6⟩=G7 (.bool (IZ x).t):=fun W2 hb=>by
    have S2:=(G8 HS).next hb;have b0:=S2.box.c2;rw[<-G8 HEl,hq]at b0;have r:=S2.own.row;have b1:=S2.one.e0;have b2:=S2.one.e1;have b3:=S2.one.e2;rw[G8 HY]at b1 b2 b3;have r0:W2.cell? ⟨g,A.length*3,G6⟩=G7 (S0 f.p):=by have:=r.en0 (i:=A.length) (x:=f) (by simp);simpa using this
    have r1:W2.cell? ⟨g,A.length*3+1,G6⟩=G7 (S0 f.d):=by have:=r.en1 (i:=A.length) (x:=f) (by simp);simpa using this
    have r2:W2.cell? ⟨g,A.length*3+2,G6⟩=G7 (.bool f.t):=by have:=r.en2 (i:=A.length) (x:=f) (by simp);simpa using this
    exact⟨b0,⟨_,r0⟩,⟨_,r1⟩,⟨_,r2⟩,S2.own.frozen,b1,b2,b3⟩
   have HKB:=G9 KB;clear ST KB;go_wp2_with fail;have KS:∀W2,B0 w2 W2->W2.cell? ⟨w1.heap.size,2,G6⟩=G7 (FV (G7 ⟨g,0,G6⟩) es.length c1)/\W2.cell? ⟨w.heap.size+1,0,G6⟩=G7 (S0 (IZ x).p)/\W2.cell? ⟨w.heap.size+1,1,G6⟩=G7 (S0 (IZ x).d)/\W2.cell? ⟨w.heap.size+1,2,G6⟩=G7 (.bool (IZ x).t):=fun W2 hb=>by
    obtain⟨b0,_,_,_,_,b4,b5,b6⟩:=G8 HKB W2 hb;exact⟨b0,b4,b5,b6⟩
   have HKS:=G9 KS;have HKT:Hid (∀W2,B0 w2 W2->(((W2.setCell ⟨g,A.length*3,G6⟩ (S0 (IZ x).p)).setCell ⟨g,A.length*3+1,G6⟩ (S0 (IZ x).d)).setCell ⟨g,A.length*3+2,G6⟩ (.bool (IZ x).t)).cell? ⟨w1.heap.size,2,G6⟩=G7 (FV (G7 ⟨g,0,G6⟩) es.length c1)/\(((W2.setCell ⟨g,A.length*3,G6⟩ (S0 (IZ x).p)).setCell ⟨g,A.length*3+1,G6⟩ (S0 (IZ x).d)).setCell ⟨g,A.length*3+2,G6⟩ (.bool (IZ x).t)).cell? ⟨w.heap.size+1,0,G6⟩=G7 (S0 (IZ x).p)/\(((W2.setCell ⟨g,A.length*3,G6⟩ (S0 (IZ x).p)).setCell ⟨g,A.length*3+1,G6⟩ (S0 (IZ x).d)).setCell ⟨g,A.length*3+2,G6⟩ (.bool (IZ x).t)).cell? ⟨w.heap.size+1,1,G6⟩=G7 (S0 (IZ x).d)/\(((W2.setCell ⟨g,A.length*3,G6⟩ (S0 (IZ x).p)).setCell ⟨g,A.length*3+1,G6⟩ (S0 (IZ x).d)).setCell ⟨g,A.length*3+2,G6⟩ (.bool (IZ x).t)).cell? ⟨w.heap.size+1,2,G6⟩=G7 (.bool (IZ x).t)):=G9 fun W2 hb=>by
    have S2:=(G8 HS).next hb;have hne:=S2.ne;have hgk:=S2.hg;have b0:=((S2.box.other (a:=⟨g,A.length*3,G6⟩) (by simp only;omega) (S0 (IZ x).p)).other (a:=⟨g,A.length*3+1,G6⟩) (by simp only;omega) (S0 (IZ x).d)).other (a:=⟨g,A.length*3+2,G6⟩) (by simp only;omega) (.bool (IZ x).t)|>.c2;have o1:=((S2.one.PD (a:=⟨g,A.length*3,G6⟩) (by simp only;omega) (S0 (IZ x).p)).PD (a:=⟨g,A.length*3+1,G6⟩) (by simp only;omega) (S0 (IZ x).d)).PD (a:=⟨g,A.length*3+2,G6⟩) (by simp only;omega) (.bool (IZ x).t);have b1:=o1.e0;have b2:=o1.e1;have b3:=o1.e2;rw[<-G8 HEl,hq]at b0;rw[G8 HY]at b1 b2 b3;exact⟨b0,b1,b2,b3⟩
   clear KS
   go_region_held3 (fun w'=>w'.cell? ⟨w1.heap.size,2,G6⟩=G7 (FV (G7 ⟨g,0,G6⟩) es.length c1)/\w'.cell? ⟨w.heap.size+1,0,G6⟩=G7 (S0 (IZ x).p)/\w'.cell? ⟨w.heap.size+1,1,G6⟩=G7 (S0 (IZ x).d)/\w'.cell? ⟨w.heap.size+1,2,G6⟩=G7 (.bool (IZ x).t)) (first|with_reducible exact G8 HKS _ (Below.refl _ _)|with_reducible exact G8 HKS _ (Below.refl _ _).drew|with_reducible exact G8 HKS _ (G8 HB5)|with_reducible exact G8 HKT _ (G8 HB5)) (first
    |(go_at_call 81;with_reducible refine(CO _).mono ?_;rintro e w4 ⟨rfl,hb4⟩;have HB5:Hid (B0 w2 w4):=G9 (IC hb4);obtain⟨b0,⟨u1,b1⟩,⟨u2,b2⟩,⟨u3,b3⟩,bf,b4,b5,b6⟩:=G8 HKB w4 (G8 HB5);have bf0:=bf (A.length*3);have bf1:=bf (A.length*3+1);have bf2:=bf (A.length*3+2);clear bf hb4))
   all_goals
    obtain⟨V1,V2,V3,V4⟩:=((G8 HS).next (G8 HB5)).fin;rw[<-G8 HEl,hq]at V1;rw[G8 HY]at V2;have HV3:=G9 V3;have HV4:=G9 V4;have v0:=V1.c0;have v1:=V1.c1;have v2:=V1.c2;have v3:=V2.c0;have v4:=V2.c1;have v5:=V2.c2;have v6:=V2.fr 0;have v7:=V2.fr 1;have v8:=V2.fr 2;have hgk:=(G8 HS).hg;rw[G8 HY]at hgk;clear V1 V2 V3 V4;generalize ((w4.setCell ⟨g,A.length*3,G6⟩ (S0 (IZ x).p)).setCell ⟨g,A.length*3+1,G6⟩ (S0 (IZ x).d)).setCell ⟨g,A.length*3+2,G6⟩ (.bool (IZ x).t)=w5 at*;go_wp2_with fail;refine bodyPost_ret (v:=.agg #[I0 s,I0 z,FV (G7 ⟨g,0,G6⟩) es.length c1]) (by simp[results,results53,go_sem,v3,v4,v5]) rfl ⟨_,rfl,.inr ⟨g,c1,?_,by omega,?_⟩,?_⟩
    .rw[G8 HT,G8 HEl];simp
    .rw[G8 HT];exact(((G8 HV3).other (by simp only;omega) _).other (by simp only;omega) _).other (by simp only;omega) _
    .exact(((G8 HV4).setCell (by simp only;omega) _).setCell (by simp only;omega) _).setCell (by simp only;omega) _
  .have CF:=BA5 (FV a1 es.length c1) es A B x.p _ (G8 HO).seq (by omega) G;go_wp2_with fail;generalize w1.alloc (FW #[I0 s,I0 z,FV a1 es.length c1] 39)=W1 at*;refine CF.mono ?_;rintro e w2 ⟨rfl,hb2⟩;have O3:=(G8 HO).next hb2;rw[G.eq]at O3;have C3:=(G8 HC).next hb2;have c3:=C3.c2;have f3:=C3.fr 2;have HT:Hid (WV es x=A++IZ x::B):=G9 G.keep;have HE2:=G9 (congrArg List.length G.eq);have N3:=tC w2 noneE;have O4:=O3.next (GH w2 (FW #[S0 (noneE.p),S0 (noneE.d),.bool noneE.t] 77));have CI:=A92 _ A B noneE w2.heap.size _ (O4.lower (AZ _)) (by rw[<-G8 HE2];omega) N3 (fun e=>by have:=O3.low _ e;omega);rw[<-G8 HE2]at CI;have HS0:=G9 ((G8 HK2).next hb2);have HS1:=G9 ((G8 HK1).VI hb2 (G8 HK1).ltz);have HS2:=G9 (GI (G8 HB2) hb2);have hz2:=hb2.size;clear CF O3 O4 hb2 hq0 hq1 G;have HC3:=G9 C3;clear C3;simp only[noneE]at CI;go_wp2_with fail;refine CI.mono ?_;rintro e w3 ⟨v3,rfl,ho3,hg3,hl3⟩;have hg4:w2.grownBy w3 (Value.slice a1 es.length c1).ownBlock:=⟨hg3.os,hg3.tape,hg3.output,Nat.le_trans (by simp) hg3.size,fun j hj hne=>(hg3.block j (by simp;omega) hne).trans (Below.block (GH w2 _) j hj)⟩;have hne:∀j,j<k+3->G7 j≠(Value.slice a1 es.length c1).ownBlock:=fun j hj e=>by have:=hab j e.symm;omega
   have hnq:G7 q≠(Value.slice a1 es.length c1).ownBlock:=fun e=>by have:=hlow q e.symm;omega
   have C4:=(G8 HC3).grown hg4 (by rw[<-hq];exact hnq);have c4:=C4.c2;have f4:=C4.fr 2;have R4:=(G8 HS0).grown hg4 (hne _ (by omega));have E4:JM w3 (w.heap.size+1) (IZ x):=(hg4.block _ (G8 HS1).ltz (hne _ (by omega))).trans (G8 HS1);have B4:=(G8 HS2).grown hg4 (G8 HS2).size (fun j e=>by have:=hab j e;omega);have hgp:∀j,v3.ownBlock=G7 j->k+3<=j/\j≠q:=fun j e=>by
    rcases hl3 with h|⟨i,hi,h⟩
    .rw[e]at h;exact⟨by have:=hab j h.symm;omega,fun e2=>hnq (by rw[<-e2];exact h)⟩
    .rw[e]at h
     cases h
     simp at hi;exact⟨by omega,by omega⟩
   rcases ho3 with⟨_,h0⟩|⟨g,cap,rfl,_,O4⟩
   .simp at h0
   obtain⟨hg5,hg6⟩:=hgp g rfl;have ST:mX w (w3.setCell ⟨w1.heap.size,2,G6⟩ (FV (G7 ⟨g,0,G6⟩) (A++(⟨[],[],false⟩:En)::B).length cap)) k q g cap s z (IZ x) A ⟨[],[],false⟩ B:=
    ⟨hk.symm,B4.setCell (by simp only;omega) _,by rw[hk];exact R4.other (by simp only;omega) _,by rw[hk];exact E4.PD (by simp only;omega) _,by rw[hq];exact C4.set2,by omega,by omega,O4.other (by simp only;omega) _,by omega⟩
   clear CI C4 R4 E4 B4 O4 hgp hl3 hg3 hg4 hne hnq N3 c3 f3;obtain⟨n,hn⟩:∃n,(A++(⟨[],[],false⟩:En)::B).length=n:=⟨_,rfl⟩;have hAl:A.length<n:=by rw[<-hn];simp
   have hAi:(A.length:Int)<(n:Int):=by omega
   have hn2:n<=500:=by have:=G8 HE2;rw[AP]at this;rw[<-hn,AP,BH];omega
   have HEl:=G9 hn.symm;rw[hn]at ST⊢;clear hn;go_upto_region 7 with fail;generalize w3.setCell ⟨w1.heap.size,2,G6⟩ (FV (G7 ⟨g,0,G6⟩) n cap)=w2 at*;have HS:=G9 ST;have HX:=G9 hz;have HY:=G9 hk;clear hz hk;have p0:=ST.box.c2;rw[<-G8 HEl]at p0;have p1:=ST.one.e0;have p2:=ST.one.e1;have p3:=ST.one.e2;rw[G8 HY]at p1 p2 p3;rw[hq]at p0;have KB:∀W2,B0 w2 W2->W2.cell? ⟨w1.heap.size,2,G6⟩=G7 (FV (G7 ⟨g,0,G6⟩) n cap)/\(∃u,W2.cell? ⟨g,A.length*3,G6⟩=G7 u)/\(∃u,W2.cell? ⟨g,A.length*3+1,G6⟩=G7 u)/\(∃u,W2.cell? ⟨g,A.length*3+2,G6⟩=G7 u)/\(∀j,W2.frozen? ⟨g,j,G6⟩=false)/\
     W2.cell? ⟨w.heap.size+1,0,G6⟩=G7 (S0 (IZ x).p)/\W2.cell? ⟨w.heap.size+1,1,G6⟩=G7 (S0 (IZ x).d)/\W2.cell? ⟨w.heap.size+1,2,G6⟩=G7 (.bool (IZ x).t):=fun W2 hb=>by
    have S2:=(G8 HS).next hb;have b0:=S2.box.c2;rw[<-G8 HEl,hq]at b0;have r:=S2.own.row;have b1:=S2.one.e0;have b2:=S2.one.e1;have b3:=S2.one.e2;rw[G8 HY]at b1 b2 b3;have r0:W2.cell? ⟨g,A.length*3,G6⟩=G7 (.string ⟨(⟨[],[],false⟩:En).p.toArray⟩):=by have:=r.en0 (i:=A.length) (x:=(⟨[],[],false⟩:En)) (by simp);simpa using this
    have r1:W2.cell? ⟨g,A.length*3+1,G6⟩=G7 (.string ⟨(⟨[],[],false⟩:En).d.toArray⟩):=by have:=r.en1 (i:=A.length) (x:=(⟨[],[],false⟩:En)) (by simp);simpa using this
    have r2:W2.cell? ⟨g,A.length*3+2,G6⟩=G7 (.bool (⟨[],[],false⟩:En).t):=by have:=r.en2 (i:=A.length) (x:=(⟨[],[],false⟩:En)) (by simp);simpa using this
    exact⟨b0,⟨_,r0⟩,⟨_,r1⟩,⟨_,r2⟩,S2.own.frozen,b1,b2,b3⟩
   have HKB:=G9 KB;clear ST KB;go_wp2_with fail;have KS:∀W2,B0 w2 W2->W2.cell? ⟨w1.heap.size,2,G6⟩=G7 (FV (G7 ⟨g,0,G6⟩) n cap)/\W2.cell? ⟨w.heap.size+1,0,G6⟩=G7 (S0 (IZ x).p)/\W2.cell? ⟨w.heap.size+1,1,G6⟩=G7 (S0 (IZ x).d)/\W2.cell? ⟨w.heap.size+1,2,G6⟩=G7 (.bool (IZ x).t):=fun W2 hb=>by
    obtain⟨b0,_,_,_,_,b4,b5,b6⟩:=G8 HKB W2 hb;exact⟨b0,b4,b5,b6⟩
   have HKS:=G9 KS;have HKT:Hid (∀W2,B0 w2 W2->(((W2.setCell ⟨g,A.length*3,G6⟩ (S0 (IZ x).p)).setCell ⟨g,A.length*3+1,G6⟩ (S0 (IZ x).d)).setCell ⟨g,A.length*3+2,G6⟩ (.bool (IZ x).t)).cell? ⟨w1.heap.size,2,G6⟩=G7 (FV (G7 ⟨g,0,G6⟩) n cap)/\(((W2.setCell ⟨g,A.length*3,G6⟩ (S0 (IZ x).p)).setCell ⟨g,A.length*3+1,G6⟩ (S0 (IZ x).d)).setCell ⟨g,A.length*3+2,G6⟩ (.bool (IZ x).t)).cell? ⟨w.heap.size+1,0,G6⟩=G7 (S0 (IZ x).p)/\(((W2.setCell ⟨g,A.length*3,G6⟩ (S0 (IZ x).p)).setCell ⟨g,A.length*3+1,G6⟩ (S0 (IZ x).d)).setCell ⟨g,A.length*3+2,G6⟩ (.bool (IZ x).t)).cell? ⟨w.heap.size+1,1,G6⟩=G7 (S0 (IZ x).d)/\(((W2.setCell ⟨g,A.length*3,G6⟩ (S0 (IZ x).p)).setCell ⟨g,A.length*3+1,G6⟩ (S0 (IZ x).d)).setCell ⟨g,A.length*3+2,G6⟩ (.bool (IZ x).t)).cell? ⟨w.heap.size+1,2,G6⟩=G7 (.bool (IZ x).t)):=G9 fun W2 hb=>by
    have S2:=(G8 HS).next hb;have hne:=S2.ne;have hgk:=S2.hg;have b0:=((S2.box.other (a:=⟨g,A.length*3,G6⟩) (by simp only;omega) (S0 (IZ x).p)).other (a:=⟨g,A.length*3+1,G6⟩) (by simp only;omega) (S0 (IZ x).d)).other (a:=⟨g,A.length*3+2,G6⟩) (by simp only;omega) (.bool (IZ x).t)|>.c2;have o1:=((S2.one.PD (a:=⟨g,A.length*3,G6⟩) (by simp only;omega) (S0 (IZ x).p)).PD (a:=⟨g,A.length*3+1,G6⟩) (by simp only;omega) (S0 (IZ x).d)).PD (a:=⟨g,A.length*3+2,G6⟩) (by simp only;omega) (.bool (IZ x).t);have b1:=o1.e0;have b2:=o1.e1;have b3:=o1.e2;rw[<-G8 HEl,hq]at b0;rw[G8 HY]at b1 b2 b3;exact⟨b0,b1,b2,b3⟩
   clear KS
   go_region_held3 (fun w'=>w'.cell? ⟨w1.heap.size,2,G6⟩=G7 (FV (G7 ⟨g,0,G6⟩) n cap)/\w'.cell? ⟨w.heap.size+1,0,G6⟩=G7 (S0 (IZ x).p)/\w'.cell? ⟨w.heap.size+1,1,G6⟩=G7 (S0 (IZ x).d)/\w'.cell? ⟨w.heap.size+1,2,G6⟩=G7 (.bool (IZ x).t)) (first|with_reducible exact G8 HKS _ (Below.refl _ _)|with_reducible exact G8 HKS _ (Below.refl _ _).drew|with_reducible exact G8 HKS _ (G8 HB5)|with_reducible exact G8 HKT _ (G8 HB5)) (first
    |(go_at_call 81;with_reducible refine(CO _).mono ?_;rintro e w4 ⟨rfl,hb4⟩;have HB5:Hid (B0 w2 w4):=G9 (IC hb4);obtain⟨b0,⟨u1,b1⟩,⟨u2,b2⟩,⟨u3,b3⟩,bf,b4,b5,b6⟩:=G8 HKB w4 (G8 HB5);have bf0:=bf (A.length*3);have bf1:=bf (A.length*3+1);have bf2:=bf (A.length*3+2);clear bf hb4))
   all_goals
    obtain⟨V1,V2,V3,V4⟩:=((G8 HS).next (G8 HB5)).fin;rw[<-G8 HEl,hq]at V1;rw[G8 HY]at V2;have HV3:=G9 V3;have HV4:=G9 V4;have v0:=V1.c0;have v1:=V1.c1;have v2:=V1.c2;have v3:=V2.c0;have v4:=V2.c1;have v5:=V2.c2;have v6:=V2.fr 0;have v7:=V2.fr 1;have v8:=V2.fr 2;have hgk:=(G8 HS).hg;rw[G8 HY]at hgk;clear V1 V2 V3 V4;generalize ((w4.setCell ⟨g,A.length*3,G6⟩ (S0 (IZ x).p)).setCell ⟨g,A.length*3+1,G6⟩ (S0 (IZ x).d)).setCell ⟨g,A.length*3+2,G6⟩ (.bool (IZ x).t)=w5 at*;go_wp2_with fail;refine bodyPost_ret (v:=.agg #[I0 s,I0 z,FV (G7 ⟨g,0,G6⟩) n cap]) (by simp[results,results53,go_sem,v3,v4,v5]) rfl ⟨_,rfl,.inr ⟨g,cap,?_,by omega,?_⟩,?_⟩
    .rw[G8 HT,G8 HEl];simp
    .rw[G8 HT];exact(((G8 HV3).other (by simp only;omega) _).other (by simp only;omega) _).other (by simp only;omega) _
    .exact(((G8 HV4).setCell (by simp only;omega) _).setCell (by simp only;omega) _).setCell (by simp only;omega) _
