/-
  Part.
-/
import Derived.Test.YthcncjimjclfpaaGreatDoorLOV
import Derived.Test.YthcncjimjclfpaaGreatDoorLOD
set_option maxRecDepth 20000
set_option maxHeartbeats 8000000
namespace Go.Proofs.YthcncjimjclfpaaGreatDoor
open Go.RowKit Go.Proofs.Tryz
open _root_.Nat renaming le_refl->A8,zero_le->AY,zero_add->BI,add_sub_cancel_left->FB
open _root_.List renaming length_append->AO,getElem?_append_right->BA,length_cons->BG,append_nil->DL,length_nil->ES
open Go.Builtin renaming zeroCells->BH,copy_->DW
open Go.Addr renaming add_lit->BJ
open Go.Value renaming slice->FQ
open Go.Obj renaming cells->FT
open Go renaming World->FU,Value->FV
open _root_.Option renaming none->FX,some->FZ
variable{W:FU}{g cap:Nat}{A B:List En}{y:En}
theorem KD(ns:List En):(G9 ns).length=ns.length*3:=GX ns
theorem J8.A64{pre tl:List En}(h:J8 W g cap (pre++tl))(new:List En)(hfit:pre.length+new.length<=cap):J8 (W.setCells g (pre.length*3) (G9 new)) g cap (pre++new):=h.splice new hfit
theorem J8.CZ0(h:J8 W g cap (A++y::B))(x:En):J8 (W.setCells g (A.length*3) (OH x)) g cap (A++x::B):=h.vH x
theorem J8.BU5{fs:List En}(h:J8 W g cap fs){j:Nat}(hj:j<cap*3):(W.cell? ⟨g,j,FX⟩).isSome=true:=h.some hj
theorem AG6(w:FU)(ty:TypeId)(b o dLen dCap:Nat)(a:Addr)(sLen sCap:Nat)(cs:List FV)(hn:cs.length=Nat.min sLen dLen*3)
  (hsrc:∀j v,cs[j]?=FZ v->w.cell? (a.add j)=FZ v) (hc:∀j,j<cs.length->(w.cell? ⟨b,o+j,FX⟩).isSome=true) (hf:∀j,j<cs.length->w.frozen? ⟨b,o+j,FX⟩=false) (h1:∀v∈cs,v.oneCell'=true):
  (DW #[44,44] ty #[FQ (FZ ⟨b,o,FX⟩) dLen dCap,FQ (FZ a) sLen sCap]).run prog w=.ok (goInt (Nat.min sLen dLen)) (w.setCells b o cs):=by
 have hl:=run_loadCells_list (P:=prog) w a cs hsrc;have hst:=run_storeCells_cells (P:=prog) b o cs 0 w (by simpa using hc) (by simpa using hf) h1;obtain⟨i0,hi0,hz0,hz1,hz2⟩:=BR6;simp[DW,run_underlying underlying44,Builtin.lenOf,Builtin.firstCells,sizeOf,typeInfo,hi0,hz1,<-hn,hl,hst]
theorem A65(v:FV)(A:List En)(x:En)(B b:Nat)(w:FU)(ho:GZ w B v A)(hB:B<=w.heap.size)(hl:A.length<=400)(h1:JG w b x):
  Calls prog 102 #[v,I0 A.length,FQ (FZ ⟨b,0,FX⟩) 1 1] w fun e w'=>
   ∃v',e=.returned v'/\GZ w' B v' (A++[x])/\w.grownBy w' v.ownBlock/\(v'.ownBlock=v.ownBlock\/v'.ownBlock=FZ w.heap.size):=by
 obtain⟨i0,hi0,hz0,hz1,hz2⟩:=BR6;have hrow:=ho.row;have HR:=G6 hrow;have H1:=G6 h1.row;have V:∃a c,v=FQ a A.length c/\A.length<=c:=by
  rcases ho with⟨rfl,rfl⟩|⟨g,cap,rfl,_,h⟩
  .exact⟨FX,0,rfl,A8 _⟩
  .exact⟨_,cap,rfl,h.le⟩
 obtain⟨a,c,rfl,hc⟩:=V;clear ho hrow h1;rcases Nat.lt_or_ge A.length c with hcl|hcl
 .have hne:¬c=A.length:=by omega
  go_enter func102,ntmps102;go_wp2_with (at_builtin;refine wpList_append_own_at _ rfl _ _ 44 rfl B 41 i0 _ 3 40 underlying44 hi0 hz0 hz1 hz2 rfl (by decide) _ A.length (G9 A) rfl (G5 HR) ⟨b,0,FX⟩ 1 1 (OH x) rfl (by rfl) ?qc2 ((Lay.one x)) ?qc4 ?qc5 hB ?_)
  case qc2=>
   intro j u hj;rw[BJ];exact G5 H1 j u hj
  case qc4=>simp only[maxLen];omega
  case qc5=>omega
  intro v' w1 hown hgrow _ hloc
  go_wp2
  go_ret;exact⟨v',rfl,GZ.LG (by rw[AO,JF];exact hown),hgrow,hloc⟩
 .obtain rfl:c=A.length:=by omega
  go_enter func102,ntmps102;go_wp2_with (at_builtin;refine wpList_append_own_at _ rfl _ _ 44 rfl B 41 i0 _ 3 40 underlying44 hi0 hz0 hz1 hz2 rfl (by decide) _ A.length (G9 A) rfl (G5 HR) ⟨b,0,FX⟩ 1 1 (OH x) rfl (by rfl) ?qc2 ((Lay.one x)) ?qc4 ?qc5 hB ?_)
  case qc2=>
   intro j u hj;rw[BJ];exact G5 H1 j u hj
  case qc4=>simp only[maxLen];omega
  case qc5=>omega
  intro v' w1 hown hgrow _ hloc
  go_wp2
  go_ret;exact⟨v',rfl,GZ.LG (by rw[AO,JF];exact hown),hgrow,hloc⟩
theorem sV(g cap:Nat)(A R:List En)(y x:En)(n b:Nat)(w:FU)(ho:J8 w g cap (A++y::R))(hn:n=A.length+R.length+1)(hsm:n<=400)(hroom:n+1<=cap)(h1:JG w b x)(hbg:b≠g):
  Calls prog 102 #[FQ (FZ ⟨g,0,FX⟩) n cap,I0 A.length,FQ (FZ ⟨b,0,FX⟩) 1 1] w fun e w'=>
   e=.returned (FQ (FZ ⟨g,0,FX⟩) (n+1) cap)/\J8 w' g cap (A++x::y::R)/\w.grownBy w' (FZ g):=by
 have hcl:=ho.capLe;simp only[maxLen]at hcl;have hrow:=ho.row;have AZ6:w.shape? g=FZ (41,cap*3):=by
  obtain⟨rest,q1,q2,_⟩:=ho;rw[AO,BG]at q2;simp[World.shape?,q1,KD];exact⟨rfl,q2⟩
 have AZ7:w.shape? b=FZ (41,3):=by unfold JG at h1;simp[World.shape?,h1];exact⟨rfl,rfl⟩
 have hfb:∀j,w.frozen? ⟨b,j,FX⟩=false:=fun j=>by unfold JG at h1;simp[World.frozen?,h1]
 have hov:∀lb cb,(callFunc 138 #[FQ (FZ ⟨b,0,FX⟩) 1 1,FQ (FZ ⟨g,(A.length+1)*3,FX⟩) lb cb]).run prog w=.ok (.value (.bool false)) w:=fun lb cb=>by
  rw[run_callFunc_extern func138 (by kernel_rfl) (by kernel_rfl) (by kernel_rfl) (e:=Extern.SlicesOverlaps.overlaps #[44,44] #[4]) (by kernel_rfl),
   Lib.run_overlaps_apart w 44 4 41 underlying44 3 sizeOf41 ⟨b,0,FX⟩ ⟨g,(A.length+1)*3,FX⟩ 1 1 lb cb hbg 41 41 3 (cap*3) AZ7 AZ6 (by omega) (hfb 0) (hfb 3)]
  rfl
 obtain⟨W1,hW1⟩:∃W1,W1=w.drew.setCells g ((A.length+1)*3) (G9 (y::R)):=⟨_,rfl⟩;have ho1:J8 W1 g cap (A++y::y::R):=by
  have h:J8 w.drew g cap ((A++[y])++R):=by rw[List.append_assoc];exact ho
  have:=h.A64 (y::R) (by simp;omega);rw[hW1];simpa using this
 have hg1:w.grownBy W1 (FZ g):=by rw[hW1];have:=H8 (g:=g) (G9 (y::R)) ((A.length+1)*3) w.drew;exact⟨this.os,this.tape,this.output,this.size,this.block⟩
 have hcp1:∀ty dc sc,(DW #[44,44] ty #[FQ (FZ ⟨g,(A.length+1)*3,FX⟩) (n-A.length) dc,FQ (FZ ⟨g,A.length*3,FX⟩) (n+1-A.length) sc]).run prog w.drew=.ok (goInt (Nat.min (n+1-A.length) (n-A.length))) W1:=fun ty dc sc=>by
  rw[hW1];exact AG6 w.drew ty g _ _ dc ⟨g,A.length*3,FX⟩ _ sc (G9 (y::R)) (by rw[KD];simp only[Nat.min_def,BG];split<;>omega)
   (fun j v hj=>by
    rw[BJ];have:=hrow (A.length*3+j) v (by rw[H7,BA (by rw[KD];omega),KD,FB];exact hj);rw[BI]at this;exact this)
   (fun j hj=>by rw[KD]at hj;exact ho.BU5 (by simp at hj;omega)) (fun j _=>ho.frozen _) (JO _)
 have hcp2:∀ty dc,(DW #[44,44] ty #[FQ (FZ ⟨g,A.length*3,FX⟩) (n+1-A.length) dc,FQ (FZ ⟨b,0,FX⟩) 1 1]).run prog W1=.ok (goInt (Nat.min 1 (n+1-A.length))) (W1.setCells g (A.length*3) (OH x)):=fun ty dc=>
  AG6 W1 ty g _ _ dc ⟨b,0,FX⟩ 1 1 (OH x) (by simp only[Nat.min_def,OH,BG,ES];split<;>omega)
   (fun j v hj=>by
    rw[BJ];have hb2:W1.heap[b]?=w.heap[b]? :=hg1.block b (by unfold JG at h1;exact(Array.getElem?_eq_some_iff.1 h1).1) (fun e=>hbg (Option.some.inj e));have h2:JG W1 b x:=hb2.trans h1;exact h2.row j v hj)
   (fun j hj=>ho1.BU5 (by simp[OH]at hj;omega)) (fun j _=>ho1.frozen _) ((Lay.one x))
 have FIN:Hid (J8 (W1.setCells g (A.length*3) (OH x)) g cap (A++x::y::R)/\w.grownBy (W1.setCells g (A.length*3) (OH x)) (FZ g)):=
  ⟨ho1.CZ0 x,IJ hg1 (H8 _ _ _)⟩
 have hin:A.length<n:=by omega
 have C38:(A.length:Int)<(n:Int):=by omega
 have hw1:IntKind.i64.wrap ((A.length:Int)+1)=(A.length:Int)+1:=by rw[IntKind.wrap_i64];omega
 have hb1:(0:Int)<=(A.length:Int)+1:=by omega
 have hb2:¬ (cap=A.length+1):=by omega
 have hb3:(A.length:Int)<=(n:Int)+1:=by omega
 have hb4:¬ (cap=A.length):=by omega
 have hb5:(A.length:Int)+1<=(n:Int)+1:=by omega
 have hb6:¬ ((cap:Int)<(n:Int)+1):=by omega
 have hz2:¬ ((A.length:Int)=(n:Int)):=by omega
 have htn:((A.length:Int)+1).toNat=A.length+1:=by omega
 clear hW1 ho1 hg1 hrow AZ6 AZ7 hfb ho h1 hn;go_enter func102,ntmps102;go_wp2_with (simp only[hov])
 go_region_law (refine MS rfl (.tmp 73) (.tmp 76) 44 44 rfl (FQ (FZ ⟨g,(A.length+1)*3,FX⟩) (n-A.length) (cap-(A.length+1))) (FQ (FZ ⟨g,A.length*3,FX⟩) (n+1-A.length) (cap-A.length)) (by simp[Act.eval,Act.put]) (by simp[Act.eval,Act.put]) (hcp1 _ _ _) ?_)
 go_wp2_with (at_builtin;refine LJ _ rfl _ _ 44 44 rfl _ _ rfl rfl (hcp2 _ _) ?_);go_ret;exact⟨rfl,FIN.out⟩
theorem CQ7(k:Nat):(BH (Value.agg #[.string ⟨#[]⟩,.string ⟨#[]⟩,.bool false]).cells k).size=k*3:=by
 simp[BH,Value.cells]
theorem yR(g cap:Nat)(A R:List En)(y x:En)(n b:Nat)(w:FU)(ho:J8 w g cap (A++y::R))(hn:n=A.length+R.length+1)(hsm:n<=400)(hroom:cap<n+1)(h1:JG w b x):
  Calls prog 102 #[FQ (FZ ⟨g,0,FX⟩) n cap,I0 A.length,FQ (FZ ⟨b,0,FX⟩) 1 1] w fun e w'=>
   ∃cap',e=.returned (FQ (FZ ⟨w.heap.size,0,FX⟩) (n+1) cap')/\J8 w' w.heap.size cap' (A++x::y::R)/\B0 w w':=by
 have hcap:cap=n:=by have:=ho.le;simp at this;omega
 obtain⟨i0,hi0,hz0,hz1,hz2⟩:=BR6;have hrow:=ho.row;have hgw:=ho.lt;have hbw:b<w.heap.size:=by unfold JG at h1;exact(Array.getElem?_eq_some_iff.1 h1).1
 have hold:(Builtin.firstCells i0.size A.length (FQ (FZ ⟨g,0,FX⟩) A.length cap)).run prog w.drew=.ok (G9 A).toArray w.drew:=by
  rw[hz1];exact run_firstCells_some w.drew 3 A.length ⟨g,0,FX⟩ A.length cap (G9 A) (KD A) (fun j v hj=>by
   rw[BJ];exact hrow j v (by rw[H7,List.getElem?_append_left (List.getElem?_eq_some_iff.1 hj).1];exact hj))
 obtain⟨G,hG⟩:∃G,G=grownCap w (n+1) cap 41:=⟨_,rfl⟩;have hGn:n+1<=G:=by rw[hG];exact grownCap_ge w _ _ _
 have hGm:G<=maxLen:=by rw[hG];exact grownCap_le_maxLen w (n+1) cap _ (by unfold maxLen;omega)
 have hG63:G<=9223372036854775807:=by have:=hGm;unfold maxLen at this;omega
 obtain⟨ROW,hROW⟩:∃ROW:Array FV,ROW=(G9 A).toArray++BH (Value.agg #[.string ⟨#[]⟩,.string ⟨#[]⟩,.bool false]).cells (n+1-A.length)++BH (Value.agg #[.string ⟨#[]⟩,.string ⟨#[]⟩,.bool false]).cells (G-(n+1)):=⟨_,rfl⟩;obtain⟨W1,hW1⟩:∃W1,W1=w.drew.alloc (FT ROW 41):=⟨_,rfl⟩;have hik:A.length+(n+1-A.length)=n+1:=by omega
 have hrz:∀ty,(Builtin.append_ #[44,3] ty #[FQ (FZ ⟨g,0,FX⟩) A.length cap,I0 ((n:Int)+1-(A.length:Int))]).run prog w=
   .ok (FQ (FZ ⟨w.heap.size,0,FX⟩) (n+1) G) W1:=fun ty=>by
  have h:=Lib.run_append_grow_zeros w 44 3 ty 41 i0 _ .i64 .i64 underlying44 underlying3 hi0 hz0 (FZ ⟨g,0,FX⟩) A.length cap (G9 A) hold (n+1-A.length) (by omega) (by omega) (by omega) (by omega) (by rw[hz2];omega) (by rw[hz2,hik];exact growslice_fits hroom (by omega));rw[hik,<-hG,<-hROW,<-hW1]at h;rw[show (n:Int)+1-(A.length:Int)=((n+1-A.length:Nat):Int) by omega];exact h
 have ho1:J8 W1 w.heap.size G A:=by
  refine⟨(BH (Value.agg #[.string ⟨#[]⟩,.string ⟨#[]⟩,.bool false]).cells (n+1-A.length)++BH (Value.agg #[.string ⟨#[]⟩,.string ⟨#[]⟩,.bool false]).cells (G-(n+1))).toList,?_,?_,by omega,hGm⟩
  .rw[hW1,hROW];have:=heap_alloc_new w.drew (FT ((G9 A).toArray++BH (Value.agg #[.string ⟨#[]⟩,.string ⟨#[]⟩,.bool false]).cells (n+1-A.length)++BH (Value.agg #[.string ⟨#[]⟩,.string ⟨#[]⟩,.bool false]).cells (G-(n+1))) 41);refine Eq.trans this ?_
   congr 2
   apply Array.toList_inj.1
   simp
  .simp only[show Lay.k En=3 from rfl,Array.length_toList,Array.size_append,CQ7];omega
 have hB1:B0 w W1:=by rw[hW1];exact((Below.refl _ w).drew).alloc (A8 _) _
 obtain⟨W2,hW2⟩:∃W2,W2=W1.setCells w.heap.size (A.length*3) (OH x):=⟨_,rfl⟩;have ho2:J8 W2 w.heap.size G (A++[x]):=by
  have h:J8 W1 w.heap.size G (A++[]):=by rw[DL];exact ho1
  have:=h.A64 [x] (by simp;omega);rw[hW2];rw[JU,SA,DL]at this;exact this
 have hg2:W1.grownBy W2 (FZ w.heap.size):=by rw[hW2];exact H8 _ _ _
 have hB2:B0 w W2:=hB1.grown hg2 hB1.size (fun k e=>by cases e;exact A8 _);have hcpA:∀ty dc,(DW #[44,44] ty #[FQ (FZ ⟨w.heap.size,A.length*3,FX⟩) (n+1-A.length) dc,FQ (FZ ⟨b,0,FX⟩) 1 1]).run prog W1=.ok (goInt (Nat.min 1 (n+1-A.length))) W2:=fun ty dc=>by
  rw[hW2];exact AG6 W1 ty w.heap.size _ _ dc ⟨b,0,FX⟩ 1 1 (OH x) (by simp only[Nat.min_def,OH,BG,ES];split<;>omega)
   (fun j v hj=>by rw[BJ];exact(show JG W1 b x from(hB1.block b hbw).trans h1).row j v hj)
   (fun j hj=>ho1.BU5 (by simp[OH]at hj;omega)) (fun j _=>ho1.frozen _) ((Lay.one x))
 obtain⟨W3,hW3⟩:∃W3,W3=W2.drew.setCells w.heap.size ((A.length+1)*3) (G9 (y::R)):=⟨_,rfl⟩;have hcpB:∀ty dc sc,(DW #[44,44] ty #[FQ (FZ ⟨w.heap.size,(A.length+1)*3,FX⟩) (n-A.length) dc,FQ (FZ ⟨g,A.length*3,FX⟩) (n-A.length) sc]).run prog W2.drew=.ok (goInt (Nat.min (n-A.length) (n-A.length))) W3:=fun ty dc sc=>by
  rw[hW3];exact AG6 W2.drew ty w.heap.size _ _ dc ⟨g,A.length*3,FX⟩ _ sc (G9 (y::R)) (by rw[KD];simp only[Nat.min_self,BG];omega)
   (fun j v hj=>by
    rw[BJ];have:=hrow (A.length*3+j) v (by rw[H7,BA (by rw[KD];omega),KD,FB];exact hj);rw[BI]at this;exact(hB2.cell (p:=⟨g,A.length*3+j,FX⟩) hgw).trans this)
   (fun j hj=>by rw[KD]at hj;exact ho2.drew.BU5 (by simp at hj;omega)) (fun j _=>ho2.drew.frozen _) (JO _)
 have FIN:Hid (J8 W3 w.heap.size G (A++x::y::R)/\B0 w W3):=by
  refine⟨?_,?_⟩
  .have h:J8 W2.drew w.heap.size G ((A++[x])++[]):=by rw[DL];exact ho2
   have:=h.A64 (y::R) (by simp;omega);rw[hW3];simpa using this
  .rw[hW3];exact hB2.drew.grown (H8 _ _ _) hB2.size (fun k e=>by cases e;exact A8 _)
 have hin:A.length<n:=by omega
 have C38:(A.length:Int)<(n:Int):=by omega
 have hw1:IntKind.i64.wrap ((A.length:Int)+1)=(A.length:Int)+1:=by rw[IntKind.wrap_i64];omega
 have hb1:(0:Int)<=(A.length:Int)+1:=by omega
 have hb2:¬ (G=A.length+1):=by omega
 have hb3:(A.length:Int)<=(n:Int)+1:=by omega
 have hb4:¬ (n=A.length):=by omega
 have hb5:(A.length:Int)+1<=(n:Int)+1:=by omega
 have hb6:¬ (G=A.length):=by omega
 have hb7:(A.length:Int)<=(n:Int):=by omega
 have hz3:¬ ((A.length:Int)=(n:Int)):=by omega
 have htn:((A.length:Int)+1).toNat=A.length+1:=by omega
 subst hcap;clear hn hROW hW1 hW2 hW3 hG hrow ho h1 ho1 ho2 hB1 hB2 hg2 hold hik;go_enter func102,ntmps102;go_wp2_with (first
  |(at_builtin;refine Lib.wpList_append_run _ rfl _ _ _ _ rfl _ _ rfl rfl _ _ (hrz _) ?_)
  |(at_builtin;refine LJ _ rfl _ _ 44 44 rfl _ _ rfl rfl (hcpA _ _) ?_))
 go_region_law (refine MS rfl (.tmp 50) (.tmp 53) 44 44 rfl (FQ (FZ ⟨w.heap.size,(A.length+1)*3,FX⟩) (cap-A.length) (G-(A.length+1))) (FQ (FZ ⟨g,A.length*3,FX⟩) (cap-A.length) (cap-A.length)) (by simp[Act.eval,Act.put]) (by simp[Act.eval,Act.put]) (hcpB _ _ _) ?_)
 go_wp2
 go_ret;exact⟨G,rfl,FIN.out⟩
theorem A66(v:FV)(A R:List En)(x:En)(q:Nat)(w:FU)(ho:GZ w 0 v (A++R))(hl:(A++R).length<=400)(h1:JG w q x)(hq:v.ownBlock≠FZ q):
  Calls prog 102 #[v,I0 A.length,FQ (FZ ⟨q,0,FX⟩) 1 1] w fun e w'=>
   ∃v',e=.returned v'/\GZ w' 0 v' (A++x::R)/\w.grownBy w' v.ownBlock/\(v'.ownBlock=v.ownBlock\/∃k,w.heap.size<=k/\v'.ownBlock=FZ k):=by
 cases R with
 |nil=>
  rw[DL]at ho hl;refine(A65 v A x 0 q w ho (AY _) hl h1).mono ?_;rintro e w' ⟨v',rfl,h2,h3,h4⟩;refine⟨v',rfl,h2,h3,?_⟩;rcases h4 with h|h
  .exact .inl h
  .exact .inr ⟨_,A8 _,h⟩
 |cons y R=>
  rcases ho with⟨_,h⟩|⟨g,cap,rfl,_,ho⟩
  .simp at h
  .have hn:(A++y::R).length=A.length+R.length+1:=by simp;omega
   by_cases hc:(A++y::R).length+1<=cap
   .refine(sV g cap A R y x _ q w ho hn hl hc h1 (fun e=>hq (by rw[e];rfl))).mono ?_;rintro e w' ⟨rfl,h2,h3⟩;exact⟨_,rfl,.inr ⟨g,cap,by simp;omega,AY _,h2⟩,h3,.inl rfl⟩
   .refine(yR g cap A R y x _ q w ho hn hl (by omega) h1).mono ?_;rintro e w' ⟨cap',rfl,h2,h3⟩;exact⟨_,rfl,.inr ⟨w.heap.size,cap',by simp;omega,AY _,h2⟩,⟨h3.os,h3.tape,h3.output,h3.size,fun k hk _=>h3.block k hk⟩,.inr ⟨_,A8 _,rfl⟩⟩
structure lY(w W:FU)(k q g cap:Nat)(s z:Int)(x:En)(A:List En)(y:En)(B:List En):Prop where
 hk:w.heap.size=k
 old:B0 w W
 res:NK W (k+2) 0 0 (N0)
 one:JG W (k+1) x
 box:NK W q s z (FQ (FZ ⟨g,0,FX⟩) (A++y::B).length cap)
 hq:k+3<=q
 hg:k+3<=g
 own:J8 W g cap (A++y::B)
 ne:g≠q
theorem lY.next{w V:FU}{k q:Nat}{s z:Int}{x:En}(h:lY w W k q g cap s z x A y B)(hb:B0 W V):lY w V k q g cap s z x A y B:=
 ⟨h.hk,G8 h.old hb,h.res.next hb,h.one.TW hb h.one.ltz,h.box.next hb,h.hq,h.hg,h.own.next hb,h.ne⟩
theorem lY.fin{w:FU}{k q:Nat}{s z:Int}{x:En}(h:lY w W k q g cap s z x A y B):
  NK (((W.setCell ⟨g,A.length*3,FX⟩ (S0 x.p)).setCell ⟨g,A.length*3+1,FX⟩ (S0 x.d)).setCell ⟨g,A.length*3+2,FX⟩ (.bool x.t)) q s z (FQ (FZ ⟨g,0,FX⟩) (A++y::B).length cap)/\
  NK (((W.setCell ⟨g,A.length*3,FX⟩ (S0 x.p)).setCell ⟨g,A.length*3+1,FX⟩ (S0 x.d)).setCell ⟨g,A.length*3+2,FX⟩ (.bool x.t)) (k+2) 0 0 (N0)/\
  J8 (((W.setCell ⟨g,A.length*3,FX⟩ (S0 x.p)).setCell ⟨g,A.length*3+1,FX⟩ (S0 x.d)).setCell ⟨g,A.length*3+2,FX⟩ (.bool x.t)) g cap (A++x::B)/\
  B0 w (((W.setCell ⟨g,A.length*3,FX⟩ (S0 x.p)).setCell ⟨g,A.length*3+1,FX⟩ (S0 x.d)).setCell ⟨g,A.length*3+2,FX⟩ (.bool x.t)):=by
 have h1:=h.ne;have h2:=h.hg;have h3:=h.hk;refine⟨((h.box.other (by simp only;omega) _).other (by simp only;omega) _).other (by simp only;omega) _,((h.res.other (by simp only;omega) _).other (by simp only;omega) _).other (by simp only;omega) _,h.own.vH x,?_⟩;exact((h.old.setCell (by simp only;omega) _).setCell (by simp only;omega) _).setCell (by simp only;omega) _
theorem AG7(w:FU)(s z:Int)(v:FV)(x:En):∃W,W=((w.alloc (FT #[I0 s,I0 z,v] 46)).alloc (FT #[S0 x.p,S0 x.d,.bool x.t] 41)).alloc (FT #[I0 0,I0 0,N0] 46)/\
  B0 w W/\NK W w.heap.size s z v/\JG W (w.heap.size+1) x/\NK W (w.heap.size+2) 0 0 (N0)/\W.heap.size=w.heap.size+3:=by
 refine⟨_,rfl,G8 (G8 (G7 _ _) (G7 _ _)) (G7 _ _),((NK.new w s z v).next (G7 _ _)).next (G7 _ _),?_,?_,by simp⟩
 .have:=(bP (w.alloc (FT #[I0 s,I0 z,v] 46)) x).TW (G7 _ (FT #[I0 0,I0 0,N0] 46)) (by simp);simpa using this
 .have:=NK.new ((w.alloc (Obj.cells #[I0 s,I0 z,v] 46)).alloc (Obj.cells #[Value.string (ByteArray.mk x.p.toArray),.string (ByteArray.mk x.d.toArray),.bool x.t] 41)) 0 0 (N0);simpa using this
theorem BC6(s z:Int)(v:FV)(es:List En)(x:En)(w:FU)(hv:IQ w v es)(hs:oV es)(hl:es.length<=400)(ha:yX es)(hx:x.p.length<=140737488355328/\x.d.length<=140737488355328):
  Calls prog 68 #[clV s z v,enV x] w fun e w'=>∃v',e=.returned (clV s z v')/\GZ w' w.heap.size v' (QM es x)/\B0 w w':=by
 have CC:=fun W (hW:B0 w W)=>ZL s z v es W (hv.next hW) hs (by omega);have CO:=fun W=>sF (IL x) W (oW hx).1 (oW hx).2;have HW:=G6 (xP x.p es ha);obtain⟨a,c,rfl⟩:=GK hv;unfold clV at CC⊢;unfold enV;clear hv hs ha hx;obtain⟨k,hk⟩:∃k,k=w.heap.size:=⟨_,rfl⟩;go_enter func68,ntmps68
 cases ht:x.t
 case' true=>
  obtain⟨W,hW,B0,K0,K1,K2,hz⟩:=AG7 w s z (FQ a es.length c) x;have K1:JG W (w.heap.size+1) (IL x):=by rw[B69 ht];exact K1
  rw[ht]at hW;have q0:=K1.e2
 case' false=>
  obtain⟨W,hW,B0,K0,K1,K2,hz⟩:=AG7 w s z (FQ a es.length c) ⟨x.p,[],false⟩;have K1:JG W (w.heap.size+1) (IL x):=by rw[BQ0 ht,ht];exact K1
 all_goals
  go_wp2_with fail;rw[<-hW];refine(CC _ B0).mono ?_;rintro e w1 ⟨v1,rfl,ho1,hb1⟩;have B1:=G8 B0 hb1;have K1':=(K1.TW hb1 K1.ltz).TW (G7 w1 (FT #[I0 s,I0 z,v1] 46)) (Nat.lt_of_lt_of_le K1.ltz hb1.size);have K2':=(K2.next hb1).next (G7 w1 (FT #[I0 s,I0 z,v1] 46));have ho2:=ho1.next (G7 w1 (FT #[I0 s,I0 z,v1] 46));have K3:=NK.new w1 s z v1;have B2:=G8 B1 (G7 w1 (FT #[I0 s,I0 z,v1] 46));have hz1:=hb1.size;have hlow:=ho1.low;have HNP:=G6 (kZ x);have hq0:=K3.c2;have hq1:=K1'.e0;rw[G5 HNP]at hq1;obtain⟨q,hq⟩:∃q,q=w1.heap.size:=⟨_,rfl⟩;have hzq:(w1.alloc (FT #[I0 s,I0 z,v1] 46)).heap.size=w1.heap.size+1:=by simp
  have hab:=ho1.above;obtain⟨a1,c1,rfl,_⟩:=ho1.slice;have HC:=G6 K3;have HK1:=G6 K1';have HK2:=G6 K2';have HB2:=G6 B2;have HO:=G6 ho2;clear K1 K2 K1' K2' K3 ho1 ho2 hb1 B1 B2 B0 CC K0;rcases G5 HW with⟨A,f,B,T⟩|⟨A,B,G⟩
  .have CF:=lS (FQ a1 es.length c1) es A B f x.p _ (G5 HO).seq (by omega) T;go_wp2_with fail;generalize w1.alloc (FT #[I0 s,I0 z,FQ a1 es.length c1] 46)=W1 at*;refine CF.mono ?_;rintro e w2 ⟨rfl,hb2⟩;have O3:=(G5 HO).next hb2;rw[T.eq]at O3;rcases O3 with⟨_,h0⟩|⟨g,cap,hga,hgB,O3⟩
   .simp at h0
   have HT:Hid (QM es x=A++IL x::B):=G6 T.keep;have ST:lY w w2 k q g cap s z (IL x) A f B:=⟨hk.symm,G8 (G5 HB2) hb2,by have:=(G5 HK2).next hb2;rw[hk];exact this,by rw[hk];exact(G5 HK1).TW hb2 (G5 HK1).ltz,
    by have:=(G5 HC).next hb2;rw[<-hga,hq,<-T.eq];exact this,by omega,by omega,O3,fun e=>by have:=hlow g (by rw[<-T.eq]at hga;rw[hga];rfl);omega⟩
   clear CF O3 hgB hb2;have hAl:A.length<es.length:=by rw[T.eq];simp
   have hAi:(A.length:Int)<(es.length:Int):=by omega
   rw[<-T.eq]at hga;have HEl:=G6 (congrArg List.length T.eq);clear T hq0 hq1;simp only[Value.slice.injEq]at hga;obtain⟨rfl,_,rfl⟩:=hga;have HS:=G6 ST;have HX:=G6 hz;have HY:=G6 hk;clear hz hk;have p0:=ST.box.c2;rw[<-G5 HEl]at p0;have p1:=ST.one.e0;have p2:=ST.one.e1;have p3:=ST.one.e2;rw[G5 HY]at p1 p2 p3;rw[hq]at p0;have KB:∀W2,B0 w2 W2->W2.cell? ⟨w1.heap.size,2,FX⟩=FZ (FQ (FZ ⟨g,0,FX⟩) es.length c1)/\(∃u,W2.cell? ⟨g,A.length*3,FX⟩=FZ u)/\(∃u,W2.cell? ⟨g,A.length*3+1,FX⟩=FZ u)/\(∃u,W2.cell? ⟨g,A.length*3+2,FX⟩=FZ u)/\(∀j,W2.frozen? ⟨g,j,FX⟩=false)/\
     W2.cell? ⟨w.heap.size+1,0,FX⟩=FZ (S0 (IL x).p)/\W2.cell? ⟨w.heap.size+1,1,FX⟩=FZ (S0 (IL x).d)/\W2.cell? ⟨w.heap.size+1,2,FX⟩=FZ (.bool (IL x).t):=fun W2 hb=>by
    have S2:=(G5 HS).next hb;have b0:=S2.box.c2;rw[<-G5 HEl,hq]at b0;have r:=S2.own.row;have b1:=S2.one.e0;have b2:=S2.one.e1;have b3:=S2.one.e2;rw[G5 HY]at b1 b2 b3;have r0:W2.cell? ⟨g,A.length*3,FX⟩=FZ (S0 f.p):=by have:=r.en0 (i:=A.length) (x:=f) (by simp);simpa using this
    have r1:W2.cell? ⟨g,A.length*3+1,FX⟩=FZ (S0 f.d):=by have:=r.en1 (i:=A.length) (x:=f) (by simp);simpa using this
    have r2:W2.cell? ⟨g,A.length*3+2,FX⟩=FZ (.bool f.t):=by have:=r.en2 (i:=A.length) (x:=f) (by simp);simpa using this
    exact⟨b0,⟨_,r0⟩,⟨_,r1⟩,⟨_,r2⟩,S2.own.frozen,b1,b2,b3⟩
   have HKB:=G6 KB;clear ST KB;go_wp2_with fail;have KS:∀W2,B0 w2 W2->W2.cell? ⟨w1.heap.size,2,FX⟩=FZ (FQ (FZ ⟨g,0,FX⟩) es.length c1)/\W2.cell? ⟨w.heap.size+1,0,FX⟩=FZ (S0 (IL x).p)/\W2.cell? ⟨w.heap.size+1,1,FX⟩=FZ (S0 (IL x).d)/\W2.cell? ⟨w.heap.size+1,2,FX⟩=FZ (.bool (IL x).t):=fun W2 hb=>by
    obtain⟨b0,_,_,_,_,b4,b5,b6⟩:=G5 HKB W2 hb;exact⟨b0,b4,b5,b6⟩
   have HKS:=G6 KS;have HKT:Hid (∀W2,B0 w2 W2->(((W2.setCell ⟨g,A.length*3,FX⟩ (S0 (IL x).p)).setCell ⟨g,A.length*3+1,FX⟩ (S0 (IL x).d)).setCell ⟨g,A.length*3+2,FX⟩ (.bool (IL x).t)).cell? ⟨w1.heap.size,2,FX⟩=FZ (FQ (FZ ⟨g,0,FX⟩) es.length c1)/\(((W2.setCell ⟨g,A.length*3,FX⟩ (S0 (IL x).p)).setCell ⟨g,A.length*3+1,FX⟩ (S0 (IL x).d)).setCell ⟨g,A.length*3+2,FX⟩ (.bool (IL x).t)).cell? ⟨w.heap.size+1,0,FX⟩=FZ (S0 (IL x).p)/\(((W2.setCell ⟨g,A.length*3,FX⟩ (S0 (IL x).p)).setCell ⟨g,A.length*3+1,FX⟩ (S0 (IL x).d)).setCell ⟨g,A.length*3+2,FX⟩ (.bool (IL x).t)).cell? ⟨w.heap.size+1,1,FX⟩=FZ (S0 (IL x).d)/\(((W2.setCell ⟨g,A.length*3,FX⟩ (S0 (IL x).p)).setCell ⟨g,A.length*3+1,FX⟩ (S0 (IL x).d)).setCell ⟨g,A.length*3+2,FX⟩ (.bool (IL x).t)).cell? ⟨w.heap.size+1,2,FX⟩=FZ (.bool (IL x).t)):=G6 fun W2 hb=>by
    have S2:=(G5 HS).next hb;have hne:=S2.ne;have hgk:=S2.hg;have b0:=((S2.box.other (a:=⟨g,A.length*3,FX⟩) (by simp only;omega) (S0 (IL x).p)).other (a:=⟨g,A.length*3+1,FX⟩) (by simp only;omega) (S0 (IL x).d)).other (a:=⟨g,A.length*3+2,FX⟩) (by simp only;omega) (.bool (IL x).t)|>.c2;have o1:=((S2.one.OQ (a:=⟨g,A.length*3,FX⟩) (by simp only;omega) (S0 (IL x).p)).OQ (a:=⟨g,A.length*3+1,FX⟩) (by simp only;omega) (S0 (IL x).d)).OQ (a:=⟨g,A.length*3+2,FX⟩) (by simp only;omega) (.bool (IL x).t);have b1:=o1.e0;have b2:=o1.e1;have b3:=o1.e2;rw[<-G5 HEl,hq]at b0;rw[G5 HY]at b1 b2 b3;exact⟨b0,b1,b2,b3⟩
   clear KS
   go_region_held3 (fun w'=>w'.cell? ⟨w1.heap.size,2,FX⟩=FZ (FQ (FZ ⟨g,0,FX⟩) es.length c1)/\w'.cell? ⟨w.heap.size+1,0,FX⟩=FZ (S0 (IL x).p)/\w'.cell? ⟨w.heap.size+1,1,FX⟩=FZ (S0 (IL x).d)/\w'.cell? ⟨w.heap.size+1,2,FX⟩=FZ (.bool (IL x).t)) (first|with_reducible exact G5 HKS _ (Below.refl _ _)|with_reducible exact G5 HKS _ (Below.refl _ _).drew|with_reducible exact G5 HKS _ (G5 HB5)|with_reducible exact G5 HKT _ (G5 HB5)) (first
    |(go_at_call 18;with_reducible refine(CO _).mono ?_;rintro e w4 ⟨rfl,hb4⟩;have HB5:Hid (B0 w2 w4):=G6 (I8 hb4);obtain⟨b0,⟨u1,b1⟩,⟨u2,b2⟩,⟨u3,b3⟩,bf,b4,b5,b6⟩:=G5 HKB w4 (G5 HB5);have bf0:=bf (A.length*3);have bf1:=bf (A.length*3+1);have bf2:=bf (A.length*3+2);clear bf hb4))
   all_goals
    obtain⟨V1,V2,V3,V4⟩:=((G5 HS).next (G5 HB5)).fin;rw[<-G5 HEl,hq]at V1;rw[G5 HY]at V2;have HV3:=G6 V3;have HV4:=G6 V4;have v0:=V1.c0;have v1:=V1.c1;have v2:=V1.c2;have v3:=V2.c0;have v4:=V2.c1;have v5:=V2.c2;have v6:=V2.fr 0;have v7:=V2.fr 1;have v8:=V2.fr 2;have hgk:=(G5 HS).hg;rw[G5 HY]at hgk;clear V1 V2 V3 V4;generalize ((w4.setCell ⟨g,A.length*3,FX⟩ (S0 (IL x).p)).setCell ⟨g,A.length*3+1,FX⟩ (S0 (IL x).d)).setCell ⟨g,A.length*3+2,FX⟩ (.bool (IL x).t)=w5 at*;go_wp2_with fail;refine bodyPost_ret (v:=.agg #[I0 s,I0 z,FQ (FZ ⟨g,0,FX⟩) es.length c1]) (by simp[results,results68,go_sem,v3,v4,v5]) rfl ⟨_,rfl,.inr ⟨g,c1,?_,by omega,?_⟩,?_⟩
    .rw[G5 HT,G5 HEl];simp
    .rw[G5 HT];exact(((G5 HV3).other (by simp only;omega) _).other (by simp only;omega) _).other (by simp only;omega) _
    .exact(((G5 HV4).setCell (by simp only;omega) _).setCell (by simp only;omega) _).setCell (by simp only;omega) _
  .have CF:=yD (FQ a1 es.length c1) es A B x.p _ (G5 HO).seq (by omega) G;go_wp2_with fail;generalize w1.alloc (FT #[I0 s,I0 z,FQ a1 es.length c1] 46)=W1 at*;refine CF.mono ?_;rintro e w2 ⟨rfl,hb2⟩;have O3:=(G5 HO).next hb2;rw[G.eq]at O3;have C3:=(G5 HC).next hb2;have c3:=C3.c2;have f3:=C3.fr 2;have HT:Hid (QM es x=A++IL x::B):=G6 G.keep;have HE2:=G6 (congrArg List.length G.eq);have N3:=bP w2 noneE;have O4:=O3.next (G7 w2 (FT #[S0 (noneE.p),S0 (noneE.d),.bool noneE.t] 41));have CI:=A66 _ A B noneE w2.heap.size _ (O4.lower (AY _)) (by rw[<-G5 HE2];omega) N3 (fun e=>by have:=O3.low _ e;omega);rw[<-G5 HE2]at CI;have HS0:=G6 ((G5 HK2).next hb2);have HS1:=G6 ((G5 HK1).TW hb2 (G5 HK1).ltz);have HS2:=G6 (G8 (G5 HB2) hb2);have hz2:=hb2.size;clear CF O3 O4 hb2 hq0 hq1 G;have HC3:=G6 C3;clear C3;simp only[noneE]at CI;go_wp2_with fail;refine CI.mono ?_;rintro e w3 ⟨v3,rfl,ho3,hg3,hl3⟩;have hg4:w2.grownBy w3 (Value.slice a1 es.length c1).ownBlock:=⟨hg3.os,hg3.tape,hg3.output,Nat.le_trans (by simp) hg3.size,fun j hj hne=>(hg3.block j (by simp;omega) hne).trans (Below.block (G7 w2 _) j hj)⟩;have hne:∀j,j<k+3->FZ j≠(Value.slice a1 es.length c1).ownBlock:=fun j hj e=>by have:=hab j e.symm;omega
   have hnq:FZ q≠(Value.slice a1 es.length c1).ownBlock:=fun e=>by have:=hlow q e.symm;omega
   have C4:=(G5 HC3).grown hg4 (by rw[<-hq];exact hnq);have c4:=C4.c2;have f4:=C4.fr 2;have R4:=(G5 HS0).grown hg4 (hne _ (by omega));have E4:JG w3 (w.heap.size+1) (IL x):=(hg4.block _ (G5 HS1).ltz (hne _ (by omega))).trans (G5 HS1);have B4:=(G5 HS2).grown hg4 (G5 HS2).size (fun j e=>by have:=hab j e;omega);have hgp:∀j,v3.ownBlock=FZ j->k+3<=j/\j≠q:=fun j e=>by
    rcases hl3 with h|⟨i,hi,h⟩
    .rw[e]at h;exact⟨by have:=hab j h.symm;omega,fun e2=>hnq (by rw[<-e2];exact h)⟩
    .rw[e]at h
     cases h
     simp at hi;exact⟨by omega,by omega⟩
   rcases ho3 with⟨_,h0⟩|⟨g,cap,rfl,_,O4⟩
   .simp at h0
   obtain⟨hg5,hg6⟩:=hgp g rfl;have ST:lY w (w3.setCell ⟨w1.heap.size,2,FX⟩ (FQ (FZ ⟨g,0,FX⟩) (A++(⟨[],[],false⟩:En)::B).length cap)) k q g cap s z (IL x) A ⟨[],[],false⟩ B:=
    ⟨hk.symm,B4.setCell (by simp only;omega) _,by rw[hk];exact R4.other (by simp only;omega) _,by rw[hk];exact E4.OQ (by simp only;omega) _,by rw[hq];exact C4.set2,by omega,by omega,O4.other (by simp only;omega) _,by omega⟩
   clear CI C4 R4 E4 B4 O4 hgp hl3 hg3 hg4 hne hnq N3 c3 f3;obtain⟨n,hn⟩:∃n,(A++(⟨[],[],false⟩:En)::B).length=n:=⟨_,rfl⟩;have hAl:A.length<n:=by rw[<-hn];simp
   have hAi:(A.length:Int)<(n:Int):=by omega
   have hn2:n<=500:=by have:=G5 HE2;rw[AO]at this;rw[<-hn,AO,BG];omega
   have HEl:=G6 hn.symm;rw[hn]at ST⊢;clear hn;go_upto_region 7 with fail;generalize w3.setCell ⟨w1.heap.size,2,FX⟩ (FQ (FZ ⟨g,0,FX⟩) n cap)=w2 at*;have HS:=G6 ST;have HX:=G6 hz;have HY:=G6 hk;clear hz hk;have p0:=ST.box.c2;rw[<-G5 HEl]at p0;have p1:=ST.one.e0;have p2:=ST.one.e1;have p3:=ST.one.e2;rw[G5 HY]at p1 p2 p3;rw[hq]at p0;have KB:∀W2,B0 w2 W2->W2.cell? ⟨w1.heap.size,2,FX⟩=FZ (FQ (FZ ⟨g,0,FX⟩) n cap)/\(∃u,W2.cell? ⟨g,A.length*3,FX⟩=FZ u)/\(∃u,W2.cell? ⟨g,A.length*3+1,FX⟩=FZ u)/\(∃u,W2.cell? ⟨g,A.length*3+2,FX⟩=FZ u)/\(∀j,W2.frozen? ⟨g,j,FX⟩=false)/\
     W2.cell? ⟨w.heap.size+1,0,FX⟩=FZ (S0 (IL x).p)/\W2.cell? ⟨w.heap.size+1,1,FX⟩=FZ (S0 (IL x).d)/\W2.cell? ⟨w.heap.size+1,2,FX⟩=FZ (.bool (IL x).t):=fun W2 hb=>by
    have S2:=(G5 HS).next hb;have b0:=S2.box.c2;rw[<-G5 HEl,hq]at b0;have r:=S2.own.row;have b1:=S2.one.e0;have b2:=S2.one.e1;have b3:=S2.one.e2;rw[G5 HY]at b1 b2 b3;have r0:W2.cell? ⟨g,A.length*3,FX⟩=FZ (.string ⟨(⟨[],[],false⟩:En).p.toArray⟩):=by have:=r.en0 (i:=A.length) (x:=(⟨[],[],false⟩:En)) (by simp);simpa using this
    have r1:W2.cell? ⟨g,A.length*3+1,FX⟩=FZ (.string ⟨(⟨[],[],false⟩:En).d.toArray⟩):=by have:=r.en1 (i:=A.length) (x:=(⟨[],[],false⟩:En)) (by simp);simpa using this
    have r2:W2.cell? ⟨g,A.length*3+2,FX⟩=FZ (.bool (⟨[],[],false⟩:En).t):=by have:=r.en2 (i:=A.length) (x:=(⟨[],[],false⟩:En)) (by simp);simpa using this
    exact⟨b0,⟨_,r0⟩,⟨_,r1⟩,⟨_,r2⟩,S2.own.frozen,b1,b2,b3⟩
   have HKB:=G6 KB;clear ST KB;go_wp2_with fail;have KS:∀W2,B0 w2 W2->W2.cell? ⟨w1.heap.size,2,FX⟩=FZ (FQ (FZ ⟨g,0,FX⟩) n cap)/\W2.cell? ⟨w.heap.size+1,0,FX⟩=FZ (S0 (IL x).p)/\W2.cell? ⟨w.heap.size+1,1,FX⟩=FZ (S0 (IL x).d)/\W2.cell? ⟨w.heap.size+1,2,FX⟩=FZ (.bool (IL x).t):=fun W2 hb=>by
    obtain⟨b0,_,_,_,_,b4,b5,b6⟩:=G5 HKB W2 hb;exact⟨b0,b4,b5,b6⟩
   have HKS:=G6 KS;have HKT:Hid (∀W2,B0 w2 W2->(((W2.setCell ⟨g,A.length*3,FX⟩ (S0 (IL x).p)).setCell ⟨g,A.length*3+1,FX⟩ (S0 (IL x).d)).setCell ⟨g,A.length*3+2,FX⟩ (.bool (IL x).t)).cell? ⟨w1.heap.size,2,FX⟩=FZ (FQ (FZ ⟨g,0,FX⟩) n cap)/\(((W2.setCell ⟨g,A.length*3,FX⟩ (S0 (IL x).p)).setCell ⟨g,A.length*3+1,FX⟩ (S0 (IL x).d)).setCell ⟨g,A.length*3+2,FX⟩ (.bool (IL x).t)).cell? ⟨w.heap.size+1,0,FX⟩=FZ (S0 (IL x).p)/\(((W2.setCell ⟨g,A.length*3,FX⟩ (S0 (IL x).p)).setCell ⟨g,A.length*3+1,FX⟩ (S0 (IL x).d)).setCell ⟨g,A.length*3+2,FX⟩ (.bool (IL x).t)).cell? ⟨w.heap.size+1,1,FX⟩=FZ (S0 (IL x).d)/\(((W2.setCell ⟨g,A.length*3,FX⟩ (S0 (IL x).p)).setCell ⟨g,A.length*3+1,FX⟩ (S0 (IL x).d)).setCell ⟨g,A.length*3+2,FX⟩ (.bool (IL x).t)).cell? ⟨w.heap.size+1,2,FX⟩=FZ (.bool (IL x).t)):=G6 fun W2 hb=>by
    have S2:=(G5 HS).next hb;have hne:=S2.ne;have hgk:=S2.hg;have b0:=((S2.box.other (a:=⟨g,A.length*3,FX⟩) (by simp only;omega) (S0 (IL x).p)).other (a:=⟨g,A.length*3+1,FX⟩) (by simp only;omega) (S0 (IL x).d)).other (a:=⟨g,A.length*3+2,FX⟩) (by simp only;omega) (.bool (IL x).t)|>.c2;have o1:=((S2.one.OQ (a:=⟨g,A.length*3,FX⟩) (by simp only;omega) (S0 (IL x).p)).OQ (a:=⟨g,A.length*3+1,FX⟩) (by simp only;omega) (S0 (IL x).d)).OQ (a:=⟨g,A.length*3+2,FX⟩) (by simp only;omega) (.bool (IL x).t);have b1:=o1.e0;have b2:=o1.e1;have b3:=o1.e2;rw[<-G5 HEl,hq]at b0;rw[G5 HY]at b1 b2 b3;exact⟨b0,b1,b2,b3⟩
   clear KS
   go_region_held3 (fun w'=>w'.cell? ⟨w1.heap.size,2,FX⟩=FZ (FQ (FZ ⟨g,0,FX⟩) n cap)/\w'.cell? ⟨w.heap.size+1,0,FX⟩=FZ (S0 (IL x).p)/\w'.cell? ⟨w.heap.size+1,1,FX⟩=FZ (S0 (IL x).d)/\w'.cell? ⟨w.heap.size+1,2,FX⟩=FZ (.bool (IL x).t)) (first|with_reducible exact G5 HKS _ (Below.refl _ _)|with_reducible exact G5 HKS _ (Below.refl _ _).drew|with_reducible exact G5 HKS _ (G5 HB5)|with_reducible exact G5 HKT _ (G5 HB5)) (first
    |(go_at_call 18;with_reducible refine(CO _).mono ?_;rintro e w4 ⟨rfl,hb4⟩;have HB5:Hid (B0 w2 w4):=G6 (I8 hb4);obtain⟨b0,⟨u1,b1⟩,⟨u2,b2⟩,⟨u3,b3⟩,bf,b4,b5,b6⟩:=G5 HKB w4 (G5 HB5);have bf0:=bf (A.length*3);have bf1:=bf (A.length*3+1);have bf2:=bf (A.length*3+2);clear bf hb4))
   all_goals
    obtain⟨V1,V2,V3,V4⟩:=((G5 HS).next (G5 HB5)).fin;rw[<-G5 HEl,hq]at V1;rw[G5 HY]at V2;have HV3:=G6 V3;have HV4:=G6 V4;have v0:=V1.c0;have v1:=V1.c1;have v2:=V1.c2;have v3:=V2.c0;have v4:=V2.c1;have v5:=V2.c2;have v6:=V2.fr 0;have v7:=V2.fr 1;have v8:=V2.fr 2;have hgk:=(G5 HS).hg;rw[G5 HY]at hgk;clear V1 V2 V3 V4;generalize ((w4.setCell ⟨g,A.length*3,FX⟩ (S0 (IL x).p)).setCell ⟨g,A.length*3+1,FX⟩ (S0 (IL x).d)).setCell ⟨g,A.length*3+2,FX⟩ (.bool (IL x).t)=w5 at*;go_wp2_with fail;refine bodyPost_ret (v:=.agg #[I0 s,I0 z,FQ (FZ ⟨g,0,FX⟩) n cap]) (by simp[results,results68,go_sem,v3,v4,v5]) rfl ⟨_,rfl,.inr ⟨g,cap,?_,by omega,?_⟩,?_⟩
    .rw[G5 HT,G5 HEl];simp
    .rw[G5 HT];exact(((G5 HV3).other (by simp only;omega) _).other (by simp only;omega) _).other (by simp only;omega) _
    .exact(((G5 HV4).setCell (by simp only;omega) _).setCell (by simp only;omega) _).setCell (by simp only;omega) _
