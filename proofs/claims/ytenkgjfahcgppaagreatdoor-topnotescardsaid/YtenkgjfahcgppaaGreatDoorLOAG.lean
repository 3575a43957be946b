/-
  Part.
-/
import Derived.Test.YtenkgjfahcgppaaGreatDoorLOY
import Derived.Test.YtenkgjfahcgppaaGreatDoorLOE
set_option maxRecDepth 20000
set_option maxHeartbeats 8000000
namespace Go.Proofs.YtenkgjfahcgppaaGreatDoor
open Go.RowKit Go.Proofs.Tryz
variable{W:World}{g cap:Nat}{A B:List En}{y:En}
theorem FP(ns:List En):(AO ns).length=ns.length*3:=BA ns
theorem DY.zM{pre tl:List En}(h:DY W g cap (pre++tl))(new:List En)(hfit:pre.length+new.length<=cap):DY (W.setCells g (pre.length*3) (AO new)) g cap (pre++new):=h.splice new hfit
theorem DY.CQ7(h:DY W g cap (A++y::B))(x:En):DY (W.setCells g (A.length*3) (JZ x)) g cap (A++x::B):=h.qJ x
theorem DY.BM3{fs:List En}(h:DY W g cap fs){j:Nat}(hj:j<cap*3):(W.cell? ⟨g,j,none⟩).isSome=true:=h.some hj
theorem A84(w:World)(ty:TypeId)(b o dLen dCap:Nat)(a:Addr)(sLen sCap:Nat)(cs:List Value)(hn:cs.length=Nat.min sLen dLen*3)
  (hsrc:∀j v,cs[j]?=some v->w.cell? (a.add j)=some v) (hc:∀j,j<cs.length->(w.cell? ⟨b,o+j,none⟩).isSome=true) (hf:∀j,j<cs.length->w.frozen? ⟨b,o+j,none⟩=false) (h1:∀v∈cs,v.oneCell'=true):
  (Builtin.copy_ #[75,75] ty #[.slice (some ⟨b,o,none⟩) dLen dCap,.slice (some a) sLen sCap]).run prog w=.ok (goInt (Nat.min sLen dLen)) (w.setCells b o cs):=by
 have hl:=run_loadCells_list (P:=prog) w a cs hsrc;have hst:=run_storeCells_cells (P:=prog) b o cs 0 w (by simpa using hc) (by simpa using hf) h1;obtain⟨i0,hi0,hz0,hz1,hz2⟩:=BI5;simp[Builtin.copy_,run_underlying underlying75,Builtin.lenOf,Builtin.firstCells,sizeOf,typeInfo,hi0,hz1,<-hn,hl,hst]
theorem zN(v:Value)(A:List En)(x:En)(B b:Nat)(w:World)(ho:BD w B v A)(hB:B<=w.heap.size)(hl:A.length<=400)(h1:EW w b x):
  Calls prog 155 #[v,I0 A.length,.slice (some ⟨b,0,none⟩) 1 1] w fun e w'=>
   ∃v',e=.returned v'/\BD w' B v' (A++[x])/\w.grownBy w' v.ownBlock/\(v'.ownBlock=v.ownBlock\/v'.ownBlock=some w.heap.size):=by
 obtain⟨i0,hi0,hz0,hz1,hz2⟩:=BI5;have hrow:=ho.row;have HR:=AA hrow;have H1:=AA h1.row;have V:∃a c,v=.slice a A.length c/\A.length<=c:=by
  rcases ho with⟨rfl,rfl⟩|⟨g,cap,rfl,_,h⟩
  .exact⟨none,0,rfl,Nat.le_refl _⟩
  .exact⟨_,cap,rfl,h.le⟩
 obtain⟨a,c,rfl,hc⟩:=V;clear ho hrow h1;rcases Nat.lt_or_ge A.length c with hcl|hcl
 .have hne:¬c=A.length:=by omega
  go_enter func155,ntmps155;go_wp2_with (at_builtin;refine wpList_append_own_at _ rfl _ _ 75 rfl B 72 i0 _ 3 40 underlying75 hi0 hz0 hz1 hz2 rfl (by decide) _ A.length (AO A) rfl (A8 HR) ⟨b,0,none⟩ 1 1 (JZ x) rfl (by rfl) ?qc2 ((Lay.one x)) ?qc4 ?qc5 hB ?_)
  case qc2=>
   intro j u hj;rw[Addr.add_lit];exact A8 H1 j u hj
  case qc4=>simp only[maxLen];omega
  case qc5=>omega
  intro v' w1 hown hgrow _ hloc
  go_wp2
  go_ret;exact⟨v',rfl,BD.G8 (by rw[List.length_append,EK];exact hown),hgrow,hloc⟩
 .obtain rfl:c=A.length:=by omega
  go_enter func155,ntmps155;go_wp2_with (at_builtin;refine wpList_append_own_at _ rfl _ _ 75 rfl B 72 i0 _ 3 40 underlying75 hi0 hz0 hz1 hz2 rfl (by decide) _ A.length (AO A) rfl (A8 HR) ⟨b,0,none⟩ 1 1 (JZ x) rfl (by rfl) ?qc2 ((Lay.one x)) ?qc4 ?qc5 hB ?_)
  case qc2=>
   intro j u hj;rw[Addr.add_lit];exact A8 H1 j u hj
  case qc4=>simp only[maxLen];omega
  case qc5=>omega
  intro v' w1 hown hgrow _ hloc
  go_wp2
  go_ret;exact⟨v',rfl,BD.G8 (by rw[List.length_append,EK];exact hown),hgrow,hloc⟩
theorem oG(g cap:Nat)(A R:List En)(y x:En)(n b:Nat)(w:World)(ho:DY w g cap (A++y::R))(hn:n=A.length+R.length+1)(hsm:n<=400)(hroom:n+1<=cap)(h1:EW w b x)(hbg:b≠g):
  Calls prog 155 #[.slice (some ⟨g,0,none⟩) n cap,I0 A.length,.slice (some ⟨b,0,none⟩) 1 1] w fun e w'=>
   e=.returned (.slice (some ⟨g,0,none⟩) (n+1) cap)/\DY w' g cap (A++x::y::R)/\w.grownBy w' (some g):=by
 have hcl:=ho.capLe;simp only[maxLen]at hcl;have hrow:=ho.row;have AR1:w.shape? g=some (72,cap*3):=by
  obtain⟨rest,q1,q2,_⟩:=ho;rw[List.length_append,List.length_cons]at q2;simp[World.shape?,q1,FP];exact⟨rfl,q2⟩
 have AR2:w.shape? b=some (72,3):=by unfold EW at h1;simp[World.shape?,h1];exact⟨rfl,rfl⟩
 have hfb:∀j,w.frozen? ⟨b,j,none⟩=false:=fun j=>by unfold EW at h1;simp[World.frozen?,h1]
 have hov:∀lb cb,(callFunc 192 #[.slice (some ⟨b,0,none⟩) 1 1,.slice (some ⟨g,(A.length+1)*3,none⟩) lb cb]).run prog w=.ok (.value (.bool false)) w:=fun lb cb=>by
  rw[run_callFunc_extern func192 (by kernel_rfl) (by kernel_rfl) (by kernel_rfl) (e:=Extern.SlicesOverlaps.overlaps #[75,75] #[4]) (by kernel_rfl),
   Lib.run_overlaps_apart w 75 4 72 underlying75 3 sizeOf72 ⟨b,0,none⟩ ⟨g,(A.length+1)*3,none⟩ 1 1 lb cb hbg 72 72 3 (cap*3) AR2 AR1 (by omega) (hfb 0) (hfb 3)]
  rfl
 obtain⟨W1,hW1⟩:∃W1,W1=w.drew.setCells g ((A.length+1)*3) (AO (y::R)):=⟨_,rfl⟩;have ho1:DY W1 g cap (A++y::y::R):=by
  have h:DY w.drew g cap ((A++[y])++R):=by rw[List.append_assoc];exact ho
  have:=h.zM (y::R) (by simp;omega);rw[hW1];simpa using this
 have hg1:w.grownBy W1 (some g):=by rw[hW1];have:=BI (g:=g) (AO (y::R)) ((A.length+1)*3) w.drew;exact⟨this.os,this.tape,this.output,this.size,this.block⟩
 have hcp1:∀ty dc sc,(Builtin.copy_ #[75,75] ty #[.slice (some ⟨g,(A.length+1)*3,none⟩) (n-A.length) dc,.slice (some ⟨g,A.length*3,none⟩) (n+1-A.length) sc]).run prog w.drew=.ok (goInt (Nat.min (n+1-A.length) (n-A.length))) W1:=fun ty dc sc=>by
  rw[hW1];exact A84 w.drew ty g _ _ dc ⟨g,A.length*3,none⟩ _ sc (AO (y::R)) (by rw[FP];simp only[Nat.min_def,List.length_cons];split<;>omega)
   (fun j v hj=>by
    rw[Addr.add_lit];have:=hrow (A.length*3+j) v (by rw[BH,List.getElem?_append_right (by rw[FP];omega),FP,Nat.add_sub_cancel_left];exact hj);rw[Nat.zero_add]at this;exact this)
   (fun j hj=>by rw[FP]at hj;exact ho.BM3 (by simp at hj;omega)) (fun j _=>ho.frozen _) (EZ _)
 have hcp2:∀ty dc,(Builtin.copy_ #[75,75] ty #[.slice (some ⟨g,A.length*3,none⟩) (n+1-A.length) dc,.slice (some ⟨b,0,none⟩) 1 1]).run prog W1=.ok (goInt (Nat.min 1 (n+1-A.length))) (W1.setCells g (A.length*3) (JZ x)):=fun ty dc=>
  A84 W1 ty g _ _ dc ⟨b,0,none⟩ 1 1 (JZ x) (by simp only[Nat.min_def,JZ,List.length_cons,List.length_nil];split<;>omega)
   (fun j v hj=>by
    rw[Addr.add_lit];have hb2:W1.heap[b]?=w.heap[b]? :=hg1.block b (by unfold EW at h1;exact(Array.getElem?_eq_some_iff.1 h1).1) (fun e=>hbg (Option.some.inj e));have h2:EW W1 b x:=hb2.trans h1;exact h2.row j v hj)
   (fun j hj=>ho1.BM3 (by simp[JZ]at hj;omega)) (fun j _=>ho1.frozen _) ((Lay.one x))
 have FIN:Hid (DY (W1.setCells g (A.length*3) (JZ x)) g cap (A++x::y::R)/\w.grownBy (W1.setCells g (A.length*3) (JZ x)) (some g)):=
  ⟨ho1.CQ7 x,BZ hg1 (BI _ _ _)⟩
 have hin:A.length<n:=by omega
 have BV7:(A.length:Int)<(n:Int):=by omega
 have hw1:IntKind.i64.wrap ((A.length:Int)+1)=(A.length:Int)+1:=by rw[IntKind.wrap_i64];omega
 have hb1:(0:Int)<=(A.length:Int)+1:=by omega
 have hb2:¬ (cap=A.length+1):=by omega
 have hb3:(A.length:Int)<=(n:Int)+1:=by omega
 have hb4:¬ (cap=A.length):=by omega
 have hb5:(A.length:Int)+1<=(n:Int)+1:=by omega
 have hb6:¬ ((cap:Int)<(n:Int)+1):=by omega
 have hz2:¬ ((A.length:Int)=(n:Int)):=by omega
 have htn:((A.length:Int)+1).toNat=A.length+1:=by omega
 clear hW1 ho1 hg1 hrow AR1 AR2 hfb ho h1 hn;go_enter func155,ntmps155;go_wp2_with (simp only[hov])
 go_region_law (refine IZ rfl (.tmp 73) (.tmp 76) 75 75 rfl (.slice (some ⟨g,(A.length+1)*3,none⟩) (n-A.length) (cap-(A.length+1))) (.slice (some ⟨g,A.length*3,none⟩) (n+1-A.length) (cap-A.length)) (by simp[Act.eval,Act.put]) (by simp[Act.eval,Act.put]) (hcp1 _ _ _) ?_)
 go_wp2_with (at_builtin;refine GI _ rfl _ _ 75 75 rfl _ _ rfl rfl (hcp2 _ _) ?_);go_ret;exact⟨rfl,FIN.out⟩
theorem CI5(k:Nat):(Builtin.zeroCells (Value.agg #[.string ⟨#[]⟩,.string ⟨#[]⟩,.bool false]).cells k).size=k*3:=by
 simp[Builtin.zeroCells,Value.cells]
theorem uK(g cap:Nat)(A R:List En)(y x:En)(n b:Nat)(w:World)(ho:DY w g cap (A++y::R))(hn:n=A.length+R.length+1)(hsm:n<=400)(hroom:cap<n+1)(h1:EW w b x):
  Calls prog 155 #[.slice (some ⟨g,0,none⟩) n cap,I0 A.length,.slice (some ⟨b,0,none⟩) 1 1] w fun e w'=>
   ∃cap',e=.returned (.slice (some ⟨w.heap.size,0,none⟩) (n+1) cap')/\DY w' w.heap.size cap' (A++x::y::R)/\B0 w w':=by
 have hcap:cap=n:=by have:=ho.le;simp at this;omega
 obtain⟨i0,hi0,hz0,hz1,hz2⟩:=BI5;have hrow:=ho.row;have hgw:=ho.lt;have hbw:b<w.heap.size:=by unfold EW at h1;exact(Array.getElem?_eq_some_iff.1 h1).1
 have hold:(Builtin.firstCells i0.size A.length (.slice (some ⟨g,0,none⟩) A.length cap)).run prog w.drew=.ok (AO A).toArray w.drew:=by
  rw[hz1];exact run_firstCells_some w.drew 3 A.length ⟨g,0,none⟩ A.length cap (AO A) (FP A) (fun j v hj=>by
   rw[Addr.add_lit];exact hrow j v (by rw[BH,List.getElem?_append_left (List.getElem?_eq_some_iff.1 hj).1];exact hj))
 obtain⟨G,hG⟩:∃G,G=grownCap w (n+1) cap 72:=⟨_,rfl⟩;have hGn:n+1<=G:=by rw[hG];exact grownCap_ge w _ _ _
 have hGm:G<=maxLen:=by rw[hG];exact grownCap_le_maxLen w (n+1) cap _ (by unfold maxLen;omega)
 have hG63:G<=9223372036854775807:=by have:=hGm;unfold maxLen at this;omega
 obtain⟨ROW,hROW⟩:∃ROW:Array Value,ROW=(AO A).toArray++Builtin.zeroCells (Value.agg #[.string ⟨#[]⟩,.string ⟨#[]⟩,.bool false]).cells (n+1-A.length)++Builtin.zeroCells (Value.agg #[.string ⟨#[]⟩,.string ⟨#[]⟩,.bool false]).cells (G-(n+1)):=⟨_,rfl⟩;obtain⟨W1,hW1⟩:∃W1,W1=w.drew.alloc (.cells ROW 72):=⟨_,rfl⟩;have hik:A.length+(n+1-A.length)=n+1:=by omega
 have hrz:∀ty,(Builtin.append_ #[75,3] ty #[.slice (some ⟨g,0,none⟩) A.length cap,I0 ((n:Int)+1-(A.length:Int))]).run prog w=
   .ok (.slice (some ⟨w.heap.size,0,none⟩) (n+1) G) W1:=fun ty=>by
  have h:=Lib.run_append_grow_zeros w 75 3 ty 72 i0 _ .i64 .i64 underlying75 underlying3 hi0 hz0 (some ⟨g,0,none⟩) A.length cap (AO A) hold (n+1-A.length) (by omega) (by omega) (by omega) (by omega) (by rw[hz2];omega) (by rw[hz2,hik];exact growslice_fits hroom (by omega));rw[hik,<-hG,<-hROW,<-hW1]at h;rw[show (n:Int)+1-(A.length:Int)=((n+1-A.length:Nat):Int) by omega];exact h
 have ho1:DY W1 w.heap.size G A:=by
  refine⟨(Builtin.zeroCells (Value.agg #[.string ⟨#[]⟩,.string ⟨#[]⟩,.bool false]).cells (n+1-A.length)++Builtin.zeroCells (Value.agg #[.string ⟨#[]⟩,.string ⟨#[]⟩,.bool false]).cells (G-(n+1))).toList,?_,?_,by omega,hGm⟩
  .rw[hW1,hROW];have:=heap_alloc_new w.drew (.cells ((AO A).toArray++Builtin.zeroCells (Value.agg #[.string ⟨#[]⟩,.string ⟨#[]⟩,.bool false]).cells (n+1-A.length)++Builtin.zeroCells (Value.agg #[.string ⟨#[]⟩,.string ⟨#[]⟩,.bool false]).cells (G-(n+1))) 72);refine Eq.trans this ?_
   congr 2
   apply Array.toList_inj.1
   simp
  .simp only[show Lay.k En=3 from rfl,Array.length_toList,Array.size_append,CI5];omega
 have hB1:B0 w W1:=by rw[hW1];exact((Below.refl _ w).drew).alloc (Nat.le_refl _) _
 obtain⟨W2,hW2⟩:∃W2,W2=W1.setCells w.heap.size (A.length*3) (JZ x):=⟨_,rfl⟩;have ho2:DY W2 w.heap.size G (A++[x]):=by
  have h:DY W1 w.heap.size G (A++[]):=by rw[List.append_nil];exact ho1
  have:=h.zM [x] (by simp;omega);rw[hW2];rw[F7,OG,List.append_nil]at this;exact this
 have hg2:W1.grownBy W2 (some w.heap.size):=by rw[hW2];exact BI _ _ _
 have hB2:B0 w W2:=hB1.grown hg2 hB1.size (fun k e=>by cases e;exact Nat.le_refl _);have hcpA:∀ty dc,(Builtin.copy_ #[75,75] ty #[.slice (some ⟨w.heap.size,A.length*3,none⟩) (n+1-A.length) dc,.slice (some ⟨b,0,none⟩) 1 1]).run prog W1=.ok (goInt (Nat.min 1 (n+1-A.length))) W2:=fun ty dc=>by
  rw[hW2];exact A84 W1 ty w.heap.size _ _ dc ⟨b,0,none⟩ 1 1 (JZ x) (by simp only[Nat.min_def,JZ,List.length_cons,List.length_nil];split<;>omega)
   (fun j v hj=>by rw[Addr.add_lit];exact(show EW W1 b x from(hB1.block b hbw).trans h1).row j v hj)
   (fun j hj=>ho1.BM3 (by simp[JZ]at hj;omega)) (fun j _=>ho1.frozen _) ((Lay.one x))
 obtain⟨W3,hW3⟩:∃W3,W3=W2.drew.setCells w.heap.size ((A.length+1)*3) (AO (y::R)):=⟨_,rfl⟩;have hcpB:∀ty dc sc,(Builtin.copy_ #[75,75] ty #[.slice (some ⟨w.heap.size,(A.length+1)*3,none⟩) (n-A.length) dc,.slice (some ⟨g,A.length*3,none⟩) (n-A.length) sc]).run prog W2.drew=.ok (goInt (Nat.min (n-A.length) (n-A.length))) W3:=fun ty dc sc=>by
  rw[hW3];exact A84 W2.drew ty w.heap.size _ _ dc ⟨g,A.length*3,none⟩ _ sc (AO (y::R)) (by rw[FP];simp only[Nat.min_self,List.length_cons];omega)
   (fun j v hj=>by
    rw[Addr.add_lit];have:=hrow (A.length*3+j) v (by rw[BH,List.getElem?_append_right (by rw[FP];omega),FP,Nat.add_sub_cancel_left];exact hj);rw[Nat.zero_add]at this;exact(hB2.cell (p:=⟨g,A.length*3+j,none⟩) hgw).trans this)
   (fun j hj=>by rw[FP]at hj;exact ho2.drew.BM3 (by simp at hj;omega)) (fun j _=>ho2.drew.frozen _) (EZ _)
 have FIN:Hid (DY W3 w.heap.size G (A++x::y::R)/\B0 w W3):=by
  refine⟨?_,?_⟩
  .have h:DY W2.drew w.heap.size G ((A++[x])++[]):=by rw[List.append_nil];exact ho2
   have:=h.zM (y::R) (by simp;omega);rw[hW3];simpa using this
  .rw[hW3];exact hB2.drew.grown (BI _ _ _) hB2.size (fun k e=>by cases e;exact Nat.le_refl _)
 have hin:A.length<n:=by omega
 have BV7:(A.length:Int)<(n:Int):=by omega
 have hw1:IntKind.i64.wrap ((A.length:Int)+1)=(A.length:Int)+1:=by rw[IntKind.wrap_i64];omega
 have hb1:(0:Int)<=(A.length:Int)+1:=by omega
 have hb2:¬ (G=A.length+1):=by omega
 have hb3:(A.length:Int)<=(n:Int)+1:=by omega
 have hb4:¬ (n=A.length):=by omega
 have hb5:(A.length:Int)+1<=(n:Int)+1:=by omega
 have hb6:¬ (G=A.length):=by omega
 have hb7:(A.length:Int)<=(n:Int):=by omega
 have hz3:¬ ((A.length:Int)=(n:Int)):=by omega
 have htn:((A.length:Int)+1).toNat=A.length+1:=by omega
 subst hcap;clear hn hROW hW1 hW2 hW3 hG hrow ho h1 ho1 ho2 hB1 hB2 hg2 hold hik;go_enter func155,ntmps155;go_wp2_with (first
  |(at_builtin;refine Lib.wpList_append_run _ rfl _ _ _ _ rfl _ _ rfl rfl _ _ (hrz _) ?_)
  |(at_builtin;refine GI _ rfl _ _ 75 75 rfl _ _ rfl rfl (hcpA _ _) ?_))
 go_region_law (refine IZ rfl (.tmp 50) (.tmp 53) 75 75 rfl (.slice (some ⟨w.heap.size,(A.length+1)*3,none⟩) (cap-A.length) (G-(A.length+1))) (.slice (some ⟨g,A.length*3,none⟩) (cap-A.length) (cap-A.length)) (by simp[Act.eval,Act.put]) (by simp[Act.eval,Act.put]) (hcpB _ _ _) ?_)
 go_wp2
 go_ret;exact⟨G,rfl,FIN.out⟩
theorem zO(v:Value)(A R:List En)(x:En)(q:Nat)(w:World)(ho:BD w 0 v (A++R))(hl:(A++R).length<=400)(h1:EW w q x)(hq:v.ownBlock≠some q):
  Calls prog 155 #[v,I0 A.length,.slice (some ⟨q,0,none⟩) 1 1] w fun e w'=>
   ∃v',e=.returned v'/\BD w' 0 v' (A++x::R)/\w.grownBy w' v.ownBlock/\(v'.ownBlock=v.ownBlock\/∃k,w.heap.size<=k/\v'.ownBlock=some k):=by
 cases R with
 |nil=>
  rw[List.append_nil]at ho hl;refine(zN v A x 0 q w ho (Nat.zero_le _) hl h1).mono ?_;rintro e w' ⟨v',rfl,h2,h3,h4⟩;refine⟨v',rfl,h2,h3,?_⟩;rcases h4 with h|h
  .exact .inl h
  .exact .inr ⟨_,Nat.le_refl _,h⟩
 |cons y R=>
  rcases ho with⟨_,h⟩|⟨g,cap,rfl,_,ho⟩
  .simp at h
  .have hn:(A++y::R).length=A.length+R.length+1:=by simp;omega
   by_cases hc:(A++y::R).length+1<=cap
   .refine(oG g cap A R y x _ q w ho hn hl hc h1 (fun e=>hq (by rw[e];rfl))).mono ?_;rintro e w' ⟨rfl,h2,h3⟩;exact⟨_,rfl,.inr ⟨g,cap,by simp;omega,Nat.zero_le _,h2⟩,h3,.inl rfl⟩
   .refine(uK g cap A R y x _ q w ho hn hl (by omega) h1).mono ?_;rintro e w' ⟨cap',rfl,h2,h3⟩;exact⟨_,rfl,.inr ⟨w.heap.size,cap',by simp;omega,Nat.zero_le _,h2⟩,⟨h3.os,h3.tape,h3.output,h3.size,fun k hk _=>h3.block k hk⟩,.inr ⟨_,Nat.le_refl _,rfl⟩⟩
structure iD(w W:World)(k q g cap:Nat)(s z:Int)(x:En)(A:List En)(y:En)(B:List En):Prop where
 hk:w.heap.size=k
 old:B0 w W
 res:JD W (k+2) 0 0 (N0)
 one:EW W (k+1) x
 box:JD W q s z (.slice (some ⟨g,0,none⟩) (A++y::B).length cap)
 hq:k+3<=q
 hg:k+3<=g
 own:DY W g cap (A++y::B)
 ne:g≠q
theorem iD.next{w V:World}{k q:Nat}{s z:Int}{x:En}(h:iD w W k q g cap s z x A y B)(hb:B0 W V):iD w V k q g cap s z x A y B:=
 ⟨h.hk,AL h.old hb,h.res.next hb,h.one.QK hb h.one.ltz,h.box.next hb,h.hq,h.hg,h.own.next hb,h.ne⟩
theorem iD.fin{w:World}{k q:Nat}{s z:Int}{x:En}(h:iD w W k q g cap s z x A y B):
  JD (((W.setCell ⟨g,A.length*3,none⟩ (S0 x.p)).setCell ⟨g,A.length*3+1,none⟩ (S0 x.d)).setCell ⟨g,A.length*3+2,none⟩ (.bool x.t)) q s z (.slice (some ⟨g,0,none⟩) (A++y::B).length cap)/\
  JD (((W.setCell ⟨g,A.length*3,none⟩ (S0 x.p)).setCell ⟨g,A.length*3+1,none⟩ (S0 x.d)).setCell ⟨g,A.length*3+2,none⟩ (.bool x.t)) (k+2) 0 0 (N0)/\
  DY (((W.setCell ⟨g,A.length*3,none⟩ (S0 x.p)).setCell ⟨g,A.length*3+1,none⟩ (S0 x.d)).setCell ⟨g,A.length*3+2,none⟩ (.bool x.t)) g cap (A++x::B)/\
  B0 w (((W.setCell ⟨g,A.length*3,none⟩ (S0 x.p)).setCell ⟨g,A.length*3+1,none⟩ (S0 x.d)).setCell ⟨g,A.length*3+2,none⟩ (.bool x.t)):=by
 have h1:=h.ne;have h2:=h.hg;have h3:=h.hk;refine⟨((h.box.other (by simp only;omega) _).other (by simp only;omega) _).other (by simp only;omega) _,((h.res.other (by simp only;omega) _).other (by simp only;omega) _).other (by simp only;omega) _,h.own.qJ x,?_⟩;exact((h.old.setCell (by simp only;omega) _).setCell (by simp only;omega) _).setCell (by simp only;omega) _
theorem A85(w:World)(s z:Int)(v:Value)(x:En):∃W,W=((w.alloc (.cells #[I0 s,I0 z,v] 77)).alloc (.cells #[S0 x.p,S0 x.d,.bool x.t] 72)).alloc (.cells #[I0 0,I0 0,N0] 77)/\
  B0 w W/\JD W w.heap.size s z v/\EW W (w.heap.size+1) x/\JD W (w.heap.size+2) 0 0 (N0)/\W.heap.size=w.heap.size+3:=by
 refine⟨_,rfl,AL (AL (AB _ _) (AB _ _)) (AB _ _),((JD.new w s z v).next (AB _ _)).next (AB _ _),?_,?_,by simp⟩
 .have:=(YC (w.alloc (.cells #[I0 s,I0 z,v] 77)) x).QK (AB _ (.cells #[I0 0,I0 0,N0] 77)) (by simp);simpa using this
 .have:=JD.new ((w.alloc (Obj.cells #[I0 s,I0 z,v] 77)).alloc (Obj.cells #[Value.string (ByteArray.mk x.p.toArray),.string (ByteArray.mk x.d.toArray),.bool x.t] 72)) 0 0 (N0);simpa using this
theorem B39(s z:Int)(v:Value)(es:List En)(x:En)(w:World)(hv:BQ w v es)(hs:kK es)(hl:es.length<=400)(ha:AK7 es)(hx:x.p.length<=140737488355328/\x.d.length<=140737488355328):
  Calls prog 113 #[clV s z v,enV x] w fun e w'=>∃v',e=.returned (clV s z v')/\BD w' w.heap.size v' (SE es x)/\B0 w w':=by
 have CC:=fun W (hW:B0 w W)=>WL s z v es W (hv.next hW) hs (by omega);have CO:=fun W=>nM (DJ x) W (kL hx).1 (kL hx).2;have HW:=AA (sO x.p es ha);obtain⟨a,c,rfl⟩:=AU hv;unfold clV at CC⊢;unfold enV;clear hv hs ha hx;obtain⟨k,hk⟩:∃k,k=w.heap.size:=⟨_,rfl⟩;go_enter func113,ntmps113
 cases ht:x.t
 case' true=>
  obtain⟨W,hW,B0,K0,K1,K2,hz⟩:=A85 w s z (.slice a es.length c) x;have K1:EW W (w.heap.size+1) (DJ x):=by rw[AY5 ht];exact K1
  rw[ht]at hW;have q0:=K1.e2
 case' false=>
  obtain⟨W,hW,B0,K0,K1,K2,hz⟩:=A85 w s z (.slice a es.length c) ⟨x.p,[],false⟩;have K1:EW W (w.heap.size+1) (DJ x):=by rw[BH9 ht,ht];exact K1
 all_goals
  go_wp2_with fail;rw[<-hW];refine(CC _ B0).mono ?_;rintro e w1 ⟨v1,rfl,ho1,hb1⟩;have B1:=AL B0 hb1;have K1':=(K1.QK hb1 K1.ltz).QK (AB w1 (.cells #[I0 s,I0 z,v1] 77)) (Nat.lt_of_lt_of_le K1.ltz hb1.size);have K2':=(K2.next hb1).next (AB w1 (.cells #[I0 s,I0 z,v1] 77));have ho2:=ho1.next (AB w1 (.cells #[I0 s,I0 z,v1] 77));have K3:=JD.new w1 s z v1;have B2:=AL B1 (AB w1 (.cells #[I0 s,I0 z,v1] 77));have hz1:=hb1.size;have hlow:=ho1.low;have HNP:=AA (yP x);have hq0:=K3.c2;have hq1:=K1'.e0;rw[A8 HNP]at hq1;obtain⟨q,hq⟩:∃q,q=w1.heap.size:=⟨_,rfl⟩;have hzq:(w1.alloc (.cells #[I0 s,I0 z,v1] 77)).heap.size=w1.heap.size+1:=by simp
  have hab:=ho1.above;obtain⟨a1,c1,rfl,_⟩:=ho1.slice;have HC:=AA K3;have HK1:=AA K1';have HK2:=AA K2';have HB2:=AA B2;have HO:=AA ho2;clear K1 K2 K1' K2' K3 ho1 ho2 hb1 B1 B2 B0 CC K0;rcases A8 HW with⟨A,f,B,T⟩|⟨A,B,G⟩
  .have CF:=gQ (.slice a1 es.length c1) es A B f x.p _ (A8 HO).seq (by omega) T;go_wp2_with fail;generalize w1.alloc (.cells #[I0 s,I0 z,.slice a1 es.length c1] 77)=W1 at*;refine CF.mono ?_;rintro e w2 ⟨rfl,hb2⟩;have O3:=(A8 HO).next hb2;rw[T.eq]at O3;rcases O3 with⟨_,h0⟩|⟨g,cap,hga,hgB,O3⟩
   .simp at h0
   have HT:Hid (SE es x=A++DJ x::B):=AA T.keep;have ST:iD w w2 k q g cap s z (DJ x) A f B:=⟨hk.symm,AL (A8 HB2) hb2,by have:=(A8 HK2).next hb2;rw[hk];exact this,by rw[hk];exact(A8 HK1).QK hb2 (A8 HK1).ltz,
    by have:=(A8 HC).next hb2;rw[<-hga,hq,<-T.eq];exact this,by omega,by omega,O3,fun e=>by have:=hlow g (by rw[<-T.eq]at hga;rw[hga];rfl);omega⟩
   clear CF O3 hgB hb2;have hAl:A.length<es.length:=by rw[T.eq];simp
   have hAi:(A.length:Int)<(es.length:Int):=by omega
   rw[<-T.eq]at hga;have HEl:=AA (congrArg List.length T.eq);clear T hq0 hq1;simp only[Value.slice.injEq]at hga;obtain⟨rfl,_,rfl⟩:=hga;have HS:=AA ST;have HX:=AA hz;have HY:=AA hk;clear hz hk;have p0:=ST.box.c2;rw[<-A8 HEl]at p0;have p1:=ST.one.e0;have p2:=ST.one.e1;have p3:=ST.one.e2;rw[A8 HY]at p1 p2 p3;rw[hq]at p0;have KB:∀W2,B0 w2 W2->W2.cell? ⟨w1.heap.size,2,none⟩=some (.slice (some ⟨g,0,none⟩) es.length c1)/\(∃u,W2.cell? ⟨g,A.length*3,none⟩=some u)/\(∃u,W2.cell? ⟨g,A.length*3+1,none⟩=some u)/\(∃u,W2.cell? ⟨g,A.length*3+2,none⟩=some u)/\(∀j,W2.frozen? ⟨g,j,none⟩=false)/\
     W2.cell? ⟨w.heap.size+1,0,none⟩=some (S0 (DJ x).p)/\W2.cell? ⟨w.heap.size+1,1,none⟩=some (S0 (DJ x).d)/\W2.cell? ⟨w.heap.size+1,2,none⟩=some (.bool (DJ x).t):=fun W2 hb=>by
    have S2:=(A8 HS).next hb;have b0:=S2.box.c2;rw[<-A8 HEl,hq]at b0;have r:=S2.own.row;have b1:=S2.one.e0;have b2:=S2.one.e1;have b3:=S2.one.e2;rw[A8 HY]at b1 b2 b3;have r0:W2.cell? ⟨g,A.length*3,none⟩=some (S0 f.p):=by have:=r.en0 (i:=A.length) (x:=f) (by simp);simpa using this
    have r1:W2.cell? ⟨g,A.length*3+1,none⟩=some (S0 f.d):=by have:=r.en1 (i:=A.length) (x:=f) (by simp);simpa using this
    have r2:W2.cell? ⟨g,A.length*3+2,none⟩=some (.bool f.t):=by have:=r.en2 (i:=A.length) (x:=f) (by simp);simpa using this
    exact⟨b0,⟨_,r0⟩,⟨_,r1⟩,⟨_,r2⟩,S2.own.frozen,b1,b2,b3⟩
   have HKB:=AA KB;clear ST KB;go_wp2_with fail;have KS:∀W2,B0 w2 W2->W2.cell? ⟨w1.heap.size,2,none⟩=some (.slice (some ⟨g,0,none⟩) es.length c1)/\W2.cell? ⟨w.heap.size+1,0,none⟩=some (S0 (DJ x).p)/\W2.cell? ⟨w.heap.size+1,1,none⟩=some (S0 (DJ x).d)/\W2.cell? ⟨w.heap.size+1,2,none⟩=some (.bool (DJ x).t):=fun W2 hb=>by
    obtain⟨b0,_,_,_,_,b4,b5,b6⟩:=A8 HKB W2 hb;exact⟨b0,b4,b5,b6⟩
   have HKS:=AA KS;have HKT:Hid (∀W2,B0 w2 W2->(((W2.setCell ⟨g,A.length*3,none⟩ (S0 (DJ x).p)).setCell ⟨g,A.length*3+1,none⟩ (S0 (DJ x).d)).setCell ⟨g,A.length*3+2,none⟩ (.bool (DJ x).t)).cell? ⟨w1.heap.size,2,none⟩=some (.slice (some ⟨g,0,none⟩) es.length c1)/\(((W2.setCell ⟨g,A.length*3,none⟩ (S0 (DJ x).p)).setCell ⟨g,A.length*3+1,none⟩ (S0 (DJ x).d)).setCell ⟨g,A.length*3+2,none⟩ (.bool (DJ x).t)).cell? ⟨w.heap.size+1,0,none⟩=some (S0 (DJ x).p)/\(((W2.setCell ⟨g,A.length*3,none⟩ (S0 (DJ x).p)).setCell ⟨g,A.length*3+1,none⟩ (S0 (DJ x).d)).setCell ⟨g,A.length*3+2,none⟩ (.bool (DJ x).t)).cell? ⟨w.heap.size+1,1,none⟩=some (S0 (DJ x).d)/\(((W2.setCell ⟨g,A.length*3,none⟩ (S0 (DJ x).p)).setCell ⟨g,A.length*3+1,none⟩ (S0 (DJ x).d)).setCell ⟨g,A.length*3+2,none⟩ (.bool (DJ x).t)).cell? ⟨w.heap.size+1,2,none⟩=some (.bool (DJ x).t)):=AA fun W2 hb=>by
    have S2:=(A8 HS).next hb;have hne:=S2.ne;have hgk:=S2.hg;have b0:=((S2.box.other (a:=⟨g,A.length*3,none⟩) (by simp only;omega) (S0 (DJ x).p)).other (a:=⟨g,A.length*3+1,none⟩) (by simp only;omega) (S0 (DJ x).d)).other (a:=⟨g,A.length*3+2,none⟩) (by simp only;omega) (.bool (DJ x).t)|>.c2;have o1:=((S2.one.KJ (a:=⟨g,A.length*3,none⟩) (by simp only;omega) (S0 (DJ x).p)).KJ (a:=⟨g,A.length*3+1,none⟩) (by simp only;omega) (S0 (DJ x).d)).KJ (a:=⟨g,A.length*3+2,none⟩) (by simp only;omega) (.bool (DJ x).t);have b1:=o1.e0;have b2:=o1.e1;have b3:=o1.e2;rw[<-A8 HEl,hq]at b0;rw[A8 HY]at b1 b2 b3;exact⟨b0,b1,b2,b3⟩
   clear KS
   go_region_held3 (fun w'=>w'.cell? ⟨w1.heap.size,2,none⟩=some (.slice (some ⟨g,0,none⟩) es.length c1)/\w'.cell? ⟨w.heap.size+1,0,none⟩=some (S0 (DJ x).p)/\w'.cell? ⟨w.heap.size+1,1,none⟩=some (S0 (DJ x).d)/\w'.cell? ⟨w.heap.size+1,2,none⟩=some (.bool (DJ x).t)) (first|with_reducible exact A8 HKS _ (Below.refl _ _)|with_reducible exact A8 HKS _ (Below.refl _ _).drew|with_reducible exact A8 HKS _ (A8 HB5)|with_reducible exact A8 HKT _ (A8 HB5)) (first
    |(go_at_call 45;with_reducible refine(CO _).mono ?_;rintro e w4 ⟨rfl,hb4⟩;have HB5:Hid (B0 w2 w4):=AA (BK hb4);obtain⟨b0,⟨u1,b1⟩,⟨u2,b2⟩,⟨u3,b3⟩,bf,b4,b5,b6⟩:=A8 HKB w4 (A8 HB5);have bf0:=bf (A.length*3);have bf1:=bf (A.length*3+1);have bf2:=bf (A.length*3+2);clear bf hb4))
   all_goals
    obtain⟨V1,V2,V3,V4⟩:=((A8 HS).next (A8 HB5)).fin;rw[<-A8 HEl,hq]at V1;rw[A8 HY]at V2;have HV3:=AA V3;have HV4:=AA V4;have v0:=V1.c0;have v1:=V1.c1;have v2:=V1.c2;have v3:=V2.c0;have v4:=V2.c1;have v5:=V2.c2;have v6:=V2.fr 0;have v7:=V2.fr 1;have v8:=V2.fr 2;have hgk:=(A8 HS).hg;rw[A8 HY]at hgk;clear V1 V2 V3 V4;generalize ((w4.setCell ⟨g,A.length*3,none⟩ (S0 (DJ x).p)).setCell ⟨g,A.length*3+1,none⟩ (S0 (DJ x).d)).setCell ⟨g,A.length*3+2,none⟩ (.bool (DJ x).t)=w5 at*;go_wp2_with fail;refine bodyPost_ret (v:=.agg #[I0 s,I0 z,.slice (some ⟨g,0,none⟩) es.length c1]) (by simp[results,results113,go_sem,v3,v4,v5]) rfl ⟨_,rfl,.inr ⟨g,c1,?_,by omega,?_⟩,?_⟩
    .rw[A8 HT,A8 HEl];simp
    .rw[A8 HT];exact(((A8 HV3).other (by simp only;omega) _).other (by simp only;omega) _).other (by simp only;omega) _
    .exact(((A8 HV4).setCell (by simp only;omega) _).setCell (by simp only;omega) _).setCell (by simp only;omega) _
  .have CF:=sW (.slice a1 es.length c1) es A B x.p _ (A8 HO).seq (by omega) G;go_wp2_with fail;generalize w1.alloc (.cells #[I0 s,I0 z,.slice a1 es.length c1] 77)=W1 at*;refine CF.mono ?_;rintro e w2 ⟨rfl,hb2⟩;have O3:=(A8 HO).next hb2;rw[G.eq]at O3;have C3:=(A8 HC).next hb2;have c3:=C3.c2;have f3:=C3.fr 2;have HT:Hid (SE es x=A++DJ x::B):=AA G.keep;have HE2:=AA (congrArg List.length G.eq);have N3:=YC w2 noneE;have O4:=O3.next (AB w2 (.cells #[S0 (noneE.p),S0 (noneE.d),.bool noneE.t] 72));have CI:=zO _ A B noneE w2.heap.size _ (O4.lower (Nat.zero_le _)) (by rw[<-A8 HE2];omega) N3 (fun e=>by have:=O3.low _ e;omega);rw[<-A8 HE2]at CI;have HS0:=AA ((A8 HK2).next hb2);have HS1:=AA ((A8 HK1).QK hb2 (A8 HK1).ltz);have HS2:=AA (AL (A8 HB2) hb2);have hz2:=hb2.size;clear CF O3 O4 hb2 hq0 hq1 G;have HC3:=AA C3;clear C3;simp only[noneE]at CI;go_wp2_with fail;refine CI.mono ?_;rintro e w3 ⟨v3,rfl,ho3,hg3,hl3⟩;have hg4:w2.grownBy w3 (Value.slice a1 es.length c1).ownBlock:=⟨hg3.os,hg3.tape,hg3.output,Nat.le_trans (by simp) hg3.size,fun j hj hne=>(hg3.block j (by simp;omega) hne).trans (Below.block (AB w2 _) j hj)⟩;have hne:∀j,j<k+3->some j≠(Value.slice a1 es.length c1).ownBlock:=fun j hj e=>by have:=hab j e.symm;omega
   have hnq:some q≠(Value.slice a1 es.length c1).ownBlock:=fun e=>by have:=hlow q e.symm;omega
   have C4:=(A8 HC3).grown hg4 (by rw[<-hq];exact hnq);have c4:=C4.c2;have f4:=C4.fr 2;have R4:=(A8 HS0).grown hg4 (hne _ (by omega));have E4:EW w3 (w.heap.size+1) (DJ x):=(hg4.block _ (A8 HS1).ltz (hne _ (by omega))).trans (A8 HS1);have B4:=(A8 HS2).grown hg4 (A8 HS2).size (fun j e=>by have:=hab j e;omega);have hgp:∀j,v3.ownBlock=some j->k+3<=j/\j≠q:=fun j e=>by
    rcases hl3 with h|⟨i,hi,h⟩
    .rw[e]at h;exact⟨by have:=hab j h.symm;omega,fun e2=>hnq (by rw[<-e2];exact h)⟩
    .rw[e]at h
     cases h
     simp at hi;exact⟨by omega,by omega⟩
   rcases ho3 with⟨_,h0⟩|⟨g,cap,rfl,_,O4⟩
   .simp at h0
   obtain⟨hg5,hg6⟩:=hgp g rfl;have ST:iD w (w3.setCell ⟨w1.heap.size,2,none⟩ (.slice (some ⟨g,0,none⟩) (A++(⟨[],[],false⟩:En)::B).length cap)) k q g cap s z (DJ x) A ⟨[],[],false⟩ B:=
    ⟨hk.symm,B4.setCell (by simp only;omega) _,by rw[hk];exact R4.other (by simp only;omega) _,by rw[hk];exact E4.KJ (by simp only;omega) _,by rw[hq];exact C4.set2,by omega,by omega,O4.other (by simp only;omega) _,by omega⟩
   clear CI C4 R4 E4 B4 O4 hgp hl3 hg3 hg4 hne hnq N3 c3 f3;obtain⟨n,hn⟩:∃n,(A++(⟨[],[],false⟩:En)::B).length=n:=⟨_,rfl⟩;have hAl:A.length<n:=by rw[<-hn];simp
   have hAi:(A.length:Int)<(n:Int):=by omega
   have hn2:n<=500:=by have:=A8 HE2;rw[List.length_append]at this;rw[<-hn,List.length_append,List.length_cons];omega
   have HEl:=AA hn.symm;rw[hn]at ST⊢;clear hn;go_upto_region 7 with fail;generalize w3.setCell ⟨w1.heap.size,2,none⟩ (.slice (some ⟨g,0,none⟩) n cap)=w2 at*;have HS:=AA ST;have HX:=AA hz;have HY:=AA hk;clear hz hk;have p0:=ST.box.c2;rw[<-A8 HEl]at p0;have p1:=ST.one.e0;have p2:=ST.one.e1;have p3:=ST.one.e2;rw[A8 HY]at p1 p2 p3;rw[hq]at p0;have KB:∀W2,B0 w2 W2->W2.cell? ⟨w1.heap.size,2,none⟩=some (.slice (some ⟨g,0,none⟩) n cap)/\(∃u,W2.cell? ⟨g,A.length*3,none⟩=some u)/\(∃u,W2.cell? ⟨g,A.length*3+1,none⟩=some u)/\(∃u,W2.cell? ⟨g,A.length*3+2,none⟩=some u)/\(∀j,W2.frozen? ⟨g,j,none⟩=false)/\
     W2.cell? ⟨w.heap.size+1,0,none⟩=some (S0 (DJ x).p)/\W2.cell? ⟨w.heap.size+1,1,none⟩=some (S0 (DJ x).d)/\W2.cell? ⟨w.heap.size+1,2,none⟩=some (.bool (DJ x).t):=fun W2 hb=>by
    have S2:=(A8 HS).next hb;have b0:=S2.box.c2;rw[<-A8 HEl,hq]at b0;have r:=S2.own.row;have b1:=S2.one.e0;have b2:=S2.one.e1;have b3:=S2.one.e2;rw[A8 HY]at b1 b2 b3;have r0:W2.cell? ⟨g,A.length*3,none⟩=some (.string ⟨(⟨[],[],false⟩:En).p.toArray⟩):=by have:=r.en0 (i:=A.length) (x:=(⟨[],[],false⟩:En)) (by simp);simpa using this
    have r1:W2.cell? ⟨g,A.length*3+1,none⟩=some (.string ⟨(⟨[],[],false⟩:En).d.toArray⟩):=by have:=r.en1 (i:=A.length) (x:=(⟨[],[],false⟩:En)) (by simp);simpa using this
    have r2:W2.cell? ⟨g,A.length*3+2,none⟩=some (.bool (⟨[],[],false⟩:En).t):=by have:=r.en2 (i:=A.length) (x:=(⟨[],[],false⟩:En)) (by simp);simpa using this
    exact⟨b0,⟨_,r0⟩,⟨_,r1⟩,⟨_,r2⟩,S2.own.frozen,b1,b2,b3⟩
   have HKB:=AA KB;clear ST KB;go_wp2_with fail;have KS:∀W2,B0 w2 W2->W2.cell? ⟨w1.heap.size,2,none⟩=some (.slice (some ⟨g,0,none⟩) n cap)/\W2.cell? ⟨w.heap.size+1,0,none⟩=some (S0 (DJ x).p)/\W2.cell? ⟨w.heap.size+1,1,none⟩=some (S0 (DJ x).d)/\W2.cell? ⟨w.heap.size+1,2,none⟩=some (.bool (DJ x).t):=fun W2 hb=>by
    obtain⟨b0,_,_,_,_,b4,b5,b6⟩:=A8 HKB W2 hb;exact⟨b0,b4,b5,b6⟩
   have HKS:=AA KS;have HKT:Hid (∀W2,B0 w2 W2->(((W2.setCell ⟨g,A.length*3,none⟩ (S0 (DJ x).p)).setCell ⟨g,A.length*3+1,none⟩ (S0 (DJ x).d)).setCell ⟨g,A.length*3+2,none⟩ (.bool (DJ x).t)).cell? ⟨w1.heap.size,2,none⟩=some (.slice (some ⟨g,0,none⟩) n cap)/\(((W2.setCell ⟨g,A.length*3,none⟩ (S0 (DJ x).p)).setCell ⟨g,A.length*3+1,none⟩ (S0 (DJ x).d)).setCell ⟨g,A.length*3+2,none⟩ (.bool (DJ x).t)).cell? ⟨w.heap.size+1,0,none⟩=some (S0 (DJ x).p)/\(((W2.setCell ⟨g,A.length*3,none⟩ (S0 (DJ x).p)).setCell ⟨g,A.length*3+1,none⟩ (S0 (DJ x).d)).setCell ⟨g,A.length*3+2,none⟩ (.bool (DJ x).t)).cell? ⟨w.heap.size+1,1,none⟩=some (S0 (DJ x).d)/\(((W2.setCell ⟨g,A.length*3,none⟩ (S0 (DJ x).p)).setCell ⟨g,A.length*3+1,none⟩ (S0 (DJ x).d)).setCell ⟨g,A.length*3+2,none⟩ (.bool (DJ x).t)).cell? ⟨w.heap.size+1,2,none⟩=some (.bool (DJ x).t)):=AA fun W2 hb=>by
    have S2:=(A8 HS).next hb;have hne:=S2.ne;have hgk:=S2.hg;have b0:=((S2.box.other (a:=⟨g,A.length*3,none⟩) (by simp only;omega) (S0 (DJ x).p)).other (a:=⟨g,A.length*3+1,none⟩) (by simp only;omega) (S0 (DJ x).d)).other (a:=⟨g,A.length*3+2,none⟩) (by simp only;omega) (.bool (DJ x).t)|>.c2;have o1:=((S2.one.KJ (a:=⟨g,A.length*3,none⟩) (by simp only;omega) (S0 (DJ x).p)).KJ (a:=⟨g,A.length*3+1,none⟩) (by simp only;omega) (S0 (DJ x).d)).KJ (a:=⟨g,A.length*3+2,none⟩) (by simp only;omega) (.bool (DJ x).t);have b1:=o1.e0;have b2:=o1.e1;have b3:=o1.e2;rw[<-A8 HEl,hq]at b0;rw[A8 HY]at b1 b2 b3;exact⟨b0,b1,b2,b3⟩
   clear KS
   go_region_held3 (fun w'=>w'.cell? ⟨w1.heap.size,2,none⟩=some (.slice (some ⟨g,0,none⟩) n cap)/\w'.cell? ⟨w.heap.size+1,0,none⟩=some (S0 (DJ x).p)/\w'.cell? ⟨w.heap.size+1,1,none⟩=some (S0 (DJ x).d)/\w'.cell? ⟨w.heap.size+1,2,none⟩=some (.bool (DJ x).t)) (first|with_reducible exact A8 HKS _ (Below.refl _ _)|with_reducible exact A8 HKS _ (Below.refl _ _).drew|with_reducible exact A8 HKS _ (A8 HB5)|with_reducible exact A8 HKT _ (A8 HB5)) (first
    |(go_at_call 45;with_reducible refine(CO _).mono ?_;rintro e w4 ⟨rfl,hb4⟩;have HB5:Hid (B0 w2 w4):=AA (BK hb4);obtain⟨b0,⟨u1,b1⟩,⟨u2,b2⟩,⟨u3,b3⟩,bf,b4,b5,b6⟩:=A8 HKB w4 (A8 HB5);have bf0:=bf (A.length*3);have bf1:=bf (A.length*3+1);have bf2:=bf (A.length*3+2);clear bf hb4))
   all_goals
    obtain⟨V1,V2,V3,V4⟩:=((A8 HS).next (A8 HB5)).fin;rw[<-A8 HEl,hq]at V1;rw[A8 HY]at V2;have HV3:=AA V3;have HV4:=AA V4;have v0:=V1.c0;have v1:=V1.c1;have v2:=V1.c2;have v3:=V2.c0;have v4:=V2.c1;have v5:=V2.c2;have v6:=V2.fr 0;have v7:=V2.fr 1;have v8:=V2.fr 2;have hgk:=(A8 HS).hg;rw[A8 HY]at hgk;clear V1 V2 V3 V4;generalize ((w4.setCell ⟨g,A.length*3,none⟩ (S0 (DJ x).p)).setCell ⟨g,A.length*3+1,none⟩ (S0 (DJ x).d)).setCell ⟨g,A.length*3+2,none⟩ (.bool (DJ x).t)=w5 at*;go_wp2_with fail;refine bodyPost_ret (v:=.agg #[I0 s,I0 z,.slice (some ⟨g,0,none⟩) n cap]) (by simp[results,results113,go_sem,v3,v4,v5]) rfl ⟨_,rfl,.inr ⟨g,cap,?_,by omega,?_⟩,?_⟩
    .rw[A8 HT,A8 HEl];simp
    .rw[A8 HT];exact(((A8 HV3).other (by simp only;omega) _).other (by simp only;omega) _).other (by simp only;omega) _
    .exact(((A8 HV4).setCell (by simp only;omega) _).setCell (by simp only;omega) _).setCell (by simp only;omega) _
