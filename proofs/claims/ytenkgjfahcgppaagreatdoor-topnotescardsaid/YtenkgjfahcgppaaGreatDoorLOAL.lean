/-
  Part.
-/
import Derived.Test.YtenkgjfahcgppaaGreatDoorLOAF
import Derived.Test.YtenkgjfahcgppaaGreatDoorLOAH
import Derived.Test.YtenkgjfahcgppaaGreatDoorLOAK
import Derived.Deep.WholeRow
set_option maxRecDepth 20000
set_option maxHeartbeats 8000000
namespace Go.Proofs.YtenkgjfahcgppaaGreatDoor
open Go.RowKit Go.Proofs.Tryz
variable{W V:World}{k:Nat}{d:Dd}{v:Value}{p:Pw}{r:Rp}
theorem BM9{U:World}{kd:Int}{x:Rp×Pw}(hk:k<W.heap.size)(D:DB W V d)(ho:BD U V.heap.size v x.1.ns)(ht:Touch (· =k) V U)(hx:PV kd x.1.E=true->WX U k x.2)(hp:PV kd x.1.E=true->∀i,i<3->IK 300 (x.2.s i)):
  Did W k kd x (.returned (rpV x.1 v)) (aS U (W.heap.size+1) (I0 x.1.E) (I0 x.1.z) (S0 x.1.p) (S0 x.1.d) (I0 x.1.t.c) (I0 x.1.t.m) (I0 x.1.t.q) (I0 x.1.t.v) (I0 x.1.t.k) (I0 x.1.t.o) (I0 x.1.t.n) v):=by
 have h:=(D.dt k).touch hk ht;have hlt:=D.r.lt;exact⟨v,rfl,FX (ho.lower (by omega)) (YI _ _ _ _ _ _ _ _ _ _ _ _ _ _) (fun q e=>by have:=MW ho e;omega),FM h.t (by omega) _ _ _ _ _ _ _ _ _ _ _ _,fun hl=>(hx hl).reply (hp hl) h.r (by omega) (YI _ _ _ _ _ _ _ _ _ _ _ _ _ _)⟩
theorem CJ2(d:Dd)(k:Nat)(W:World)(x:Rp×Pw)(hk0:k<W.heap.size)(C1:d.k=1->∀V,B0 W V->Calls prog 76 #[wP k,ddV d] V (Did V k 1 x))(C2:d.k=2->∀V,B0 W V->Calls prog 77 #[wP k,ddV d] V (Did V k 2 x))(C3:d.k=3->∀V,B0 W V->Calls prog 78 #[wP k,ddV d] V (Did V k 3 x))(C4:d.k=4->∀V,B0 W V->Calls prog 79 #[wP k,ddV d] V (Did V k 4 x))(C5:d.k=5->∀V,B0 W V->Calls prog 80 #[wP k] V (Did V k 5 x))(hp:∀i,i<3->IK 300 (x.2.s i))(hd:d.k=1\/d.k=2\/d.k=3\/d.k=4\/d.k=5):Calls prog 52 #[wP k,ddV d] W (Did W k d.k x):=by
 have D0:=AA (DB.start W d);have HP:=AA (fun(_:PV d.k x.1.E=true)=>hp);rcases hd with hd|hd|hd|hd|hd
 all_goals
  first|have HC:=AA (C1 hd)|have HC:=AA (C2 hd)|have HC:=AA (C3 hd)|have HC:=AA (C4 hd)|have HC:=AA (C5 hd)
  rw[hd]at HP⊢;clear C1 C2 C3 C4 C5 hp;obtain⟨dk,dc,ds,⟨o,s,pp,dd,v,f⟩,lo,sl,ke,wt⟩:=d;simp only at hd;subst hd;unfold wP at HC⊢;unfold ddV at*;go_enter func52,ntmps52;go_upto_region 1 with fail;generalize ((W.alloc _).alloc _)=W0 at*;obtain⟨⟨d0,d1,d2,d3,d4,d5,d6⟩,d7,d8,d9,d10,d11,d12⟩:=(A8 D0).cells;simp only at d0 d1 d2 d3 d4 d5 d6 d7 d8 d9 d10 d11 d12;go_wp2_with fail;refine(A8 HC _ (A8 D0).b).mono ?_;rintro e w1 ⟨vn,rfl,ho,ht,hw⟩;obtain⟨na,nc,rfl⟩:=BN ho;have R2:=(((A8 D0).dt k).touch hk0 ht).r;have X1:=AA (BM9 hk0 (A8 D0) ho ht hw (A8 HP));have b0:=R2.cells;have g0:=R2.AX;clear ho ht hw R2 D0 HC HP d0 d1 d2 d3 d4 d5 d6 d7 d8 d9 d10 d11 d12;unfold rpV aS at X1;unfold rpV;go_wp2_with fail;exact bodyPost_ret (v:=.agg #[I0 x.1.E,I0 x.1.z,S0 x.1.p,S0 x.1.d,I0 x.1.t.c,I0 x.1.t.m,I0 x.1.t.q,I0 x.1.t.v,I0 x.1.t.k,I0 x.1.t.o,I0 x.1.t.n,.slice na x.1.ns.length nc]) (by simp[results,results52,go_sem,b0]) rfl (A8 X1)
theorem B46(p:Pw)(d:Dd)(k:Nat)(W:World)(hx:WX W k p)(hc:0<=d.c/\d.c<16)(hs:0<=d.s/\d.s<3)(hok:∀j,j<3->IK 299 (p.s j))(hcl:oV 299 p.H d.c.toNat (p.c d.c.toNat))(hp:d.q.p.length<=140737488355328):Calls prog 77 #[wP k,ddV d] W (Did W k 2 (YB p d)):=by
 cases hu:(p.s d.s.toNat).up with
 |true=>exact C58 p d k W hx hc hs hok hcl hp hu
 |false=>
  rw[YB,if_pos hu];exact B41 p d k W hx hs hu
theorem AJ5(p:Pw)(d:Dd)(k:Nat)(W:World)(hx:WX W k (GY p))(hT:VQ W)(h:ND p)(hn:p.n<300)(ha:NU d=0)(hp:d.q.p.length<=140737488355328)(hd:d.q.d.length<=140737488355328):Calls prog 52 #[wP k,ddV d] W (Did W k d.k (ZJ (GY p) d)):=by
 have hW:ND (ZJ (GY p) d).2:=by
  have:=WR d h;rw[doP,if_neg (by omega),if_neg (by omega)]at this;exact this
 have hP:∀i,i<3->IK 300 ((ZJ (GY p) d).2.s i):=fun i hi=>(hW.s i hi).more hW.n1;have ok:∀j,j<3->IK 299 (p.s j):=fun j hj=>(h.s j hj).more (by omega);have ok3:∀j,j<3->IK 300 (p.s j):=fun j hj=>(h.s j hj).more (by omega);have hk:d.k=1\/d.k=2\/d.k=3\/d.k=4\/d.k=5:=by
  unfold NU at ha;by_cases e:d.k=1\/d.k=2\/d.k=3\/d.k=4\/d.k=5
  .exact e
  .rw[if_neg (by omega),if_neg (by omega),if_neg (by omega),if_neg (by omega)]at ha;cases ha
 exact CJ2 d k W _ hx.lt
  (fun h1 V hV=>by rw[ZJ,if_pos h1];exact AJ4 p d k V (hx.next hV) (hT.next hV) h hn (CP6 h1 ha) hp hd)
  (fun h2 V hV=>by
   obtain⟨hc,hs⟩:=CF7 h2 ha;rw[ZJ,if_neg (by omega),if_pos h2];exact B46 (GY p) d k V (hx.next hV) hc hs ok ((h.c _ (by omega)).more (by omega) (fun _ hx=>hx)) hp)
  (fun h3 V hV=>by rw[ZJ,if_neg (by omega),if_neg (by omega),if_pos h3];exact B45 (GY p) d k V (hx.next hV) (A71 (.inl h3) ha) ok3)
  (fun h4 V hV=>by rw[ZJ,if_neg (by omega),if_neg (by omega),if_neg (by omega),if_pos h4];exact CJ0 (GY p) d k V (hx.next hV) (A71 (.inr h4) ha) ok3)
  (fun h5 V hV=>by rw[ZJ,if_neg (by omega),if_neg (by omega),if_neg (by omega),if_neg (by omega)];exact AJ1 (GY p) k V (hx.next hV) (hT.next hV) (CQ0 h hn))
  hP hk
noncomputable def zW:Array Value:=(((prog.info? 88).bind (·.zero)).getD undef).cells
theorem B47:(prog.info? 88).map (fun i=>(i.zero,i.size))=some (some (.agg zW),83):=by kernel_rfl
theorem C59:zW.size=83:=by kernel_rfl
theorem CQ9{n:Nat}(h:n=83):(prog.info? 88).map (·.size)=some n:=by rw[h];exact(zero_of_info B47).2
noncomputable def zB:Array Value:=(prog.built 88 []).getD #[]
theorem C60:zB.size=83:=by kernel_rfl
section
variable {w:World} {ops:Array Oper} {rest:List Oper} {o:Oper} {a:Act} {Q:Exit->Act->World->Prop}
theorem aI(hgd:o.guard=none)(x:Operand)(ho:o.op=.load 88 x)(k:Nat)(c:Array Value)(hx:a.eval x=P0 k)(hc:w.heap[k]?=some (.cells c 88 (0,0)))(h83:c.size=83)
  (h:wpList prog ops Q rest (a.put o.dst (.agg c)) w):wpList prog ops Q (o::rest) a w:=by
 refine wpList_plain hgd fun K hK=>?_;have hr:(Instr.loadAt 88 (P0 k)).run prog w=.ok (.agg c) w:=by
  have hl:=run_loadCells_list (P:=prog) (w:=w) ⟨k,0,none⟩ c.toList (fun j v hj=>by
   rw[Addr.add_lit];show w.cell? ⟨k,0+j,none⟩=some v;rw[Nat.zero_add,cell_of_row _ _ j c _ (0,0) hc];simpa using hj)
  rw[show c.toList.length=83 by simpa using h83]at hl;simp only[Instr.loadAt,Instr.sureAddr,Sem.run_bind,Sem.run_pure,Result.andThen];unfold loadVar;simp only[Sem.run_bind,isAgg88,sizeOf88,Result.andThen,if_true];rw[hl];simp
 unfold Oper.wp execOp;simp only[ho,Sem.run_bind,Sem.run_pure,Result.andThen_ok,hx,hr];exact hK _ _ h
theorem oH(hgd:o.guard=none)(ho:o.op=.alloc 88)(h:wpList prog ops Q rest (a.put o.dst (.pointer (some ⟨w.heap.size,0,none⟩))) (w.alloc (.cells zW 88))):wpList prog ops Q (o::rest) a w:=by
 refine wpList_plain hgd fun K hK=>?_;have hz:=(zero_of_info B47).1 w;have hr:(Instr.alloc 88 true (.tuple #[])).run prog w=.ok (.pointer (some ⟨w.heap.size,0,none⟩)) (w.alloc (.cells zW 88)):=by
  simp[Instr.alloc,newVar,newRow,hz,Value.cells,go_sem]
 unfold Oper.wp execOp;simp only[ho,Sem.run_bind,Sem.run_pure,Result.andThen_ok,hr];exact hK _ _ h
theorem zS(hgd:o.guard=none)(x:Operand)(ho:o.op=.box 88 x)(c:Array Value)(hx:a.eval x=.agg c)(h:wpList prog ops Q rest (a.put o.dst (.pointer (some ⟨w.heap.size,0,none⟩))) (w.alloc (.cells c 88))):wpList prog ops Q (o::rest) a w:=by
 refine wpList_plain hgd fun K hK=>?_;have hr:(Instr.box 88 (.agg c)).run prog w=.ok (.pointer (some ⟨w.heap.size,0,none⟩)) (w.alloc (.cells c 88)):=by
  simp[Instr.box,newVar,newRow,Value.cells,go_sem]
 unfold Oper.wp execOp;simp only[ho,Sem.run_bind,Sem.run_pure,Result.andThen_ok,hx,hr];exact hK _ _ h
theorem oI(hgd:o.guard=none)(ho:o.op=.build 88 #[])(h:wpList prog ops Q rest (a.put o.dst (.agg zB)) w):wpList prog ops Q (o::rest) a w:=by
 refine wpList_build hgd 88 #[] ho ?_ ?_
 .simp only[Array.map_empty]
  kernel_rfl
 .simp only[Array.map_empty];exact h
theorem YK(hgd:o.guard=none)(x y:Operand)(ho:o.op=.store 88 x y)(k:Nat)(c old:Array Value)(hx:a.eval x=P0 k)(hy:a.eval y=.agg c)(hc:w.heap[k]?=some (.cells old 88 (0,0)))(h83:c.size=83)(ho83:old.size=83)(h1:c.all (·.oneCell')=true)
  (h:wpList prog ops Q rest (a.put o.dst undef) (w.setRow k c)):wpList prog ops Q (o::rest) a w:=
 wpList_store_row hgd _ x y ho k c hx hy _ old hc (CQ9 h83) (by omega) h1 h
theorem iV(hgd:o.guard=none)(x y:Operand)(ho:o.op=.store 88 x y)(c:Array Value)(hx:a.eval x=.pointer (some ⟨w.heap.size,0,none⟩))(hy:a.eval y=.agg c)(h83:c.size=83)(h1:c.all (·.oneCell')=true)
  (h:wpList prog ops Q rest (a.put o.dst undef) (w.alloc (.cells c 88))):wpList prog ops Q (o::rest) a (w.alloc (.cells zW 88)):=by
 refine YK hgd x y ho w.heap.size c zW hx hy (heap_alloc_last w _) h83 C59 h1 ?_;rw[World.setRow_alloc_new];exact h
end
def C80(W:World)(k:Nat)(x:Rp×Pw)(e:Ending)(w':World):Prop:=
 ∃v,e=.returned (rpV x.1 v)/\BD w' W.heap.size v x.1.ns/\Touch (· =k) W w'/\WX w' k x.2
theorem A87{E:Int}(hk:k<W.heap.size)(h:DT k W V d)(hx:WX V k p)(hp:∀i,i<3->IK 300 (p.s i)):
  C80 W k (LM E,p) (.returned (QL E)) (aS V (W.heap.size+1) (I0 E) (I0 0) (.string ⟨#[]⟩) (.string ⟨#[]⟩) (I0 0) (I0 0) (I0 0) (I0 0) (I0 0) (I0 0) (I0 0) (N0)):=
 ⟨N0,rfl,.inl ⟨rfl,rfl⟩,FM h.t (by omega) _ _ _ _ _ _ _ _ _ _ _ _,hx.reply hp h.r (by omega) (YI _ _ _ _ _ _ _ _ _ _ _ _ _ _)⟩
theorem BN0(p:Pw)(d:Dd)(h:PV d.k (ZJ p d).1.E=false):(ZJ p d).2=p:=by
 unfold ZJ at h⊢;by_cases h1:d.k=1
 .rw[if_pos h1]at h⊢;unfold LH at h⊢
  (repeat' split)<;>simp_all[PV]
 .rw[if_neg h1]at h⊢;by_cases h2:d.k=2
  .rw[if_pos h2]at h⊢;unfold YB at h⊢
   (repeat' split)<;>simp_all[PV,AZ2]
   all_goals (split at h<;>simp_all)
  .rw[if_neg h2]at h⊢;by_cases h3:d.k=3
   .rw[if_pos h3]at h⊢;unfold LP at h⊢
    (repeat' split)<;>simp_all[PV,LM]
   .rw[if_neg h3]at h⊢;by_cases h4:d.k=4
    .rw[if_pos h4]at h⊢;unfold upW at h⊢
     (repeat' split)<;>simp_all[PV,LM]
    .rw[if_neg h4]at h⊢;unfold N7 at h⊢
     (repeat' split)<;>simp_all[PV]
theorem CJ3(p:Pw)(d:Dd):(ZJ p d).2.h=p.h:=by
 unfold ZJ LH YB LP upW N7
 (repeat' split)<;>rfl
theorem YL(W:World)(k:Nat)(c:Array Value):Touch (· =k) W (W.setRow k c):=by
 refine⟨rfl,rfl,rfl,by simp[World.setRow],fun b _ hb=>?_⟩;simp only[World.setRow,Array.getElem?_modify];rw[if_neg (fun e=>hb e.symm)]
theorem WX.blk(h:WX W k p):∃c,W.heap[k]?=some (.cells c 88 (0,0))/\c.size=83/\c.all (·.oneCell')=true:=by
 obtain⟨f,⟨c,h1,h2,h3⟩,hr⟩:=h;refine⟨c,h1,h2,?_⟩;rw[Array.all_eq_true];intro j hj;have e:=h3 j (by omega);rw[Array.getElem?_eq_getElem hj]at e;rw[Option.some.inj e];exact hr.cellP (P:=(·.oneCell'=true)) (fun _=>rfl) (fun _=>rfl) (fun _ _ _=>rfl) j (by omega)
theorem WX.copy{c:Array Value}(h:WX W k p)(hh:p.h=k)(hc:W.heap[k]?=some (.cells c 88 (0,0))):WX (W.alloc (.cells c 88)) W.heap.size p:=by
 have hk:=h.lt;obtain⟨f,⟨c',h1,h2,h3⟩,hr⟩:=h;rw[hc]at h1;simp only[Option.some.injEq,Obj.cells.injEq,and_true]at h1;subst h1;exact⟨f,⟨c,heap_alloc_last W _,h2,h3⟩,(hr.moved (Nat.le_refl _) (by omega)).next (AB _ _)⟩
theorem WX.back{q:Nat}{p':Pw}{c:Array Value}(h:WX W k p)(h':WX W q p')(hh:p'.h=k)(hc:W.heap[q]?=some (.cells c 88 (0,0))):WX (W.setRow k c) k p':=by
 obtain⟨f,hb,hr⟩:=h;have hd:=hr.aP hb;obtain⟨o,ho,_⟩:=hb;obtain⟨g,⟨c',h1,h2,h3⟩,hs⟩:=h';rw[hc]at h1;simp only[Option.some.injEq,Obj.cells.injEq,and_true]at h1;subst h1;refine⟨g,⟨c,setRow_heap W k o c _ _ ho,h2,h3⟩,WdR.touch (W:=W) ?_ (YL W k c)⟩;refine⟨hs.n,fun i hi=>?_,hs.r,fun i hi=>⟨(hs.c i hi).s,(hs.c i hi).z,YD (hs.c i hi).e.1 hd⟩,gJ (FV.1 hs.d.1) hd,hs.h,by omega⟩;have s:=hs.s i hi;exact⟨s.up,A60 (PD.1 s.d.1) hd,s.id,s.ep,gJ (FV.1 s.l.1) hd,s.dn,s.z,sV s.n.1 hd,⟨s.i.1,fun h0=>hs.h i hi h0 k (Nat.le_of_eq hh.symm)⟩,RQ s.w.1 hd⟩
def RpX(W:World)(g:Nat)(r:Rp)(v:Value):Prop:=W.heap[g]?=some (.cells #[I0 r.E,I0 r.z,S0 r.p,S0 r.d,I0 r.t.c,I0 r.t.m,I0 r.t.q,I0 r.t.v,I0 r.t.k,I0 r.t.o,I0 r.t.n,v] 65 (0,0))
theorem RpX.lt{g:Nat}(h:RpX W g r v):g<W.heap.size:=(Array.getElem?_eq_some_iff.1 h).1
theorem RpX.cells{g:Nat}(h:RpX W g r v):W.cell? ⟨g,0,none⟩=some (I0 r.E)/\W.cell? ⟨g,1,none⟩=some (I0 r.z)/\W.cell? ⟨g,2,none⟩=some (S0 r.p)/\W.cell? ⟨g,3,none⟩=some (S0 r.d)/\W.cell? ⟨g,4,none⟩=some (I0 r.t.c)/\W.cell? ⟨g,5,none⟩=some (I0 r.t.m)/\W.cell? ⟨g,6,none⟩=some (I0 r.t.q)/\W.cell? ⟨g,7,none⟩=some (I0 r.t.v)/\W.cell? ⟨g,8,none⟩=some (I0 r.t.k)/\W.cell? ⟨g,9,none⟩=some (I0 r.t.o)/\W.cell? ⟨g,10,none⟩=some (I0 r.t.n)/\W.cell? ⟨g,11,none⟩=some (v):=by
 unfold RpX at h;simp[World.cell?,h]
theorem DT.beyond{q:Nat}{U:World}(h:DT k W V d)(hq:W.heap.size+1<q)(ht:Touch (· =q) V U):DT k W U d:=
 ⟨⟨ht.os.trans h.t.os,ht.tape.trans h.t.tape,ht.output.trans h.t.output,Nat.le_trans h.t.size ht.size,fun b hb hn=>(ht.block b (Nat.lt_of_lt_of_le hb h.t.size) (by omega)).trans (h.t.block b hb hn)⟩,h.r.touch ht (by omega),(ht.block _ h.d.ltz (by omega)).trans h.d⟩
theorem B48{B:Nat}(hk:k<W.heap.size)(h:DT k W V d)(hx:WX V k p)(hp:∀i,i<3->IK 300 (p.s i))(hn:BD V B v r.ns)(hB:W.heap.size+1<B):
  C80 W k (r,p) (.returned (rpV r v)) (aS V (W.heap.size+1) (I0 r.E) (I0 r.z) (S0 r.p) (S0 r.d) (I0 r.t.c) (I0 r.t.m) (I0 r.t.q) (I0 r.t.v) (I0 r.t.k) (I0 r.t.o) (I0 r.t.n) v):=
 ⟨v,rfl,FX (hn.lower (by omega)) (YI _ _ _ _ _ _ _ _ _ _ _ _ _ _) (fun q e=>by have:=OX hn q e;omega),FM h.t (by omega) _ _ _ _ _ _ _ _ _ _ _ _,hx.reply hp h.r (by omega) (YI _ _ _ _ _ _ _ _ _ _ _ _ _ _)⟩
theorem C61(p:Pw)(d:Dd)(k:Nat)(W:World)(hx:WX W k p)(hp:∀i,i<3->IK 300 (p.s i))(hn:300<=p.n):Calls prog 24 #[wP k,ddV d] W (C80 W k (LM 6,p)):=by
 have D0:=AA ((DB.start W d).dt k);have X0:=AA (hx.next (DB.start W d).b);have hk0:=hx.lt;have HP:=AA hp;clear hp hx;unfold wP ddV;go_enter func24,ntmps24;go_upto_region 1 with fail;generalize ((W.alloc _).alloc _)=W0 at*;have c0:=(A8 X0).count;have CR:=AA (fun V=>FW 6 V);unfold QL at CR;go_wp2_with fail;refine(A8 CR _).mono ?_;rintro e wr ⟨rfl,hbr⟩;have DR:=(A8 D0).next hk0 hbr;have b0:=DR.r.cells;have g0:=DR.r.AX;have XR:=AA (A87 (E:=6) hk0 DR ((A8 X0).next hbr) (A8 HP));clear hbr DR D0 CR;unfold QL aS at XR;go_wp2_with fail;exact bodyPost_ret (v:=.agg #[I0 6,I0 0,.string ⟨#[]⟩,.string ⟨#[]⟩,I0 0,I0 0,I0 0,I0 0,I0 0,I0 0,I0 0,N0]) (by simp[results,results24,go_sem,b0]) rfl (A8 XR)
theorem CJ4(p:Pw)(d:Dd)(k:Nat)(W:World)(hx:WX W k p)(hp:∀i,i<3->IK 300 (p.s i))(hn:p.n<300)(hn0:0<=p.n)(ha:NU d≠0):Calls prog 24 #[wP k,ddV d] W (C80 W k (LM (NU d),GY p)):=by
 have D0:=AA ((DB.start W d).dt k);have X0:=AA (hx.next (DB.start W d).b);have hk0:=hx.lt;have HP:=AA hp;have CA:=AA (fun V=>kU d V);have ha2:(NU d==0)=false:=beq_eq_false_iff_ne.2 ha;clear hp hx ha;generalize NU d=E at*;unfold wP;unfold ddV at CA⊢;go_enter func24,ntmps24;go_upto_region 1 with fail;generalize ((W.alloc _).alloc _)=W0 at*;have c0:=(A8 X0).count;have f0:=(A8 X0).AX 0;have X1:=AA ((A8 X0).A62 (p.n+1));have D1:=AA ((A8 D0).touch hk0 (ER W0 k 0 (I0 (p.n+1))));go_upto_region 6 with fail;generalize W0.setCell _ _=W1 at*;clear c0 f0 D0 X0;obtain⟨⟨d0,d1,d2,d3,d4,d5,d6⟩,d7,d8,d9,d10,d11,d12⟩:=(A8 D1).cells;go_wp2_with fail;refine(A8 CA _).mono ?_;rintro e w2 ⟨rfl,hb2⟩;have D2:=AA ((A8 D1).next hk0 hb2);have X2:=AA ((A8 X1).next hb2);clear d0 d1 d2 d3 d4 d5 d6 d7 d8 d9 d10 d11 d12 hb2 D1 X1;have CR:=AA (fun V=>FW E V);unfold QL at CR;go_wp2_with fail;refine(A8 CR _).mono ?_;rintro e wr ⟨rfl,hbr⟩;have DR:=(A8 D2).next hk0 hbr;have b0:=DR.r.cells;have g0:=DR.r.AX;have XR:=AA (A87 (E:=E) hk0 DR ((A8 X2).next hbr) (A8 HP));clear hbr DR D2 CR;unfold QL aS at XR;go_wp2_with fail;exact bodyPost_ret (v:=.agg #[I0 E,I0 0,.string ⟨#[]⟩,.string ⟨#[]⟩,I0 0,I0 0,I0 0,I0 0,I0 0,I0 0,I0 0,N0]) (by simp[results,results24,go_sem,b0]) rfl (A8 XR)
theorem CJ5(p:Pw)(d:Dd)(k:Nat)(W:World)(hx:WX W k p)(hh:p.h=k)(hT:VQ W)(h:ND p)(hn:p.n<300)(ha:NU d=0)(hp:d.q.p.length<=140737488355328)(hd:d.q.d.length<=140737488355328):Calls prog 24 #[wP k,ddV d] W (C80 W k (ZJ (GY p) d)):=by
 have D0:=AA ((DB.start W d).dt k);have X0:=AA (hx.next (DB.start W d).b);have T0:=AA (hT.next (DB.start W d).b);have hk0:=hx.lt;have CA:=AA (fun V=>kU d V);have hn0:=h.n0;have HP:Hid (∀i,i<3->IK 300 ((ZJ (GY p) d).2.s i)):=AA (by
  have hW:=WR d h;rw[doP,if_neg (by omega),if_neg (by omega)]at hW;exact fun i hi=>(hW.s i hi).more hW.n1)
 have HH:Hid ((ZJ (GY p) d).2.h=k):=AA ((CJ3 _ _).trans hh);have HS:=AA (BN0 (GY p) d);have CH:=AA (fun V q (hV:WX V q (GY p)) (hT:VQ V)=>AJ5 p d q V hV hT h hn ha hp hd);have CL:=AA (fun V=>yT d.k (ZJ (GY p) d).1.E V);rw[ha]at CA;clear hx hT h hp hd ha;generalize hx1:ZJ (GY p) d=x at*;clear hx1;obtain⟨r,p'⟩:=x;simp only at HP HH HS CL;unfold wP;unfold ddV at CA⊢;unfold wP ddV at CH;go_enter func24,ntmps24;go_upto_region 1 with fail;generalize ((W.alloc _).alloc _)=W0 at*;have c0:=(A8 X0).count;have f0:=(A8 X0).AX 0;have X1:=AA ((A8 X0).A62 (p.n+1));have D1:=AA ((A8 D0).touch hk0 (ER W0 k 0 (I0 (p.n+1))));have T1:=AA (bP (A8 T0) (A8 X0) (ER W0 k 0 (I0 (p.n+1))));go_upto_region 6 with fail;generalize W0.setCell _ _=W1 at*;clear c0 f0 D0 X0 T0;obtain⟨⟨d0,d1,d2,d3,d4,d5,d6⟩,d7,d8,d9,d10,d11,d12⟩:=(A8 D1).cells;go_wp2_with fail;refine(A8 CA _).mono ?_;rintro e w2 ⟨rfl,hb2⟩;have D2:=AA ((A8 D1).next hk0 hb2);have X2:=AA ((A8 X1).next hb2);have T2:=AA ((A8 T1).next hb2);clear d0 d1 d2 d3 d4 d5 d6 d7 d8 d9 d10 d11 d12 hb2 D1 X1 T1 CA;obtain⟨c,hc,C81,hc1⟩:=(A8 X2).blk;have HC:=AA hc;have hq2:=(A8 D2).r.lt;have X3:=AA ((A8 X2).copy hh hc);have Y3:=AA (((A8 X2).offq (Nat.le_refl _)).next (AB w2 (.cells c 88)));have D3:=AA ((A8 D2).next hk0 (AB w2 (.cells c 88)));have T3:=AA ((A8 T2).next (AB w2 (.cells c 88)));clear hc;go_upto_region 10 with(first|refine aI rfl _ rfl k c rfl (A8 HC) C81 ?_|refine oH rfl rfl ?_|refine iV rfl _ _ rfl c rfl rfl C81 hc1 ?_);clear HC C81 hc1 X2 D2 T2;generalize w2.alloc _=W3 at*;generalize w2.heap.size=q at*;obtain⟨⟨d0,d1,d2,d3,d4,d5,d6⟩,d7,d8,d9,d10,d11,d12⟩:=(A8 D3).cells;have C3:=AA (A8 CH W3 q (A8 X3) (A8 T3));have hq3:=(A8 X3).lt;go_wp2_with fail;refine(A8 C3).mono ?_;rintro e w4 ⟨vn,rfl,ho4,ht4,hx4⟩;obtain⟨na,nc,rfl⟩:=BN ho4;have hs4:=ht4.size;have R5:Hid (RpX (w4.alloc (.cells #[I0 r.E,I0 r.z,S0 r.p,S0 r.d,I0 r.t.c,I0 r.t.m,I0 r.t.q,I0 r.t.v,I0 r.t.k,I0 r.t.o,I0 r.t.n,.slice na r.ns.length nc] 65)) w4.heap.size r (.slice na r.ns.length nc)):=AA (heap_alloc_last _ _);have B5:=AB w4 (.cells #[I0 r.E,I0 r.z,S0 r.p,S0 r.d,I0 r.t.c,I0 r.t.m,I0 r.t.q,I0 r.t.v,I0 r.t.k,I0 r.t.o,I0 r.t.n,.slice na r.ns.length nc] 65);have D5:=AA (((A8 D3).beyond (by omega) ht4).next hk0 B5);have Y5:=AA (((A8 Y3).far (g:=q) rfl (show k≠q by omega) ht4).next B5).x;have O5:=AA (ho4.next B5);have X5:=AA (fun hl=>(hx4 hl).next B5);clear d0 d1 d2 d3 d4 d5 d6 d7 d8 d9 d10 d11 d12 C3 CH X3 Y3 D3 T3 ho4 ht4 hx4 B5;unfold rpV;go_upto_region 11 with fail;generalize w4.alloc _=W5 at*;generalize w4.heap.size=g at*;obtain⟨⟨d0,d1,d2,d3,d4,d5,d6⟩,d7,d8,d9,d10,d11,d12⟩:=(A8 D5).cells;obtain⟨r0,r1,r2,r3,r4,r5,r6,r7,r8,r9,r10,r11⟩:=(A8 R5).cells;go_wp2_with fail;refine(A8 CL _).mono ?_;rintro e w6 ⟨rfl,hw6⟩;obtain rfl:=hw6.symm;clear d0 d1 d2 d3 d4 d5 d6 d7 d8 d9 d10 d11 d12 r0 r1 r2 r3 r4 r5 r6 r7 r8 r9 r10 r11 CL;refine Or.elim (show PV d.k r.E=false\/PV d.k r.E=true by cases PV d.k r.E<;>simp) ?a0 ?a1
 case' a1=>
  intro hl;rw[hl];obtain⟨c,hc,C81,hc1⟩:=(A8 X5 hl).blk;obtain⟨o,ho,ho83,_⟩:=(A8 Y5).blk;have HC:=AA hc;have HO:=AA ho;have X6:=AA ((A8 Y5).back (A8 X5 hl) (A8 HH) hc);have D6:=AA ((A8 D5).touch hk0 (YL W5 k c));have O6:=AA (FX (A8 O5) (YL W5 k c) (fun b e=>by have:=OX (A8 O5) b e;omega));have R6:Hid (RpX (W5.setRow k c) g r (.slice na r.ns.length nc)):=AA (((YL W5 k c).block g (A8 R5).lt (by omega)).trans (A8 R5));clear hc ho X5 Y5 D5 O5 R5;go_upto_region 13 with(first|refine aI rfl _ rfl q c rfl (A8 HC) C81 ?_|refine YK rfl _ _ rfl k c o rfl rfl (A8 HO) C81 ho83 hc1 ?_);generalize W5.setRow k c=W6 at*
 case' a0=>
  intro hl;rw[hl];have X6:Hid (WX W5 k p'):=AA (by rw[A8 HS hl];exact A8 Y5);have D6:=D5;have O6:=O5;have R6:=R5;clear X5 Y5 D5 O5 R5;go_upto_region 13 with fail
 all_goals
  have DR:=A8 D6;have b0:=DR.r.cells;have g0:=DR.r.AX;obtain⟨r0,r1,r2,r3,r4,r5,r6,r7,r8,r9,r10,r11⟩:=(A8 R6).cells;have XR:=AA (B48 hk0 DR (A8 X6) (A8 HP) (A8 O6) (by omega));clear DR X6 D6 O6 R6;unfold rpV aS at XR;go_wp2_with fail;exact bodyPost_ret (v:=.agg #[I0 r.E,I0 r.z,S0 r.p,S0 r.d,I0 r.t.c,I0 r.t.m,I0 r.t.q,I0 r.t.v,I0 r.t.k,I0 r.t.o,I0 r.t.n,.slice na r.ns.length nc]) (by simp[results,results24,go_sem,b0]) rfl (A8 XR)
theorem iE(p:Pw)(d:Dd)(k:Nat)(W:World)(hx:WX W k p)(hh:p.h=k)(hT:VQ W)(h:ND p)(hp:d.q.p.length<=140737488355328)(hd:d.q.d.length<=140737488355328):Calls prog 24 #[wP k,ddV d] W (C80 W k (doP p d)):=by
 have ok:∀i,i<3->IK 300 (p.s i):=fun i hi=>(h.s i hi).more h.n1;unfold doP;by_cases hn:300<=p.n
 .rw[if_pos hn];exact C61 p d k W hx ok hn
 .rw[if_neg hn];by_cases ha:NU d=0
  .rw[if_neg (fun e=>e ha)];exact CJ5 p d k W hx hh hT h (by omega) ha hp hd
  .rw[if_pos ha];exact CJ4 p d k W hx ok (by omega) h.n0 ha
structure WNf(W:World)(k:Nat)(f:Nat->Value)(a b:Nat):Prop where
 t:∀j,j<83->∀x,f j≠ .string x
 n:f 0=I0 0
 r:∀i,i<3->f (31+i)=I0 0
 d:f 82=N0
 s:∀i,i<a->SvA W k (fun q=>f (1+10*i+q)) (svP i ps0)
 c:∀i,i<b->ClA W k (fun q=>f (34+3*i+q)) ⟨i+1,0,[]⟩
def WN(W V:World)(a b:Nat):Prop:=(∃f,WB V W.heap.size f/\WNf V W.heap.size f a b)/\B0 W V
section
variable {W V U:World} {a b:Nat}
theorem iF(h:B0 W V)(T:Touch (· =W.heap.size) V U):B0 W U:=⟨T.os.trans h.os,T.tape.trans h.tape,T.output.trans h.output,Nat.le_trans h.size T.size,fun b hb=>(T.block b (Nat.lt_of_lt_of_le hb h.size) (by omega)).trans (h.block b hb)⟩
theorem WN.next(h:WN W V a b)(hb:B0 V U):WN W U a b:=by
 obtain⟨⟨f,h1,h2⟩,h3⟩:=h;exact⟨⟨f,h1.next hb,h2.t,h2.n,h2.r,h2.d,fun i hi=>(h2.s i hi).next hb,fun i hi=>⟨(h2.c i hi).s,(h2.c i hi).z,(h2.c i hi).e.next hb⟩⟩,AL h3 hb⟩
theorem WN.srv(h:WN W V a b)(ha:a<3){vd vl vn vs vw:Value}{s:Sv}(hs:svP a ps0=s)(hv:SvV V (.agg #[.bool s.up,vd,I0 s.id,I0 s.ep,vl,I0 s.dn,I0 s.tr.z,vn,vs,vw]) s)(h0:s.tr.ss=[]):WN W (uZ V W.heap.size (1+10*a) (.bool s.up) vd (I0 s.id) (I0 s.ep) vl (I0 s.dn) (I0 s.tr.z) vn vs vw) (a+1) b:=by
 obtain⟨⟨f,hb,hn⟩,hB⟩:=h;have T:=U8 V W.heap.size (1+10*a) (.bool s.up) vd (I0 s.id) (I0 s.ep) vl (I0 s.dn) (I0 s.tr.z) vn vs vw;have hA:SvA V W.heap.size (C78 (.bool s.up) vd (I0 s.id) (I0 s.ep) vl (I0 s.dn) (I0 s.tr.z) vn vs vw) s:=SvA.of (hb.aP hn.t) hv (fun h=>absurd h0 h) rfl rfl rfl rfl rfl rfl rfl rfl rfl rfl;refine⟨⟨_,hb.uZ (o:=1+10*a) (by omega) _ _ _ _ _ _ _ _ _ _,fun j hj x=>?_,by rw[EI (by omega)];exact hn.n,fun i hi=>by rw[EI (by omega)];exact hn.r i hi,by rw[EI (by omega)];exact hn.d,fun i hi=>?_,fun i hi=>?_⟩,iF hB T⟩
 .by_cases e:1+10*a<=j/\j<1+10*a+10
  .obtain⟨q,rfl⟩:∃q,j=1+10*a+q:=⟨j-(1+10*a),by omega⟩;rw[JQ (by omega)];exact hA.cellP (P:=(· ≠ .string x)) (fun _ e=>by cases e) (fun _ e=>by cases e) (fun _ _ _ e=>by cases e) q (by omega)
  .rw[EI (by omega)];exact hn.t j hj x
 .by_cases e:i=a
  .subst e;rw[hs];exact(hA.congr fun q hq=>by rw[JQ hq]).touch T
  .exact((hn.s i (by omega)).congr fun q hq=>by rw[EI (by omega)]).touch T
 .have h:=(hn.c i hi).congr (g':=fun q=>B69 f (1+10*a) 10 (C78 (.bool s.up) vd (I0 s.id) (I0 s.ep) vl (I0 s.dn) (I0 s.tr.z) vn vs vw) (34+3*i+q)) fun q hq=>by rw[EI (by omega)]
  exact⟨h.s,h.z,h.e.touch T⟩
theorem WN.cl(h:WN W V a b)(ha:a<=3)(hb:b<16):WN W (nK V W.heap.size (34+3*b) (I0 (b+1)) (I0 0) (N0)) a (b+1):=by
 obtain⟨⟨f,hf,hn⟩,hB⟩:=h;have T:=OV V W.heap.size (34+3*b) (I0 (b+1)) (I0 0) (N0);refine⟨⟨_,hf.nK (o:=34+3*b) (by omega) _ _ _,fun j hj x=>?_,by rw[EI (by omega)];exact hn.n,fun i hi=>by rw[EI (by omega)];exact hn.r i hi,by rw[EI (by omega)];exact hn.d,fun i hi=>((hn.s i hi).congr fun q hq=>by rw[EI (by omega)]).touch T,fun i hi=>?_⟩,iF hB T⟩
 .by_cases e:34+3*b<=j/\j<34+3*b+3
  .obtain⟨q,rfl⟩:∃q,j=34+3*b+q:=⟨j-(34+3*b),by omega⟩;rw[JQ (by omega)];rcases(show q=0\/q=1\/q=2 by omega)with rfl|rfl|rfl<;>(intro e;cases e)
  .rw[EI (by omega)];exact hn.t j hj x
 .by_cases e:i=b
  .subst e;exact⟨by rw[JQ (by omega)];rfl,by rw[JQ (by omega)];rfl,by rw[JQ (by omega)];exact Row.nil _ _ 0 (by decide) none⟩
  .have h:=(hn.c i (by omega)).congr (g':=fun q=>B69 f (34+3*b) 3 (AZ3 (I0 (b+1)) (I0 0) (N0)) (34+3*i+q)) fun q hq=>by rw[EI (by omega)]
   exact⟨h.s,h.z,h.e.touch T⟩
theorem BS3(i:Nat):(svP i ps0).tr.ss=[]:=by rw[D8 rfl];rfl
theorem WN.done(h:WN W V 3 16):WX V W.heap.size (pw0 W.heap.size):=by
 obtain⟨⟨f,hb,hn⟩,_⟩:=h;exact⟨f,hb,hn.n,fun i hi=>hn.s i hi,hn.r,hn.c,by rw[hn.d];exact Row.nil _ _ 0 (by decide) none,fun i _ h0=>absurd (BS3 i) h0,Nat.le_refl _⟩
end
def CJ6:Value->Bool
 | .string _=>false
 |_=>true
theorem C62:zB.all CJ6=true:=by kernel_rfl
theorem B49:zB[0]?=some (I0 0)/\zB[31]?=some (I0 0)/\zB[32]?=some (I0 0)/\zB[33]?=some (I0 0)/\zB[82]?=some (N0):=⟨by kernel_rfl,by kernel_rfl,by kernel_rfl,by kernel_rfl,by kernel_rfl⟩
theorem BN1(W:World)(z:Array Value)(hz:z.size=83)(ht:z.all CJ6=true)(z0:z[0]?=some (I0 0))(z1:z[31]?=some (I0 0))(z2:z[32]?=some (I0 0))(z3:z[33]?=some (I0 0))(z4:z[82]?=some (N0)):WN W (W.alloc (.cells z 88)) 0 0:=by
 have e:∀j:Nat,j<83->∃v,z[j]?=some v:=fun j hj=>⟨z[j]'(by omega),Array.getElem?_eq_getElem (by omega)⟩;have g:∀ (j:Nat) v,z[j]?=some v->z[j]?.getD undef=v:=fun j v h=>by rw[h];rfl
 refine⟨⟨fun j=>z[j]?.getD undef,⟨z,heap_alloc_last W _,hz,fun j hj=>?_⟩,fun j hj x=>?_,g _ _ z0,fun i hi=>?_,g _ _ z4,fun i hi=>by omega,fun i hi=>by omega⟩,AB _ _⟩
 .obtain⟨v,h⟩:=e j hj;rw[h,<-g j v h]
 .obtain⟨v,h⟩:=e j hj;rw[g j v h];rintro rfl;have:=Array.all_eq_true.1 ht j (by omega);rw[Array.getElem?_eq_getElem (by omega)]at h;rw[Option.some.inj h]at this
  cases this
 .rcases(show i=0\/i=1\/i=2 by omega)with rfl|rfl|rfl
  .exact g _ _ z1
  .exact g _ _ z2
  .exact g _ _ z3
theorem WN.start(W:World):WN W (W.alloc (.cells zB 88)) 0 0:=BN1 W zB C60 C62 B49.1 B49.2.1 B49.2.2.1 B49.2.2.2.1 B49.2.2.2.2
theorem C63(i:Nat)(hi:i<3)(w:World):Calls prog 48 #[I0 i,.agg #[N0]] w (AZ9 w (svP i ps0) 0):=by
 have e:svP i ps0=CP0 i:=by rw[D8 rfl,CP0,AF9 (fs:=[]) (by unfold SB;simp only[wY];split<;>simp)];simp[ps0,BM,epD,JX,KU]
 rw[e];exact(AY0 i (by omega) (by omega) w).mono fun _ _ h=>nT h rfl
theorem zT(W:World):Calls prog 23 #[] W fun e w'=>e=.returned (wP W.heap.size)/\WX w' W.heap.size (pw0 W.heap.size)/\B0 W w':=by
 have CB:=AA (fun i hi V=>C63 i hi V);have CN:=AA (fun s h1 h2 V=>BI8 s V h1 h2);have HE0:=AA BS3;have H0:=AA (WN.start W);unfold wP;go_enter func23,ntmps23;go_upto_region 2 with(first|refine oI rfl rfl ?_|refine zS rfl _ rfl zB rfl ?_);generalize W.alloc _=W0 at*;go_wp2_with fail
 go_loopg [6] 3 (fun kx s6 wr=>∃i:Nat,s6=I0 i/\i<=3/\3-i<=kx/\Hid (WN W wr i 0))
 case atStart=>exact⟨0,rfl,by omega,Nat.le_refl _,H0⟩
 case round=>
  obtain⟨i,rfl,hi,hg,HN⟩:=hrel;by_cases hlt:i<3
  .have hii:(i:Int)<3:=by omega
   have C1:=AA (fun V=>A8 CB i hlt V);have HE:=AA (A8 HE0 i);generalize hs1:svP i ps0=s1 at C1 HE;have HK:=AA hs1;clear hs1;go_upto_region 5 with fail;have hS0:(fun _:World=>True) wr.drew:=trivial;refine wp_region_held (S:=fun _:World=>True) (by kernel_rfl) ?_;change wpAnyH _ _ _ _ _ _ _ _ wr.drew;refine tkH 0 hS0 ?_;refine tkH 1 hS0 ?_;refine tkH 2 hS0 ?_;refine tkH 3 hS0 ?_;refine tkH 8 hS0 ?_;refine tkH 9 hS0 ?_;refine rd1 4 (fun K hK=>?_);go_simp
   with_reducible refine(A8 C1 _).mono ?_
   rintro e w1 ⟨ad,nd,cd,al,cl,an,cn,ai,ci,aw,cw,rfl,H1,hb1⟩;have N1:=(A8 HN).next (AL (Below.refl wr.heap.size wr).drew hb1);clear hb1;refine nxH hK trivial ?_;clear hK K;refine tkH 5 trivial ?_;refine tkH 6 trivial ?_;refine tkH 7 trivial ?_;refine tkH 10 trivial ?_;refine rd1 11 (fun K hK=>?_);obtain⟨f,hf,_⟩:=N1.1;have x0:=hf.cell (j:=1+i*10) (by omega);have z0:=hf.AX (1+i*10);have x1:=hf.cell (j:=1+i*10+1) (by omega);have z1:=hf.AX (1+i*10+1);have x2:=hf.cell (j:=1+i*10+2) (by omega);have z2:=hf.AX (1+i*10+2);have x3:=hf.cell (j:=1+i*10+3) (by omega);have z3:=hf.AX (1+i*10+3);have x4:=hf.cell (j:=1+i*10+4) (by omega);have z4:=hf.AX (1+i*10+4);have x5:=hf.cell (j:=1+i*10+5) (by omega);have z5:=hf.AX (1+i*10+5);have x6:=hf.cell (j:=1+i*10+6) (by omega);have z6:=hf.AX (1+i*10+6);have x7:=hf.cell (j:=1+i*10+7) (by omega);have z7:=hf.AX (1+i*10+7);have x8:=hf.cell (j:=1+i*10+8) (by omega);have z8:=hf.AX (1+i*10+8);have x9:=hf.cell (j:=1+i*10+9) (by omega);have z9:=hf.AX (1+i*10+9);have hkl:=hf.lt;have HR:=AA (N1.srv hlt (A8 HK) (A8 H1).1 (A8 HE));unfold uZ at HR;rw[Nat.mul_comm 10 i]at HR;clear N1 H1 hf;go_simp;refine nxH hK trivial ?_;clear hK K;refine wpAnyH_done (by kernel_rfl) ?_ _;go_wp2_with fail
   go_roundg (3-(i+1))
   case measure=>omega
   case rel=>exact⟨i+1,by simp,by omega,Nat.le_refl _,HR⟩
  .obtain rfl:i=3:=by omega
   have H3:=HN;clear HN hg hi hlt;go_wp2_with fail
   go_loopg [21] 16 (fun kx s21 wr=>∃i:Nat,s21=I0 i/\i<=16/\16-i<=kx/\Hid (WN W wr 3 i))
   case atStart=>exact⟨0,rfl,by omega,Nat.le_refl _,H3⟩
   case round=>
    obtain⟨i,rfl,hi,hg,HN⟩:=hrel;by_cases hlt:i<16
    .have hii:(i:Int)<16:=by omega
     have hwr:IntKind.i64.wrap ((i:Int)+1)=(i:Int)+1:=by rw[IntKind.wrap_i64];omega
     have C2:=AA (fun V=>A8 CN ((i:Int)+1) (by omega) (by omega) V);unfold clV at C2;go_upto_region 10 with fail;have hS0:(fun _:World=>True) wr.drew:=trivial;refine wp_region_held (S:=fun _:World=>True) (by kernel_rfl) ?_;change wpAnyH _ _ _ _ _ _ _ _ wr.drew;refine tkH 0 hS0 ?_;refine tkH 1 hS0 ?_;refine tkH 2 hS0 ?_;refine tkH 3 hS0 ?_;refine tkH 8 hS0 ?_;refine tkH 9 hS0 ?_;refine rd1 4 (fun K hK=>?_);go_simp
     with_reducible refine(A8 C2 _).mono ?_
     rintro e w1 ⟨rfl,hb1⟩;have N1:=(A8 HN).next (AL (Below.refl wr.heap.size wr).drew hb1);clear hb1;refine nxH hK trivial ?_;clear hK K;refine tkH 5 trivial ?_;refine tkH 6 trivial ?_;refine tkH 7 trivial ?_;refine tkH 10 trivial ?_;refine rd1 11 (fun K hK=>?_);obtain⟨f,hf,_⟩:=N1.1;have x0:=hf.cell (j:=34+i*3) (by omega);have z0:=hf.AX (34+i*3);have x1:=hf.cell (j:=34+i*3+1) (by omega);have z1:=hf.AX (34+i*3+1);have x2:=hf.cell (j:=34+i*3+2) (by omega);have z2:=hf.AX (34+i*3+2);have hkl:=hf.lt;have HR:=AA (N1.cl (Nat.le_refl 3) hlt);unfold nK at HR;rw[Nat.mul_comm 3 i]at HR;clear N1 hf;go_simp;refine nxH hK trivial ?_;clear hK K;refine wpAnyH_done (by kernel_rfl) ?_ _;go_wp2_with fail
     go_roundg (16-(i+1))
     case measure=>omega
     case rel=>exact⟨i+1,by simp,by omega,Nat.le_refl _,HR⟩
    .obtain rfl:i=16:=by omega
     go_wp2_with fail;go_ret;exact⟨rfl,(A8 HN).done,(A8 HN).2⟩
theorem uM(p:Pw):∀l:List Dd,(JO p l).h=p.h
 |[]=>rfl
 |d::l=>by
  rw[JO,uM _ l];unfold doP
  repeat' split
  all_goals first|rfl|exact CJ3 _ _
theorem A88(p:Pw)(d:Dd):∀l:List Dd,JO p (l++[d])=(doP (JO p l) d).2
 |[]=>rfl
 |e::l=>by
  show JO (doP p e).2 (l++[d])=_;rw[A88 _ d l];rfl
theorem uN(p:Pw){ds:List Dd}{i:Nat}(h:ds[i]?=some d):JO p (ds.take (i+1))=(doP (JO p (ds.take i)) d).2:=by
 obtain⟨hk,rfl⟩:=List.getElem?_eq_some_iff.1 h;rw[List.take_succ_eq_append_getElem hk,A88]
structure vC(W:World)(k:Nat)(p:Pw)(V:World):Prop where
 x:WX V k p
 t:VQ V
 b:B0 W V
 k:W.heap.size<=k
section
variable {W V U:World} {k:Nat} {p q:Pw}
theorem vC.next(h:vC W k p V)(hb:B0 V U):vC W k p U:=⟨h.x.next hb,h.t.next hb,AL h.b hb,h.k⟩
theorem vC.turn(h:vC W k p V)(ht:Touch (· =k) V U)(hx:WX U k q):vC W k q U:=
 ⟨hx,bP h.t h.x ht,⟨ht.os.trans h.b.os,ht.tape.trans h.b.tape,ht.output.trans h.b.output,Nat.le_trans h.b.size ht.size,fun b hb=>(ht.block b (Nat.lt_of_lt_of_le hb h.b.size) (by have:=h.k;omega)).trans (h.b.block b hb)⟩,h.k⟩
theorem vC.start(hT:VQ W)(hb:B0 W V)(hc:B0 V U)(hx:WX U V.heap.size (pw0 V.heap.size)):vC W V.heap.size (JO (pw0 V.heap.size) []) U:=⟨hx,(hT.next hb).next hc,AL hb hc,hb.size⟩
end
theorem BS4{b off n cap:Nat}{ds:List Dd}{i:Nat}(hv:BQ W (.slice (some ⟨b,off,none⟩) n cap) ds)(hd:ds[i]?=some d):(W.cell? ⟨b,off+i*13,none⟩=some (I0 d.k)/\W.cell? ⟨b,off+i*13+1,none⟩=some (I0 d.c)/\W.cell? ⟨b,off+i*13+2,none⟩=some (I0 d.s)/\W.cell? ⟨b,off+i*13+3,none⟩=some (I0 d.q.o)/\W.cell? ⟨b,off+i*13+4,none⟩=some (I0 d.q.s)/\W.cell? ⟨b,off+i*13+5,none⟩=some (S0 d.q.p)/\W.cell? ⟨b,off+i*13+6,none⟩=some (S0 d.q.d))/\W.cell? ⟨b,off+i*13+7,none⟩=some (I0 d.q.v)/\W.cell? ⟨b,off+i*13+8,none⟩=some (I0 d.q.f)/\W.cell? ⟨b,off+i*13+9,none⟩=some (I0 d.lo)/\W.cell? ⟨b,off+i*13+10,none⟩=some (I0 d.sl)/\W.cell? ⟨b,off+i*13+11,none⟩=some (I0 d.ke)/\W.cell? ⟨b,off+i*13+12,none⟩=some (.bool d.wt):=by
 obtain⟨b',off',cap',he,_,hr,_,_,_⟩:=VR hv hd;simp only[Value.slice.injEq,Option.some.injEq,Addr.mk.injEq,and_true]at he;obtain⟨⟨rfl,rfl⟩,_,_⟩:=he;have h:∀ (j:Nat) (v:Value),j<13->(Lay.cs d)[j]?=some v->W.cell? ⟨b,off+i*13+j,none⟩=some v:=fun j v hj hv=>by
  rw[Nat.add_assoc];exact hr (i*13+j) v ((AZ ds i d hd j hj).trans hv)
 exact⟨⟨h 0 _ (by omega) rfl,h 1 _ (by omega) rfl,h 2 _ (by omega) rfl,h 3 _ (by omega) rfl,h 4 _ (by omega) rfl,h 5 _ (by omega) rfl,h 6 _ (by omega) rfl⟩,h 7 _ (by omega) rfl,h 8 _ (by omega) rfl,h 9 _ (by omega) rfl,h 10 _ (by omega) rfl,h 11 _ (by omega) rfl,h 12 _ (by omega) rfl⟩
theorem iG(p:Pw)(k:Nat)(W:World)(hx:WX W k p)(hD:p.D.length<=300):Calls prog 8 #[wP k] W fun e w'=>∃a c,e=.returned (.slice a p.D.length c)/\BD w' W.heap.size (.slice a p.D.length c) p.D/\B0 W w':=by
 obtain⟨ua,uc,d82,hdv⟩:=hx.ack;have CC:=AA (mO (.slice ua p.D.length uc) p.D W hdv (by omega));clear hx hdv;unfold wP;go_enter func8,ntmps8;go_wp2_with fail;refine(A8 CC).mono ?_;rintro e w1 ⟨v1,rfl,ho,hb⟩;obtain⟨a1,c1,rfl⟩:=BN ho;have HO:=AA (And.intro ho hb);clear ho hb CC;go_wp2_with fail;go_ret;exact⟨a1,c1,rfl,(A8 HO).1,(A8 HO).2⟩
theorem uO(W:World)(hT:VQ W):Calls prog 22 #[] W (R0 W (.bool true)):=by
 have HT:=AA hT;have CN:=AA (zT W);clear hT;have hfd:∀ (x0 x1 x2 x3 x4 x5 x6 x7 x8 x9 x10 x11:Value) (w:World),(Instr.field 65 (.agg #[x0,x1,x2,x3,x4,x5,x6,x7,x8,x9,x10,x11]) 0).run prog w=.ok x0 w:=fun _ _ _ _ _ _ _ _ _ _ _ _ _=>by kernel_rfl
 go_enter func22,ntmps22;go_wp2_with fail;refine(A8 CN).mono ?_;rintro e w1 ⟨rfl,hx1,hb1⟩;have P1:=AA (vC.start (A8 HT) (Below.refl _ _) hb1 hx1);clear hx1 hb1 CN HT;obtain⟨f,c,h1,hf,hc⟩:=BN2 W.heap.size;have i1:=WR dEl (MH W.heap.size);have C1:=AA (iE (pw0 W.heap.size) dEl W.heap.size w1 (A8 P1).x rfl (A8 P1).t (MH W.heap.size) (by simp[dEl]) (by simp[dEl]));rw[h1]at C1 i1;obtain⟨t,ns,p2,h2,hD⟩:=BN3 (k:=W.heap.size) hf hc;have C2:=AA (fun V hx hT=>iE ⟨1,f,eR (pw0 W.heap.size).s,c,[],[],W.heap.size⟩ dOp W.heap.size V hx rfl hT i1 (by simp[dOp]) (by simp[dOp]));rw[h2]at C2;have CL:=AA (fun V hx=>MF ⟨1,f,eR (pw0 W.heap.size).s,c,[],[],W.heap.size⟩ W.heap.size V hx);have CA:=AA (fun V hx=>iG p2 W.heap.size V hx (by omega));simp only[show ldP (eR (pw0 W.heap.size).s)=2 from rfl]at CL;rw[hD]at CA;clear h1 h2 i1 hf hc hD;generalize eR (pw0 W.heap.size).s=ro at*;simp only[wP,ddV,dEl,nd0]at C1;simp only[wP,ddV,dOp]at C2;unfold wP at CL CA⊢;go_wp2_with fail;refine(A8 C1).mono ?_;rintro e w2 ⟨u2,rfl,ho2,ht2,hx2⟩;obtain⟨a2,c2,rfl⟩:=BN ho2;have P2:=AA ((A8 P1).turn ht2 hx2);clear ho2 ht2 hx2 C1 P1;unfold rpV;go_wp2_with fail;refine(A8 CL _ (A8 P2).x).mono ?_;rintro e w3 ⟨rfl,hb3⟩;have P3:=AA ((A8 P2).next hb3);clear hb3 CL P2;go_wp2_with fail;refine(A8 C2 _ (A8 P3).x (A8 P3).t).mono ?_;rintro e w4 ⟨u4,rfl,ho4,ht4,hx4⟩;obtain⟨a4,c4,rfl⟩:=BN ho4;have P4:=AA (fun O=>((A8 P3).turn ht4 hx4).next (AB w4 O));clear ho4 ht4 hx4 C2 P3;unfold rpV;go_wp2_with fail;refine(A8 CA _ (A8 P4 _).x).mono ?_;rintro e w5 ⟨a5,c5,rfl,_,hb5⟩;have P5:=AA ((A8 P4 _).next hb5);clear hb5 CA P4;go_wp2_with fail;go_ret;exact⟨rfl,(A8 P5).b⟩
theorem kZ(ds:List Dd)(v:Value)(W:World)(hv:BQ W v ds)(hm:∀d∈ds,d.q.p.length<=140737488355328/\d.q.d.length<=140737488355328)(hT:VQ W)
  (L:∀k V i d u,ds[i]?=some d->WX V k (doP (JO (pw0 k) (ds.take i)) d).2->BD V (k+1) u (doP (JO (pw0 k) (ds.take i)) d).1.ns->Calls prog 7 #[wP k,ddV d,rpV (doP (JO (pw0 k) (ds.take i)) d).1 u] V (R0 V (.bool true))):
  Calls prog 6 #[v,.func (.func 7) #[] #[]] W fun e w'=>∃k,e=.returned (.tuple #[wP k,.bool true])/\vC W k (JO (pw0 k) (ds.take 100)) w':=by
 have HV:=AA hv;have HM:=AA hm;have HT:=AA hT;have HL:=AA L;have CA:=AA (fun V hV=>uO V hV);have CN:=AA (fun V=>zT V);obtain⟨va,vc,rfl⟩:=AU hv;clear hv hm hT L;go_enter func6,ntmps6;go_wp2_with fail;refine(A8 CA _ (A8 HT)).mono ?_;rintro e w1 ⟨rfl,hb1⟩;have B1:=AA hb1;clear hb1 CA;go_wp2_with fail;refine(A8 CN _).mono ?_;rintro e w2 ⟨rfl,hx2,hb2⟩;have H0:=AA (vC.start (A8 HT) (A8 B1) hb2 hx2);clear hb2 hx2 B1 HT CN;generalize w1.heap.size=k at*;unfold wP;go_wp2_with fail
 go_loopg [7] (min ds.length 100) (fun kx s7 wr=>∃i:Nat,s7=I0 i/\i<=min ds.length 100/\min ds.length 100-i<=kx/\Hid (vC W k (JO (pw0 k) (ds.take i)) wr))
 case atStart=>exact⟨0,rfl,by omega,by omega,H0⟩
 case round=>
  obtain⟨i,rfl,hi,hg,HI⟩:=hrel;by_cases hlt:i<ds.length
  .by_cases hlh:i<100
   .have hl1:(i:Int)<(ds.length:Int):=by omega
    have hl2:(i:Int)<100:=by omega
    obtain⟨d,hd⟩:∃d,ds[i]?=some d:=⟨_,List.getElem?_eq_getElem hlt⟩;obtain⟨b,off,cap,he,hb,_,_,_,_⟩:=VR (A8 HV) hd;simp only[Value.slice.injEq,true_and]at he;obtain⟨rfl,rfl⟩:=he;have HC:=AA (fun V (hV:B0 W V)=>BS4 ((A8 HV).next hV) hd);have hmd:=A8 HM d (List.mem_of_getElem? hd);have CD:=AA (iE (JO (pw0 k) (ds.take i)) d k wr (A8 HI).x (uM _ _) (A8 HI).t (QO _ _ (MH k)) hmd.1 hmd.2);have CK0:=AA (fun V u=>A8 HL k V i d u hd);have HS:=AA (uN (pw0 k) hd);obtain⟨⟨e0,e1,e2,e3,e4,e5,e6⟩,e7,e8,e9,e10,e11,e12⟩:=A8 HC wr (A8 HI).b;have hmin:i+1<=min ds.length 100:=by omega
    clear hmd hd;unfold wP ddV at CD;generalize hx0:doP (JO (pw0 k) (ds.take i)) d=x0 at*;obtain⟨r,q⟩:=x0;clear hx0;simp only at CK0 HS;go_wp2_with fail;refine(A8 CD).mono ?_;rintro e w3 ⟨u,rfl,ho,ht,hx⟩;obtain⟨na,nc,rfl⟩:=BN ho;have R2:Hid (RpX (w3.alloc (.cells #[I0 r.E,I0 r.z,S0 r.p,S0 r.d,I0 r.t.c,I0 r.t.m,I0 r.t.q,I0 r.t.v,I0 r.t.k,I0 r.t.o,I0 r.t.n,.slice na r.ns.length nc] 65)) w3.heap.size r (.slice na r.ns.length nc)):=AA (heap_alloc_last _ _);have HN:=AA (((A8 HI).turn ht hx).next (AB w3 (.cells #[I0 r.E,I0 r.z,S0 r.p,S0 r.d,I0 r.t.c,I0 r.t.m,I0 r.t.q,I0 r.t.v,I0 r.t.k,I0 r.t.o,I0 r.t.n,.slice na r.ns.length nc] 65)));have HO:=AA ((ho.lower (C:=k+1) (A8 HI).x.lt).next (AB w3 (.cells #[I0 r.E,I0 r.z,S0 r.p,S0 r.d,I0 r.t.c,I0 r.t.m,I0 r.t.q,I0 r.t.v,I0 r.t.k,I0 r.t.o,I0 r.t.n,.slice na r.ns.length nc] 65)));rw[<-A8 HS]at HN;clear e0 e1 e2 e3 e4 e5 e6 e7 e8 e9 e10 e11 e12 ho ht CD;unfold rpV;go_upto_region 8 with fail;generalize w3.alloc _=W2 at*;generalize w3.heap.size=g at*;have HKS:Hid (∀V,B0 W2 V->V.cell? ⟨b,off+i*13,none⟩=some (I0 d.k)/\V.cell? ⟨b,off+i*13+1,none⟩=some (I0 d.c)/\V.cell? ⟨b,off+i*13+2,none⟩=some (I0 d.s)/\V.cell? ⟨b,off+i*13+3,none⟩=some (I0 d.q.o)/\V.cell? ⟨b,off+i*13+4,none⟩=some (I0 d.q.s)/\V.cell? ⟨b,off+i*13+5,none⟩=some (S0 d.q.p)/\V.cell? ⟨b,off+i*13+6,none⟩=some (S0 d.q.d)/\V.cell? ⟨b,off+i*13+7,none⟩=some (I0 d.q.v)/\V.cell? ⟨b,off+i*13+8,none⟩=some (I0 d.q.f)/\V.cell? ⟨b,off+i*13+9,none⟩=some (I0 d.lo)/\V.cell? ⟨b,off+i*13+10,none⟩=some (I0 d.sl)/\V.cell? ⟨b,off+i*13+11,none⟩=some (I0 d.ke)/\V.cell? ⟨b,off+i*13+12,none⟩=some (.bool d.wt)/\V.cell? ⟨g,0,none⟩=some (I0 r.E)/\V.cell? ⟨g,1,none⟩=some (I0 r.z)/\V.cell? ⟨g,2,none⟩=some (S0 r.p)/\V.cell? ⟨g,3,none⟩=some (S0 r.d)/\V.cell? ⟨g,4,none⟩=some (I0 r.t.c)/\V.cell? ⟨g,5,none⟩=some (I0 r.t.m)/\V.cell? ⟨g,6,none⟩=some (I0 r.t.q)/\V.cell? ⟨g,7,none⟩=some (I0 r.t.v)/\V.cell? ⟨g,8,none⟩=some (I0 r.t.k)/\V.cell? ⟨g,9,none⟩=some (I0 r.t.o)/\V.cell? ⟨g,10,none⟩=some (I0 r.t.n)/\V.cell? ⟨g,11,none⟩=some (.slice na r.ns.length nc)):=AA fun V hV=>by
     obtain⟨⟨e0,e1,e2,e3,e4,e5,e6⟩,e7,e8,e9,e10,e11,e12⟩:=A8 HC V (AL (A8 HN).b hV);obtain⟨r0,r1,r2,r3,r4,r5,r6,r7,r8,r9,r10,r11⟩:=RpX.cells (W:=V) ((hV.block g (A8 R2).lt).trans (A8 R2));exact⟨e0,e1,e2,e3,e4,e5,e6,e7,e8,e9,e10,e11,e12,r0,r1,r2,r3,r4,r5,r6,r7,r8,r9,r10,r11⟩
    have CK:=AA (fun V (hV:B0 W2 V)=>A8 CK0 V (.slice na r.ns.length nc) (by have:=((A8 HN).next hV).x;rw[A8 HS]at this;exact this) ((A8 HO).next hV));unfold wP ddV rpV at CK;clear CK0 HO R2 HC hx HI;have hS0:=A8 HKS _ (Below.refl W2.heap.size W2).drew;refine wp_region_held (S:=fun V:World=>V.cell? ⟨b,off+i*13,none⟩=some (I0 d.k)/\V.cell? ⟨b,off+i*13+1,none⟩=some (I0 d.c)/\V.cell? ⟨b,off+i*13+2,none⟩=some (I0 d.s)/\V.cell? ⟨b,off+i*13+3,none⟩=some (I0 d.q.o)/\V.cell? ⟨b,off+i*13+4,none⟩=some (I0 d.q.s)/\V.cell? ⟨b,off+i*13+5,none⟩=some (S0 d.q.p)/\V.cell? ⟨b,off+i*13+6,none⟩=some (S0 d.q.d)/\V.cell? ⟨b,off+i*13+7,none⟩=some (I0 d.q.v)/\V.cell? ⟨b,off+i*13+8,none⟩=some (I0 d.q.f)/\V.cell? ⟨b,off+i*13+9,none⟩=some (I0 d.lo)/\V.cell? ⟨b,off+i*13+10,none⟩=some (I0 d.sl)/\V.cell? ⟨b,off+i*13+11,none⟩=some (I0 d.ke)/\V.cell? ⟨b,off+i*13+12,none⟩=some (.bool d.wt)/\V.cell? ⟨g,0,none⟩=some (I0 r.E)/\V.cell? ⟨g,1,none⟩=some (I0 r.z)/\V.cell? ⟨g,2,none⟩=some (S0 r.p)/\V.cell? ⟨g,3,none⟩=some (S0 r.d)/\V.cell? ⟨g,4,none⟩=some (I0 r.t.c)/\V.cell? ⟨g,5,none⟩=some (I0 r.t.m)/\V.cell? ⟨g,6,none⟩=some (I0 r.t.q)/\V.cell? ⟨g,7,none⟩=some (I0 r.t.v)/\V.cell? ⟨g,8,none⟩=some (I0 r.t.k)/\V.cell? ⟨g,9,none⟩=some (I0 r.t.o)/\V.cell? ⟨g,10,none⟩=some (I0 r.t.n)/\V.cell? ⟨g,11,none⟩=some (.slice na r.ns.length nc)) (by kernel_rfl) ?_;change wpAnyH _ _ _ _ _ _ _ _ W2.drew;refine tkH 0 hS0 ?_;refine tkH 1 hS0 ?_;refine tkH 2 hS0 ?_;refine tkH 3 hS0 ?_;refine tkH 4 hS0 ?_;refine tkH 5 hS0 ?_;refine tkH 6 hS0 ?_;refine rd1 7 (fun K hK=>?_);go_simp;refine(A8 CK _ (Below.refl _ _).drew).mono ?_;rintro e w3 ⟨rfl,hb3⟩;have HB:=AA (AL (Below.refl W2.heap.size W2).drew hb3);have hS1:=A8 HKS _ (A8 HB);clear hb3;refine nxH hK hS1 ?_;clear hK K;refine tkH 8 hS1 ?_;refine wpAnyH_done (by kernel_rfl) ?_ _;go_wp2_with fail
    go_roundg (min ds.length 100-(i+1))
    case measure=>omega
    case rel=>exact⟨i+1,by simp,by omega,Nat.le_refl _,AA ((A8 HN).next (A8 HB))⟩
   .obtain rfl:i=100:=by omega
    have hl1:((100:Nat):Int)<(ds.length:Int):=by omega
    have HF:=HI;clear HI;go_wp2_with fail;exact bodyPost_ret (v:=.tuple #[P0 k,.bool true]) (by simp[results,results6,go_sem]) rfl ⟨k,rfl,A8 HF⟩
  .obtain rfl:i=ds.length:=by omega
   have HF:=HI;have hle:ds.length<=100:=by omega
   rw[List.take_of_length_le (Nat.le_refl _),<-List.take_of_length_le hle]at HF;clear HI;go_wp2_with fail;exact bodyPost_ret (v:=.tuple #[P0 k,.bool true]) (by simp[results,results6,go_sem]) rfl ⟨k,rfl,A8 HF⟩
