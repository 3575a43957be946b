/-
  Part.
-/
import Derived.Test.YtbaacalmgfkojaaGreatDoorLOAE
import Derived.Test.YtbaacalmgfkojaaGreatDoorLOAG
set_option maxRecDepth 20000
set_option maxHeartbeats 8000000
namespace Go.Proofs.YtbaacalmgfkojaaGreatDoor
open Go.RowKit Go.Proofs.Tryz
open Go.Value renaming slice->FQ
open Go renaming World->FU,Value->FV
open _root_.Option renaming none->FX,some->FZ
variable{w W:FU}
structure BN6(w W:FU)(q:Nat)(n:Nd):Prop where
 b:B0 w W
 le:w.heap.size<=q
 one:JM W q n
theorem AC2(p d:List UInt8)(c m q v k o n:Int)(hb:B0 w W):BN6 w (W.alloc (.cells #[S0 p,S0 d,I0 c,I0 m,I0 q,I0 v,I0 k,I0 o,I0 n] 69)) W.heap.size ⟨p,d,c,m,q,v,k,o,n⟩:=
 ⟨G8 hb (G7 _ _),hb.size,qC W ⟨p,d,c,m,q,v,k,o,n⟩⟩
theorem rF{b:Nat}(p d:List UInt8)(c m q v k o n:Int)(hb:B0 w W)(hq:w.heap.size<=b)(hz:JM W b VJ):
  BN6 w (((((((((W.setCell ⟨b,0,FX⟩ (S0 p)).setCell ⟨b,1,FX⟩ (S0 d)).setCell ⟨b,2,FX⟩ (I0 c)).setCell ⟨b,3,FX⟩ (I0 m)).setCell ⟨b,4,FX⟩ (I0 q)).setCell ⟨b,5,FX⟩ (I0 v)).setCell ⟨b,6,FX⟩ (I0 k)).setCell ⟨b,7,FX⟩ (I0 o)).setCell ⟨b,8,FX⟩ (I0 n)) b ⟨p,d,c,m,q,v,k,o,n⟩:=by
 refine⟨((((((((hb.setCell hq _).setCell hq _).setCell hq _).setCell hq _).setCell hq _).setCell hq _).setCell hq _).setCell hq _).setCell hq _,hq,?_⟩;have h0:W.heap[b]?=FZ (.cells #[.string ⟨#[]⟩,.string ⟨#[]⟩,I0 0,I0 0,I0 0,I0 0,I0 0,I0 0,I0 0] 69 (0,0)):=hz;unfold JM;rw[GL _ (GL _ (GL _ (GL _ (GL _ (GL _ (GL _ (GL _ (GL _ h0))))))))];simp;exact⟨rfl,rfl⟩
theorem rG{q:Nat}(h:JM W q VJ):(W.cell? ⟨q,0,FX⟩=FZ (.string ⟨#[]⟩)/\W.cell? ⟨q,1,FX⟩=FZ (.string ⟨#[]⟩)/\W.cell? ⟨q,2,FX⟩=FZ (I0 0)/\W.cell? ⟨q,3,FX⟩=FZ (I0 0)/\W.cell? ⟨q,4,FX⟩=FZ (I0 0)/\W.cell? ⟨q,5,FX⟩=FZ (I0 0)/\W.cell? ⟨q,6,FX⟩=FZ (I0 0)/\W.cell? ⟨q,7,FX⟩=FZ (I0 0)/\W.cell? ⟨q,8,FX⟩=FZ (I0 0))/\W.frozen? ⟨q,0,FX⟩=false/\W.frozen? ⟨q,1,FX⟩=false/\W.frozen? ⟨q,2,FX⟩=false/\W.frozen? ⟨q,3,FX⟩=false/\W.frozen? ⟨q,4,FX⟩=false/\W.frozen? ⟨q,5,FX⟩=false/\W.frozen? ⟨q,6,FX⟩=false/\W.frozen? ⟨q,7,FX⟩=false/\W.frozen? ⟨q,8,FX⟩=false:=
 ⟨⟨h.JH 0 _ rfl,h.JH 1 _ rfl,h.JH 2 _ rfl,h.JH 3 _ rfl,h.JH 4 _ rfl,h.JH 5 _ rfl,h.JH 6 _ rfl,h.JH 7 _ rfl,h.JH 8 _ rfl⟩,h.J6 0,h.J6 1,h.J6 2,h.J6 3,h.J6 4,h.J6 5,h.J6 6,h.J6 7,h.J6 8⟩
structure BT5(w W:FU)(q:Nat)(s z:Int)(v:FV)(es:List En):Prop where
 b:B0 w W
 le:w.heap.size<=q
 box:NW W q s z v
 v:IL W v es
theorem AC3{B:Nat}{s z:Int}{v:FV}{es:List En}(h:B0 w W)(ho:GZ W B v es):BT5 w (W.alloc (.cells #[I0 s,I0 z,v] 66)) W.heap.size s z v es:=
 ⟨G8 h (G7 _ _),h.size,NW.new W s z v,(ho.next (G7 _ _)).seq⟩
theorem AC4{k B:Nat}{v0:FV}{s z:Int}{v:FV}{es:List En}(h:B0 w W)(hk:w.heap.size<=k)(hz:NW W k 0 0 v0)(ho:GZ W B v es)(hB:k<B):BT5 w (((W.setCell ⟨k,0,FX⟩ (I0 s)).setCell ⟨k,1,FX⟩ (I0 z)).setCell ⟨k,2,FX⟩ v) k s z v es:=
 ⟨((h.setCell hk _).setCell hk _).setCell hk _,hk,(hz.set0.set1).set2,(((ho.OL hB _).OL hB _).OL hB _).seq⟩
def QN(s z:Nat->Int)(a:Nat->Option Addr)(n c:Nat->Nat):Array FV:=#[I0 (s 0),I0 (z 0),FQ (a 0) (n 0) (c 0),I0 (s 1),I0 (z 1),FQ (a 1) (n 1) (c 1),I0 (s 2),I0 (z 2),FQ (a 2) (n 2) (c 2),I0 (s 3),I0 (z 3),FQ (a 3) (n 3) (c 3),I0 (s 4),I0 (z 4),FQ (a 4) (n 4) (c 4),I0 (s 5),I0 (z 5),FQ (a 5) (n 5) (c 5),I0 (s 6),I0 (z 6),FQ (a 6) (n 6) (c 6),I0 (s 7),I0 (z 7),FQ (a 7) (n 7) (c 7),I0 (s 8),I0 (z 8),FQ (a 8) (n 8) (c 8),I0 (s 9),I0 (z 9),FQ (a 9) (n 9) (c 9),I0 (s 10),I0 (z 10),FQ (a 10) (n 10) (c 10),I0 (s 11),I0 (z 11),FQ (a 11) (n 11) (c 11),I0 (s 12),I0 (z 12),FQ (a 12) (n 12) (c 12),I0 (s 13),I0 (z 13),FQ (a 13) (n 13) (c 13),I0 (s 14),I0 (z 14),FQ (a 14) (n 14) (c 14),I0 (s 15),I0 (z 15),FQ (a 15) (n 15) (c 15)]
theorem ix_0(s z:Nat->Int)(a:Nat->Option Addr)(n c:Nat->Nat):∀u:FU,(Instr.index 83 (.agg (QN s z a n c)) (I0 0)).run prog u=.ok (.agg #[I0 (s 0),I0 (z 0),FQ (a 0) (n 0) (c 0)]) u:=fun _=>by kernel_rfl
theorem ix_1(s z:Nat->Int)(a:Nat->Option Addr)(n c:Nat->Nat):∀u:FU,(Instr.index 83 (.agg (QN s z a n c)) (I0 1)).run prog u=.ok (.agg #[I0 (s 1),I0 (z 1),FQ (a 1) (n 1) (c 1)]) u:=fun _=>by kernel_rfl
theorem ix_2(s z:Nat->Int)(a:Nat->Option Addr)(n c:Nat->Nat):∀u:FU,(Instr.index 83 (.agg (QN s z a n c)) (I0 2)).run prog u=.ok (.agg #[I0 (s 2),I0 (z 2),FQ (a 2) (n 2) (c 2)]) u:=fun _=>by kernel_rfl
theorem ix_3(s z:Nat->Int)(a:Nat->Option Addr)(n c:Nat->Nat):∀u:FU,(Instr.index 83 (.agg (QN s z a n c)) (I0 3)).run prog u=.ok (.agg #[I0 (s 3),I0 (z 3),FQ (a 3) (n 3) (c 3)]) u:=fun _=>by kernel_rfl
theorem ix_4(s z:Nat->Int)(a:Nat->Option Addr)(n c:Nat->Nat):∀u:FU,(Instr.index 83 (.agg (QN s z a n c)) (I0 4)).run prog u=.ok (.agg #[I0 (s 4),I0 (z 4),FQ (a 4) (n 4) (c 4)]) u:=fun _=>by kernel_rfl
theorem ix_5(s z:Nat->Int)(a:Nat->Option Addr)(n c:Nat->Nat):∀u:FU,(Instr.index 83 (.agg (QN s z a n c)) (I0 5)).run prog u=.ok (.agg #[I0 (s 5),I0 (z 5),FQ (a 5) (n 5) (c 5)]) u:=fun _=>by kernel_rfl
theorem ix_6(s z:Nat->Int)(a:Nat->Option Addr)(n c:Nat->Nat):∀u:FU,(Instr.index 83 (.agg (QN s z a n c)) (I0 6)).run prog u=.ok (.agg #[I0 (s 6),I0 (z 6),FQ (a 6) (n 6) (c 6)]) u:=fun _=>by kernel_rfl
theorem ix_7(s z:Nat->Int)(a:Nat->Option Addr)(n c:Nat->Nat):∀u:FU,(Instr.index 83 (.agg (QN s z a n c)) (I0 7)).run prog u=.ok (.agg #[I0 (s 7),I0 (z 7),FQ (a 7) (n 7) (c 7)]) u:=fun _=>by kernel_rfl
theorem ix_8(s z:Nat->Int)(a:Nat->Option Addr)(n c:Nat->Nat):∀u:FU,(Instr.index 83 (.agg (QN s z a n c)) (I0 8)).run prog u=.ok (.agg #[I0 (s 8),I0 (z 8),FQ (a 8) (n 8) (c 8)]) u:=fun _=>by kernel_rfl
theorem ix_9(s z:Nat->Int)(a:Nat->Option Addr)(n c:Nat->Nat):∀u:FU,(Instr.index 83 (.agg (QN s z a n c)) (I0 9)).run prog u=.ok (.agg #[I0 (s 9),I0 (z 9),FQ (a 9) (n 9) (c 9)]) u:=fun _=>by kernel_rfl
theorem CQ4(s z:Nat->Int)(a:Nat->Option Addr)(n c:Nat->Nat):∀u:FU,(Instr.index 83 (.agg (QN s z a n c)) (I0 10)).run prog u=.ok (.agg #[I0 (s 10),I0 (z 10),FQ (a 10) (n 10) (c 10)]) u:=fun _=>by kernel_rfl
theorem CQ5(s z:Nat->Int)(a:Nat->Option Addr)(n c:Nat->Nat):∀u:FU,(Instr.index 83 (.agg (QN s z a n c)) (I0 11)).run prog u=.ok (.agg #[I0 (s 11),I0 (z 11),FQ (a 11) (n 11) (c 11)]) u:=fun _=>by kernel_rfl
theorem CQ6(s z:Nat->Int)(a:Nat->Option Addr)(n c:Nat->Nat):∀u:FU,(Instr.index 83 (.agg (QN s z a n c)) (I0 12)).run prog u=.ok (.agg #[I0 (s 12),I0 (z 12),FQ (a 12) (n 12) (c 12)]) u:=fun _=>by kernel_rfl
theorem CQ7(s z:Nat->Int)(a:Nat->Option Addr)(n c:Nat->Nat):∀u:FU,(Instr.index 83 (.agg (QN s z a n c)) (I0 13)).run prog u=.ok (.agg #[I0 (s 13),I0 (z 13),FQ (a 13) (n 13) (c 13)]) u:=fun _=>by kernel_rfl
theorem CQ8(s z:Nat->Int)(a:Nat->Option Addr)(n c:Nat->Nat):∀u:FU,(Instr.index 83 (.agg (QN s z a n c)) (I0 14)).run prog u=.ok (.agg #[I0 (s 14),I0 (z 14),FQ (a 14) (n 14) (c 14)]) u:=fun _=>by kernel_rfl
theorem CQ9(s z:Nat->Int)(a:Nat->Option Addr)(n c:Nat->Nat):∀u:FU,(Instr.index 83 (.agg (QN s z a n c)) (I0 15)).run prog u=.ok (.agg #[I0 (s 15),I0 (z 15),FQ (a 15) (n 15) (c 15)]) u:=fun _=>by kernel_rfl
theorem CI9(s z:Nat->Int)(a:Nat->Option Addr)(n c:Nat->Nat)(m:Nat)(hm:m<16)(u:FU):(Instr.index 83 (.agg (QN s z a n c)) (I0 m)).run prog u=.ok (.agg #[I0 (s m),I0 (z m),FQ (a m) (n m) (c m)]) u:=by
 rcases(show m=0\/m=1\/m=2\/m=3\/m=4\/m=5\/m=6\/m=7\/m=8\/m=9\/m=10\/m=11\/m=12\/m=13\/m=14\/m=15 by omega)with rfl|rfl|rfl|rfl|rfl|rfl|rfl|rfl|rfl|rfl|rfl|rfl|rfl|rfl|rfl|rfl
 .exact ix_0 s z a n c u
 .exact ix_1 s z a n c u
 .exact ix_2 s z a n c u
 .exact ix_3 s z a n c u
 .exact ix_4 s z a n c u
 .exact ix_5 s z a n c u
 .exact ix_6 s z a n c u
 .exact ix_7 s z a n c u
 .exact ix_8 s z a n c u
 .exact ix_9 s z a n c u
 .exact CQ4 s z a n c u
 .exact CQ5 s z a n c u
 .exact CQ6 s z a n c u
 .exact CQ7 s z a n c u
 .exact CQ8 s z a n c u
 .exact CQ9 s z a n c u
theorem WX.BO2{k:Nat}{p:Pw}(h:WX W k p){c:Nat->Cl}(he:∀i,i<16->p.c i=c i):WX W k ⟨p.n,p.s,p.r,c,p.D,p.H,p.h⟩:=by
 obtain⟨f,hb,hr⟩:=h;exact⟨f,hb,hr.n,hr.s,hr.r,fun i hi=>by have:=hr.c i hi;rw[he i hi]at this;exact this,hr.d,hr.h,hr.hk⟩
def rH(c:Nat->Cl)(l:List Nt)(m:Nat):Nat->Cl:=fun i=>if i<m then YU c l i else c i
theorem B72(c:Nat->Cl)(l:List Nt){i:Nat}(hi:i<16):rH c l 16 i=YU c l i:=by rw[rH,if_pos hi]
theorem oG(c:Nat->Cl)(l:List Nt)(m i:Nat):LU (rH c l m) m ⟨(c m).s,(c m).z,SK (c m).s l (c m).es⟩ i=rH c l (m+1) i:=by
 by_cases e:i=m
 .subst e;rw[II,rH,if_pos (by omega)];rfl
 .rw[GH _ _ e,rH,rH];by_cases h:i<m
  .rw[if_pos h,if_pos (by omega)]
  .rw[if_neg h,if_neg (by omega)]
structure TlI(W wr wx:FU)(k:Nat)(p:Pw)(R1:Nat->Ps)(NN:List Nt)(vn:FV)(m:Nat):Prop where
 x:WX wx k ⟨p.n,R1,p.r,rH p.c NN m,p.D,p.H,p.h⟩
 n:GZ wx W.heap.size vn NN
 t:Touch (· =k) W wx
 r:Touch (· =k) wr wx
theorem BO3(s z:Nat->Int)(a:Nat->Option Addr)(n c:Nat->Nat)(m:Nat)(hm:m<16):(QN s z a n c)[3*m]?=FZ (I0 (s m))/\(QN s z a n c)[3*m+1]?=FZ (I0 (z m))/\(QN s z a n c)[3*m+2]?=FZ (FQ (a m) (n m) (c m)):=by
 rcases(show m=0\/m=1\/m=2\/m=3\/m=4\/m=5\/m=6\/m=7\/m=8\/m=9\/m=10\/m=11\/m=12\/m=13\/m=14\/m=15 by omega)with rfl|rfl|rfl|rfl|rfl|rfl|rfl|rfl|rfl|rfl|rfl|rfl|rfl|rfl|rfl|rfl<;>exact⟨rfl,rfl,rfl⟩
theorem AM9(w:FU)(k:Nat)(s z:Nat->Int)(a:Nat->Option Addr)(n c:Nat->Nat)(hc:∀m,m<16->w.cell? ⟨k,34+3*m,FX⟩=FZ (I0 (s m))/\w.cell? ⟨k,34+3*m+1,FX⟩=FZ (I0 (z m))/\w.cell? ⟨k,34+3*m+2,FX⟩=FZ (FQ (a m) (n m) (c m))):
  (Instr.loadAt 83 (.pointer (FZ ⟨k,34,FX⟩))).run prog w=.ok (.agg (QN s z a n c)) w:=by
 have hl:=run_loadCells_list (P:=prog) (w:=w) ⟨k,34,FX⟩ (QN s z a n c).toList (fun j v hj=>by
  have hj48:j<48:=by
   have:=(List.getElem?_eq_some_iff.1 hj).1;simpa [QN]using this
  rw[Array.getElem?_toList]at hj;have h:=BO3 s z a n c (j/3) (by omega);have hw:=hc (j/3) (by omega);rw[Addr.add_lit];show w.cell? ⟨k,34+j,FX⟩=FZ v;rcases(show j=3*(j/3)\/j=3*(j/3)+1\/j=3*(j/3)+2 by omega)with e|e|e
  .rw[e]at hj⊢;rw[h.1]at hj;rw[<-hj];exact hw.1
  .rw[e]at hj⊢;rw[h.2.1]at hj;rw[<-hj,<-Nat.add_assoc];exact hw.2.1
  .rw[e]at hj⊢;rw[h.2.2]at hj;rw[<-hj,<-Nat.add_assoc];exact hw.2.2)
 have h48:(QN s z a n c).toList.length=48:=rfl;rw[h48]at hl;simp only[Instr.loadAt,Instr.sureAddr,Sem.run_bind,Sem.run_pure,Result.andThen];unfold loadVar;simp only[Sem.run_bind,isAgg83,sizeOf83,Result.andThen,if_true];rw[hl];rfl
theorem rJ{w:FU}{ops:Array Oper}{rest:List Oper}{o:Oper}{a:Act}{Q:Exit->Act->FU->Prop}(hgd:o.guard=FX)(x:Operand)(ho:o.op=.load 83 x)(k:Nat)(s z:Nat->Int)(ad:Nat->Option Addr)(n c:Nat->Nat)
  (hx:a.eval x=.pointer (FZ ⟨k,34,FX⟩)) (hc:∀m,m<16->w.cell? ⟨k,34+3*m,FX⟩=FZ (I0 (s m))/\w.cell? ⟨k,34+3*m+1,FX⟩=FZ (I0 (z m))/\w.cell? ⟨k,34+3*m+2,FX⟩=FZ (FQ (ad m) (n m) (c m)))
  (h:wpList prog ops Q rest (a.put o.dst (.agg (QN s z ad n c))) w):wpList prog ops Q (o::rest) a w:=by
 refine wpList_plain hgd fun K hK=>?_;have hr:=AM9 w k s z ad n c hc;unfold Oper.wp execOp;simp only[ho,Sem.run_bind,Sem.run_pure,Result.andThen_ok,hx,hr];exact hK _ _ h
