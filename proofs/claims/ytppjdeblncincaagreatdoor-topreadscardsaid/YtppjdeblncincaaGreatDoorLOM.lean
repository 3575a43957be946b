/-
  Part.
-/
import Derived.Test.YtppjdeblncincaaGreatDoorLOL
import Derived.Test.YtppjdeblncincaaGreatDoorLOF
set_option maxRecDepth 20000
set_option maxHeartbeats 8000000
namespace Go.Proofs.YtppjdeblncincaaGreatDoor
open Go.RowKit Go.Proofs.Tryz
open _root_.Nat renaming le_refl->A8,zero_le->AZ,zero_add->BJ
open Go.RowKit.Below renaming refl->AA
open _root_.List renaming getElem?_eq_getElem->AO,length_append->AP,take_length->DW,length_take->F8
open Go.Value.slice renaming injEq->AQ
open _root_.Option.some renaming injEq->BF,inj->BP
open Go.Addr.mk renaming injEq->EU
open Go.Value renaming slice->FU
open Go.Obj renaming cells->FV
open Go renaming World->FW,Value->FX,Calls->FZ
open _root_.Option renaming none->G5,some->G6
theorem C43(F:Nat->Prop)(b:Nat)(z:Int)(vn vs ve:FX)(ns A B:List Nd)(ss:List Int)(es:List Ev)(x:GN)(w:FW)
  (h:Grow w F b z vn vs ve ns ss es) (G:nM ns A B x.p) (hl:ns.length<=400):
  FZ prog 200 #[P0 b,J9 x] w fun e w'=>e=.returned (I0 7)/\Touch F w w':=by
 obtain⟨xz,xo,xs,xp,xd,xv,xw⟩:=x;simp only at G;have CF:=fun W (hW:B0 w W)=>NI vn ns A B xp W (h.n.next hW).seq (by omega) G;have c1:=h.c1;have hbl:=h.lt;obtain⟨na,nc,rfl,_⟩:=h.n.slice;clear h G;unfold J9;go_enter func200,ntmps200;go_wp2_with fail
 go_region_law (first
  |(go_simp;refine(CF _ (by first|exact((AA w.heap.size w).alloc (A8 _) _).drew|exact(AA w.heap.size w).alloc (A8 _) _)).mono ?_;rintro e w1 ⟨rfl,hb1⟩;have HB1:Hid (B0 w w1):=(by first|exact GX (IB hb1)|exact GX hb1);clear hb1))
 all_goals go_wp2_with fail
 all_goals go_ret
 all_goals exact⟨rfl,Touch.of_below (G7 HB1)⟩
theorem CJ2(F:Nat->Prop)(b:Nat)(z:Int)(vn vs ve:FX)(ns A B:List Nd)(n:Nd)(ss:List Int)(es:List Ev)(x:GN)(w:FW)
  (h:Grow w F b z vn vs ve ns ss es) (hF:∀k,w.heap.size<=k->F k) (T:KJ ns A n B x.p) (hl:ns.length<=400) (hv:0<=n.v/\n.v<=2147483647) (hp:x.p.length<=140737488355328) (hd:x.d.length<=140737488355328) (hes:es.length<=99999) (hx:x.v=n.v+1):
  FZ prog 200 #[P0 b,J9 x] w fun e w'=>
   e=.returned (I0 0)/\∃ve',Grow w' F b z vn vs ve' (A++⟨n.p,x.d,n.c,x.z,n.q,x.v,n.k,n.o,n.n⟩::B) ss (es++[⟨3,x.p⟩])/\Touch F w w':=by
 obtain⟨xz,xo,xs,xp,xd,xv,xw⟩:=x;simp only at T hp hd hx⊢;have hxb:(xv !=n.v+1)=false:=by simpa using hx
 clear hx;have CF:=fun W (hW:B0 w W)=>JW vn ns A B n xp W (h.n.next hW).seq (by omega) T;have CC:=fun W=>NQ xd W (by omega);obtain⟨g,cap,rfl,hr,hgb,hFg⟩:=h.iF (by rw[T.eq];simp);have hgl:=hr.lt;have c1:=h.c1;have hbl:=h.lt;have HG:=G8 h;have HE:=G8 T.eq;have HF:=G8 hF;have hlt:A.length<ns.length:=by rw[T.eq];simp
 have hv1:=hv.1;have hv2:=hv.2;have KX:∀w1,Below (w.alloc (FV #[I0 xz,I0 xo,I0 xs,S0 xp,S0 xd,I0 xv,I0 xw] 79)).heap.size (w.alloc (FV #[I0 xz,I0 xo,I0 xs,S0 xp,S0 xd,I0 xv,I0 xw] 79)) w1->TAt w1 w.heap.size ⟨xz,xo,xs,xp,xd,xv,xw⟩:=fun w1 h1=>(TAt.new w ⟨xz,xo,xs,xp,xd,xv,xw⟩).next h1;have HKX:=G8 KX;clear h hr T hF KX;unfold J9;go_enter func200,ntmps200;go_wp2_with fail
 go_region_law (first
  |(go_simp;refine(CF _ (by first|exact((AA w.heap.size w).alloc (A8 _) _).drew|exact(AA w.heap.size w).alloc (A8 _) _)).mono ?_;rintro e w1 ⟨rfl,hb1⟩;have HBd:=G8 hb1;clear hb1))
 all_goals
  have HB0:=G8 (IB (G7 HBd));clear CF;have HB1:=G8 (GX (G7 HB0));have tx:=G7 HKX w1 (G7 HB0);have t0:=tx.c0;have t3:=tx.c3;have t4:=tx.c4;have t5:=tx.c5;have HTX:=G8 tx;have g1:=(G7 HG).next (G7 HB1);have d1:=g1.c1;have hsz1:=(G7 HB1).size;have hszx:=tx.lt;obtain⟨g',cap',he,hr,_,_⟩:=g1.iF (by rw[G7 HE];simp);simp only[AQ,BF,EU,and_true]at he;obtain⟨rfl,_,rfl⟩:=he;have at':ns[A.length]?=G6 n:=by rw[G7 HE];exact UM A n B
  have r5:=hr.row.n5 at';rw[BJ]at r5;have HG1:=G8 g1;clear g1 hr at' tx;go_wp2_with fail;go_region;go_wp2_with fail;refine(CC _).mono ?_;rintro e w2 ⟨rfl,hb2⟩;have hb2':=IB hb2;have g2:=(G7 HG1).next hb2';obtain⟨g',cap',he,hr,_,_⟩:=g2.iF (by rw[G7 HE];simp);simp only[AQ,BF,EU,and_true]at he;obtain⟨rfl,_,rfl⟩:=he;have at':ns[A.length]?=G6 n:=by rw[G7 HE];exact UM A n B
  have r1:=hr.row.n1 at';have r3:=hr.row.n3 at';have r5':=hr.row.n5 at';have z1:=hr.frozen (A.length*9+1);have z3:=hr.frozen (A.length*9+3);have z5:=hr.frozen (A.length*9+5);rw[BJ]at r1 r3 r5';have tx2:=(G7 HTX).next hb2';have y0:=tx2.c0;have y3:=tx2.c3;have y5:=tx2.c5;have hne:g≠w.heap.size:=by omega
  have hne':w.heap.size≠g:=by omega
  have g4:Grow (((w2.setCell ⟨g,A.length*9+1,G5⟩ (S0 xd)).setCell ⟨g,A.length*9+5,G5⟩ (I0 xv)).setCell ⟨g,A.length*9+3,G5⟩ (I0 xz)) F b z (FU (G6 ⟨g,0,G5⟩) ns.length cap) vs ve (A++⟨n.p,xd,n.c,xz,n.q,xv,n.k,n.o,n.n⟩::B) ss es:=by
   have e0:=g2;rw[G7 HE]at e0;have e1:=e0.put (m:=⟨n.p,xd,n.c,n.m,n.q,n.v,n.k,n.o,n.n⟩) (c:=1) (by omega) (v:=S0 xd) rfl;have e2:=e1.put (m:=⟨n.p,xd,n.c,n.m,n.q,xv,n.k,n.o,n.n⟩) (c:=5) (by omega) (v:=I0 xv) rfl;have e3:=e2.put (m:=⟨n.p,xd,n.c,xz,n.q,xv,n.k,n.o,n.n⟩) (c:=3) (by omega) (v:=I0 xz) rfl;rw[G7 HE];exact e3
  have T4:Touch F w (((w2.setCell ⟨g,A.length*9+1,G5⟩ (S0 xd)).setCell ⟨g,A.length*9+5,G5⟩ (I0 xv)).setCell ⟨g,A.length*9+3,G5⟩ (I0 xz)):=
   ((((Touch.of_below (G7 HB1)).trans (Touch.of_below hb2')).trans (Touch.set hFg _)).trans (Touch.set hFg _)).trans (Touch.set hFg _)
  have HG4:=G8 g4;have HT4:=G8 T4;have CT:=fun W (hW:Grow W F b z (FU (G6 ⟨g,0,G5⟩) ns.length cap) vs ve (A++⟨n.p,xd,n.c,xz,n.q,xv,n.k,n.o,n.n⟩::B) ss es) (hs:w.heap.size<=W.heap.size)=>iG F b z _ vs ve _ ss es 3 xp W hW (fun k hk=>G7 HF k (by omega)) hp (by omega);have HCT:=G8 CT;clear CC g2 hr hb2 hb2' at' g4 T4 CT tx2 t0 t3 t4 t5 d1 r5;go_wp2_with fail;refine(G7 HCT _ (G7 HG4) (G7 HT4).size).mono ?_;rintro e w5 ⟨rfl,ve',g5,t5⟩;have HG5:=G8 g5;have HT5:=G8 ((G7 HT4).trans t5);clear g5 t5;go_wp2_with fail;go_ret;exact⟨rfl,ve',G7 HG5,G7 HT5⟩
theorem C44(F:Nat->Prop)(b:Nat)(z:Int)(vn vs ve:FX)(ns A B:List Nd)(n:Nd)(ss:List Int)(es:List Ev)(x:GN)(w:FW)
  (h:Grow w F b z vn vs ve ns ss es) (hF:∀k,w.heap.size<=k->F k) (T:KJ ns A n B x.p) (hl:ns.length<=400) (hv:0<=n.v/\n.v<=2147483647) (hp:x.p.length<=140737488355328) (hd:x.d.length<=140737488355328) (_hes:es.length<=99999) (hx:x.v≠n.v+1):
  FZ prog 200 #[P0 b,J9 x] w fun e w'=>
   e=.returned (I0 9)/\Touch F w w':=by
 obtain⟨xz,xo,xs,xp,xd,xv,xw⟩:=x;simp only at T hp hd hx⊢;have hxb:(xv !=n.v+1)=true:=by simpa using hx
 clear hx;have CF:=fun W (hW:B0 w W)=>JW vn ns A B n xp W (h.n.next hW).seq (by omega) T;have CC:=fun W=>NQ xd W (by omega);obtain⟨g,cap,rfl,hr,hgb,hFg⟩:=h.iF (by rw[T.eq];simp);have hgl:=hr.lt;have c1:=h.c1;have hbl:=h.lt;have HG:=G8 h;have HE:=G8 T.eq;have HF:=G8 hF;have hlt:A.length<ns.length:=by rw[T.eq];simp
 have hv1:=hv.1;have hv2:=hv.2;have KX:∀w1,Below (w.alloc (FV #[I0 xz,I0 xo,I0 xs,S0 xp,S0 xd,I0 xv,I0 xw] 79)).heap.size (w.alloc (FV #[I0 xz,I0 xo,I0 xs,S0 xp,S0 xd,I0 xv,I0 xw] 79)) w1->TAt w1 w.heap.size ⟨xz,xo,xs,xp,xd,xv,xw⟩:=fun w1 h1=>(TAt.new w ⟨xz,xo,xs,xp,xd,xv,xw⟩).next h1;have HKX:=G8 KX;clear h hr T hF KX;unfold J9;go_enter func200,ntmps200;go_wp2_with fail
 go_region_law (first
  |(go_simp;refine(CF _ (by first|exact((AA w.heap.size w).alloc (A8 _) _).drew|exact(AA w.heap.size w).alloc (A8 _) _)).mono ?_;rintro e w1 ⟨rfl,hb1⟩;have HBd:=G8 hb1;clear hb1))
 all_goals
  have HB0:=G8 (IB (G7 HBd));clear CF;have HB1:=G8 (GX (G7 HB0));have tx:=G7 HKX w1 (G7 HB0);have t0:=tx.c0;have t3:=tx.c3;have t4:=tx.c4;have t5:=tx.c5;have HTX:=G8 tx;have g1:=(G7 HG).next (G7 HB1);have d1:=g1.c1;have hsz1:=(G7 HB1).size;have hszx:=tx.lt;obtain⟨g',cap',he,hr,_,_⟩:=g1.iF (by rw[G7 HE];simp);simp only[AQ,BF,EU,and_true]at he;obtain⟨rfl,_,rfl⟩:=he;have at':ns[A.length]?=G6 n:=by rw[G7 HE];exact UM A n B
  have r5:=hr.row.n5 at';rw[BJ]at r5;have HG1:=G8 g1;clear g1 hr at' tx;go_wp2_with fail;go_region;go_wp2_with fail;go_ret;exact⟨rfl,(Touch.of_below (G7 HB1)).drew⟩
theorem B07(F:Nat->Prop)(b:Nat)(z:Int)(vn vs ve:FX)(ns:List Nd)(A B:List Nd)(n:Nd)(ss:List Int)(es:List Ev)(x:GN)(w:FW)
  (h:Grow w F b z vn vs ve ns ss es) (T:KJ ns A n B x.p) (hl:ns.length<=400) (ha:tK ns):
  FZ prog 198 #[P0 b,J9 x] w fun e w'=>e=.returned (I0 8)/\Touch F w w':=by
 obtain⟨xz,xo,xs,xp,xd,xv,xw⟩:=x;simp only at T;have CF:=fun W (hW:B0 w W)=>JW vn ns A B n xp W (h.n.next hW).seq (by omega) T;have HCS:=G8 (fun W=>NH xp W);have HCG:=G8 (fun W (hW:B0 w W)=>vT vn ns (IK xp) W (h.n.next hW).seq (by omega) ha);have KX:∀w1,Below (w.alloc (FV #[I0 xz,I0 xo,I0 xs,S0 xp,S0 xd,I0 xv,I0 xw] 79)).heap.size (w.alloc (FV #[I0 xz,I0 xo,I0 xs,S0 xp,S0 xd,I0 xv,I0 xw] 79)) w1->TAt w1 w.heap.size ⟨xz,xo,xs,xp,xd,xv,xw⟩:=fun w1 h1=>(TAt.new w ⟨xz,xo,xs,xp,xd,xv,xw⟩).next h1;have HKX:=G8 KX;have c1:=h.c1;have hbl:=h.lt;obtain⟨na,nc,rfl,_⟩:=h.n.slice;have HG:=G8 h;clear h T ha KX;unfold J9;go_enter func198,ntmps198;go_wp2_with fail
 go_region_law (first
  |(go_simp;refine(CF _ (by first|exact((AA w.heap.size w).alloc (A8 _) _).drew|exact(AA w.heap.size w).alloc (A8 _) _)).mono ?_;rintro e w1 ⟨rfl,hb1⟩;have HBd:=G8 hb1;clear hb1))
 all_goals
  have HB0:=G8 (IB (G7 HBd));clear CF;have HB1:=G8 (GX (G7 HB0));have tx:=G7 HKX w1 (G7 HB0);have t3:=tx.c3;have HTX:=G8 tx;have g1:=(G7 HG).next (G7 HB1);have HG1:=G8 g1;clear g1 tx c1;go_wp2_with fail;refine(G7 HCS _).mono ?_;rintro e w2 ⟨rfl,hb2⟩;have HB2:=G8 (GH (G7 HB1) hb2);have tx2:=(G7 HTX).next hb2;have g2:=(G7 HG1).next hb2;have e1:=g2.c1;have A18:=G8 tx2;have HG2:=G8 g2;clear tx2 g2 hb2 t3;go_wp2_with fail;obtain⟨j,_,C2⟩:=G7 HCG _ (G7 HB2);refine C2.mono ?_;rintro e w3 ⟨rfl,hb3⟩;have HB3:=G8 (GH (G7 HB2) hb3);go_wp2_with fail;go_ret;exact⟨rfl,Touch.of_below (G7 HB3)⟩
theorem BL0(F:Nat->Prop)(b:Nat)(z:Int)(vn vs ve:FX)(ns:List Nd)(A B A' B':List Nd)(ss:List Int)(es:List Ev)(x:GN)(w:FW)
  (h:Grow w F b z vn vs ve ns ss es) (G:nM ns A B x.p) (U:nM ns A' B' (IK x.p)) (hl:ns.length<=400):
  FZ prog 198 #[P0 b,J9 x] w fun e w'=>e=.returned (I0 7)/\Touch F w w':=by
 obtain⟨xz,xo,xs,xp,xd,xv,xw⟩:=x;simp only at G U;have CF:=fun W (hW:B0 w W)=>NI vn ns A B xp W (h.n.next hW).seq (by omega) G;have HCS:=G8 (fun W=>NH xp W);have HCG:=G8 (fun W (hW:B0 w W)=>NI vn ns A' B' (IK xp) W (h.n.next hW).seq (by omega) U);have KX:∀w1,Below (w.alloc (FV #[I0 xz,I0 xo,I0 xs,S0 xp,S0 xd,I0 xv,I0 xw] 79)).heap.size (w.alloc (FV #[I0 xz,I0 xo,I0 xs,S0 xp,S0 xd,I0 xv,I0 xw] 79)) w1->TAt w1 w.heap.size ⟨xz,xo,xs,xp,xd,xv,xw⟩:=fun w1 h1=>(TAt.new w ⟨xz,xo,xs,xp,xd,xv,xw⟩).next h1;have HKX:=G8 KX;have c1:=h.c1;have hbl:=h.lt;obtain⟨na,nc,rfl,_⟩:=h.n.slice;have HG:=G8 h;clear h G U KX;unfold J9;go_enter func198,ntmps198;go_wp2_with fail
 go_region_law (first
  |(go_simp;refine(CF _ (by first|exact((AA w.heap.size w).alloc (A8 _) _).drew|exact(AA w.heap.size w).alloc (A8 _) _)).mono ?_;rintro e w1 ⟨rfl,hb1⟩;have HBd:=G8 hb1;clear hb1))
 all_goals
  have HB0:=G8 (IB (G7 HBd));clear CF;have HB1:=G8 (GX (G7 HB0));have tx:=G7 HKX w1 (G7 HB0);have t3:=tx.c3;have HTX:=G8 tx;have g1:=(G7 HG).next (G7 HB1);have HG1:=G8 g1;clear g1 tx c1;go_wp2_with fail;refine(G7 HCS _).mono ?_;rintro e w2 ⟨rfl,hb2⟩;have HB2:=G8 (GH (G7 HB1) hb2);have tx2:=(G7 HTX).next hb2;have g2:=(G7 HG1).next hb2;have e1:=g2.c1;have A18:=G8 tx2;have HG2:=G8 g2;clear tx2 g2 hb2 t3;go_wp2_with fail;refine(G7 HCG _ (G7 HB2)).mono ?_;rintro e w3 ⟨rfl,hb3⟩;have HB3:=G8 (GH (G7 HB2) hb3);go_wp2_with fail;go_ret;exact⟨rfl,Touch.of_below (G7 HB3)⟩
theorem B08(F:Nat->Prop)(b:Nat)(z:Int)(vn vs ve:FX)(ns:List Nd)(A B A' B':List Nd)(u:Nd)(ss:List Int)(es:List Ev)(x:GN)(w:FW)
  (h:Grow w F b z vn vs ve ns ss es) (G:nM ns A B x.p) (U:KJ ns A' u B' (IK x.p)) (hl:ns.length<=400) (ho:u.o≠0):
  FZ prog 198 #[P0 b,J9 x] w fun e w'=>e=.returned (I0 11)/\Touch F w w':=by
 obtain⟨xz,xo,xs,xp,xd,xv,xw⟩:=x;simp only at G U;have CF:=fun W (hW:B0 w W)=>NI vn ns A B xp W (h.n.next hW).seq (by omega) G;have HCS:=G8 (fun W=>NH xp W);have HCG:=G8 (fun W (hW:B0 w W)=>JW vn ns A' B' u (IK xp) W (h.n.next hW).seq (by omega) U);have KX:∀w1,Below (w.alloc (FV #[I0 xz,I0 xo,I0 xs,S0 xp,S0 xd,I0 xv,I0 xw] 79)).heap.size (w.alloc (FV #[I0 xz,I0 xo,I0 xs,S0 xp,S0 xd,I0 xv,I0 xw] 79)) w1->TAt w1 w.heap.size ⟨xz,xo,xs,xp,xd,xv,xw⟩:=fun w1 h1=>(TAt.new w ⟨xz,xo,xs,xp,xd,xv,xw⟩).next h1;have HKX:=G8 KX;have c1:=h.c1;have hbl:=h.lt;obtain⟨g,cap,rfl,hr,hgb,hFg⟩:=h.iF (by rw[U.eq];simp);have HG:=G8 h;have HE:=G8 U.eq;have hlt:A'.length<ns.length:=by rw[U.eq];simp
 have hob:(u.o !=0)=true:=by simpa using ho
 clear h G U KX ho hr;unfold J9;go_enter func198,ntmps198;go_wp2_with fail
 go_region_law (first
  |(go_simp;refine(CF _ (by first|exact((AA w.heap.size w).alloc (A8 _) _).drew|exact(AA w.heap.size w).alloc (A8 _) _)).mono ?_;rintro e w1 ⟨rfl,hb1⟩;have HBd:=G8 hb1;clear hb1))
 all_goals
  have HB0:=G8 (IB (G7 HBd));clear CF;have HB1:=G8 (GX (G7 HB0));have tx:=G7 HKX w1 (G7 HB0);have t3:=tx.c3;have HTX:=G8 tx;have g1:=(G7 HG).next (G7 HB1);have HG1:=G8 g1;clear g1 tx c1;go_wp2_with fail;refine(G7 HCS _).mono ?_;rintro e w2 ⟨rfl,hb2⟩;have HB2:=G8 (GH (G7 HB1) hb2);have tx2:=(G7 HTX).next hb2;have g2:=(G7 HG1).next hb2;have e1:=g2.c1;have A18:=G8 tx2;have HG2:=G8 g2;clear tx2 g2 hb2 t3;go_wp2_with fail;refine(G7 HCG _ (G7 HB2)).mono ?_;rintro e w3 ⟨rfl,hb3⟩;have HB3:=G8 (GH (G7 HB2) hb3);have tx3:=(G7 A18).next hb3;have g3:=(G7 HG2).next hb3;have f1:=g3.c1;have y0:=tx3.c0;have y2:=tx3.c2;have y3:=tx3.c3;have y4:=tx3.c4;have y6:=tx3.c6;obtain⟨g',cap',he,hr,_,_⟩:=g3.iF (by rw[G7 HE];simp);simp only[AQ,BF,EU,and_true]at he;obtain⟨rfl,_,rfl⟩:=he;have r7:=hr.row.n7 (i:=A'.length) (x:=u) (by rw[G7 HE];exact UM A' u B');rw[BJ]at r7;have CF3:=G8 tx3;have HG3:=G8 g3;clear g3 tx3 hr e1 hb3;go_wp2_with fail;go_ret;exact⟨rfl,Touch.of_below (G7 HB3)⟩
theorem C45(F:Nat->Prop)(b:Nat)(z:Int)(vn vs ve:FX)(ns:List Nd)(A B A' B':List Nd)(u:Nd)(ss:List Int)(es:List Ev)(x:GN)(w:FW)
  (h:Grow w F b z vn vs ve ns ss es) (G:nM ns A B x.p) (U:KJ ns A' u B' (IK x.p)) (hl:ns.length<=400) (ho:u.o=0) (hw1:x.w≠0) (hw2:x.w≠x.s):
  FZ prog 198 #[P0 b,J9 x] w fun e w'=>e=.returned (I0 12)/\Touch F w w':=by
 obtain⟨xz,xo,xs,xp,xd,xv,xw⟩:=x;simp only at G U hw1 hw2;have CF:=fun W (hW:B0 w W)=>NI vn ns A B xp W (h.n.next hW).seq (by omega) G;have HCS:=G8 (fun W=>NH xp W);have HCG:=G8 (fun W (hW:B0 w W)=>JW vn ns A' B' u (IK xp) W (h.n.next hW).seq (by omega) U);have KX:∀w1,Below (w.alloc (FV #[I0 xz,I0 xo,I0 xs,S0 xp,S0 xd,I0 xv,I0 xw] 79)).heap.size (w.alloc (FV #[I0 xz,I0 xo,I0 xs,S0 xp,S0 xd,I0 xv,I0 xw] 79)) w1->TAt w1 w.heap.size ⟨xz,xo,xs,xp,xd,xv,xw⟩:=fun w1 h1=>(TAt.new w ⟨xz,xo,xs,xp,xd,xv,xw⟩).next h1;have HKX:=G8 KX;have c1:=h.c1;have hbl:=h.lt;obtain⟨g,cap,rfl,hr,hgb,hFg⟩:=h.iF (by rw[U.eq];simp);have HG:=G8 h;have HE:=G8 U.eq;have hlt:A'.length<ns.length:=by rw[U.eq];simp
 have hb1:(xw !=0)=true:=by simpa using hw1
 have hb2:(xw !=xs)=true:=by simpa using hw2
 have HO:=G8 ho;clear h G U KX ho hr hw1 hw2;unfold J9;go_enter func198,ntmps198;go_wp2_with fail
 go_region_law (first
  |(go_simp;refine(CF _ (by first|exact((AA w.heap.size w).alloc (A8 _) _).drew|exact(AA w.heap.size w).alloc (A8 _) _)).mono ?_;rintro e w1 ⟨rfl,hb1⟩;have HBd:=G8 hb1;clear hb1))
 all_goals
  have HB0:=G8 (IB (G7 HBd));clear CF;have HB1:=G8 (GX (G7 HB0));have tx:=G7 HKX w1 (G7 HB0);have t3:=tx.c3;have HTX:=G8 tx;have g1:=(G7 HG).next (G7 HB1);have HG1:=G8 g1;clear g1 tx c1;go_wp2_with fail;refine(G7 HCS _).mono ?_;rintro e w2 ⟨rfl,hb2⟩;have HB2:=G8 (GH (G7 HB1) hb2);have tx2:=(G7 HTX).next hb2;have g2:=(G7 HG1).next hb2;have e1:=g2.c1;have A18:=G8 tx2;have HG2:=G8 g2;clear tx2 g2 hb2 t3;go_wp2_with fail;refine(G7 HCG _ (G7 HB2)).mono ?_;rintro e w3 ⟨rfl,hb3⟩;have HB3:=G8 (GH (G7 HB2) hb3);have tx3:=(G7 A18).next hb3;have g3:=(G7 HG2).next hb3;have f1:=g3.c1;have y0:=tx3.c0;have y2:=tx3.c2;have y3:=tx3.c3;have y4:=tx3.c4;have y6:=tx3.c6;obtain⟨g',cap',he,hr,_,_⟩:=g3.iF (by rw[G7 HE];simp);simp only[AQ,BF,EU,and_true]at he;obtain⟨rfl,_,rfl⟩:=he;have r7:=hr.row.n7 (i:=A'.length) (x:=u) (by rw[G7 HE];exact UM A' u B');rw[BJ]at r7;have CF3:=G8 tx3;have HG3:=G8 g3;clear g3 tx3 hr e1 hb3;rw[G7 HO]at r7;go_wp2_with fail;go_ret;exact⟨rfl,Touch.of_below (G7 HB3)⟩
theorem B09(F:Nat->Prop)(b:Nat)(z:Int)(vn vs ve:FX)(ns:List Nd)(A B A' B':List Nd)(u:Nd)(ss:List Int)(es:List Ev)(x:GN)(w:FW)
  (h:Grow w F b z vn vs ve ns ss es) (G:nM ns A B x.p) (U:KJ ns A' u B' (IK x.p)) (ho:u.o=0) (hw1:x.w=0) (hf:ns.length=400):
  FZ prog 198 #[P0 b,J9 x] w fun e w'=>e=.returned (I0 6)/\Touch F w w':=by
 obtain⟨xz,xo,xs,xp,xd,xv,xw⟩:=x;simp only at G U hw1;have CF:=fun W (hW:B0 w W)=>NI vn ns A B xp W (h.n.next hW).seq (by omega) G;have HCS:=G8 (fun W=>NH xp W);have HCG:=G8 (fun W (hW:B0 w W)=>JW vn ns A' B' u (IK xp) W (h.n.next hW).seq (by omega) U);have KX:∀w1,Below (w.alloc (FV #[I0 xz,I0 xo,I0 xs,S0 xp,S0 xd,I0 xv,I0 xw] 79)).heap.size (w.alloc (FV #[I0 xz,I0 xo,I0 xs,S0 xp,S0 xd,I0 xv,I0 xw] 79)) w1->TAt w1 w.heap.size ⟨xz,xo,xs,xp,xd,xv,xw⟩:=fun w1 h1=>(TAt.new w ⟨xz,xo,xs,xp,xd,xv,xw⟩).next h1;have HKX:=G8 KX;have c1:=h.c1;have hbl:=h.lt;obtain⟨g,cap,rfl,hr,hgb,hFg⟩:=h.iF (by rw[U.eq];simp);have HG:=G8 h;have HE:=G8 U.eq;have hlt:A'.length<ns.length:=by rw[U.eq];simp
 have hb1:(xw !=0)=false:=by simpa using hw1
 have hfb:((ns.length:Int)==400)=true:=by rw[hf];rfl
 have HO:=G8 ho;clear h G U KX ho hr hf hw1;unfold J9;go_enter func198,ntmps198;go_wp2_with fail
 go_region_law (first
  |(go_simp;refine(CF _ (by first|exact((AA w.heap.size w).alloc (A8 _) _).drew|exact(AA w.heap.size w).alloc (A8 _) _)).mono ?_;rintro e w1 ⟨rfl,hb1⟩;have HBd:=G8 hb1;clear hb1))
 all_goals
  have HB0:=G8 (IB (G7 HBd));clear CF;have HB1:=G8 (GX (G7 HB0));have tx:=G7 HKX w1 (G7 HB0);have t3:=tx.c3;have HTX:=G8 tx;have g1:=(G7 HG).next (G7 HB1);have HG1:=G8 g1;clear g1 tx c1;go_wp2_with fail;refine(G7 HCS _).mono ?_;rintro e w2 ⟨rfl,hb2⟩;have HB2:=G8 (GH (G7 HB1) hb2);have tx2:=(G7 HTX).next hb2;have g2:=(G7 HG1).next hb2;have e1:=g2.c1;have A18:=G8 tx2;have HG2:=G8 g2;clear tx2 g2 hb2 t3;go_wp2_with fail;refine(G7 HCG _ (G7 HB2)).mono ?_;rintro e w3 ⟨rfl,hb3⟩;have HB3:=G8 (GH (G7 HB2) hb3);have tx3:=(G7 A18).next hb3;have g3:=(G7 HG2).next hb3;have f1:=g3.c1;have y0:=tx3.c0;have y2:=tx3.c2;have y3:=tx3.c3;have y4:=tx3.c4;have y6:=tx3.c6;obtain⟨g',cap',he,hr,_,_⟩:=g3.iF (by rw[G7 HE];simp);simp only[AQ,BF,EU,and_true]at he;obtain⟨rfl,_,rfl⟩:=he;have r7:=hr.row.n7 (i:=A'.length) (x:=u) (by rw[G7 HE];exact UM A' u B');rw[BJ]at r7;have CF3:=G8 tx3;have HG3:=G8 g3;clear g3 tx3 hr e1 hb3;rw[G7 HO]at r7;go_wp2_with fail;go_ret;exact⟨rfl,Touch.of_below (G7 HB3)⟩
theorem B12(F:Nat->Prop)(b:Nat)(z:Int)(vn vs ve:FX)(ns:List Nd)(A B A' B':List Nd)(u:Nd)(ss:List Int)(es:List Ev)(x:GN)(w:FW)
  (h:Grow w F b z vn vs ve ns ss es) (G:nM ns A B x.p) (U:KJ ns A' u B' (IK x.p)) (ho:u.o=0) (hw1:x.w≠0) (hw2:x.w=x.s) (hf:ns.length=400):
  FZ prog 198 #[P0 b,J9 x] w fun e w'=>e=.returned (I0 6)/\Touch F w w':=by
 obtain⟨xz,xo,xs,xp,xd,xv,xw⟩:=x;simp only at G U hw1 hw2;have CF:=fun W (hW:B0 w W)=>NI vn ns A B xp W (h.n.next hW).seq (by omega) G;have HCS:=G8 (fun W=>NH xp W);have HCG:=G8 (fun W (hW:B0 w W)=>JW vn ns A' B' u (IK xp) W (h.n.next hW).seq (by omega) U);have KX:∀w1,Below (w.alloc (FV #[I0 xz,I0 xo,I0 xs,S0 xp,S0 xd,I0 xv,I0 xw] 79)).heap.size (w.alloc (FV #[I0 xz,I0 xo,I0 xs,S0 xp,S0 xd,I0 xv,I0 xw] 79)) w1->TAt w1 w.heap.size ⟨xz,xo,xs,xp,xd,xv,xw⟩:=fun w1 h1=>(TAt.new w ⟨xz,xo,xs,xp,xd,xv,xw⟩).next h1;have HKX:=G8 KX;have c1:=h.c1;have hbl:=h.lt;obtain⟨g,cap,rfl,hr,hgb,hFg⟩:=h.iF (by rw[U.eq];simp);have HG:=G8 h;have HE:=G8 U.eq;have hlt:A'.length<ns.length:=by rw[U.eq];simp
 have hb1:(xw !=0)=true:=by simpa using hw1
 have hb2:(xw !=xs)=false:=by simpa using hw2
 have hfb:((ns.length:Int)==400)=true:=by rw[hf];rfl
 have HO:=G8 ho;clear h G U KX ho hr hf hw1 hw2;unfold J9;go_enter func198,ntmps198;go_wp2_with fail
 go_region_law (first
  |(go_simp;refine(CF _ (by first|exact((AA w.heap.size w).alloc (A8 _) _).drew|exact(AA w.heap.size w).alloc (A8 _) _)).mono ?_;rintro e w1 ⟨rfl,hb1⟩;have HBd:=G8 hb1;clear hb1))
 all_goals
  have HB0:=G8 (IB (G7 HBd));clear CF;have HB1:=G8 (GX (G7 HB0));have tx:=G7 HKX w1 (G7 HB0);have t3:=tx.c3;have HTX:=G8 tx;have g1:=(G7 HG).next (G7 HB1);have HG1:=G8 g1;clear g1 tx c1;go_wp2_with fail;refine(G7 HCS _).mono ?_;rintro e w2 ⟨rfl,hb2⟩;have HB2:=G8 (GH (G7 HB1) hb2);have tx2:=(G7 HTX).next hb2;have g2:=(G7 HG1).next hb2;have e1:=g2.c1;have A18:=G8 tx2;have HG2:=G8 g2;clear tx2 g2 hb2 t3;go_wp2_with fail;refine(G7 HCG _ (G7 HB2)).mono ?_;rintro e w3 ⟨rfl,hb3⟩;have HB3:=G8 (GH (G7 HB2) hb3);have tx3:=(G7 A18).next hb3;have g3:=(G7 HG2).next hb3;have f1:=g3.c1;have y0:=tx3.c0;have y2:=tx3.c2;have y3:=tx3.c3;have y4:=tx3.c4;have y6:=tx3.c6;obtain⟨g',cap',he,hr,_,_⟩:=g3.iF (by rw[G7 HE];simp);simp only[AQ,BF,EU,and_true]at he;obtain⟨rfl,_,rfl⟩:=he;have r7:=hr.row.n7 (i:=A'.length) (x:=u) (by rw[G7 HE];exact UM A' u B');rw[BJ]at r7;have CF3:=G8 tx3;have HG3:=G8 g3;clear g3 tx3 hr e1 hb3;rw[G7 HO]at r7;go_wp2_with fail;go_ret;exact⟨rfl,Touch.of_below (G7 HB3)⟩
theorem rE(w:FW)(x:Int):JQ (w.alloc (FV #[I0 x] 3)) w.heap.size x:=heap_alloc_new w _
theorem BL1(w:FW)(x:List UInt8):JQ (w.alloc (FV #[S0 x] 9)) w.heap.size x:=heap_alloc_new w _
theorem BL2(F:Nat->Prop)(b:Nat)(z:Int)(vn vs ve:FX)(ns:List Nd)(ss A B:List Int)(es:List Ev)(s:Int)(w:FW)
  (h:Grow w F b z vn vs ve ns ss es) (hF:∀k,w.heap.size<=k->F k) (G:C18 ss A B s) (hl:ss.length<=2147483646):
  FZ prog 196 #[P0 b,I0 s] w fun e w'=>e=.returned (.tuple #[])/\∃vs',Grow w' F b z vn vs' ve ns (A++s::B) es/\Touch F w w':=by
 have CF:=AZ7 vs ss A B s w h.s.seq (by omega) G;have h0:=(h.next (G9 w (FV #[I0 s] 3)));have CI:=A13 vs A B s w.heap.size _ (by rw[<-G.eq];exact h0.s) (by rw[<-G.eq];omega) (rE w s) (fun e=>by have:=h.s.low _ e;omega);have c2:=h.c2;have HG0:=G8 h0;have HF:=G8 hF;have hbl:=h.lt;obtain⟨sa,sc,rfl,_⟩:=h.s.slice;have HCI:=G8 CI;clear h h0 hF G CI;go_enter func196,ntmps196;go_wp2_with fail;refine CF.mono ?_;rintro e w1 ⟨rfl,rfl⟩;go_wp2_with fail;refine(G7 HCI).mono ?_;rintro e w2 ⟨v',rfl,ho,hg,hloc⟩;have n2:¬ (Value.slice sa ss.length sc).ownBlock=G6 b:=fun e=>((G7 HG0).fs b e).2 rfl;have m2:w2.cell? ⟨b,2,G5⟩=G6 (FU sa ss.length sc):=hg.cell (G7 HG0).c2 (fun e=>n2 e.symm);have l2:w2.frozen? ⟨b,2,G5⟩=false:=(World.frozen?_of_block (hg.block b (G7 HG0).lt (fun e=>n2 e.symm))).trans ((G7 HG0).fz 2);have g2:=(G7 HG0).se (vs':=v') (ss':=A++s::B) (fun k hk=>G7 HF k (by simp at hk;omega)) hg ho hloc;have t2:Touch F w1 (w2.setCell ⟨b,2,G5⟩ v'):=((Touch.of_below (G9 w1 _)).trans (Touch.VI hg (fun k e=>((G7 HG0).fs k e).1))).trans (Touch.set (G7 HG0).fb _);obtain⟨va,L,vc,rfl⟩:∃va L vc,v'=FU va L vc:=by obtain⟨va,vc,h,_⟩:=ho.slice;exact⟨_,_,_,h⟩
 have HG2:=G8 g2;have HT2:=G8 t2;clear g2 t2 ho hg hloc n2;go_wp2_with fail
 go_end0
 exact⟨rfl,_,G7 HG2,G7 HT2⟩
theorem CJ3:(prog.info? 9).map (fun i=>(i.zero,i.size,i.bytes))=G6 (G6 (.string ⟨#[]⟩),1,16):=by kernel_rfl
theorem CU8:∃i0,prog.info? 9=G6 i0/\i0.zero=G6 (.string ⟨#[]⟩)/\i0.size=1/\i0.bytes=16:=by
 obtain⟨i0,h,e⟩:=Option.map_eq_some_iff.1 CJ3;simp only[Prod.mk.injEq]at e;exact⟨i0,h,e⟩
theorem AK9{ns:List Nd}{k:Nat}{x:Nd}(hx:ns[k]?=G6 x)(s:Int):OM (ns.take (k+1)) s=OM (ns.take k) s++(if x.o=s then [x.p]else []):=by
 rw[List.take_add_one,hx];simp only[OM,Option.toList_some,List.filter_append,List.map_append,List.filter_cons,List.filter_nil,decide_eq_true_eq]
 split<;>simp
theorem wG(ns:List Nd)(s:Int):(OM ns s).length<=ns.length:=by
 rw[OM,List.length_map];exact List.length_filter_le _ _
theorem B14(F:Nat->Prop)(b:Nat)(z:Int)(vn vs ve:FX)(ns:List Nd)(ss:List Int)(es:List Ev)(s:Int)(w:FW)
  (h:Grow w F b z vn vs ve ns ss es) (hl:ns.length<=400) (h0:ns≠[]):
  FZ prog 227 #[P0 b,I0 s] w fun e w'=>∃v',e=.returned v'/\GZ w' w.heap.size v' (OM ns s)/\B0 w w':=by
 obtain⟨i0,hi0,hz0,hz1,hz2⟩:=CU8;obtain⟨g,cap,rfl,hr,hgb,hFg⟩:=h.iF h0;have hgl:=hr.lt;have c1:=h.c1;have H:=G8 hr.row;clear h hr;go_enter func227,ntmps227;go_wp2_with fail
 go_loopg [5,14] ns.length (fun kx s5 s14 wr=>∃k:Nat,s14=I0 k/\k<=ns.length/\ns.length-k<=kx/\Hid (GZ wr w.heap.size s5 (OM (ns.take k) s))/\Hid (B0 w wr))
 case atStart=>exact⟨0,rfl,AZ _,A8 _,G8 (.inl ⟨rfl,rfl⟩),G8 (AA _ _)⟩
 case round=>
  obtain⟨k,rfl,hk,hg,hO,hB⟩:=hrel;by_cases hlt:k<ns.length
  .obtain⟨x,hx⟩:∃x,ns[k]?=G6 x:=⟨_,AO hlt⟩;have q:=(G7 H).kept (G7 hB) hgl;have d0:=q.n0 hx;have d1:=q.n1 hx;have d2:=q.n2 hx;have d3:=q.n3 hx;have d4:=q.n4 hx;have d5:=q.n5 hx;have d6:=q.n6 hx;have d7:=q.n7 hx;have d8:=q.n8 hx;rw[BJ]at d0 d1 d2 d3 d4 d5 d6 d7 d8;have hbw:g<wr.heap.size:=Nat.lt_of_lt_of_le hgl (G7 hB).size;have HT:=G8 (AK9 hx s);have hln:=wG (ns.take k) s;simp only[F8]at hln;clear q hx;obtain⟨va,vc,rfl,_⟩:=(G7 hO).slice;have hrow:=(G7 hO).row;by_cases hs:x.o=s
   .have hsb:(x.o==s)=true:=by simpa using hs
    have HS:=G8 hs;clear hs;obtain⟨P,hP⟩:∃P,OM (ns.take k) s=P:=⟨_,rfl⟩;rw[hP]at hO hln HT hrow;rw[hP];clear hP;have HRW:=G8 hrow;clear hrow;go_wp2_with (at_builtin;refine wpList_append_own _ rfl _ _ 205 rfl w.heap.size 9 i0 _ 1 16 underlying205 hi0 hz0 hz1 hz2 rfl (by decide) _ P.length (GI P) rfl ((((G7 hO).next (G9 wr (FV #[S0 x.p,S0 x.d,I0 x.c,I0 x.m,I0 x.q,I0 x.v,I0 x.k,I0 x.o,I0 x.n] 62))).next (G9 _ _)).row) ⟨wr.heap.size+1,0,G5⟩ 1 1 [S0 x.p] rfl (by rfl) ?qc2 (by intro u hu;simp at hu;subst hu;rfl) ?qc4 ?qc5 ?qc6 ?_)
    case qc2=>
     intro j u hj;have:=RP (BL1 (wr.alloc (FV #[S0 x.p,S0 x.d,I0 x.c,I0 x.m,I0 x.q,I0 x.v,I0 x.k,I0 x.o,I0 x.n] 62)) x.p) j u hj;simpa using this
    case qc4=>simp only[maxLen];omega
    case qc5=>omega
    case qc6=>have:=(G7 hB).size;simp;omega
    intro v' w1 hown hgrow _;have O1:GZ w1 w.heap.size v' (P++[x.p]):=GZ.L9 (by rw[AP,JH];exact hown);have hB0:B0 w ((wr.alloc (FV #[S0 x.p,S0 x.d,I0 x.c,I0 x.m,I0 x.q,I0 x.v,I0 x.k,I0 x.o,I0 x.n] 62)).alloc (FV #[S0 x.p] 9)):=GH (G7 hB) (GH (G9 _ _) (G9 _ _));have B1:B0 w w1:=hB0.grown hgrow hB0.size (fun j hj=>by
     rcases G7 hO with⟨e,_⟩|⟨q,c,e,hq,_⟩
     .rw[e]at hj;cases hj
     .rw[e]at hj;cases hj;exact hq)
    have HO1:=G8 O1;have HB1:=G8 B1;obtain⟨wa,wc,rfl,_⟩:=O1.slice;clear O1 B1 hB0 hown hgrow;go_wp2_with fail
    go_roundg (ns.length-(k+1))
    case measure=>omega
    case rel=>exact⟨k+1,rfl,by omega,A8 _,(by rw[G7 HT,if_pos (G7 HS)];exact HO1),HB1⟩
   .have hsb:(x.o==s)=false:=by simpa using hs
    have HS:=G8 hs;have HO1:=G8 ((G7 hO).next (G9 wr (FV #[S0 x.p,S0 x.d,I0 x.c,I0 x.m,I0 x.q,I0 x.v,I0 x.k,I0 x.o,I0 x.n] 62)));clear hs hrow;go_wp2_with fail
    go_roundg (ns.length-(k+1))
    case measure=>omega
    case rel=>exact⟨k+1,rfl,by omega,A8 _,(by rw[G7 HT,if_neg (G7 HS),List.append_nil];exact HO1),G8 (GH (G7 hB) (G9 _ _))⟩
  .obtain rfl:k=ns.length:=by omega
   have O1:=G7 hO;rw[DW]at O1;have HO1:=G8 O1;obtain⟨wa,wc,rfl,_⟩:=O1.slice;clear O1;go_wp2_with fail;go_ret;exact⟨_,rfl,G7 HO1,G7 hB⟩
theorem GZ.touched{α:Type}[Lay α]{W V:FW}{B:Nat}{v:FX}{xs:List α}{F:Nat->Prop}(h:GZ W B v xs)(ht:Touch F W V)(hf:∀k,v.ownBlock=G6 k->¬F k):GZ V B v xs:=by
 rcases h with h|⟨g,cap,rfl,hB,h⟩
 .exact .inl h
 .obtain⟨rest,h1,h2⟩:=h;have hlt:=(Array.getElem?_eq_some_iff.1 h1).1;exact .inr ⟨g,cap,rfl,hB,rest,(ht.block g hlt (hf g rfl)).trans h1,h2⟩
def CJ4(F:Nat->Prop)(b:Nat)(z:Int)(ns:List Nd)(ss':List Int)(ps:List (List UInt8))(w:FW)(e:Ending)(w':FW):Prop:=
 (YR (QX z ns ps)=true/\e=.returned (I0 6)/\Touch F w w')\/
 (YR (QX z ns ps)=false/\e=.returned (I0 0)/\∃vn' vs' ve',Grow w' F b z vn' vs' ve' (QX z ns ps) ss' (AV3 ps)/\Touch F w w')
structure Clo(z s:Int)(ss0:List Int)(cur:List Nd)(ps:List (List UInt8)):Prop where
 g:PL z cur ss0
 r:CG9 s cur ps
 c:∀n∈cur,n.k<=2147483647
theorem BL3(F:Nat->Prop)(b:Nat)(z s:Int)(vn vs ve:FX)(cur:List Nd)(ss ss0:List Int)(es:List Ev)(p:List UInt8)(ps:List (List UInt8))(w:FW)
  (h:Grow w F b z vn vs ve cur ss es) (hF:∀k,w.heap.size<=k->F k) (hes:es.length<=99998) (C:Clo z s ss0 cur (p::ps)):
  (YR (QX z cur (p::ps))=true/\FZ prog 199 #[P0 b,S0 p] w fun e w'=>e=.returned (I0 6)/\Touch F w w')\/
  (Clo z s ss0 (rmN z cur p) ps/\FZ prog 199 #[P0 b,S0 p] w fun e w'=>e=.returned (I0 0)/\∃vn' ve',Grow w' F b z vn' vs ve' (rmN z cur p) ss (es++[⟨2,p⟩,⟨4,IK p⟩])/\Touch F w w'):=by
 obtain⟨A,n,B,u,T,ho,hk,hr,hgd,hu1,hu2,hu3,hu4,hu5,hu6,g',R'⟩:=uO C.g C.r;obtain⟨A',B',T'⟩:=nT C.g.asc T hu2 hu3 hu4;have hp:=MO hgd;have hd:=WY p;have hkk:=C.c u hu2;have h0:=(C.g.ok u hu2).k0;have hn:=(C.g.ok u hu2).kids;have hn2:NW cur u.p<=cur.length:=List.countP_le_length;have hl:=C.g.few;by_cases hf:u.k=2147483647
 .refine .inl ⟨AV6 hu2 hu3 hu4 hf ps hu6,?_⟩;exact kF F b z vn vs ve cur A B A' B' n u ss es p w h hF T T' hl hk hf (by omega) (by omega)
 .refine .inr ⟨⟨g',R',BX1 C.g.asc hu2 hu3 (by omega) C.c⟩,?_⟩;exact wF F b z vn vs ve cur A B A' B' n u ss es p w h hF T T' hl hk ⟨h0,by omega⟩ (by omega) (by omega) (by omega) (by omega)
theorem B15(F:Nat->Prop)(b:Nat)(z:Int)(vn vs ve:FX)(ns:List Nd)(ss A B ss0:List Int)(s:Int)(w:FW)
  (h:Grow w F b z vn vs ve ns ss []) (hF:∀k,w.heap.size<=k->F k) (T:jG ss A B s) (hl:ss.length<=2147483647) (C:Clo z s ss0 ns (OM ns s)):
  FZ prog 197 #[P0 b,I0 s] w fun e w'=>CJ4 F b z ns (A++B) (OM ns s) w e w':=by
 have CF:=vV vs ss A B s w h.s.seq hl T;have hne:ns≠[]:=by obtain⟨r,rest,e,_⟩:=C.g.root;rw[e];simp
 have hfew:=C.g.few;obtain⟨g,cap,hsv,hr⟩:∃g cap,vs=FU (G6 ⟨g,0,G5⟩) ss.length cap/\JA w g cap (A++s::B):=by
  rcases h.s with⟨_,e⟩|⟨g,cap,e,_,h3⟩
  .have:=T.eq;rw[e]at this;simp at this
  .exact⟨g,cap,e,by rw[<-T.eq];exact h3⟩
 subst hsv;have hlen:ss.length=A.length+B.length+1:=by rw[T.eq];simp;omega
 have CD:=A11 g cap A B s ss.length w hr hlen hl;have c2:=h.c2;have hgb:=(h.fs g rfl).2;have hFg:=(h.fs g rfl).1;have HG:=G8 h;have HF:=G8 hF;have HC:=G8 C;have HCD:=G8 CD;obtain⟨ps,hps⟩:∃ps,OM ns s=ps:=⟨_,rfl⟩;have HPS:=G8 hps;have hpl:ps.length<=400:=by rw[<-hps];exact Nat.le_trans (wG ns s) hfew
 rw[hps];have hAl:A.length<ss.length:=by omega
 clear h hF T hr CD C hps hlen;go_enter func197,ntmps197;go_wp2_with fail;refine CF.mono ?_;rintro e w1 ⟨rfl,rfl⟩;clear CF;go_wp2_with fail;rw[show ((A.length:Int)+1)=((A.length+1:Nat):Int)from by omega];refine(G7 HCD).mono ?_;rintro e w2 ⟨rfl,ho2,hg2⟩;have m2:w2.cell? ⟨b,2,G5⟩=G6 (FU (G6 ⟨g,0,G5⟩) ss.length cap):=hg2.cell c2 (fun e=>hgb (BP e).symm);have l2:w2.frozen? ⟨b,2,G5⟩=false:=(World.frozen?_of_block (hg2.block b (G7 HG).lt (fun e=>hgb (BP e).symm))).trans ((G7 HG).fz 2);have g2:=(G7 HG).se (vs':=FU (G6 ⟨g,0,G5⟩) (A.length+B.length) cap) (ss':=A++B) (G7 HF) hg2 (.inr ⟨g,cap,by rw[AP],AZ _,ho2⟩) (.inl rfl);have t2:Touch F w1 (w2.setCell ⟨b,2,G5⟩ (FU (G6 ⟨g,0,G5⟩) (A.length+B.length) cap)):=(Touch.VI hg2 (fun k e=>by cases e;exact hFg)).trans (Touch.set g2.fb _);have HG2:=G8 g2;have HT2:=G8 t2;clear g2 t2 ho2 hg2 HCD c2;go_wp2_with fail;refine(B14 F b z _ _ _ _ _ _ s _ (G7 HG2) hfew hne).mono ?_;rintro e w3 ⟨v3,rfl,ho3,hb3⟩;rw[G7 HPS]at ho3;have g3:=(G7 HG2).next hb3;have HG3:=G8 g3;have HO3:=G8 ho3;obtain⟨pa,pc,rfl,_⟩:=ho3.slice;have hlow:∀k,(Value.slice pa ps.length pc).ownBlock=G6 k->(w2.setCell ⟨b,2,G5⟩ (FU (G6 ⟨g,0,G5⟩) (A.length+B.length) cap)).heap.size<=k:=by
  intro k e;rcases G7 HO3 with⟨h1,_⟩|⟨q,c,h1,hq,_⟩
  .rw[h1]at e;cases e
  .rw[h1]at e;cases e;exact hq
 have F3:Hid (Grow w3 (fun k=>F k/\(Value.slice pa ps.length pc).ownBlock≠G6 k) b z vn (FU (G6 ⟨g,0,G5⟩) (A.length+B.length) cap) ve ns (A++B) []):=by
  have q:=G7 HG2;exact⟨g3.blk,⟨g3.fb,fun e=>by have:=hlow _ e;have:=q.lt;omega⟩,g3.n,g3.s,g3.e,fun k hk=>⟨⟨(g3.fn k hk).1,fun e=>by have:=hlow _ e;have:=q.n.low k hk;omega⟩,(g3.fn k hk).2⟩,fun k hk=>⟨⟨(g3.fs k hk).1,fun e=>by have:=hlow _ e;have:=q.s.low k hk;omega⟩,(g3.fs k hk).2⟩,fun k hk=>⟨⟨(g3.fe k hk).1,fun e=>by have:=hlow _ e;have:=q.e.low k hk;omega⟩,(g3.fe k hk).2⟩,g3.an,g3.asn⟩
 have T3:=G8 ((G7 HT2).trans (Touch.of_below hb3));have hpb:∀k,(Value.slice pa ps.length pc).ownBlock=G6 k->k<w3.heap.size:=fun k e=>(G7 HO3).low k e;have HPB:=G8 hpb;have HF3:Hid (∀W:FW,w3.heap.size<=W.heap.size->∀k,W.heap.size<=k->F k/\(Value.slice pa ps.length pc).ownBlock≠G6 k):=fun W hW k hk=>⟨G7 HF k (by have:=(G7 T3).size;omega),fun e=>by have:=G7 HPB k e;omega⟩;clear g3 ho3 hlow hpb hb3 m2 l2;go_wp2_with fail
 go_loopg [37] ps.length (fun kx s37 wr=>∃ (k:Nat) (vn' ve':FX),s37=I0 k/\k<=ps.length/\ps.length-k<=kx/\Hid (Grow wr (fun k=>F k/\(Value.slice pa ps.length pc).ownBlock≠G6 k) b z vn' (FU (G6 ⟨g,0,G5⟩) (A.length+B.length) cap) ve' (QX z ns (ps.take k)) (A++B) (AV3 (ps.take k)))/\Hid (Clo z s ss0 (QX z ns (ps.take k)) (ps.drop k))/\Hid (Touch (fun k=>F k/\(Value.slice pa ps.length pc).ownBlock≠G6 k) w3 wr))
 case atStart=>exact⟨0,vn,ve,rfl,AZ _,A8 _,F3,(by rw[List.drop_zero];have:=G7 HC;rw[G7 HPS]at this;exact G8 this),G8 (Touch.refl _ _)⟩
 case round=>
  obtain⟨k,vn',ve',rfl,hk,hg,hG,hCl,hT⟩:=hrel;have tF:Hid (Touch F w1 wr):=G8 ((G7 T3).trans ((G7 hT).mono (fun k _ hk=>hk.1)));by_cases hlt:k<ps.length
  .obtain⟨p,hp⟩:∃p,ps[k]?=G6 p:=⟨_,AO hlt⟩;have hor:=(G7 HO3).touched (G7 hT) (fun q e h=>h.2 e);obtain⟨q,off,cq,he,_,hrow,_,_⟩:=MV hor.seq (by intro e;rw[e]at hlt;simp at hlt);simp only[AQ]at he;obtain⟨rfl,_,rfl⟩:=he;have r0:=hrow.s0 hp;have hdr:ps.drop k=p::ps.drop (k+1):=by rw[List.drop_eq_getElem_cons hlt];congr 1;rw[AO hlt]at hp;exact BP hp
   have hev:(AV3 (ps.take k)).length<=99998:=by rw[A81,F8];omega
   have CL:=G7 hCl;rw[hdr]at CL;have ST:=BL3 _ b z s vn' _ ve' _ (A++B) ss0 _ p (ps.drop (k+1)) wr (G7 hG) (G7 HF3 wr (G7 hT).size) hev CL;have HN:=G8 (AH4 z ns hp);have HV:=G8 (AV7 hp);have HSP:=G8 (show QX z ns ps=QX z (QX z ns (ps.take k)) (p::ps.drop (k+1)) by rw[<-hdr];exact zO z ns ps k);clear CL hdr hp hor hrow;rcases ST with⟨hfull,C6⟩|⟨C0,C00⟩
   .have HFU:=G8 hfull;clear hfull;go_wp2_with fail;refine C6.mono ?_;rintro e w4 ⟨rfl,t4⟩;have HT4:=G8 ((G7 tF).trans (t4.mono (fun k _ hk=>hk.1)));clear C6 t4;go_wp2_with fail;go_ret;exact .inl ⟨by rw[G7 HSP];exact G7 HFU,rfl,G7 HT4⟩
   .have HC0:=G8 C0;clear C0;go_wp2_with fail;refine C00.mono ?_;rintro e w4 ⟨rfl,vn2,ve2,g4,t4⟩;have HG4:=G8 g4;have HT4:=G8 ((G7 hT).trans t4);clear C00 t4 g4;go_wp2_with fail
    go_roundg (ps.length-(k+1))
    case measure=>omega
    case rel=>exact⟨k+1,vn2,ve2,rfl,by omega,A8 _,(by rw[G7 HN,G7 HV];exact HG4),(by rw[G7 HN];exact HC0),HT4⟩
  .obtain rfl:k=ps.length:=by omega
   have hGf:=(G7 hG).cut (G:=F) (fun k _ hk=>hk.1);have hcap:=(G7 hCl).c;rw[DW]at hGf hcap;have HGf:=G8 hGf;have HCp:=G8 (OE.2 hcap);clear hGf hcap;go_wp2_with fail;go_ret;exact .inr ⟨G7 HCp,rfl,vn',_,ve',G7 HGf,G7 tF⟩
