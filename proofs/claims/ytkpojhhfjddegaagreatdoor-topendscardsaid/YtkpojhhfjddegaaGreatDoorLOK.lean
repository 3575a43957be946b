/-
  Part.
-/
import Derived.Test.YtkpojhhfjddegaaGreatDoorLOJ
set_option maxRecDepth 20000
set_option maxHeartbeats 8000000
namespace Go.Proofs.YtkpojhhfjddegaaGreatDoor
open Go.RowKit Go.Proofs.Tryz
open _root_.Nat renaming le_refl->A8,zero_le->AZ,zero_add->BJ
open _root_.List renaming getElem?_eq_getElem->AO,length_append->AP,take_length->DX,length_take->FB
open Go.Value.slice renaming injEq->AQ
open _root_.Option.some renaming injEq->BF,inj->BQ
open Go.Obj renaming cells->FW
open Go renaming World->FX,Value->FZ,Calls->G5
open _root_.Option renaming none->G6,some->G7
theorem B41(F:Nat->Prop)(b:Nat)(z:Int)(vn vs ve:FZ)(ns:List Nd)(A B A' B':List Nd)(u:Nd)(ss:List Int)(es:List Ev)(x:GU)(w:FX)
  (h:Grow w F b z vn vs ve ns ss es) (G:oI ns A B x.p) (U:KL ns A' u B' (IQ x.p)) (ho:u.o=0) (hw1:x.w=0) (hf:ns.length=400):
  G5 prog 195 #[P0 b,JA x] w fun e w'=>e=.returned (I0 6)/\Touch F w w':=by
 obtain⟨xz,xo,xs,xp,xd,xv,xw⟩:=x;simp only at G U hw1;have CF:=fun W (hW:B0 w W)=>NQ vn ns A B xp W (h.n.next hW).seq (by omega) G;have HCS:=G9 (fun W=>NM xp W);have HCG:=G9 (fun W (hW:B0 w W)=>JX vn ns A' B' u (IQ xp) W (h.n.next hW).seq (by omega) U);have KX:∀w1,Below (w.alloc (FW #[I0 xz,I0 xo,I0 xs,S0 xp,S0 xd,I0 xv,I0 xw] 83)).heap.size (w.alloc (FW #[I0 xz,I0 xo,I0 xs,S0 xp,S0 xd,I0 xv,I0 xw] 83)) w1->TAt w1 w.heap.size ⟨xz,xo,xs,xp,xd,xv,xw⟩:=fun w1 h1=>(TAt.new w ⟨xz,xo,xs,xp,xd,xv,xw⟩).next h1;have HKX:=G9 KX;have c1:=h.c1;have hbl:=h.lt;obtain⟨g,cap,rfl,hr,hgb,hFg⟩:=h.iZ (by rw[U.eq];simp);have HG:=G9 h;have HE:=G9 U.eq;have hlt:A'.length<ns.length:=by rw[U.eq];simp
 have hb1:(xw !=0)=false:=by simpa using hw1
 have hfb:((ns.length:Int)==400)=true:=by rw[hf];rfl
 have HO:=G9 ho;clear h G U KX ho hr hf hw1;unfold JA;go_enter func195,ntmps195;go_wp2_with fail
 go_region_law (first
  |(go_simp;refine(CF _ (by first|exact((Below.refl w.heap.size w).alloc (A8 _) _).drew|exact(Below.refl w.heap.size w).alloc (A8 _) _)).mono ?_;rintro e w1 ⟨rfl,hb1⟩;have HBd:=G9 hb1;clear hb1))
 all_goals
  have HB0:=G9 (IC (G8 HBd));clear CF;have HB1:=G9 (GZ (G8 HB0));have tx:=G8 HKX w1 (G8 HB0);have t3:=tx.c3;have HTX:=G9 tx;have g1:=(G8 HG).next (G8 HB1);have HG1:=G9 g1;clear g1 tx c1;go_wp2_with fail;refine(G8 HCS _).mono ?_;rintro e w2 ⟨rfl,hb2⟩;have HB2:=G9 (GI (G8 HB1) hb2);have tx2:=(G8 HTX).next hb2;have g2:=(G8 HG1).next hb2;have e1:=g2.c1;have A44:=G9 tx2;have HG2:=G9 g2;clear tx2 g2 hb2 t3;go_wp2_with fail;refine(G8 HCG _ (G8 HB2)).mono ?_;rintro e w3 ⟨rfl,hb3⟩;have HB3:=G9 (GI (G8 HB2) hb3);have tx3:=(G8 A44).next hb3;have g3:=(G8 HG2).next hb3;have f1:=g3.c1;have y0:=tx3.c0;have y2:=tx3.c2;have y3:=tx3.c3;have y4:=tx3.c4;have y6:=tx3.c6;obtain⟨g',cap',he,hr,_,_⟩:=g3.iZ (by rw[G8 HE];simp);simp only[AQ,BF,Addr.mk.injEq,and_true]at he;obtain⟨rfl,_,rfl⟩:=he;have r7:=hr.row.n7 (i:=A'.length) (x:=u) (by rw[G8 HE];exact VE A' u B');rw[BJ]at r7;have CI7:=G9 tx3;have HG3:=G9 g3;clear g3 tx3 hr e1 hb3;rw[G8 HO]at r7;go_wp2_with fail;go_ret;exact⟨rfl,Touch.of_below (G8 HB3)⟩
theorem B42(F:Nat->Prop)(b:Nat)(z:Int)(vn vs ve:FZ)(ns:List Nd)(A B A' B':List Nd)(u:Nd)(ss:List Int)(es:List Ev)(x:GU)(w:FX)
  (h:Grow w F b z vn vs ve ns ss es) (G:oI ns A B x.p) (U:KL ns A' u B' (IQ x.p)) (ho:u.o=0) (hw1:x.w≠0) (hw2:x.w=x.s) (hf:ns.length=400):
  G5 prog 195 #[P0 b,JA x] w fun e w'=>e=.returned (I0 6)/\Touch F w w':=by
 obtain⟨xz,xo,xs,xp,xd,xv,xw⟩:=x;simp only at G U hw1 hw2;have CF:=fun W (hW:B0 w W)=>NQ vn ns A B xp W (h.n.next hW).seq (by omega) G;have HCS:=G9 (fun W=>NM xp W);have HCG:=G9 (fun W (hW:B0 w W)=>JX vn ns A' B' u (IQ xp) W (h.n.next hW).seq (by omega) U);have KX:∀w1,Below (w.alloc (FW #[I0 xz,I0 xo,I0 xs,S0 xp,S0 xd,I0 xv,I0 xw] 83)).heap.size (w.alloc (FW #[I0 xz,I0 xo,I0 xs,S0 xp,S0 xd,I0 xv,I0 xw] 83)) w1->TAt w1 w.heap.size ⟨xz,xo,xs,xp,xd,xv,xw⟩:=fun w1 h1=>(TAt.new w ⟨xz,xo,xs,xp,xd,xv,xw⟩).next h1;have HKX:=G9 KX;have c1:=h.c1;have hbl:=h.lt;obtain⟨g,cap,rfl,hr,hgb,hFg⟩:=h.iZ (by rw[U.eq];simp);have HG:=G9 h;have HE:=G9 U.eq;have hlt:A'.length<ns.length:=by rw[U.eq];simp
 have hb1:(xw !=0)=true:=by simpa using hw1
 have hb2:(xw !=xs)=false:=by simpa using hw2
 have hfb:((ns.length:Int)==400)=true:=by rw[hf];rfl
 have HO:=G9 ho;clear h G U KX ho hr hf hw1 hw2;unfold JA;go_enter func195,ntmps195;go_wp2_with fail
 go_region_law (first
  |(go_simp;refine(CF _ (by first|exact((Below.refl w.heap.size w).alloc (A8 _) _).drew|exact(Below.refl w.heap.size w).alloc (A8 _) _)).mono ?_;rintro e w1 ⟨rfl,hb1⟩;have HBd:=G9 hb1;clear hb1))
 all_goals
  have HB0:=G9 (IC (G8 HBd));clear CF;have HB1:=G9 (GZ (G8 HB0));have tx:=G8 HKX w1 (G8 HB0);have t3:=tx.c3;have HTX:=G9 tx;have g1:=(G8 HG).next (G8 HB1);have HG1:=G9 g1;clear g1 tx c1;go_wp2_with fail;refine(G8 HCS _).mono ?_;rintro e w2 ⟨rfl,hb2⟩;have HB2:=G9 (GI (G8 HB1) hb2);have tx2:=(G8 HTX).next hb2;have g2:=(G8 HG1).next hb2;have e1:=g2.c1;have A44:=G9 tx2;have HG2:=G9 g2;clear tx2 g2 hb2 t3;go_wp2_with fail;refine(G8 HCG _ (G8 HB2)).mono ?_;rintro e w3 ⟨rfl,hb3⟩;have HB3:=G9 (GI (G8 HB2) hb3);have tx3:=(G8 A44).next hb3;have g3:=(G8 HG2).next hb3;have f1:=g3.c1;have y0:=tx3.c0;have y2:=tx3.c2;have y3:=tx3.c3;have y4:=tx3.c4;have y6:=tx3.c6;obtain⟨g',cap',he,hr,_,_⟩:=g3.iZ (by rw[G8 HE];simp);simp only[AQ,BF,Addr.mk.injEq,and_true]at he;obtain⟨rfl,_,rfl⟩:=he;have r7:=hr.row.n7 (i:=A'.length) (x:=u) (by rw[G8 HE];exact VE A' u B');rw[BJ]at r7;have CI7:=G9 tx3;have HG3:=G9 g3;clear g3 tx3 hr e1 hb3;rw[G8 HO]at r7;go_wp2_with fail;go_ret;exact⟨rfl,Touch.of_below (G8 HB3)⟩
theorem sK(w:FX)(x:Int):JM (w.alloc (FW #[I0 x] 3)) w.heap.size x:=heap_alloc_new w _
theorem BN7(w:FX)(x:List UInt8):JM (w.alloc (FW #[S0 x] 9)) w.heap.size x:=heap_alloc_new w _
theorem BN8(F:Nat->Prop)(b:Nat)(z:Int)(vn vs ve:FZ)(ns:List Nd)(ss A B:List Int)(es:List Ev)(s:Int)(w:FX)
  (h:Grow w F b z vn vs ve ns ss es) (hF:∀k,w.heap.size<=k->F k) (G:C45 ss A B s) (hl:ss.length<=2147483646):
  G5 prog 193 #[P0 b,I0 s] w fun e w'=>e=.returned (.tuple #[])/\∃vs',Grow w' F b z vn vs' ve ns (A++s::B) es/\Touch F w w':=by
 have CF:=B30 vs ss A B s w h.s.seq (by omega) G;have h0:=(h.next (GH w (FW #[I0 s] 3)));have CI:=A39 vs A B s w.heap.size _ (by rw[<-G.eq];exact h0.s) (by rw[<-G.eq];omega) (sK w s) (fun e=>by have:=h.s.low _ e;omega);have c2:=h.c2;have HG0:=G9 h0;have HF:=G9 hF;have hbl:=h.lt;obtain⟨sa,sc,rfl,_⟩:=h.s.slice;have HCI:=G9 CI;clear h h0 hF G CI;go_enter func193,ntmps193;go_wp2_with fail;refine CF.mono ?_;rintro e w1 ⟨rfl,rfl⟩;go_wp2_with fail;refine(G8 HCI).mono ?_;rintro e w2 ⟨v',rfl,ho,hg,hloc⟩;have n2:¬ (Value.slice sa ss.length sc).ownBlock=G7 b:=fun e=>((G8 HG0).fs b e).2 rfl;have m2:w2.cell? ⟨b,2,G6⟩=G7 (.slice sa ss.length sc):=hg.cell (G8 HG0).c2 (fun e=>n2 e.symm);have l2:w2.frozen? ⟨b,2,G6⟩=false:=(World.frozen?_of_block (hg.block b (G8 HG0).lt (fun e=>n2 e.symm))).trans ((G8 HG0).fz 2);have g2:=(G8 HG0).se (vs':=v') (ss':=A++s::B) (fun k hk=>G8 HF k (by simp at hk;omega)) hg ho hloc;have t2:Touch F w1 (w2.setCell ⟨b,2,G6⟩ v'):=((Touch.of_below (GH w1 _)).trans (Touch.VX hg (fun k e=>((G8 HG0).fs k e).1))).trans (Touch.set (G8 HG0).fb _);obtain⟨va,L,vc,rfl⟩:∃va L vc,v'=.slice va L vc:=by obtain⟨va,vc,h,_⟩:=ho.slice;exact⟨_,_,_,h⟩
 have HG2:=G9 g2;have HT2:=G9 t2;clear g2 t2 ho hg hloc n2;go_wp2_with fail
 go_end0
 exact⟨rfl,_,G8 HG2,G8 HT2⟩
theorem CM6:(prog.info? 9).map (fun i=>(i.zero,i.size,i.bytes))=G7 (G7 (.string ⟨#[]⟩),1,16):=by kernel_rfl
theorem CY1:∃i0,prog.info? 9=G7 i0/\i0.zero=G7 (.string ⟨#[]⟩)/\i0.size=1/\i0.bytes=16:=by
 obtain⟨i0,h,e⟩:=Option.map_eq_some_iff.1 CM6;simp only[Prod.mk.injEq]at e;exact⟨i0,h,e⟩
theorem AO3{ns:List Nd}{k:Nat}{x:Nd}(hx:ns[k]?=G7 x)(s:Int):OY (ns.take (k+1)) s=OY (ns.take k) s++(if x.o=s then [x.p]else []):=by
 rw[List.take_add_one,hx];simp only[OY,Option.toList_some,List.filter_append,List.map_append,List.filter_cons,List.filter_nil,decide_eq_true_eq]
 split<;>simp
theorem xM(ns:List Nd)(s:Int):(OY ns s).length<=ns.length:=by
 rw[OY,List.length_map];exact List.length_filter_le _ _
theorem B44(F:Nat->Prop)(b:Nat)(z:Int)(vn vs ve:FZ)(ns:List Nd)(ss:List Int)(es:List Ev)(s:Int)(w:FX)
  (h:Grow w F b z vn vs ve ns ss es) (hl:ns.length<=400) (h0:ns≠[]):
  G5 prog 225 #[P0 b,I0 s] w fun e w'=>∃v',e=.returned v'/\H6 w' w.heap.size v' (OY ns s)/\B0 w w':=by
 obtain⟨i0,hi0,hz0,hz1,hz2⟩:=CY1;obtain⟨g,cap,rfl,hr,hgb,hFg⟩:=h.iZ h0;have hgl:=hr.lt;have c1:=h.c1;have H:=G9 hr.row;clear h hr;go_enter func225,ntmps225;go_wp2_with fail
 go_loopg [5,14] ns.length (fun kx s5 s14 wr=>∃k:Nat,s14=I0 k/\k<=ns.length/\ns.length-k<=kx/\Hid (H6 wr w.heap.size s5 (OY (ns.take k) s))/\Hid (B0 w wr))
 case atStart=>exact⟨0,rfl,AZ _,A8 _,G9 (.inl ⟨rfl,rfl⟩),G9 (Below.refl _ _)⟩
 case round=>
  obtain⟨k,rfl,hk,hg,hO,hB⟩:=hrel;by_cases hlt:k<ns.length
  .obtain⟨x,hx⟩:∃x,ns[k]?=G7 x:=⟨_,AO hlt⟩;have q:=(G8 H).kept (G8 hB) hgl;have d0:=q.n0 hx;have d1:=q.n1 hx;have d2:=q.n2 hx;have d3:=q.n3 hx;have d4:=q.n4 hx;have d5:=q.n5 hx;have d6:=q.n6 hx;have d7:=q.n7 hx;have d8:=q.n8 hx;rw[BJ]at d0 d1 d2 d3 d4 d5 d6 d7 d8;have hbw:g<wr.heap.size:=Nat.lt_of_lt_of_le hgl (G8 hB).size;have HT:=G9 (AO3 hx s);have hln:=xM (ns.take k) s;simp only[FB]at hln;clear q hx;obtain⟨va,vc,rfl,_⟩:=(G8 hO).slice;have hrow:=(G8 hO).row;by_cases hs:x.o=s
   .have hsb:(x.o==s)=true:=by simpa using hs
    have HS:=G9 hs;clear hs;obtain⟨P,hP⟩:∃P,OY (ns.take k) s=P:=⟨_,rfl⟩;rw[hP]at hO hln HT hrow;rw[hP];clear hP;have HRW:=G9 hrow;clear hrow;go_wp2_with (at_builtin;refine wpList_append_own _ rfl _ _ 195 rfl w.heap.size 9 i0 _ 1 16 underlying195 hi0 hz0 hz1 hz2 rfl (by decide) _ P.length (GK P) rfl ((((G8 hO).next (GH wr (FW #[S0 x.p,S0 x.d,I0 x.c,I0 x.m,I0 x.q,I0 x.v,I0 x.k,I0 x.o,I0 x.n] 104))).next (GH _ _)).row) ⟨wr.heap.size+1,0,G6⟩ 1 1 [S0 x.p] rfl (by rfl) ?qc2 (by intro u hu;simp at hu;subst hu;rfl) ?qc4 ?qc5 ?qc6 ?_)
    case qc2=>
     intro j u hj;have:=SV (BN7 (wr.alloc (FW #[S0 x.p,S0 x.d,I0 x.c,I0 x.m,I0 x.q,I0 x.v,I0 x.k,I0 x.o,I0 x.n] 104)) x.p) j u hj;simpa using this
    case qc4=>simp only[maxLen];omega
    case qc5=>omega
    case qc6=>have:=(G8 hB).size;simp;omega
    intro v' w1 hown hgrow _;have O1:H6 w1 w.heap.size v' (P++[x.p]):=H6.LC (by rw[AP,JH];exact hown);have hB0:B0 w ((wr.alloc (FW #[S0 x.p,S0 x.d,I0 x.c,I0 x.m,I0 x.q,I0 x.v,I0 x.k,I0 x.o,I0 x.n] 104)).alloc (FW #[S0 x.p] 9)):=GI (G8 hB) (GI (GH _ _) (GH _ _));have B1:B0 w w1:=hB0.grown hgrow hB0.size (fun j hj=>by
     rcases G8 hO with⟨e,_⟩|⟨q,c,e,hq,_⟩
     .rw[e]at hj;cases hj
     .rw[e]at hj;cases hj;exact hq)
    have HO1:=G9 O1;have HB1:=G9 B1;obtain⟨wa,wc,rfl,_⟩:=O1.slice;clear O1 B1 hB0 hown hgrow;go_wp2_with fail
    go_roundg (ns.length-(k+1))
    case measure=>omega
    case rel=>exact⟨k+1,rfl,by omega,A8 _,(by rw[G8 HT,if_pos (G8 HS)];exact HO1),HB1⟩
   .have hsb:(x.o==s)=false:=by simpa using hs
    have HS:=G9 hs;have HO1:=G9 ((G8 hO).next (GH wr (FW #[S0 x.p,S0 x.d,I0 x.c,I0 x.m,I0 x.q,I0 x.v,I0 x.k,I0 x.o,I0 x.n] 104)));clear hs hrow;go_wp2_with fail
    go_roundg (ns.length-(k+1))
    case measure=>omega
    case rel=>exact⟨k+1,rfl,by omega,A8 _,(by rw[G8 HT,if_neg (G8 HS),List.append_nil];exact HO1),G9 (GI (G8 hB) (GH _ _))⟩
  .obtain rfl:k=ns.length:=by omega
   have O1:=G8 hO;rw[DX]at O1;have HO1:=G9 O1;obtain⟨wa,wc,rfl,_⟩:=O1.slice;clear O1;go_wp2_with fail;go_ret;exact⟨_,rfl,G8 HO1,G8 hB⟩
theorem H6.touched{α:Type}[Lay α]{W V:FX}{B:Nat}{v:FZ}{xs:List α}{F:Nat->Prop}(h:H6 W B v xs)(ht:Touch F W V)(hf:∀k,v.ownBlock=G7 k->¬F k):H6 V B v xs:=by
 rcases h with h|⟨g,cap,rfl,hB,h⟩
 .exact .inl h
 .obtain⟨rest,h1,h2⟩:=h;have hlt:=(Array.getElem?_eq_some_iff.1 h1).1;exact .inr ⟨g,cap,rfl,hB,rest,(ht.block g hlt (hf g rfl)).trans h1,h2⟩
def CM7(F:Nat->Prop)(b:Nat)(z:Int)(ns:List Nd)(ss':List Int)(ps:List (List UInt8))(w:FX)(e:Ending)(w':FX):Prop:=
 (Z5 (RX z ns ps)=true/\e=.returned (I0 6)/\Touch F w w')\/
 (Z5 (RX z ns ps)=false/\e=.returned (I0 0)/\∃vn' vs' ve',Grow w' F b z vn' vs' ve' (RX z ns ps) ss' (AY8 ps)/\Touch F w w')
structure Clo(z s:Int)(ss0:List Int)(cur:List Nd)(ps:List (List UInt8)):Prop where
 g:QC z cur ss0
 r:CK5 s cur ps
 c:∀n∈cur,n.k<=2147483647
theorem BN9(F:Nat->Prop)(b:Nat)(z s:Int)(vn vs ve:FZ)(cur:List Nd)(ss ss0:List Int)(es:List Ev)(p:List UInt8)(ps:List (List UInt8))(w:FX)
  (h:Grow w F b z vn vs ve cur ss es) (hF:∀k,w.heap.size<=k->F k) (hes:es.length<=99998) (C:Clo z s ss0 cur (p::ps)):
  (Z5 (RX z cur (p::ps))=true/\G5 prog 196 #[P0 b,S0 p] w fun e w'=>e=.returned (I0 6)/\Touch F w w')\/
  (Clo z s ss0 (rmN z cur p) ps/\G5 prog 196 #[P0 b,S0 p] w fun e w'=>e=.returned (I0 0)/\∃vn' ve',Grow w' F b z vn' vs ve' (rmN z cur p) ss (es++[⟨2,p⟩,⟨4,IQ p⟩])/\Touch F w w'):=by
 obtain⟨A,n,B,u,T,ho,hk,hr,hgd,hu1,hu2,hu3,hu4,hu5,hu6,g',R'⟩:=vT C.g C.r;obtain⟨A',B',T'⟩:=oN C.g.asc T hu2 hu3 hu4;have hp:=MR hgd;have hd:=XK p;have hkk:=C.c u hu2;have h0:=(C.g.ok u hu2).k0;have hn:=(C.g.ok u hu2).kids;have hn2:OA cur u.p<=cur.length:=List.countP_le_length;have hl:=C.g.few;by_cases hf:u.k=2147483647
 .refine .inl ⟨AZ1 hu2 hu3 hu4 hf ps hu6,?_⟩;exact kY F b z vn vs ve cur A B A' B' n u ss es p w h hF T T' hl hk hf (by omega) (by omega)
 .refine .inr ⟨⟨g',R',BZ7 C.g.asc hu2 hu3 (by omega) C.c⟩,?_⟩;exact xK F b z vn vs ve cur A B A' B' n u ss es p w h hF T T' hl hk ⟨h0,by omega⟩ (by omega) (by omega) (by omega) (by omega)
theorem B45(F:Nat->Prop)(b:Nat)(z:Int)(vn vs ve:FZ)(ns:List Nd)(ss A B ss0:List Int)(s:Int)(w:FX)
  (h:Grow w F b z vn vs ve ns ss []) (hF:∀k,w.heap.size<=k->F k) (T:jY ss A B s) (hl:ss.length<=2147483647) (C:Clo z s ss0 ns (OY ns s)):
  G5 prog 194 #[P0 b,I0 s] w fun e w'=>CM7 F b z ns (A++B) (OY ns s) w e w':=by
 have CF:=xB vs ss A B s w h.s.seq hl T;have hne:ns≠[]:=by obtain⟨r,rest,e,_⟩:=C.g.root;rw[e];simp
 have hfew:=C.g.few;obtain⟨g,cap,hsv,hr⟩:∃g cap,vs=.slice (G7 ⟨g,0,G6⟩) ss.length cap/\JB w g cap (A++s::B):=by
  rcases h.s with⟨_,e⟩|⟨g,cap,e,_,h3⟩
  .have:=T.eq;rw[e]at this;simp at this
  .exact⟨g,cap,e,by rw[<-T.eq];exact h3⟩
 subst hsv;have hlen:ss.length=A.length+B.length+1:=by rw[T.eq];simp;omega
 have CD:=A37 g cap A B s ss.length w hr hlen hl;have c2:=h.c2;have hgb:=(h.fs g rfl).2;have hFg:=(h.fs g rfl).1;have HG:=G9 h;have HF:=G9 hF;have HC:=G9 C;have HCD:=G9 CD;obtain⟨ps,hps⟩:∃ps,OY ns s=ps:=⟨_,rfl⟩;have HPS:=G9 hps;have hpl:ps.length<=400:=by rw[<-hps];exact Nat.le_trans (xM ns s) hfew
 rw[hps];have hAl:A.length<ss.length:=by omega
 clear h hF T hr CD C hps hlen;go_enter func194,ntmps194;go_wp2_with fail;refine CF.mono ?_;rintro e w1 ⟨rfl,rfl⟩;clear CF;go_wp2_with fail;rw[show ((A.length:Int)+1)=((A.length+1:Nat):Int)from by omega];refine(G8 HCD).mono ?_;rintro e w2 ⟨rfl,ho2,hg2⟩;have m2:w2.cell? ⟨b,2,G6⟩=G7 (.slice (G7 ⟨g,0,G6⟩) ss.length cap):=hg2.cell c2 (fun e=>hgb (BQ e).symm);have l2:w2.frozen? ⟨b,2,G6⟩=false:=(World.frozen?_of_block (hg2.block b (G8 HG).lt (fun e=>hgb (BQ e).symm))).trans ((G8 HG).fz 2);have g2:=(G8 HG).se (vs':=.slice (G7 ⟨g,0,G6⟩) (A.length+B.length) cap) (ss':=A++B) (G8 HF) hg2 (.inr ⟨g,cap,by rw[AP],AZ _,ho2⟩) (.inl rfl);have t2:Touch F w1 (w2.setCell ⟨b,2,G6⟩ (.slice (G7 ⟨g,0,G6⟩) (A.length+B.length) cap)):=(Touch.VX hg2 (fun k e=>by cases e;exact hFg)).trans (Touch.set g2.fb _);have HG2:=G9 g2;have HT2:=G9 t2;clear g2 t2 ho2 hg2 HCD c2;go_wp2_with fail;refine(B44 F b z _ _ _ _ _ _ s _ (G8 HG2) hfew hne).mono ?_;rintro e w3 ⟨v3,rfl,ho3,hb3⟩;rw[G8 HPS]at ho3;have g3:=(G8 HG2).next hb3;have HG3:=G9 g3;have HO3:=G9 ho3;obtain⟨pa,pc,rfl,_⟩:=ho3.slice;have hlow:∀k,(Value.slice pa ps.length pc).ownBlock=G7 k->(w2.setCell ⟨b,2,G6⟩ (.slice (G7 ⟨g,0,G6⟩) (A.length+B.length) cap)).heap.size<=k:=by
  intro k e;rcases G8 HO3 with⟨h1,_⟩|⟨q,c,h1,hq,_⟩
  .rw[h1]at e;cases e
  .rw[h1]at e;cases e;exact hq
 have F3:Hid (Grow w3 (fun k=>F k/\(Value.slice pa ps.length pc).ownBlock≠G7 k) b z vn (.slice (G7 ⟨g,0,G6⟩) (A.length+B.length) cap) ve ns (A++B) []):=by
  have q:=G8 HG2;exact⟨g3.blk,⟨g3.fb,fun e=>by have:=hlow _ e;have:=q.lt;omega⟩,g3.n,g3.s,g3.e,fun k hk=>⟨⟨(g3.fn k hk).1,fun e=>by have:=hlow _ e;have:=q.n.low k hk;omega⟩,(g3.fn k hk).2⟩,fun k hk=>⟨⟨(g3.fs k hk).1,fun e=>by have:=hlow _ e;have:=q.s.low k hk;omega⟩,(g3.fs k hk).2⟩,fun k hk=>⟨⟨(g3.fe k hk).1,fun e=>by have:=hlow _ e;have:=q.e.low k hk;omega⟩,(g3.fe k hk).2⟩,g3.an,g3.asn⟩
 have T3:=G9 ((G8 HT2).trans (Touch.of_below hb3));have hpb:∀k,(Value.slice pa ps.length pc).ownBlock=G7 k->k<w3.heap.size:=fun k e=>(G8 HO3).low k e;have HPB:=G9 hpb;have HF3:Hid (∀W:FX,w3.heap.size<=W.heap.size->∀k,W.heap.size<=k->F k/\(Value.slice pa ps.length pc).ownBlock≠G7 k):=fun W hW k hk=>⟨G8 HF k (by have:=(G8 T3).size;omega),fun e=>by have:=G8 HPB k e;omega⟩;clear g3 ho3 hlow hpb hb3 m2 l2;go_wp2_with fail
 go_loopg [37] ps.length (fun kx s37 wr=>∃ (k:Nat) (vn' ve':FZ),s37=I0 k/\k<=ps.length/\ps.length-k<=kx/\Hid (Grow wr (fun k=>F k/\(Value.slice pa ps.length pc).ownBlock≠G7 k) b z vn' (.slice (G7 ⟨g,0,G6⟩) (A.length+B.length) cap) ve' (RX z ns (ps.take k)) (A++B) (AY8 (ps.take k)))/\Hid (Clo z s ss0 (RX z ns (ps.take k)) (ps.drop k))/\Hid (Touch (fun k=>F k/\(Value.slice pa ps.length pc).ownBlock≠G7 k) w3 wr))
 case atStart=>exact⟨0,vn,ve,rfl,AZ _,A8 _,F3,(by rw[List.drop_zero];have:=G8 HC;rw[G8 HPS]at this;exact G9 this),G9 (Touch.refl _ _)⟩
 case round=>
  obtain⟨k,vn',ve',rfl,hk,hg,hG,hCl,hT⟩:=hrel;have tF:Hid (Touch F w1 wr):=G9 ((G8 T3).trans ((G8 hT).mono (fun k _ hk=>hk.1)));by_cases hlt:k<ps.length
  .obtain⟨p,hp⟩:∃p,ps[k]?=G7 p:=⟨_,AO hlt⟩;have hor:=(G8 HO3).touched (G8 hT) (fun q e h=>h.2 e);obtain⟨q,off,cq,he,_,hrow,_,_⟩:=MZ hor.seq (by intro e;rw[e]at hlt;simp at hlt);simp only[AQ]at he;obtain⟨rfl,_,rfl⟩:=he;have r0:=hrow.s0 hp;have hdr:ps.drop k=p::ps.drop (k+1):=by rw[List.drop_eq_getElem_cons hlt];congr 1;rw[AO hlt]at hp;exact BQ hp
   have hev:(AY8 (ps.take k)).length<=99998:=by rw[AB1,FB];omega
   have CL:=G8 hCl;rw[hdr]at CL;have ST:=BN9 _ b z s vn' _ ve' _ (A++B) ss0 _ p (ps.drop (k+1)) wr (G8 hG) (G8 HF3 wr (G8 hT).size) hev CL;have HN:=G9 (AK8 z ns hp);have HV:=G9 (AZ2 hp);have HSP:=G9 (show RX z ns ps=RX z (RX z ns (ps.take k)) (p::ps.drop (k+1)) by rw[<-hdr];exact A17 z ns ps k);clear CL hdr hp hor hrow;rcases ST with⟨hfull,C6⟩|⟨C0,C00⟩
   .have HFU:=G9 hfull;clear hfull;go_wp2_with fail;refine C6.mono ?_;rintro e w4 ⟨rfl,t4⟩;have HT4:=G9 ((G8 tF).trans (t4.mono (fun k _ hk=>hk.1)));clear C6 t4;go_wp2_with fail;go_ret;exact .inl ⟨by rw[G8 HSP];exact G8 HFU,rfl,G8 HT4⟩
   .have HC0:=G9 C0;clear C0;go_wp2_with fail;refine C00.mono ?_;rintro e w4 ⟨rfl,vn2,ve2,g4,t4⟩;have HG4:=G9 g4;have HT4:=G9 ((G8 hT).trans t4);clear C00 t4 g4;go_wp2_with fail
    go_roundg (ps.length-(k+1))
    case measure=>omega
    case rel=>exact⟨k+1,vn2,ve2,rfl,by omega,A8 _,(by rw[G8 HN,G8 HV];exact HG4),(by rw[G8 HN];exact HC0),HT4⟩
  .obtain rfl:k=ps.length:=by omega
   have hGf:=(G8 hG).cut (G:=F) (fun k _ hk=>hk.1);have hcap:=(G8 hCl).c;rw[DX]at hGf hcap;have HGf:=G9 hGf;have HCp:=G9 (OT.2 hcap);clear hGf hcap;go_wp2_with fail;go_ret;exact .inr ⟨G8 HCp,rfl,vn',_,ve',G8 HGf,G8 tF⟩
