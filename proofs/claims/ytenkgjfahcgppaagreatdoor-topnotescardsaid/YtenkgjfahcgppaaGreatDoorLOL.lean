/-
  Part.
-/
import Derived.Test.YtenkgjfahcgppaaGreatDoorLOK
set_option maxRecDepth 20000
set_option maxHeartbeats 8000000
namespace Go.Proofs.YtenkgjfahcgppaaGreatDoor
open Go.RowKit Go.Proofs.Tryz
theorem AT1(F:Nat->Prop)(b:Nat)(z:Int)(vn vs ve:Value)(ns:List Nd)(A B A' B':List Nd)(u:Nd)(ss:List Int)(es:List Ev)(x:AQ)(w:World)
  (h:Grow w F b z vn vs ve ns ss es) (G:jE ns A B x.p) (U:FQ ns A' u B' (BU x.p)) (ho:u.o=0) (hw1:x.w=0) (hf:ns.length=400):
  Calls prog 59 #[P0 b,DW x] w fun e w'=>e=.returned (I0 6)/\Touch F w w':=by
 obtain⟨xz,xo,xs,xp,xd,xv,xw⟩:=x;simp only at G U hw1;have CF:=fun W (hW:B0 w W)=>JB vn ns A B xp W (h.n.next hW).seq (by omega) G;have HCS:=AA (fun W=>JA xp W);have HCG:=AA (fun W (hW:B0 w W)=>FB vn ns A' B' u (BU xp) W (h.n.next hW).seq (by omega) U);have KX:∀w1,Below (w.alloc (.cells #[I0 xz,I0 xo,I0 xs,S0 xp,S0 xd,I0 xv,I0 xw] 49)).heap.size (w.alloc (.cells #[I0 xz,I0 xo,I0 xs,S0 xp,S0 xd,I0 xv,I0 xw] 49)) w1->TAt w1 w.heap.size ⟨xz,xo,xs,xp,xd,xv,xw⟩:=fun w1 h1=>(TAt.new w ⟨xz,xo,xs,xp,xd,xv,xw⟩).next h1;have HKX:=AA KX;have c1:=h.c1;have hbl:=h.lt;obtain⟨g,cap,rfl,hr,hgb,hFg⟩:=h.bF (by rw[U.eq];simp);have HG:=AA h;have HE:=AA U.eq;have hlt:A'.length<ns.length:=by rw[U.eq];simp
 have hb1:(xw !=0)=false:=by simpa using hw1
 have hfb:((ns.length:Int)==400)=true:=by rw[hf];rfl
 have HO:=AA ho;clear h G U KX ho hr hf hw1;unfold DW;go_enter func59,ntmps59;go_wp2_with fail
 go_region_law (first
  |(go_simp;refine(CF _ (by first|exact((Below.refl w.heap.size w).alloc (Nat.le_refl _) _).drew|exact(Below.refl w.heap.size w).alloc (Nat.le_refl _) _)).mono ?_;rintro e w1 ⟨rfl,hb1⟩;have HBd:=AA hb1;clear hb1))
 all_goals
  have HB0:=AA (BK (A8 HBd));clear CF;have HB1:=AA (AY (A8 HB0));have tx:=A8 HKX w1 (A8 HB0);have t3:=tx.c3;have HTX:=AA tx;have g1:=(A8 HG).next (A8 HB1);have HG1:=AA g1;clear g1 tx c1;go_wp2_with fail;refine(A8 HCS _).mono ?_;rintro e w2 ⟨rfl,hb2⟩;have HB2:=AA (AL (A8 HB1) hb2);have tx2:=(A8 HTX).next hb2;have g2:=(A8 HG1).next hb2;have e1:=g2.c1;have xP:=AA tx2;have HG2:=AA g2;clear tx2 g2 hb2 t3;go_wp2_with fail;refine(A8 HCG _ (A8 HB2)).mono ?_;rintro e w3 ⟨rfl,hb3⟩;have HB3:=AA (AL (A8 HB2) hb3);have tx3:=(A8 xP).next hb3;have g3:=(A8 HG2).next hb3;have f1:=g3.c1;have y0:=tx3.c0;have y2:=tx3.c2;have y3:=tx3.c3;have y4:=tx3.c4;have y6:=tx3.c6;obtain⟨g',cap',he,hr,_,_⟩:=g3.bF (by rw[A8 HE];simp);simp only[Value.slice.injEq,Option.some.injEq,Addr.mk.injEq,and_true]at he;obtain⟨rfl,_,rfl⟩:=he;have r7:=hr.row.n7 (i:=A'.length) (x:=u) (by rw[A8 HE];exact QH A' u B');rw[Nat.zero_add]at r7;have C75:=AA tx3;have HG3:=AA g3;clear g3 tx3 hr e1 hb3;rw[A8 HO]at r7;go_wp2_with fail;go_ret;exact⟨rfl,Touch.of_below (A8 HB3)⟩
theorem AT2(F:Nat->Prop)(b:Nat)(z:Int)(vn vs ve:Value)(ns:List Nd)(A B A' B':List Nd)(u:Nd)(ss:List Int)(es:List Ev)(x:AQ)(w:World)
  (h:Grow w F b z vn vs ve ns ss es) (G:jE ns A B x.p) (U:FQ ns A' u B' (BU x.p)) (ho:u.o=0) (hw1:x.w≠0) (hw2:x.w=x.s) (hf:ns.length=400):
  Calls prog 59 #[P0 b,DW x] w fun e w'=>e=.returned (I0 6)/\Touch F w w':=by
 obtain⟨xz,xo,xs,xp,xd,xv,xw⟩:=x;simp only at G U hw1 hw2;have CF:=fun W (hW:B0 w W)=>JB vn ns A B xp W (h.n.next hW).seq (by omega) G;have HCS:=AA (fun W=>JA xp W);have HCG:=AA (fun W (hW:B0 w W)=>FB vn ns A' B' u (BU xp) W (h.n.next hW).seq (by omega) U);have KX:∀w1,Below (w.alloc (.cells #[I0 xz,I0 xo,I0 xs,S0 xp,S0 xd,I0 xv,I0 xw] 49)).heap.size (w.alloc (.cells #[I0 xz,I0 xo,I0 xs,S0 xp,S0 xd,I0 xv,I0 xw] 49)) w1->TAt w1 w.heap.size ⟨xz,xo,xs,xp,xd,xv,xw⟩:=fun w1 h1=>(TAt.new w ⟨xz,xo,xs,xp,xd,xv,xw⟩).next h1;have HKX:=AA KX;have c1:=h.c1;have hbl:=h.lt;obtain⟨g,cap,rfl,hr,hgb,hFg⟩:=h.bF (by rw[U.eq];simp);have HG:=AA h;have HE:=AA U.eq;have hlt:A'.length<ns.length:=by rw[U.eq];simp
 have hb1:(xw !=0)=true:=by simpa using hw1
 have hb2:(xw !=xs)=false:=by simpa using hw2
 have hfb:((ns.length:Int)==400)=true:=by rw[hf];rfl
 have HO:=AA ho;clear h G U KX ho hr hf hw1 hw2;unfold DW;go_enter func59,ntmps59;go_wp2_with fail
 go_region_law (first
  |(go_simp;refine(CF _ (by first|exact((Below.refl w.heap.size w).alloc (Nat.le_refl _) _).drew|exact(Below.refl w.heap.size w).alloc (Nat.le_refl _) _)).mono ?_;rintro e w1 ⟨rfl,hb1⟩;have HBd:=AA hb1;clear hb1))
 all_goals
  have HB0:=AA (BK (A8 HBd));clear CF;have HB1:=AA (AY (A8 HB0));have tx:=A8 HKX w1 (A8 HB0);have t3:=tx.c3;have HTX:=AA tx;have g1:=(A8 HG).next (A8 HB1);have HG1:=AA g1;clear g1 tx c1;go_wp2_with fail;refine(A8 HCS _).mono ?_;rintro e w2 ⟨rfl,hb2⟩;have HB2:=AA (AL (A8 HB1) hb2);have tx2:=(A8 HTX).next hb2;have g2:=(A8 HG1).next hb2;have e1:=g2.c1;have xP:=AA tx2;have HG2:=AA g2;clear tx2 g2 hb2 t3;go_wp2_with fail;refine(A8 HCG _ (A8 HB2)).mono ?_;rintro e w3 ⟨rfl,hb3⟩;have HB3:=AA (AL (A8 HB2) hb3);have tx3:=(A8 xP).next hb3;have g3:=(A8 HG2).next hb3;have f1:=g3.c1;have y0:=tx3.c0;have y2:=tx3.c2;have y3:=tx3.c3;have y4:=tx3.c4;have y6:=tx3.c6;obtain⟨g',cap',he,hr,_,_⟩:=g3.bF (by rw[A8 HE];simp);simp only[Value.slice.injEq,Option.some.injEq,Addr.mk.injEq,and_true]at he;obtain⟨rfl,_,rfl⟩:=he;have r7:=hr.row.n7 (i:=A'.length) (x:=u) (by rw[A8 HE];exact QH A' u B');rw[Nat.zero_add]at r7;have C75:=AA tx3;have HG3:=AA g3;clear g3 tx3 hr e1 hb3;rw[A8 HO]at r7;go_wp2_with fail;go_ret;exact⟨rfl,Touch.of_below (A8 HB3)⟩
theorem mW(w:World)(x:Int):EW (w.alloc (.cells #[I0 x] 3)) w.heap.size x:=heap_alloc_new w _
theorem BD4(w:World)(x:List UInt8):EW (w.alloc (.cells #[S0 x] 9)) w.heap.size x:=heap_alloc_new w _
theorem BD5(F:Nat->Prop)(b:Nat)(z:Int)(vn vs ve:Value)(ns:List Nd)(ss A B:List Int)(es:List Ev)(s:Int)(w:World)
  (h:Grow w F b z vn vs ve ns ss es) (hF:∀k,w.heap.size<=k->F k) (G:BU2 ss A B s) (hl:ss.length<=2147483646):
  Calls prog 57 #[P0 b,I0 s] w fun e w'=>e=.returned (.tuple #[])/\∃vs',Grow w' F b z vn vs' ve ns (A++s::B) es/\Touch F w w':=by
 have CF:=AS0 vs ss A B s w h.s.seq (by omega) G;have h0:=(h.next (AB w (.cells #[I0 s] 3)));have CI:=xI vs A B s w.heap.size _ (by rw[<-G.eq];exact h0.s) (by rw[<-G.eq];omega) (mW w s) (fun e=>by have:=h.s.low _ e;omega);have c2:=h.c2;have HG0:=AA h0;have HF:=AA hF;have hbl:=h.lt;obtain⟨sa,sc,rfl,_⟩:=h.s.slice;have HCI:=AA CI;clear h h0 hF G CI;go_enter func57,ntmps57;go_wp2_with fail;refine CF.mono ?_;rintro e w1 ⟨rfl,rfl⟩;go_wp2_with fail;refine(A8 HCI).mono ?_;rintro e w2 ⟨v',rfl,ho,hg,hloc⟩;have n2:¬ (Value.slice sa ss.length sc).ownBlock=some b:=fun e=>((A8 HG0).fs b e).2 rfl;have m2:w2.cell? ⟨b,2,none⟩=some (.slice sa ss.length sc):=hg.cell (A8 HG0).c2 (fun e=>n2 e.symm);have l2:w2.frozen? ⟨b,2,none⟩=false:=(World.frozen?_of_block (hg.block b (A8 HG0).lt (fun e=>n2 e.symm))).trans ((A8 HG0).fz 2);have g2:=(A8 HG0).se (vs':=v') (ss':=A++s::B) (fun k hk=>A8 HF k (by simp at hk;omega)) hg ho hloc;have t2:Touch F w1 (w2.setCell ⟨b,2,none⟩ v'):=((Touch.of_below (AB w1 _)).trans (Touch.RD hg (fun k e=>((A8 HG0).fs k e).1))).trans (Touch.set (A8 HG0).fb _);obtain⟨va,L,vc,rfl⟩:∃va L vc,v'=.slice va L vc:=by obtain⟨va,vc,h,_⟩:=ho.slice;exact⟨_,_,_,h⟩
 have HG2:=AA g2;have HT2:=AA t2;clear g2 t2 ho hg hloc n2;go_wp2_with fail
 go_end0
 exact⟨rfl,_,A8 HG2,A8 HT2⟩
theorem CB7:(prog.info? 9).map (fun i=>(i.zero,i.size,i.bytes))=some (some (.string ⟨#[]⟩),1,16):=by kernel_rfl
theorem CN9:∃i0,prog.info? 9=some i0/\i0.zero=some (.string ⟨#[]⟩)/\i0.size=1/\i0.bytes=16:=by
 obtain⟨i0,h,e⟩:=Option.map_eq_some_iff.1 CB7;simp only[Prod.mk.injEq]at e;exact⟨i0,h,e⟩
theorem AD7{ns:List Nd}{k:Nat}{x:Nd}(hx:ns[k]?=some x)(s:Int):KF (ns.take (k+1)) s=KF (ns.take k) s++(if x.o=s then [x.p]else []):=by
 rw[List.take_add_one,hx];simp only[KF,Option.toList_some,List.filter_append,List.map_append,List.filter_cons,List.filter_nil,decide_eq_true_eq]
 split<;>simp
theorem rJ(ns:List Nd)(s:Int):(KF ns s).length<=ns.length:=by
 rw[KF,List.length_map];exact List.length_filter_le _ _
theorem AT4(F:Nat->Prop)(b:Nat)(z:Int)(vn vs ve:Value)(ns:List Nd)(ss:List Int)(es:List Ev)(s:Int)(w:World)
  (h:Grow w F b z vn vs ve ns ss es) (hl:ns.length<=400) (h0:ns≠[]):
  Calls prog 86 #[P0 b,I0 s] w fun e w'=>∃v',e=.returned v'/\BD w' w.heap.size v' (KF ns s)/\B0 w w':=by
 obtain⟨i0,hi0,hz0,hz1,hz2⟩:=CN9;obtain⟨g,cap,rfl,hr,hgb,hFg⟩:=h.bF h0;have hgl:=hr.lt;have c1:=h.c1;have H:=AA hr.row;clear h hr;go_enter func86,ntmps86;go_wp2_with fail
 go_loopg [5,14] ns.length (fun kx s5 s14 wr=>∃k:Nat,s14=I0 k/\k<=ns.length/\ns.length-k<=kx/\Hid (BD wr w.heap.size s5 (KF (ns.take k) s))/\Hid (B0 w wr))
 case atStart=>exact⟨0,rfl,Nat.zero_le _,Nat.le_refl _,AA (.inl ⟨rfl,rfl⟩),AA (Below.refl _ _)⟩
 case round=>
  obtain⟨k,rfl,hk,hg,hO,hB⟩:=hrel;by_cases hlt:k<ns.length
  .obtain⟨x,hx⟩:∃x,ns[k]?=some x:=⟨_,List.getElem?_eq_getElem hlt⟩;have q:=(A8 H).kept (A8 hB) hgl;have d0:=q.n0 hx;have d1:=q.n1 hx;have d2:=q.n2 hx;have d3:=q.n3 hx;have d4:=q.n4 hx;have d5:=q.n5 hx;have d6:=q.n6 hx;have d7:=q.n7 hx;have d8:=q.n8 hx;rw[Nat.zero_add]at d0 d1 d2 d3 d4 d5 d6 d7 d8;have hbw:g<wr.heap.size:=Nat.lt_of_lt_of_le hgl (A8 hB).size;have HT:=AA (AD7 hx s);have hln:=rJ (ns.take k) s;simp only[List.length_take]at hln;clear q hx;obtain⟨va,vc,rfl,_⟩:=(A8 hO).slice;have hrow:=(A8 hO).row;by_cases hs:x.o=s
   .have hsb:(x.o==s)=true:=by simpa using hs
    have HS:=AA hs;clear hs;obtain⟨P,hP⟩:∃P,KF (ns.take k) s=P:=⟨_,rfl⟩;rw[hP]at hO hln HT hrow;rw[hP];clear hP;have HRW:=AA hrow;clear hrow;go_wp2_with (at_builtin;refine wpList_append_own _ rfl _ _ 155 rfl w.heap.size 9 i0 _ 1 16 underlying155 hi0 hz0 hz1 hz2 rfl (by decide) _ P.length (AO P) rfl ((((A8 hO).next (AB wr (.cells #[S0 x.p,S0 x.d,I0 x.c,I0 x.m,I0 x.q,I0 x.v,I0 x.k,I0 x.o,I0 x.n] 96))).next (AB _ _)).row) ⟨wr.heap.size+1,0,none⟩ 1 1 [S0 x.p] rfl (by rfl) ?qc2 (by intro u hu;simp at hu;subst hu;rfl) ?qc4 ?qc5 ?qc6 ?_)
    case qc2=>
     intro j u hj;have:=O7 (BD4 (wr.alloc (.cells #[S0 x.p,S0 x.d,I0 x.c,I0 x.m,I0 x.q,I0 x.v,I0 x.k,I0 x.o,I0 x.n] 96)) x.p) j u hj;simpa using this
    case qc4=>simp only[maxLen];omega
    case qc5=>omega
    case qc6=>have:=(A8 hB).size;simp;omega
    intro v' w1 hown hgrow _;have O1:BD w1 w.heap.size v' (P++[x.p]):=BD.G8 (by rw[List.length_append,EK];exact hown);have hB0:B0 w ((wr.alloc (.cells #[S0 x.p,S0 x.d,I0 x.c,I0 x.m,I0 x.q,I0 x.v,I0 x.k,I0 x.o,I0 x.n] 96)).alloc (.cells #[S0 x.p] 9)):=AL (A8 hB) (AL (AB _ _) (AB _ _));have B1:B0 w w1:=hB0.grown hgrow hB0.size (fun j hj=>by
     rcases A8 hO with⟨e,_⟩|⟨q,c,e,hq,_⟩
     .rw[e]at hj;cases hj
     .rw[e]at hj;cases hj;exact hq)
    have HO1:=AA O1;have HB1:=AA B1;obtain⟨wa,wc,rfl,_⟩:=O1.slice;clear O1 B1 hB0 hown hgrow;go_wp2_with fail
    go_roundg (ns.length-(k+1))
    case measure=>omega
    case rel=>exact⟨k+1,rfl,by omega,Nat.le_refl _,(by rw[A8 HT,if_pos (A8 HS)];exact HO1),HB1⟩
   .have hsb:(x.o==s)=false:=by simpa using hs
    have HS:=AA hs;have HO1:=AA ((A8 hO).next (AB wr (.cells #[S0 x.p,S0 x.d,I0 x.c,I0 x.m,I0 x.q,I0 x.v,I0 x.k,I0 x.o,I0 x.n] 96)));clear hs hrow;go_wp2_with fail
    go_roundg (ns.length-(k+1))
    case measure=>omega
    case rel=>exact⟨k+1,rfl,by omega,Nat.le_refl _,(by rw[A8 HT,if_neg (A8 HS),List.append_nil];exact HO1),AA (AL (A8 hB) (AB _ _))⟩
  .obtain rfl:k=ns.length:=by omega
   have O1:=A8 hO;rw[List.take_length]at O1;have HO1:=AA O1;obtain⟨wa,wc,rfl,_⟩:=O1.slice;clear O1;go_wp2_with fail;go_ret;exact⟨_,rfl,A8 HO1,A8 hB⟩
theorem BD.touched{α:Type}[Lay α]{W V:World}{B:Nat}{v:Value}{xs:List α}{F:Nat->Prop}(h:BD W B v xs)(ht:Touch F W V)(hf:∀k,v.ownBlock=some k->¬F k):BD V B v xs:=by
 rcases h with h|⟨g,cap,rfl,hB,h⟩
 .exact .inl h
 .obtain⟨rest,h1,h2⟩:=h;have hlt:=(Array.getElem?_eq_some_iff.1 h1).1;exact .inr ⟨g,cap,rfl,hB,rest,(ht.block g hlt (hf g rfl)).trans h1,h2⟩
def CB8(F:Nat->Prop)(b:Nat)(z:Int)(ns:List Nd)(ss':List Int)(ps:List (List UInt8))(w:World)(e:Ending)(w':World):Prop:=
 (VB (NK z ns ps)=true/\e=.returned (I0 6)/\Touch F w w')\/
 (VB (NK z ns ps)=false/\e=.returned (I0 0)/\∃vn' vs' ve',Grow w' F b z vn' vs' ve' (NK z ns ps) ss' (AO0 ps)/\Touch F w w')
structure Clo(z s:Int)(ss0:List Int)(cur:List Nd)(ps:List (List UInt8)):Prop where
 g:LJ z cur ss0
 r:C94 s cur ps
 c:∀n∈cur,n.k<=2147483647
theorem BD6(F:Nat->Prop)(b:Nat)(z s:Int)(vn vs ve:Value)(cur:List Nd)(ss ss0:List Int)(es:List Ev)(p:List UInt8)(ps:List (List UInt8))(w:World)
  (h:Grow w F b z vn vs ve cur ss es) (hF:∀k,w.heap.size<=k->F k) (hes:es.length<=99998) (C:Clo z s ss0 cur (p::ps)):
  (VB (NK z cur (p::ps))=true/\Calls prog 60 #[P0 b,S0 p] w fun e w'=>e=.returned (I0 6)/\Touch F w w')\/
  (Clo z s ss0 (rmN z cur p) ps/\Calls prog 60 #[P0 b,S0 p] w fun e w'=>e=.returned (I0 0)/\∃vn' ve',Grow w' F b z vn' vs ve' (rmN z cur p) ss (es++[⟨2,p⟩,⟨4,BU p⟩])/\Touch F w w'):=by
 obtain⟨A,n,B,u,T,ho,hk,hr,hgd,hu1,hu2,hu3,hu4,hu5,hu6,g',R'⟩:=pX C.g C.r;obtain⟨A',B',T'⟩:=jJ C.g.asc T hu2 hu3 hu4;have hp:=IU hgd;have hd:=TF p;have hkk:=C.c u hu2;have h0:=(C.g.ok u hu2).k0;have hn:=(C.g.ok u hu2).kids;have hn2:JL cur u.p<=cur.length:=List.countP_le_length;have hl:=C.g.few;by_cases hf:u.k=2147483647
 .refine .inl ⟨AO3 hu2 hu3 hu4 hf ps hu6,?_⟩;exact eY F b z vn vs ve cur A B A' B' n u ss es p w h hF T T' hl hk hf (by omega) (by omega)
 .refine .inr ⟨⟨g',R',BP6 C.g.asc hu2 hu3 (by omega) C.c⟩,?_⟩;exact rH F b z vn vs ve cur A B A' B' n u ss es p w h hF T T' hl hk ⟨h0,by omega⟩ (by omega) (by omega) (by omega) (by omega)
theorem AT5(F:Nat->Prop)(b:Nat)(z:Int)(vn vs ve:Value)(ns:List Nd)(ss A B ss0:List Int)(s:Int)(w:World)
  (h:Grow w F b z vn vs ve ns ss []) (hF:∀k,w.heap.size<=k->F k) (T:dI ss A B s) (hl:ss.length<=2147483647) (C:Clo z s ss0 ns (KF ns s)):
  Calls prog 58 #[P0 b,I0 s] w fun e w'=>CB8 F b z ns (A++B) (KF ns s) w e w':=by
 have CF:=qY vs ss A B s w h.s.seq hl T;have hne:ns≠[]:=by obtain⟨r,rest,e,_⟩:=C.g.root;rw[e];simp
 have hfew:=C.g.few;obtain⟨g,cap,hsv,hr⟩:∃g cap,vs=.slice (some ⟨g,0,none⟩) ss.length cap/\DY w g cap (A++s::B):=by
  rcases h.s with⟨_,e⟩|⟨g,cap,e,_,h3⟩
  .have:=T.eq;rw[e]at this;simp at this
  .exact⟨g,cap,e,by rw[<-T.eq];exact h3⟩
 subst hsv;have hlen:ss.length=A.length+B.length+1:=by rw[T.eq];simp;omega
 have CD:=xG g cap A B s ss.length w hr hlen hl;have c2:=h.c2;have hgb:=(h.fs g rfl).2;have hFg:=(h.fs g rfl).1;have HG:=AA h;have HF:=AA hF;have HC:=AA C;have HCD:=AA CD;obtain⟨ps,hps⟩:∃ps,KF ns s=ps:=⟨_,rfl⟩;have HPS:=AA hps;have hpl:ps.length<=400:=by rw[<-hps];exact Nat.le_trans (rJ ns s) hfew
 rw[hps];have hAl:A.length<ss.length:=by omega
 clear h hF T hr CD C hps hlen;go_enter func58,ntmps58;go_wp2_with fail;refine CF.mono ?_;rintro e w1 ⟨rfl,rfl⟩;clear CF;go_wp2_with fail;rw[show ((A.length:Int)+1)=((A.length+1:Nat):Int)from by omega];refine(A8 HCD).mono ?_;rintro e w2 ⟨rfl,ho2,hg2⟩;have m2:w2.cell? ⟨b,2,none⟩=some (.slice (some ⟨g,0,none⟩) ss.length cap):=hg2.cell c2 (fun e=>hgb (Option.some.inj e).symm);have l2:w2.frozen? ⟨b,2,none⟩=false:=(World.frozen?_of_block (hg2.block b (A8 HG).lt (fun e=>hgb (Option.some.inj e).symm))).trans ((A8 HG).fz 2);have g2:=(A8 HG).se (vs':=.slice (some ⟨g,0,none⟩) (A.length+B.length) cap) (ss':=A++B) (A8 HF) hg2 (.inr ⟨g,cap,by rw[List.length_append],Nat.zero_le _,ho2⟩) (.inl rfl);have t2:Touch F w1 (w2.setCell ⟨b,2,none⟩ (.slice (some ⟨g,0,none⟩) (A.length+B.length) cap)):=(Touch.RD hg2 (fun k e=>by cases e;exact hFg)).trans (Touch.set g2.fb _);have HG2:=AA g2;have HT2:=AA t2;clear g2 t2 ho2 hg2 HCD c2;go_wp2_with fail;refine(AT4 F b z _ _ _ _ _ _ s _ (A8 HG2) hfew hne).mono ?_;rintro e w3 ⟨v3,rfl,ho3,hb3⟩;rw[A8 HPS]at ho3;have g3:=(A8 HG2).next hb3;have HG3:=AA g3;have HO3:=AA ho3;obtain⟨pa,pc,rfl,_⟩:=ho3.slice;have hlow:∀k,(Value.slice pa ps.length pc).ownBlock=some k->(w2.setCell ⟨b,2,none⟩ (.slice (some ⟨g,0,none⟩) (A.length+B.length) cap)).heap.size<=k:=by
  intro k e;rcases A8 HO3 with⟨h1,_⟩|⟨q,c,h1,hq,_⟩
  .rw[h1]at e;cases e
  .rw[h1]at e;cases e;exact hq
 have F3:Hid (Grow w3 (fun k=>F k/\(Value.slice pa ps.length pc).ownBlock≠some k) b z vn (.slice (some ⟨g,0,none⟩) (A.length+B.length) cap) ve ns (A++B) []):=by
  have q:=A8 HG2;exact⟨g3.blk,⟨g3.fb,fun e=>by have:=hlow _ e;have:=q.lt;omega⟩,g3.n,g3.s,g3.e,fun k hk=>⟨⟨(g3.fn k hk).1,fun e=>by have:=hlow _ e;have:=q.n.low k hk;omega⟩,(g3.fn k hk).2⟩,fun k hk=>⟨⟨(g3.fs k hk).1,fun e=>by have:=hlow _ e;have:=q.s.low k hk;omega⟩,(g3.fs k hk).2⟩,fun k hk=>⟨⟨(g3.fe k hk).1,fun e=>by have:=hlow _ e;have:=q.e.low k hk;omega⟩,(g3.fe k hk).2⟩,g3.an,g3.asn⟩
 have T3:=AA ((A8 HT2).trans (Touch.of_below hb3));have hpb:∀k,(Value.slice pa ps.length pc).ownBlock=some k->k<w3.heap.size:=fun k e=>(A8 HO3).low k e;have HPB:=AA hpb;have HF3:Hid (∀W:World,w3.heap.size<=W.heap.size->∀k,W.heap.size<=k->F k/\(Value.slice pa ps.length pc).ownBlock≠some k):=fun W hW k hk=>⟨A8 HF k (by have:=(A8 T3).size;omega),fun e=>by have:=A8 HPB k e;omega⟩;clear g3 ho3 hlow hpb hb3 m2 l2;go_wp2_with fail
 go_loopg [37] ps.length (fun kx s37 wr=>∃ (k:Nat) (vn' ve':Value),s37=I0 k/\k<=ps.length/\ps.length-k<=kx/\Hid (Grow wr (fun k=>F k/\(Value.slice pa ps.length pc).ownBlock≠some k) b z vn' (.slice (some ⟨g,0,none⟩) (A.length+B.length) cap) ve' (NK z ns (ps.take k)) (A++B) (AO0 (ps.take k)))/\Hid (Clo z s ss0 (NK z ns (ps.take k)) (ps.drop k))/\Hid (Touch (fun k=>F k/\(Value.slice pa ps.length pc).ownBlock≠some k) w3 wr))
 case atStart=>exact⟨0,vn,ve,rfl,Nat.zero_le _,Nat.le_refl _,F3,(by rw[List.drop_zero];have:=A8 HC;rw[A8 HPS]at this;exact AA this),AA (Touch.refl _ _)⟩
 case round=>
  obtain⟨k,vn',ve',rfl,hk,hg,hG,hCl,hT⟩:=hrel;have tF:Hid (Touch F w1 wr):=AA ((A8 T3).trans ((A8 hT).mono (fun k _ hk=>hk.1)));by_cases hlt:k<ps.length
  .obtain⟨p,hp⟩:∃p,ps[k]?=some p:=⟨_,List.getElem?_eq_getElem hlt⟩;have hor:=(A8 HO3).touched (A8 hT) (fun q e h=>h.2 e);obtain⟨q,off,cq,he,_,hrow,_,_⟩:=J7 hor.seq (by intro e;rw[e]at hlt;simp at hlt);simp only[Value.slice.injEq]at he;obtain⟨rfl,_,rfl⟩:=he;have r0:=hrow.s0 hp;have hdr:ps.drop k=p::ps.drop (k+1):=by rw[List.drop_eq_getElem_cons hlt];congr 1;rw[List.getElem?_eq_getElem hlt]at hp;exact Option.some.inj hp
   have hev:(AO0 (ps.take k)).length<=99998:=by rw[A13,List.length_take];omega
   have CL:=A8 hCl;rw[hdr]at CL;have ST:=BD6 _ b z s vn' _ ve' _ (A++B) ss0 _ p (ps.drop (k+1)) wr (A8 hG) (A8 HF3 wr (A8 hT).size) hev CL;have HN:=AA (AA2 z ns hp);have HV:=AA (AO4 hp);have HSP:=AA (show NK z ns ps=NK z (NK z ns (ps.take k)) (p::ps.drop (k+1)) by rw[<-hdr];exact vZ z ns ps k);clear CL hdr hp hor hrow;rcases ST with⟨hfull,C6⟩|⟨C0,C00⟩
   .have HFU:=AA hfull;clear hfull;go_wp2_with fail;refine C6.mono ?_;rintro e w4 ⟨rfl,t4⟩;have HT4:=AA ((A8 tF).trans (t4.mono (fun k _ hk=>hk.1)));clear C6 t4;go_wp2_with fail;go_ret;exact .inl ⟨by rw[A8 HSP];exact A8 HFU,rfl,A8 HT4⟩
   .have HC0:=AA C0;clear C0;go_wp2_with fail;refine C00.mono ?_;rintro e w4 ⟨rfl,vn2,ve2,g4,t4⟩;have HG4:=AA g4;have HT4:=AA ((A8 hT).trans t4);clear C00 t4 g4;go_wp2_with fail
    go_roundg (ps.length-(k+1))
    case measure=>omega
    case rel=>exact⟨k+1,vn2,ve2,rfl,by omega,Nat.le_refl _,(by rw[A8 HN,A8 HV];exact HG4),(by rw[A8 HN];exact HC0),HT4⟩
  .obtain rfl:k=ps.length:=by omega
   have hGf:=(A8 hG).cut (G:=F) (fun k _ hk=>hk.1);have hcap:=(A8 hCl).c;rw[List.take_length]at hGf hcap;have HGf:=AA hGf;have HCp:=AA (JY.2 hcap);clear hGf hcap;go_wp2_with fail;go_ret;exact .inr ⟨A8 HCp,rfl,vn',_,ve',A8 HGf,A8 tF⟩
