/-
  Part.
-/
import Derived.Test.YthcncjimjclfpaaGreatDoorLSD
import Derived.Test.YthcncjimjclfpaaGreatDoorLSI
set_option maxRecDepth 20000
set_option maxHeartbeats 8000000
namespace Go.Proofs.YthcncjimjclfpaaGreatDoor
open Go.RowKit Go.Proofs.Tryz
open _root_.Nat renaming le_refl->A8,zero_le->AY,zero_add->BI
open Go.RowKit.Below renaming refl->AA
open _root_.Array renaming getElem?_eq_some_iff->AB
open _root_.List renaming getElem?_eq_getElem->AL,length_append->AO,take_length->DU,length_take->F6
open Go.Value.slice renaming injEq->AP
open Go.World renaming cell?->AV,frozen?->F7
open _root_.Option.some renaming injEq->BD,inj->BN
open Go.Addr.mk renaming injEq->ER
open Go.Region renaming wanted->FI
open Go.Value renaming slice->FQ
open Go.Obj renaming cells->FT
open Go renaming World->FU,Value->FV,Calls->FW
open _root_.Option renaming none->FX,some->FZ
variable{W V:FU}{b:Nat}{n:Nd}{F:Nat->Prop}{z:Int}{vn vs ve:FV}{ns:List Nd}{ss:List Int}{es:List Ev}
theorem NT(s:List UInt8)(w:FU)(hs:s.length<=281474976710656):
  FW prog 40 #[S0 s] w (R0 w (S0 s)):=WU ⟨s.toArray⟩ w hs
theorem JF.JI(h:JF W b n)(j:Nat)(v:FV)(hj:(MG n)[j]?=FZ v):W.cell? ⟨b,j,FX⟩=FZ v:=by
 have:=h.row j v hj;rwa[BI]at this
theorem JF.J7(h:JF W b n)(j:Nat):W.frozen? ⟨b,j,FX⟩=false:=by
 unfold JF at h;simp[F7,h]
theorem JF.BL2(h:JF W b n)(hb:B0 W V):JF V b n:=by
 unfold JF at h⊢;exact(hb.block _ (AB.1 h).1).trans h
def WI:Nd:=⟨[],[],0,0,0,0,0,0,0⟩
theorem ZP(n:Nd)(w:FU)(hp:n.p.length<=140737488355328)(hd:n.d.length<=140737488355328):
  FW prog 22 #[TY n] w (R0 w (TY n)):=by
 have C1:=fun W=>NT n.p W (by omega);have C2:=fun W=>NT n.d W (by omega);have X0:∀W,W=(w.alloc (FT (MG n).toArray 49)).alloc (FT (MG WI).toArray 49)->JF W w.heap.size n/\JF W (w.heap.size+1) WI/\B0 w W:=by
  rintro W rfl;refine⟨?_,?_,((AA _ _).alloc (A8 _) _).alloc (by simp) _⟩
  .unfold JF;exact(((AA (w.heap.size+1) (w.alloc (FT (MG n).toArray 49))).alloc (by simp) (FT (MG WI).toArray 49)).block _ (by omega)).trans (heap_alloc_new w _)
  .have:=heap_alloc_new (w.alloc (FT (MG n).toArray 49)) (FT (MG WI).toArray 49);rw[show (w.alloc (FT (MG n).toArray 49)).heap.size=w.heap.size+1 by simp]at this;exact this
 have X:=G6 X0;clear X0;unfold TY;go_enter func22,ntmps22;go_wp2_with fail;generalize hW0:(w.alloc _).alloc _=W0;obtain⟨x1,x2,x3⟩:=G5 X W0 hW0.symm;clear hW0 X;refine(C1 _).mono ?_;rintro e w1 ⟨rfl,hb1⟩;have y1:=x1.BL2 hb1;have e0:=y1.JI 0 _ rfl;have e1:=y1.JI 1 _ rfl;have f0:=y1.J7 0;have hs0:=I8 e0;have Y1:=G6 y1;have Y2:=G6 (x2.BL2 hb1);have B1:=G6 (G8 x3 hb1);clear y1 x1 x2 x3 hb1 C1;go_wp2_with fail;refine(C2 _).mono ?_;rintro e w2 ⟨rfl,hb2⟩;have y1:=(G5 Y1).BL2 hb2;have y2:=(G5 Y2).BL2 hb2;have B2:=G6 (G8 (G5 B1) hb2);clear e0 e1 f0 hs0 C2 hb2 Y1 Y2;have c0:=y1.JI 0 _ rfl;have c1:=y1.JI 1 _ rfl;have c2:=y1.JI 2 _ rfl;have c3:=y1.JI 3 _ rfl;have c4:=y1.JI 4 _ rfl;have c5:=y1.JI 5 _ rfl;have c6:=y1.JI 6 _ rfl;have c7:=y1.JI 7 _ rfl;have c8:=y1.JI 8 _ rfl;have d0:=y2.JI 0 _ rfl;have d1:=y2.JI 1 _ rfl;have d2:=y2.JI 2 _ rfl;have d3:=y2.JI 3 _ rfl;have d4:=y2.JI 4 _ rfl;have d5:=y2.JI 5 _ rfl;have d6:=y2.JI 6 _ rfl;have d7:=y2.JI 7 _ rfl;have d8:=y2.JI 8 _ rfl;have f1:=y1.J7 1;have g0:=y2.J7 0;have g1:=y2.J7 1;have g2:=y2.J7 2;have g3:=y2.J7 3;have g4:=y2.J7 4;have g5:=y2.J7 5;have g6:=y2.J7 6;have g7:=y2.J7 7;have g8:=y2.J7 8;have hs1:=I8 c1;have hne:w.heap.size≠w.heap.size+1:=by omega
 clear y1 y2;go_wp2_with fail;have BB:=G5 B2;exact bodyPost_ret (v:=TY n) (by simp[results,results22,go_sem,TY,d0,d1,d2,d3,d4,d5,d6,d7,d8]) rfl
  ⟨rfl,((((((((BB.setCell (by simp) _).setCell (by simp) _).setCell (by simp) _).setCell (by simp) _).setCell (by simp) _).setCell (by simp) _).setCell (by simp) _).setCell (by simp) _).setCell (by simp) _⟩
structure Grow(W:FU)(F:Nat->Prop)(b:Nat)(z:Int)(vn vs ve:FV)(ns:List Nd)(ss:List Int)(es:List Ev):Prop where
 blk:W.heap[b]?=FZ (FT #[I0 z,vn,vs,ve] 244 (0,0))
 fb:F b
 n:GZ W 0 vn ns
 s:GZ W 0 vs ss
 e:GZ W 0 ve es
 fn:∀k,vn.ownBlock=FZ k->F k/\k≠b
 fs:∀k,vs.ownBlock=FZ k->F k/\k≠b
 fe:∀k,ve.ownBlock=FZ k->F k/\k≠b
 an:∀k,vn.ownBlock=FZ k->vs.ownBlock≠FZ k/\ve.ownBlock≠FZ k
 asn:∀k,vs.ownBlock=FZ k->ve.ownBlock≠FZ k
theorem Grow.lt(h:Grow W F b z vn vs ve ns ss es):b<W.heap.size:=(AB.1 h.blk).1
theorem Grow.next(h:Grow W F b z vn vs ve ns ss es)(hb:B0 W V):Grow V F b z vn vs ve ns ss es:=
 ⟨(hb.block _ h.lt).trans h.blk,h.fb,h.n.next hb,h.s.next hb,h.e.next hb,h.fn,h.fs,h.fe,h.an,h.asn⟩
theorem Grow.cut{G:Nat->Prop}(h:Grow W F b z vn vs ve ns ss es)(hg:∀k,k<W.heap.size->F k->G k):Grow W G b z vn vs ve ns ss es:=
 ⟨h.blk,hg b h.lt h.fb,h.n,h.s,h.e,fun k hk=>⟨hg k (h.n.low k hk) (h.fn k hk).1,(h.fn k hk).2⟩,fun k hk=>⟨hg k (h.s.low k hk) (h.fs k hk).1,(h.fs k hk).2⟩,fun k hk=>⟨hg k (h.e.low k hk) (h.fe k hk).1,(h.fe k hk).2⟩,h.an,h.asn⟩
theorem Grow.c0(h:Grow W F b z vn vs ve ns ss es):W.cell? ⟨b,0,FX⟩=FZ (I0 z):=by simp[AV,h.blk]
theorem Grow.c1(h:Grow W F b z vn vs ve ns ss es):W.cell? ⟨b,1,FX⟩=FZ vn:=by simp[AV,h.blk]
theorem Grow.c2(h:Grow W F b z vn vs ve ns ss es):W.cell? ⟨b,2,FX⟩=FZ vs:=by simp[AV,h.blk]
theorem Grow.c3(h:Grow W F b z vn vs ve ns ss es):W.cell? ⟨b,3,FX⟩=FZ ve:=by simp[AV,h.blk]
theorem Grow.fz(h:Grow W F b z vn vs ve ns ss es)(j:Nat):W.frozen? ⟨b,j,FX⟩=false:=by simp[F7,h.blk]
theorem Grow.ev{ve':FV}{es':List Ev}(h:Grow W F b z vn vs ve ns ss es)(hF:∀k,W.heap.size<=k->F k)(hg:W.grownBy V ve.ownBlock)(he:GZ V 0 ve' es')(hl:ve'.ownBlock=ve.ownBlock\/ve'.ownBlock=FZ W.heap.size):
  Grow (V.setCell ⟨b,3,FX⟩ ve') F b z vn vs ve' ns ss es':=by
 have hbe:FZ b≠ve.ownBlock:=fun e=>(h.fe b e.symm).2 rfl;have hb:=h.lt;have hne:∀k,ve'.ownBlock=FZ k->F k/\k≠b/\vn.ownBlock≠FZ k/\vs.ownBlock≠FZ k:=by
  intro k hk;rcases hl with e|e
  .rw[e]at hk;exact⟨(h.fe k hk).1,(h.fe k hk).2,fun hn=>(h.an k hn).2 hk,fun hs=>h.asn k hs hk⟩
  .rw[e]at hk
   cases hk
   exact⟨hF _ (A8 _),by omega,fun hn=>by have:=h.n.low _ hn;omega,fun hs=>by have:=h.s.low _ hs;omega⟩
 refine⟨?_,h.fb,?_,?_,?_,h.fn,h.fs,fun k hk=>⟨(hne k hk).1,(hne k hk).2.1⟩,fun k hk=>⟨(h.an k hk).1,fun e=>(hne k e).2.2.1 hk⟩,fun k hk e=>(hne k e).2.2.2 hk⟩
 .rw[GL ve' ((hg.block b hb hbe).trans h.blk)];rfl
 .exact(h.n.grown hg (fun k hk e=>(h.an k hk).2 e.symm)).other (fun e=>(h.fn b e).2 rfl) _
 .exact(h.s.grown hg (fun k hk e=>h.asn k hk e.symm)).other (fun e=>(h.fs b e).2 rfl) _
 .exact he.other (fun e=>(hne b e).2.1 rfl) _
theorem Grow.nd{vn':FV}{ns':List Nd}(h:Grow W F b z vn vs ve ns ss es)(hF:∀k,W.heap.size<=k->F k)(hg:W.grownBy V vn.ownBlock)(hn':GZ V 0 vn' ns')(hl:vn'.ownBlock=vn.ownBlock\/∃k,W.heap.size<=k/\vn'.ownBlock=FZ k):
  Grow (V.setCell ⟨b,1,FX⟩ vn') F b z vn' vs ve ns' ss es:=by
 have hbn:FZ b≠vn.ownBlock:=fun e=>(h.fn b e.symm).2 rfl;have hb:=h.lt;have hne:∀k,vn'.ownBlock=FZ k->F k/\k≠b/\vs.ownBlock≠FZ k/\ve.ownBlock≠FZ k:=by
  intro k hk;rcases hl with e|⟨j,hj,e⟩
  .rw[e]at hk;exact⟨(h.fn k hk).1,(h.fn k hk).2,(h.an k hk).1,(h.an k hk).2⟩
  .rw[e]at hk
   cases hk
   exact⟨hF _ hj,by omega,fun hs=>by have:=h.s.low _ hs;omega,fun hs=>by have:=h.e.low _ hs;omega⟩
 refine⟨?_,h.fb,?_,?_,?_,fun k hk=>⟨(hne k hk).1,(hne k hk).2.1⟩,h.fs,h.fe,fun k hk=>(hne k hk).2.2,h.asn⟩
 .rw[GL vn' ((hg.block b hb hbn).trans h.blk)];rfl
 .exact hn'.other (fun e=>(hne b e).2.1 rfl) _
 .exact(h.s.grown hg (fun k hk e=>(h.an k e.symm).1 hk)).other (fun e=>(h.fs b e).2 rfl) _
 .exact(h.e.grown hg (fun k hk e=>(h.an k e.symm).2 hk)).other (fun e=>(h.fe b e).2 rfl) _
theorem Grow.se{vs':FV}{ss':List Int}(h:Grow W F b z vn vs ve ns ss es)(hF:∀k,W.heap.size<=k->F k)(hg:W.grownBy V vs.ownBlock)(hn':GZ V 0 vs' ss')(hl:vs'.ownBlock=vs.ownBlock\/∃k,W.heap.size<=k/\vs'.ownBlock=FZ k):
  Grow (V.setCell ⟨b,2,FX⟩ vs') F b z vn vs' ve ns ss' es:=by
 have hbn:FZ b≠vs.ownBlock:=fun e=>(h.fs b e.symm).2 rfl;have hb:=h.lt;have hne:∀k,vs'.ownBlock=FZ k->F k/\k≠b/\vn.ownBlock≠FZ k/\ve.ownBlock≠FZ k:=by
  intro k hk;rcases hl with e|⟨j,hj,e⟩
  .rw[e]at hk;exact⟨(h.fs k hk).1,(h.fs k hk).2,fun hn=>(h.an k hn).1 hk,h.asn k hk⟩
  .rw[e]at hk
   cases hk
   exact⟨hF _ hj,by omega,fun hs=>by have:=h.n.low _ hs;omega,fun hs=>by have:=h.e.low _ hs;omega⟩
 refine⟨?_,h.fb,?_,?_,?_,h.fn,fun k hk=>⟨(hne k hk).1,(hne k hk).2.1⟩,h.fe,fun k hk=>⟨fun e=>(hne k e).2.2.1 hk,(h.an k hk).2⟩,fun k hk=>(hne k hk).2.2.2⟩
 .rw[GL vs' ((hg.block b hb hbn).trans h.blk)];rfl
 .exact(h.n.grown hg (fun k hk e=>(h.an k hk).1 e.symm)).other (fun e=>(h.fn b e).2 rfl) _
 .exact hn'.other (fun e=>(hne b e).2.1 rfl) _
 .exact(h.e.grown hg (fun k hk e=>h.asn k e.symm hk)).other (fun e=>(h.fe b e).2 rfl) _
theorem Grow.put{g cap:Nat}{A B:List Nd}{m:Nd}{l:Nat}(h:Grow W F b z (FQ (FZ ⟨g,0,FX⟩) l cap) vs ve (A++n::B) ss es){c:Nat}(hc:c<9){v:FV}(hm:MG m=(MG n).set c v):
  Grow (W.setCell ⟨g,A.length*9+c,FX⟩ v) F b z (FQ (FZ ⟨g,0,FX⟩) l cap) vs ve (A++m::B) ss es:=by
 have hgb:=(h.fn g rfl).2;refine⟨(Below.heap_setCell W ⟨g,_,FX⟩ v b (fun e=>hgb e.symm)).trans h.blk,h.fb,?_,?_,?_,h.fn,h.fs,h.fe,h.an,h.asn⟩
 .rcases h.n with⟨h1,_⟩|⟨g',cap',h1,h2,h3⟩
  .cases h1
  .simp only[AP,BD,ER,and_true]at h1;obtain⟨rfl,rfl,rfl⟩:=h1;refine .inr ⟨g,cap,by simp,h2,?_⟩;exact h3.set (c:=c) (by exact hc) hm
 .exact h.s.other (fun e=>(h.an g rfl).1 e) _
 .exact h.e.other (fun e=>(h.an g rfl).2 e) _
theorem Grow.iK(h:Grow W F b z vn vs ve ns ss es)(h0:ns≠[]):∃g cap,vn=FQ (FZ ⟨g,0,FX⟩) ns.length cap/\J9 W g cap ns/\g≠b/\F g:=by
 rcases h.n with⟨_,h1⟩|⟨g,cap,rfl,_,h3⟩
 .exact absurd h1 h0
 .exact⟨g,cap,rfl,h3,(h.fn g rfl).2,(h.fn g rfl).1⟩
theorem A30{w:FU}{ops:Array Oper}{o:Oper}{a:Act}{K:Act->FU->Prop}{Q:Exit->Act->FU->Prop}{E:Prop}(hgd:FI o (yielded ops a.tmps)=true)(s x:Operand)
  (ho:o.op=.call {callee:=.builtin .append,args:=#[s,x],argTypes:=#[204,204]})
  (v:FV) (es:List Ev) (hs:a.eval s=v) (hown:GZ w 0 v es)
  (q:Nat) (hx:a.eval x=FQ (FZ ⟨q,0,FX⟩) 1 1) (t:Ev) (hnews:JF w q t) (hl:es.length<=100000)
  (h:∀a' c' w',GZ w' 0 (FQ a' (es.length+1) c') (es++[t])->w.grownBy w' v.ownBlock->((Value.slice a' (es.length+1) c').ownBlock=v.ownBlock\/(Value.slice a' (es.length+1) c').ownBlock=FZ w.heap.size)->K (a.put o.dst (FQ a' (es.length+1) c')) w'):
  if FI o (yielded ops a.tmps)=true then Oper.wp prog o a w K Q else E:=by
 rw[if_pos hgd];obtain⟨i0,hi0,hz0,hz1,hz2⟩:=CU2;obtain⟨v',w',hr,h2,h3,_,h5⟩:=run_append_own_at (P:=prog) w 0 204 o.type 246 i0 _ 2 24 underlying204 hi0 hz0 hz1 hz2 rfl (by decide) v es.length (G9 es) hown.row ⟨q,0,FX⟩ 1 1 (AY0 t) rfl (RS hnews) (Lay.one t) (by simp only[maxLen];omega) (by omega) (AY _);have h2':GZ w' 0 v' (es++[t]):=GZ.LD (by rw[AO,JE];exact h2);obtain⟨a',c',rfl,_⟩:=h2'.slice;have hlen:(es++[t]).length=es.length+1:=by simp
 rw[hlen]at h2' hr h5;unfold Oper.wp execOp;simp only[ho,resolve,invoke,builtin,Sem.run_bind,Sem.run_pure,Result.andThen_ok,List.map_toArray,List.map_cons,List.map_nil,hs,hx,hr];exact h a' c' w' h2' h3 h5
theorem iL(F:Nat->Prop)(b:Nat)(z:Int)(vn vs ve:FV)(ns:List Nd)(ss:List Int)(es:List Ev)(kind:Int)(p:List UInt8)(w:FU)
  (h:Grow w F b z vn vs ve ns ss es) (hF:∀k,w.heap.size<=k->F k) (hp:p.length<=140737488355328) (hl:es.length<=100000):
  FW prog 226 #[P0 b,I0 kind,S0 p] w fun e w'=>
   e=.returned (.tuple #[])/\∃ve',Grow w' F b z vn vs ve' ns ss (es++[⟨kind,p⟩])/\Touch F w w':=by
 have C:=fun W=>NT p W (by omega);have c3:=h.c3;have f3:=h.fz 3;have HG:=G6 h;have HF:=G6 hF;obtain⟨ea,ec,rfl,_⟩:=h.e.slice;have K1:=G6 (fun w1 (hb1:B0 w w1)=>(⟨(h.next hb1).c3,(h.next hb1).fz 3,(h.next hb1).lt,((h.next hb1).next (G7 _ _)).c3⟩:w1.cell? ⟨b,3,FX⟩=FZ (FQ ea es.length ec)/\w1.frozen? ⟨b,3,FX⟩=false/\b<w1.heap.size/\(w1.alloc (FT #[I0 kind,S0 p] 246)).cell? ⟨b,3,FX⟩=FZ (FQ ea es.length ec)));have KE:=G6 (fun w1 (hb1:B0 w w1)=>(h.next hb1).e.next (G7 w1 (FT #[I0 kind,S0 p] 246)));have K2:∀ (w1 w2:FU) (a2:Option Addr) (c2:Nat),B0 w w1->GZ w2 0 (FQ a2 (es.length+1) c2) (es++[⟨kind,p⟩])->(w1.alloc (FT #[I0 kind,S0 p] 246)).grownBy w2 (Value.slice ea es.length ec).ownBlock->
   ((Value.slice a2 (es.length+1) c2).ownBlock=(Value.slice ea es.length ec).ownBlock\/(Value.slice a2 (es.length+1) c2).ownBlock=FZ (w1.alloc (FT #[I0 kind,S0 p] 246)).heap.size)->
   w2.cell? ⟨b,3,FX⟩=FZ (FQ ea es.length ec)/\w2.frozen? ⟨b,3,FX⟩=false/\Grow (w2.setCell ⟨b,3,FX⟩ (FQ a2 (es.length+1) c2)) F b z vn vs (FQ a2 (es.length+1) c2) ns ss (es++[⟨kind,p⟩])/\Touch F w (w2.setCell ⟨b,3,FX⟩ (FQ a2 (es.length+1) c2)):=by
  intro w1 w2 a2 c2 hb1 ho2 hg2 hl2;have g1:=(h.next hb1).next (G7 w1 (FT #[I0 kind,S0 p] 246));have n3:¬ (Value.slice ea es.length ec).ownBlock=FZ b:=fun e=>(h.fe b e).2 rfl;refine⟨hg2.cell g1.c3 (fun e=>n3 e.symm),(World.frozen?_of_block (hg2.block b g1.lt (fun e=>n3 e.symm))).trans (g1.fz 3),g1.ev (fun k hk=>hF k (by have:=hb1.size;simp at hk;omega)) hg2 ho2 hl2,?_⟩;exact(((Touch.of_below hb1).trans (Touch.of_below (G7 _ _))).trans (Touch.VG hg2 (fun k e=>(h.fe k e).1))).trans (Touch.set h.fb _)
 have HK2:=G6 K2;clear h hF hp K2;go_enter func226,ntmps226;go_wp2_with fail
 go_region_law (first
  |(refine A30 (by kernel_rfl) _ _ (by rfl) (FQ ea es.length ec) es (by rfl) (G5 KE w1 (G5 HB1)) w1.heap.size (by rfl) ⟨kind,p⟩ (A10 w1 kind p) hl ?_;intro a2 c2 w2 ho2 hg2 hl2;obtain⟨m3,l3,g2,t2⟩:=G5 HK2 w1 w2 a2 c2 (G5 HB1) ho2 hg2 hl2;have HG2:=G6 g2;have HT2:=G6 t2;clear ho2 hg2 hl2 g2 t2)
  |(go_simp;refine(C _).mono ?_;rintro e w1 ⟨rfl,hb1⟩;have HB1:Hid (B0 w w1):=(by first|exact hb1|exact I9 hb1);obtain⟨d3,k3,hbn,d3a⟩:=G5 K1 w1 (G5 HB1);clear hb1))
 all_goals go_wp2_with fail
 all_goals go_end0
 all_goals exact⟨rfl,_,G5 HG2,G5 HT2⟩
theorem kM(a:Addr)(cap:Nat)(ss:List Int)(w:FU)(hl:ss.length<=2147483647)(hc:∀j u,(G9 ss)[j]?=FZ u->w.cell? (a.add j)=FZ u):
  FW prog 26 #[FQ (FZ a) ss.length cap] w fun e w'=>∃v',e=.returned v'/\GZ w' w.heap.size v' ss/\B0 w w':=by
 have q22:∀ (w:FU) (a:Option Addr) (n c n' c':Nat),(binOp .eql 59 (FQ a n c) (FQ FX n' c')).run prog w=.ok (.bool a.isNone) w:=fun w a n c n' c'=>Lib.run_eql_slice_nil w _ _ a n c n' c' underlying59;have H:Hid (∀j u,(G9 ss)[j]?=FZ u->w.cell? (a.add j)=FZ u):=hc;clear hc;obtain⟨i0,hi0,hz0,hz1,hz2⟩:=A25;go_enter func26,ntmps26;go_wp2_with (at_builtin;refine wpList_append_own _ rfl _ _ 59 rfl w.heap.size 3 i0 _ 1 8 underlying59 hi0 hz0 hz1 hz2 rfl (by decide) _ _ _ rfl (World.ownsRow_made w #[] 0 (A8 _) (AY _) (by simp)) a ss.length cap (G9 ss) rfl ?qc1 ?qc2 ?qc3 ?qc4 ?qc5 ?qc6 ?_)
 case qc1=>exact(J6 ss).trans (Nat.mul_one _).symm
 case qc2=>
  intro j u hj;exact Lib.cell?_alloc_some _ (H.out j u hj)
 case qc3=>exact JL ss
 case qc4=>simp only[maxLen];omega
 case qc5=>omega
 case qc6=>simp
 intro v' w1 hown hgrow hnil
 go_wp2
 go_ret;refine⟨v',rfl,GZ.LD hown,?_⟩;exact((AA _ w).alloc (A8 _) _).grown hgrow (by simp) (by intro k hk;simp[Value.ownBlock]at hk;omega)
theorem AM6(n c:Nat)(w:FU):
  FW prog 26 #[FQ FX n c] w fun e w'=>e=.returned (N0)/\w'=w:=by
 have q22:∀ (w:FU) (a:Option Addr) (n c n' c':Nat),(binOp .eql 59 (FQ a n c) (FQ FX n' c')).run prog w=.ok (.bool a.isNone) w:=fun w a n c n' c'=>Lib.run_eql_slice_nil w _ _ a n c n' c' underlying59;go_enter func26,ntmps26
 go_wp2
 go_ret;exact⟨rfl,rfl⟩
theorem oM(v:FV)(ss:List Int)(w:FU)(hv:IU w v ss)(hl:ss.length<=2147483647):
  FW prog 26 #[v] w fun e w'=>∃v',e=.returned v'/\GZ w' w.heap.size v' ss/\B0 w w':=by
 rcases hv with⟨a,cap,rfl,rfl,_⟩|⟨b,off,cap,rfl,_,_,hb,_,hr⟩
 .cases a with
  |none=>exact(AM6 0 cap w).mono fun e w' ⟨he,hw⟩=>⟨_,he,.inl ⟨rfl,rfl⟩,by rw[hw];exact AA _ _⟩
  |some a=>exact kM a cap [] w (by simp) (fun j u h=>by simp[SE]at h)
 .exact kM ⟨b,off,FX⟩ cap ss w hl (fun j u h=>by rw[Addr.add_lit];exact hr j u h)
theorem A31{w:FU}{ops:Array Oper}{o:Oper}{a:Act}{K:Act->FU->Prop}{Q:Exit->Act->FU->Prop}{E:Prop}(hgd:FI o (yielded ops a.tmps)=true)(s x:Operand)
  (ho:o.op=.call {callee:=.builtin .append,args:=#[s,x],argTypes:=#[58,58]})
  (v:FV) (ns:List Nd) (hs:a.eval s=v) (hown:GZ w 0 v ns)
  (q:Nat) (hx:a.eval x=FQ (FZ ⟨q,0,FX⟩) 1 1) (t:Nd) (hnews:JF w q t) (hl:ns.length<=100000)
  (h:∀a' c' w',GZ w' 0 (FQ a' (ns.length+1) c') (ns++[t])->w.grownBy w' v.ownBlock->((Value.slice a' (ns.length+1) c').ownBlock=v.ownBlock\/(Value.slice a' (ns.length+1) c').ownBlock=FZ w.heap.size)->K (a.put o.dst (FQ a' (ns.length+1) c')) w'):
  if FI o (yielded ops a.tmps)=true then Oper.wp prog o a w K Q else E:=by
 rw[if_pos hgd];obtain⟨i0,hi0,hz0,hz1,hz2⟩:=AM4;obtain⟨v',w',hr,h2,h3,_,h5⟩:=run_append_own_at (P:=prog) w 0 58 o.type 49 i0 _ 9 88 underlying58 hi0 hz0 hz1 hz2 rfl (by decide) v ns.length (G9 ns) hown.row ⟨q,0,FX⟩ 1 1 (MG t) rfl (RS hnews) (Lay.one t) (by simp only[maxLen];omega) (by omega) (AY _);have h2':GZ w' 0 v' (ns++[t]):=GZ.LD (by rw[AO,JE];exact h2);obtain⟨a',c',rfl,_⟩:=h2'.slice;have hlen:(ns++[t]).length=ns.length+1:=by simp
 rw[hlen]at h2' hr h5;unfold Oper.wp execOp;simp only[ho,resolve,invoke,builtin,Sem.run_bind,Sem.run_pure,Result.andThen_ok,List.map_toArray,List.map_cons,List.map_nil,hs,hx,hr];exact h a' c' w' h2' h3 h5
theorem rU(w:FU)(n:Nd):JF (w.alloc (FT #[S0 n.p,S0 n.d,I0 n.c,I0 n.m,I0 n.q,I0 n.v,I0 n.k,I0 n.o,I0 n.n] 49)) w.heap.size n:=heap_alloc_new w _
theorem B13(t:Tr)(vn vs:FV)(z:Int)(w:FU)(hn:IU w vn t.ns)(hs:IU w vs t.ss)(hl:t.ns.length<=400)(hls:t.ss.length<=2147483647)(C49:∀n∈t.ns,n.p.length<=140737488355328/\n.d.length<=140737488355328):
  FW prog 168 #[.agg #[I0 t.z,vn,vs],I0 z] w fun e w'=>
   ∃b vn' vs',e=.returned (P0 b)/\Grow w' (fun k=>w.heap.size<=k) b z vn' vs' (N0) t.ns t.ss []/\B0 w w':=by
 have CC:=G6 (fun n (hn:n∈t.ns) W=>ZP n W (C49 n hn).1 (C49 n hn).2);have CI:=G6 (fun W (hW:B0 w W)=>oM vs t.ss W (hs.next hW) hls);have KR:∀W,B0 w W->∀k x,t.ns[k]?=FZ x->∃b off cap,vn=FQ (FZ ⟨b,off,FX⟩) t.ns.length cap/\b<w.heap.size/\IE W b off (G9 t.ns):=fun W hW k x hx=>by
  obtain⟨b,off,cap,e,hb,hr,_,_⟩:=NZ hn (fun h0=>by obtain⟨h1,_⟩:=List.getElem?_eq_some_iff.1 hx;rw[h0]at h1;simp at h1);exact⟨b,off,cap,e,hb,hr.kept hW hb⟩
 have HKR:=G6 KR;obtain⟨na,nc,rfl⟩:=GK hn;obtain⟨sa,sc,rfl⟩:=GK hs;clear hn hs C49 KR;unfold TY at CC;have S0:∀W,W=(w.alloc (FT #[I0 t.z,FQ na t.ns.length nc,FQ sa t.ss.length sc] 61)).alloc (FT #[I0 z,N0,N0,N0] 244)->
   Grow W (fun k=>w.heap.size+1<=k) (w.heap.size+1) z (N0) (N0) (N0) [] [] []/\Touch (fun k=>w.heap.size+1<=k) (w.alloc (FT #[I0 t.z,FQ na t.ns.length nc,FQ sa t.ss.length sc] 61)) W:=by
  rintro W rfl;refine⟨⟨?_,A8 _,.inl ⟨rfl,rfl⟩,.inl ⟨rfl,rfl⟩,.inl ⟨rfl,rfl⟩,(by intro k hk;cases hk),(by intro k hk;cases hk),(by intro k hk;cases hk),(by intro k hk;cases hk),(by intro k hk;cases hk)⟩,?_⟩
  .have:=heap_alloc_new (w.alloc (FT #[I0 t.z,FQ na t.ns.length nc,FQ sa t.ss.length sc] 61)) (FT #[I0 z,N0,N0,N0] 244);rw[show (w.alloc (FT #[I0 t.z,FQ na t.ns.length nc,FQ sa t.ss.length sc] 61)).heap.size=w.heap.size+1 by simp]at this;exact this
  .exact Touch.of_below (G7 _ _)
 have HS0:=G6 S0;have BX:∀W,Touch (fun k=>w.heap.size+1<=k) (w.alloc (FT #[I0 t.z,FQ na t.ns.length nc,FQ sa t.ss.length sc] 61)) W->B0 w W/\W.cell? ⟨w.heap.size,2,FX⟩=FZ (FQ sa t.ss.length sc)/\w.heap.size+1<=W.heap.size:=by
  intro W h;have hb:W.heap[w.heap.size]?=_:=(h.block w.heap.size (by simp) (by omega)).trans (heap_alloc_new w _);refine⟨(G7 w _).trans (h.below (by simp) (fun k hk=>by omega)),by simp[AV,hb],by have:=h.size;simpa using this⟩
 have HBX:=G6 BX;clear S0 BX;go_enter func168,ntmps168;go_wp2_with fail
 go_loopg [18] t.ns.length (fun kx s18 wr=>∃ (k:Nat) (vn':FV),s18=I0 k/\k<=t.ns.length/\t.ns.length-k<=kx/\Hid (Grow wr (fun k=>w.heap.size+1<=k) (w.heap.size+1) z vn' (N0) (N0) (t.ns.take k) [] [])/\Hid (Touch (fun k=>w.heap.size+1<=k) (w.alloc (FT #[I0 t.z,FQ na t.ns.length nc,FQ sa t.ss.length sc] 61)) wr))
 case atStart=>
  obtain⟨g0,t0⟩:=G5 HS0 _ rfl;exact⟨0,_,rfl,AY _,A8 _,G6 g0,G6 t0⟩
 case round=>
  obtain⟨k,vn',rfl,hk,hg,hG,hT⟩:=hrel;obtain⟨hBw,hc2,hsz⟩:=G5 HBX wr (G5 hT);have HBw:=G6 hBw;by_cases hlt:k<t.ns.length
  .obtain⟨x,hx⟩:∃x,t.ns[k]?=FZ x:=⟨_,AL hlt⟩;obtain⟨b,off,cap,he,hb,q⟩:=G5 HKR wr hBw k x hx;simp only[AP]at he;obtain⟨rfl,_,rfl⟩:=he;have d0:=q.n0 hx;have d1:=q.n1 hx;have d2:=q.n2 hx;have d3:=q.n3 hx;have d4:=q.n4 hx;have d5:=q.n5 hx;have d6:=q.n6 hx;have d7:=q.n7 hx;have d8:=q.n8 hx;have hbw:b<wr.heap.size:=by omega
   have CX:=fun W=>G5 CC x (List.mem_of_getElem? hx) W;have HT1:=G6 (show t.ns.take (k+1)=t.ns.take k++[x] by rw[List.take_add_one,hx];rfl);have hlk:(t.ns.take k).length<=400:=by simp;omega
   obtain⟨P,hP⟩:∃P,t.ns.take k=P:=⟨_,rfl⟩;rw[hP]at hG hlk HT1;clear q hx hP;obtain⟨va,vc,rfl,_⟩:=(G5 hG).n.slice;have h:=G5 hG;have c1:=h.c1;have f1:=h.fz 1;have K1:=G6 (fun w1 (hb1:B0 wr w1)=>(⟨(h.next hb1).c1,(h.next hb1).fz 1,(h.next hb1).lt,((h.next hb1).next (G7 _ _)).c1⟩:w1.cell? ⟨w.heap.size+1,1,FX⟩=FZ (FQ va P.length vc)/\w1.frozen? ⟨w.heap.size+1,1,FX⟩=false/\w.heap.size+1<w1.heap.size/\(w1.alloc (FT #[S0 x.p,S0 x.d,I0 x.c,I0 x.m,I0 x.q,I0 x.v,I0 x.k,I0 x.o,I0 x.n] 49)).cell? ⟨w.heap.size+1,1,FX⟩=FZ (FQ va P.length vc)));have KE:=G6 (fun w1 (hb1:B0 wr w1)=>(h.next hb1).n.next (G7 w1 (FT #[S0 x.p,S0 x.d,I0 x.c,I0 x.m,I0 x.q,I0 x.v,I0 x.k,I0 x.o,I0 x.n] 49)));have K2:∀ (w1 w2:FU) (a2:Option Addr) (c2:Nat),B0 wr w1->GZ w2 0 (FQ a2 (P.length+1) c2) (P++[x])->(w1.alloc (FT #[S0 x.p,S0 x.d,I0 x.c,I0 x.m,I0 x.q,I0 x.v,I0 x.k,I0 x.o,I0 x.n] 49)).grownBy w2 (Value.slice va P.length vc).ownBlock->
     ((Value.slice a2 (P.length+1) c2).ownBlock=(Value.slice va P.length vc).ownBlock\/(Value.slice a2 (P.length+1) c2).ownBlock=FZ (w1.alloc (FT #[S0 x.p,S0 x.d,I0 x.c,I0 x.m,I0 x.q,I0 x.v,I0 x.k,I0 x.o,I0 x.n] 49)).heap.size)->
     w2.cell? ⟨w.heap.size+1,1,FX⟩=FZ (FQ va P.length vc)/\w2.frozen? ⟨w.heap.size+1,1,FX⟩=false/\Grow (w2.setCell ⟨w.heap.size+1,1,FX⟩ (FQ a2 (P.length+1) c2)) (fun k=>w.heap.size+1<=k) (w.heap.size+1) z (FQ a2 (P.length+1) c2) (N0) (N0) (P++[x]) [] []/\Touch (fun k=>w.heap.size+1<=k) wr (w2.setCell ⟨w.heap.size+1,1,FX⟩ (FQ a2 (P.length+1) c2)):=by
    intro w1 w2 a2 c2 hb1 ho2 hg2 hl2;have g1:=(h.next hb1).next (G7 w1 (FT #[S0 x.p,S0 x.d,I0 x.c,I0 x.m,I0 x.q,I0 x.v,I0 x.k,I0 x.o,I0 x.n] 49));have n3:¬ (Value.slice va P.length vc).ownBlock=FZ (w.heap.size+1):=fun e=>(h.fn _ e).2 rfl;refine⟨hg2.cell g1.c1 (fun e=>n3 e.symm),(World.frozen?_of_block (hg2.block _ g1.lt (fun e=>n3 e.symm))).trans (g1.fz 1),g1.nd (fun k hk=>by have:=hb1.size;simp at hk;omega) hg2 ho2 ?_,?_⟩
    .rcases hl2 with e|e
     .exact .inl e
     .exact .inr ⟨_,A8 _,e⟩
    .exact(((Touch.of_below hb1).trans (Touch.of_below (G7 _ _))).trans (Touch.VG hg2 (fun k e=>(h.fn k e).1))).trans (Touch.set h.fb _)
   have HK2:=G6 K2;have hbn:w.heap.size+1≠wr.heap.size:=by have:=h.lt;omega
   have hbl:=h.lt;clear h K2;go_wp2_with fail
   go_region_law (first
    |(refine A31 (by kernel_rfl) _ _ (by rfl) (FQ va P.length vc) P (by rfl) (G5 KE w1 (G5 HB1)) w1.heap.size (by rfl) x (rU w1 x) (by omega) ?_;intro a2 c2 w2 ho2 hg2 hl2;obtain⟨m3,l3,g2,t2⟩:=G5 HK2 w1 w2 a2 c2 (G5 HB1) ho2 hg2 hl2;have HG2:=G6 g2;have HT2:=G6 ((G5 hT).trans t2);clear ho2 hg2 hl2 g2 t2)
    |(go_simp;refine(CX _).mono ?_;rintro e w1 ⟨rfl,hb1⟩;have HB1:Hid (B0 wr w1):=(by first|exact GU (I9 hb1)|exact GU hb1);obtain⟨e3,k3,hbn2,d3a⟩:=G5 K1 w1 (G5 HB1);clear hb1))
   all_goals
    go_wp2_with fail
    go_roundg (t.ns.length-(k+1))
    case measure=>omega
    case rel=>exact⟨k+1,_,rfl,by omega,A8 _,(by rw[G5 HT1];exact HG2),HT2⟩
  .obtain rfl:k=t.ns.length:=by omega
   clear hBw;go_wp2_with fail;refine(G5 CI wr (G5 HBw)).mono ?_;rintro e w1 ⟨vs',rfl,ho,hb1⟩;have h:=(G5 hG).next hb1;have c2:=h.c2;have f2:=h.fz 2;have g2:=(G5 hG).se (V:=w1) (vs':=vs') (ss':=t.ss) (fun k hk=>by omega) ⟨hb1.os,hb1.tape,hb1.output,hb1.size,fun k hk _=>hb1.block k hk⟩ (ho.lower (AY _)) (by
    rcases ho with⟨rfl,_⟩|⟨g,cap,rfl,hB,_⟩
    .exact .inl rfl
    .exact .inr ⟨g,hB,rfl⟩)
   have hne:w.heap.size+1≠w.heap.size:=by omega
   rw[DU]at g2;have HG2:=G6 (g2.cut (G:=fun k=>w.heap.size<=k) (fun k _ hk=>by omega));have HB2:=G6 (G8 (G5 HBw) hb1);obtain⟨sa',sc',rfl,_⟩:=ho.slice;clear h g2 ho hb1;go_wp2_with fail;go_ret;exact⟨w.heap.size+1,_,_,rfl,G5 HG2,(G5 HB2).setCell (by simp) _⟩
theorem UK(A:List Nd)(x:Nd)(B:List Nd):(A++x::B)[A.length]?=FZ x:=by simp
theorem kN(F:Nat->Prop)(b:Nat)(z:Int)(vn vs ve:FV)(ns A B:List Nd)(u:Nd)(ss:List Int)(es:List Ev)(p:List UInt8)(more:Int)(w:FU)
  (h:Grow w F b z vn vs ve ns ss es) (T:KF ns A u B p) (hl:ns.length<=400) (hk:u.k=2147483647):
  FW prog 227 #[P0 b,S0 p,I0 more] w fun e w'=>e=.returned (I0 6)/\Touch F w w':=by
 have CF:=fun W (hW:B0 w W)=>JR vn ns A B u p W (h.n.next hW).seq (by omega) T;obtain⟨g,cap,rfl,hr,hgb,hFg⟩:=h.iK (by rw[T.eq];simp);have c1:=h.c1;have HG:=G6 h;have HE:=G6 T.eq;have hlt:A.length<ns.length:=by rw[T.eq];simp
 clear h hr T;go_enter func227,ntmps227;go_wp2_with fail;refine(CF _ (AA _ _)).mono ?_;rintro e w1 ⟨rfl,hb1⟩;have g1:=(G5 HG).next hb1;have d1:=g1.c1;obtain⟨g',cap',he,hr,_,_⟩:=g1.iK (by rw[G5 HE];simp);simp only[AP,BD,ER,and_true]at he;obtain⟨rfl,_,rfl⟩:=he;have r6:=hr.row.n6 (i:=A.length) (x:=u) (by rw[G5 HE];exact UK A u B);rw[hk,BI]at r6;have HB:=G6 hb1;clear CF c1 g1 hr hb1;go_wp2_with fail;go_ret;exact⟨rfl,Touch.of_below (G5 HB)⟩
theorem xB(F:Nat->Prop)(b:Nat)(z:Int)(vn vs ve:FV)(ns A B:List Nd)(u:Nd)(ss:List Int)(es:List Ev)(p:List UInt8)(more:Int)(w:FU)
  (h:Grow w F b z vn vs ve ns ss es) (hF:∀k,w.heap.size<=k->F k) (T:KF ns A u B p) (hl:ns.length<=400) (hk:0<=u.k/\u.k<2147483647) (hn:0<=u.n/\u.n<=1000) (hm: -1<=more/\more<=1) (hp:p.length<=140737488355328) (hes:es.length<=99999):
  FW prog 227 #[P0 b,S0 p,I0 more] w fun e w'=>e=.returned (I0 0)/\∃ve',Grow w' F b z vn vs ve' (A++bump z more u::B) ss (es++[⟨4,p⟩])/\Touch F w w':=by
 have CF:=fun W (hW:B0 w W)=>JR vn ns A B u p W (h.n.next hW).seq (by omega) T;obtain⟨g,cap,rfl,hr,hgb,hFg⟩:=h.iK (by rw[T.eq];simp);have c1:=h.c1;have HG:=G6 h;have HE:=G6 T.eq;have HF:=G6 hF;have hlt:A.length<ns.length:=by rw[T.eq];simp
 clear h hr T hF;go_enter func227,ntmps227;go_wp2_with fail;refine(CF _ (AA _ _)).mono ?_;rintro e w1 ⟨rfl,hb1⟩;have g1:=(G5 HG).next hb1;have d1:=g1.c1;have d0:=g1.c0;obtain⟨g',cap',he,hr,_,_⟩:=g1.iK (by rw[G5 HE];simp);simp only[AP,BD,ER,and_true]at he;obtain⟨rfl,_,rfl⟩:=he;have at':ns[A.length]?=FZ u:=by rw[G5 HE];exact UK A u B
 have r4:=hr.row.n4 at';have r6:=hr.row.n6 at';have r8:=hr.row.n8 at';have z4:=hr.frozen (A.length*9+4);have z6:=hr.frozen (A.length*9+6);have z8:=hr.frozen (A.length*9+8);rw[BI]at r4 r6 r8;have hne:g≠b:=hgb;have hne':b≠g:=Ne.symm hgb;have hk1:=hk.1;have hk2:=hk.2;have hkn:¬u.k=2147483647:=by omega
 have g4:Grow (((w1.setCell ⟨g,A.length*9+8,FX⟩ (I0 (u.n+more))).setCell ⟨g,A.length*9+6,FX⟩ (I0 (u.k+1))).setCell ⟨g,A.length*9+4,FX⟩ (I0 z)) F b z (FQ (FZ ⟨g,0,FX⟩) ns.length cap) vs ve (A++bump z more u::B) ss es:=by
  have e0:=g1;rw[G5 HE]at e0;have e1:=e0.put (m:=⟨u.p,u.d,u.c,u.m,u.q,u.v,u.k,u.o,u.n+more⟩) (c:=8) (by omega) (v:=I0 (u.n+more)) rfl;have e2:=e1.put (m:=⟨u.p,u.d,u.c,u.m,u.q,u.v,u.k+1,u.o,u.n+more⟩) (c:=6) (by omega) (v:=I0 (u.k+1)) rfl;have e3:=e2.put (m:=bump z more u) (c:=4) (by omega) (v:=I0 z) rfl;rw[G5 HE];exact e3
 have T4:Touch F w (((w1.setCell ⟨g,A.length*9+8,FX⟩ (I0 (u.n+more))).setCell ⟨g,A.length*9+6,FX⟩ (I0 (u.k+1))).setCell ⟨g,A.length*9+4,FX⟩ (I0 z)):=
  (((Touch.of_below hb1).trans (Touch.set hFg _)).trans (Touch.set hFg _)).trans (Touch.set hFg _)
 have CT:=fun W (hW:Grow W F b z (FQ (FZ ⟨g,0,FX⟩) ns.length cap) vs ve (A++bump z more u::B) ss es) (hs:w.heap.size<=W.heap.size)=>iL F b z _ vs ve _ ss es 4 p W hW (fun k hk=>G5 HF k (by omega)) hp (by omega);have HG4:=G6 g4;have HT4:=G6 T4;have HCT:=G6 CT;clear CF c1 g1 hr hb1 at' g4 T4 CT;go_wp2_with fail;refine(G5 HCT _ (G5 HG4) (G5 HT4).size).mono ?_;rintro e w5 ⟨rfl,ve',g5,t5⟩;have HG5:=G6 g5;have HT5:=G6 ((G5 HT4).trans t5);clear g5 t5;go_wp2_with fail;go_ret;exact⟨rfl,ve',G5 HG5,G5 HT5⟩
theorem AM7(F:Nat->Prop)(b:Nat)(z:Int)(vn vs ve:FV)(ns A B:List Nd)(ss:List Int)(es:List Ev)(p:List UInt8)(w:FU)
  (h:Grow w F b z vn vs ve ns ss es) (G:mX ns A B p) (hl:ns.length<=400):
  FW prog 201 #[P0 b,S0 p] w fun e w'=>e=.returned (I0 7)/\Touch F w w':=by
 have CF:=fun W (hW:B0 w W)=>NK vn ns A B p W (h.n.next hW).seq (by omega) G;have c1:=h.c1;obtain⟨na,nc,rfl,_⟩:=h.n.slice;clear h G;go_enter func201,ntmps201;go_wp2_with fail;refine(CF _ (AA _ _)).mono ?_;rintro e w1 ⟨rfl,hb1⟩;clear CF;go_wp2_with fail;go_ret;exact⟨rfl,Touch.of_below hb1⟩
theorem A32(F:Nat->Prop)(b:Nat)(z:Int)(vn vs ve:FV)(ns A B:List Nd)(u:Nd)(ss:List Int)(es:List Ev)(p:List UInt8)(w:FU)
  (h:Grow w F b z vn vs ve ns ss es) (T:KF ns A u B p) (hl:ns.length<=400) (hk:u.n≠0):
  FW prog 201 #[P0 b,S0 p] w fun e w'=>e=.returned (I0 10)/\Touch F w w':=by
 have CF:=fun W (hW:B0 w W)=>JR vn ns A B u p W (h.n.next hW).seq (by omega) T;obtain⟨g,cap,rfl,hr,hgb,hFg⟩:=h.iK (by rw[T.eq];simp);have c1:=h.c1;have HG:=G6 h;have HE:=G6 T.eq;have hlt:A.length<ns.length:=by rw[T.eq];simp
 clear h hr T;go_enter func201,ntmps201;go_wp2_with fail;refine(CF _ (AA _ _)).mono ?_;rintro e w1 ⟨rfl,hb1⟩;have g1:=(G5 HG).next hb1;have d1:=g1.c1;obtain⟨g',cap',he,hr,_,_⟩:=g1.iK (by rw[G5 HE];simp);simp only[AP,BD,ER,and_true]at he;obtain⟨rfl,_,rfl⟩:=he;have r8:=hr.row.n8 (i:=A.length) (x:=u) (by rw[G5 HE];exact UK A u B);rw[BI]at r8;have hk':(u.n !=0)=true:=by simpa using hk
 have HB:=G6 hb1;clear CF c1 g1 hr hb1 hk;go_wp2_with fail;go_ret;exact⟨rfl,Touch.of_below (G5 HB)⟩
theorem kP(F:Nat->Prop)(b:Nat)(z:Int)(vn vs ve:FV)(ns A B:List Nd)(n:Nd)(ss:List Int)(es:List Ev)(p:List UInt8)(w:FU)(E:Int)(Post:FU->Prop)
  (h:Grow w F b z vn vs ve ns ss es) (hF:∀k,w.heap.size<=k->F k) (T:KF ns A n B p) (hl:ns.length<=400) (hk:n.n=0) (hp:p.length<=140737488355328) (hes:es.length<=99998)
  (hpar:∀W vn' ve',Grow W F b z vn' vs ve' (A++B) ss (es++[⟨2,p⟩])->w.heap.size<=W.heap.size->Touch F w W->FW prog 227 #[P0 b,S0 (IB p),I0 (-1)] W fun e w'=>e=.returned (I0 E)/\Post w'):
  FW prog 201 #[P0 b,S0 p] w fun e w'=>e=.returned (I0 E)/\Post w':=by
 have CF:=fun W (hW:B0 w W)=>JR vn ns A B n p W (h.n.next hW).seq (by omega) T;obtain⟨g,cap,rfl,hr,hgb,hFg⟩:=h.iK (by rw[T.eq];simp);have c1:=h.c1;have HG:=G6 h;have HE:=G6 T.eq;have HF:=G6 hF;have HP:=G6 hpar;have hlen:ns.length=A.length+B.length+1:=by rw[T.eq];simp;omega
 have hlt:A.length<ns.length:=by omega
 have HL:=G6 hlen;have CD:=fun W (ho:J9 W g cap (A++n::B))=>A21 g cap A B n ns.length W ho (G5 HL) hl;have CS:=fun W=>NI p W;have HCD:=G6 CD;have HCS:=G6 CS;clear h hr T hF hpar CD CS hlen;go_enter func201,ntmps201;go_wp2_with fail;refine(CF _ (AA _ _)).mono ?_;rintro e w1 ⟨rfl,hb1⟩;have g1:=(G5 HG).next hb1;have d1:=g1.c1;obtain⟨g',cap',he,hr,_,_⟩:=g1.iK (by rw[G5 HE];simp);simp only[AP,BD,ER,and_true]at he;obtain⟨rfl,_,rfl⟩:=he;have r8:=hr.row.n8 (i:=A.length) (x:=n) (by rw[G5 HE];exact UK A n B);rw[BI,hk]at r8;have HB:=G6 hb1;have HG1:=G6 g1;have HR:=G6 (show J9 w1 g cap (A++n::B) by rw[<-G5 HE];exact hr);clear CF c1 g1 hr hb1;go_wp2_with fail;rw[show ((A.length:Int)+1)=((A.length+1:Nat):Int)from by omega];refine(G5 HCD _ (G5 HR)).mono ?_;rintro e w2 ⟨rfl,ho2,hg2⟩;have m1:w2.cell? ⟨b,1,FX⟩=FZ (FQ (FZ ⟨g,0,FX⟩) ns.length cap):=hg2.cell d1 (fun e=>hgb (BN e).symm);have l1:w2.frozen? ⟨b,1,FX⟩=false:=(World.frozen?_of_block (hg2.block b (G5 HG1).lt (fun e=>hgb (BN e).symm))).trans ((G5 HG1).fz 1);have g2:=(G5 HG1).nd (vn':=FQ (FZ ⟨g,0,FX⟩) (A.length+B.length) cap) (ns':=A++B) (fun k hk=>G5 HF k (by have:=(G5 HB).size;omega)) hg2 (.inr ⟨g,cap,by rw[AO],AY _,ho2⟩) (.inl rfl);have t2:Touch F w (w2.setCell ⟨b,1,FX⟩ (FQ (FZ ⟨g,0,FX⟩) (A.length+B.length) cap)):=((Touch.of_below (G5 HB)).trans (Touch.VG hg2 (fun k e=>by cases e;exact hFg))).trans (Touch.set g2.fb _);have HG2:=G6 g2;have HT2:=G6 t2;clear g2 t2 ho2 hg2 d1 r8 HR;go_wp2_with fail;refine(iL F b z _ vs ve _ ss es 2 p _ (G5 HG2) (fun k hk=>G5 HF k (by have:=(G5 HT2).size;omega)) hp (by omega)).mono ?_;rintro e w3 ⟨rfl,ve',g3,t3⟩;have HG3:=G6 g3;have HT3:=G6 ((G5 HT2).trans t3);clear g3 t3 m1 l1;go_wp2_with fail;refine(G5 HCS _).mono ?_;rintro e w4 ⟨rfl,hb4⟩;have HG4:=G6 ((G5 HG3).next hb4);have HT4:=G6 ((G5 HT3).trans (Touch.of_below hb4));clear hb4;go_wp2_with fail;refine(G5 HP _ _ _ (G5 HG4) (G5 HT4).size (G5 HT4)).mono ?_;rintro e w5 ⟨rfl,hp5⟩;have HP5:=G6 hp5;clear hp5;go_wp2_with fail;go_ret;exact⟨rfl,G5 HP5⟩
theorem xC(F:Nat->Prop)(b:Nat)(z:Int)(vn vs ve:FV)(ns A B A' B':List Nd)(n u:Nd)(ss:List Int)(es:List Ev)(p:List UInt8)(w:FU)
  (h:Grow w F b z vn vs ve ns ss es) (hF:∀k,w.heap.size<=k->F k) (T:KF ns A n B p) (T':KF (A++B) A' u B' (IB p)) (hl:ns.length<=400) (hk:n.n=0) (hu:0<=u.k/\u.k<2147483647) (hn:0<=u.n/\u.n<=1000) (hp:p.length<=140737488355328) (hd:(IB p).length<=140737488355328) (hes:es.length<=99998):
  FW prog 201 #[P0 b,S0 p] w fun e w'=>e=.returned (I0 0)/\∃vn' ve',Grow w' F b z vn' vs ve' (rmN z ns p) ss (es++[⟨2,p⟩,⟨4,IB p⟩])/\Touch F w w':=by
 refine kP F b z vn vs ve ns A B n ss es p w 0 _ h hF T hl hk hp hes (fun W vn' ve' hG hs ht=>?_);have hlen:(A++B).length<=400:=by have:=congrArg List.length T.eq;simp at this⊢;omega
 refine(xB F b z vn' vs ve' (A++B) A' B' u ss _ (IB p) (-1) W hG (fun k hk=>hF k (by omega)) T' hlen hu hn (by omega) hd (by simp;omega)).mono ?_;rintro e w' ⟨rfl,ve2,g,t⟩;refine⟨rfl,vn',ve2,?_,ht.trans t⟩;rw[rmN,T.drop,T'.bump];simpa using g
theorem kQ(F:Nat->Prop)(b:Nat)(z:Int)(vn vs ve:FV)(ns A B A' B':List Nd)(n u:Nd)(ss:List Int)(es:List Ev)(p:List UInt8)(w:FU)
  (h:Grow w F b z vn vs ve ns ss es) (hF:∀k,w.heap.size<=k->F k) (T:KF ns A n B p) (T':KF (A++B) A' u B' (IB p)) (hl:ns.length<=400) (hk:n.n=0) (hu:u.k=2147483647) (hp:p.length<=140737488355328) (hes:es.length<=99998):
  FW prog 201 #[P0 b,S0 p] w fun e w'=>e=.returned (I0 6)/\Touch F w w':=by
 refine kP F b z vn vs ve ns A B n ss es p w 6 _ h hF T hl hk hp hes (fun W vn' ve' hG hs ht=>?_);have hlen:(A++B).length<=400:=by have:=congrArg List.length T.eq;simp at this⊢;omega
 refine(kN F b z vn' vs ve' (A++B) A' B' u ss _ (IB p) (-1) W hG T' hlen hu).mono ?_;rintro e w' ⟨rfl,t⟩;exact⟨rfl,ht.trans t⟩
theorem C50(F:Nat->Prop)(b:Nat)(z:Int)(vn vs ve:FV)(ns A B:List Nd)(ss:List Int)(es:List Ev)(x:GI)(w:FU)
  (h:Grow w F b z vn vs ve ns ss es) (G:mX ns A B x.p) (hl:ns.length<=400):
  FW prog 202 #[P0 b,J8 x] w fun e w'=>e=.returned (I0 7)/\Touch F w w':=by
 obtain⟨xz,xo,xs,xp,xd,xv,xw⟩:=x;simp only at G;have CF:=fun W (hW:B0 w W)=>NK vn ns A B xp W (h.n.next hW).seq (by omega) G;have c1:=h.c1;have hbl:=h.lt;obtain⟨na,nc,rfl,_⟩:=h.n.slice;clear h G;unfold J8;go_enter func202,ntmps202;go_wp2_with fail
 go_region_law (first
  |(go_simp;refine(CF _ (by first|exact((AA w.heap.size w).alloc (A8 _) _).drew|exact(AA w.heap.size w).alloc (A8 _) _)).mono ?_;rintro e w1 ⟨rfl,hb1⟩;have HB1:Hid (B0 w w1):=(by first|exact GU (I9 hb1)|exact GU hb1);clear hb1))
 all_goals go_wp2_with fail
 all_goals go_ret
 all_goals exact⟨rfl,Touch.of_below (G5 HB1)⟩
theorem CJ8(F:Nat->Prop)(b:Nat)(z:Int)(vn vs ve:FV)(ns A B:List Nd)(n:Nd)(ss:List Int)(es:List Ev)(x:GI)(w:FU)
  (h:Grow w F b z vn vs ve ns ss es) (hF:∀k,w.heap.size<=k->F k) (T:KF ns A n B x.p) (hl:ns.length<=400) (hv:0<=n.v/\n.v<=2147483647) (hp:x.p.length<=140737488355328) (hd:x.d.length<=140737488355328) (hes:es.length<=99999) (hx:x.v=n.v+1):
  FW prog 202 #[P0 b,J8 x] w fun e w'=>
   e=.returned (I0 0)/\∃ve',Grow w' F b z vn vs ve' (A++⟨n.p,x.d,n.c,x.z,n.q,x.v,n.k,n.o,n.n⟩::B) ss (es++[⟨3,x.p⟩])/\Touch F w w':=by
 obtain⟨xz,xo,xs,xp,xd,xv,xw⟩:=x;simp only at T hp hd hx⊢;have hxb:(xv !=n.v+1)=false:=by simpa using hx
 clear hx;have CF:=fun W (hW:B0 w W)=>JR vn ns A B n xp W (h.n.next hW).seq (by omega) T;have CC:=fun W=>NT xd W (by omega);obtain⟨g,cap,rfl,hr,hgb,hFg⟩:=h.iK (by rw[T.eq];simp);have hgl:=hr.lt;have c1:=h.c1;have hbl:=h.lt;have HG:=G6 h;have HE:=G6 T.eq;have HF:=G6 hF;have hlt:A.length<ns.length:=by rw[T.eq];simp
 have hv1:=hv.1;have hv2:=hv.2;have KX:∀w1,Below (w.alloc (FT #[I0 xz,I0 xo,I0 xs,S0 xp,S0 xd,I0 xv,I0 xw] 93)).heap.size (w.alloc (FT #[I0 xz,I0 xo,I0 xs,S0 xp,S0 xd,I0 xv,I0 xw] 93)) w1->TAt w1 w.heap.size ⟨xz,xo,xs,xp,xd,xv,xw⟩:=fun w1 h1=>(TAt.new w ⟨xz,xo,xs,xp,xd,xv,xw⟩).next h1;have HKX:=G6 KX;clear h hr T hF KX;unfold J8;go_enter func202,ntmps202;go_wp2_with fail
 go_region_law (first
  |(go_simp;refine(CF _ (by first|exact((AA w.heap.size w).alloc (A8 _) _).drew|exact(AA w.heap.size w).alloc (A8 _) _)).mono ?_;rintro e w1 ⟨rfl,hb1⟩;have HBd:=G6 hb1;clear hb1))
 all_goals
  have HB0:=G6 (I9 (G5 HBd));clear CF;have HB1:=G6 (GU (G5 HB0));have tx:=G5 HKX w1 (G5 HB0);have t0:=tx.c0;have t3:=tx.c3;have t4:=tx.c4;have t5:=tx.c5;have HTX:=G6 tx;have g1:=(G5 HG).next (G5 HB1);have d1:=g1.c1;have hsz1:=(G5 HB1).size;have hszx:=tx.lt;obtain⟨g',cap',he,hr,_,_⟩:=g1.iK (by rw[G5 HE];simp);simp only[AP,BD,ER,and_true]at he;obtain⟨rfl,_,rfl⟩:=he;have at':ns[A.length]?=FZ n:=by rw[G5 HE];exact UK A n B
  have r5:=hr.row.n5 at';rw[BI]at r5;have HG1:=G6 g1;clear g1 hr at' tx;go_wp2_with fail;go_region;go_wp2_with fail;refine(CC _).mono ?_;rintro e w2 ⟨rfl,hb2⟩;have hb2':=I9 hb2;have g2:=(G5 HG1).next hb2';obtain⟨g',cap',he,hr,_,_⟩:=g2.iK (by rw[G5 HE];simp);simp only[AP,BD,ER,and_true]at he;obtain⟨rfl,_,rfl⟩:=he;have at':ns[A.length]?=FZ n:=by rw[G5 HE];exact UK A n B
  have r1:=hr.row.n1 at';have r3:=hr.row.n3 at';have r5':=hr.row.n5 at';have z1:=hr.frozen (A.length*9+1);have z3:=hr.frozen (A.length*9+3);have z5:=hr.frozen (A.length*9+5);rw[BI]at r1 r3 r5';have tx2:=(G5 HTX).next hb2';have y0:=tx2.c0;have y3:=tx2.c3;have y5:=tx2.c5;have hne:g≠w.heap.size:=by omega
  have hne':w.heap.size≠g:=by omega
  have g4:Grow (((w2.setCell ⟨g,A.length*9+1,FX⟩ (S0 xd)).setCell ⟨g,A.length*9+5,FX⟩ (I0 xv)).setCell ⟨g,A.length*9+3,FX⟩ (I0 xz)) F b z (FQ (FZ ⟨g,0,FX⟩) ns.length cap) vs ve (A++⟨n.p,xd,n.c,xz,n.q,xv,n.k,n.o,n.n⟩::B) ss es:=by
   have e0:=g2;rw[G5 HE]at e0;have e1:=e0.put (m:=⟨n.p,xd,n.c,n.m,n.q,n.v,n.k,n.o,n.n⟩) (c:=1) (by omega) (v:=S0 xd) rfl;have e2:=e1.put (m:=⟨n.p,xd,n.c,n.m,n.q,xv,n.k,n.o,n.n⟩) (c:=5) (by omega) (v:=I0 xv) rfl;have e3:=e2.put (m:=⟨n.p,xd,n.c,xz,n.q,xv,n.k,n.o,n.n⟩) (c:=3) (by omega) (v:=I0 xz) rfl;rw[G5 HE];exact e3
  have T4:Touch F w (((w2.setCell ⟨g,A.length*9+1,FX⟩ (S0 xd)).setCell ⟨g,A.length*9+5,FX⟩ (I0 xv)).setCell ⟨g,A.length*9+3,FX⟩ (I0 xz)):=
   ((((Touch.of_below (G5 HB1)).trans (Touch.of_below hb2')).trans (Touch.set hFg _)).trans (Touch.set hFg _)).trans (Touch.set hFg _)
  have HG4:=G6 g4;have HT4:=G6 T4;have CT:=fun W (hW:Grow W F b z (FQ (FZ ⟨g,0,FX⟩) ns.length cap) vs ve (A++⟨n.p,xd,n.c,xz,n.q,xv,n.k,n.o,n.n⟩::B) ss es) (hs:w.heap.size<=W.heap.size)=>iL F b z _ vs ve _ ss es 3 xp W hW (fun k hk=>G5 HF k (by omega)) hp (by omega);have HCT:=G6 CT;clear CC g2 hr hb2 hb2' at' g4 T4 CT tx2 t0 t3 t4 t5 d1 r5;go_wp2_with fail;refine(G5 HCT _ (G5 HG4) (G5 HT4).size).mono ?_;rintro e w5 ⟨rfl,ve',g5,t5⟩;have HG5:=G6 g5;have HT5:=G6 ((G5 HT4).trans t5);clear g5 t5;go_wp2_with fail;go_ret;exact⟨rfl,ve',G5 HG5,G5 HT5⟩
theorem C51(F:Nat->Prop)(b:Nat)(z:Int)(vn vs ve:FV)(ns A B:List Nd)(n:Nd)(ss:List Int)(es:List Ev)(x:GI)(w:FU)
  (h:Grow w F b z vn vs ve ns ss es) (hF:∀k,w.heap.size<=k->F k) (T:KF ns A n B x.p) (hl:ns.length<=400) (hv:0<=n.v/\n.v<=2147483647) (hp:x.p.length<=140737488355328) (hd:x.d.length<=140737488355328) (_hes:es.length<=99999) (hx:x.v≠n.v+1):
  FW prog 202 #[P0 b,J8 x] w fun e w'=>
   e=.returned (I0 9)/\Touch F w w':=by
 obtain⟨xz,xo,xs,xp,xd,xv,xw⟩:=x;simp only at T hp hd hx⊢;have hxb:(xv !=n.v+1)=true:=by simpa using hx
 clear hx;have CF:=fun W (hW:B0 w W)=>JR vn ns A B n xp W (h.n.next hW).seq (by omega) T;have CC:=fun W=>NT xd W (by omega);obtain⟨g,cap,rfl,hr,hgb,hFg⟩:=h.iK (by rw[T.eq];simp);have hgl:=hr.lt;have c1:=h.c1;have hbl:=h.lt;have HG:=G6 h;have HE:=G6 T.eq;have HF:=G6 hF;have hlt:A.length<ns.length:=by rw[T.eq];simp
 have hv1:=hv.1;have hv2:=hv.2;have KX:∀w1,Below (w.alloc (FT #[I0 xz,I0 xo,I0 xs,S0 xp,S0 xd,I0 xv,I0 xw] 93)).heap.size (w.alloc (FT #[I0 xz,I0 xo,I0 xs,S0 xp,S0 xd,I0 xv,I0 xw] 93)) w1->TAt w1 w.heap.size ⟨xz,xo,xs,xp,xd,xv,xw⟩:=fun w1 h1=>(TAt.new w ⟨xz,xo,xs,xp,xd,xv,xw⟩).next h1;have HKX:=G6 KX;clear h hr T hF KX;unfold J8;go_enter func202,ntmps202;go_wp2_with fail
 go_region_law (first
  |(go_simp;refine(CF _ (by first|exact((AA w.heap.size w).alloc (A8 _) _).drew|exact(AA w.heap.size w).alloc (A8 _) _)).mono ?_;rintro e w1 ⟨rfl,hb1⟩;have HBd:=G6 hb1;clear hb1))
 all_goals
  have HB0:=G6 (I9 (G5 HBd));clear CF;have HB1:=G6 (GU (G5 HB0));have tx:=G5 HKX w1 (G5 HB0);have t0:=tx.c0;have t3:=tx.c3;have t4:=tx.c4;have t5:=tx.c5;have HTX:=G6 tx;have g1:=(G5 HG).next (G5 HB1);have d1:=g1.c1;have hsz1:=(G5 HB1).size;have hszx:=tx.lt;obtain⟨g',cap',he,hr,_,_⟩:=g1.iK (by rw[G5 HE];simp);simp only[AP,BD,ER,and_true]at he;obtain⟨rfl,_,rfl⟩:=he;have at':ns[A.length]?=FZ n:=by rw[G5 HE];exact UK A n B
  have r5:=hr.row.n5 at';rw[BI]at r5;have HG1:=G6 g1;clear g1 hr at' tx;go_wp2_with fail;go_region;go_wp2_with fail;go_ret;exact⟨rfl,(Touch.of_below (G5 HB1)).drew⟩
theorem B14(F:Nat->Prop)(b:Nat)(z:Int)(vn vs ve:FV)(ns:List Nd)(A B:List Nd)(n:Nd)(ss:List Int)(es:List Ev)(x:GI)(w:FU)
  (h:Grow w F b z vn vs ve ns ss es) (T:KF ns A n B x.p) (hl:ns.length<=400) (ha:uH ns):
  FW prog 200 #[P0 b,J8 x] w fun e w'=>e=.returned (I0 8)/\Touch F w w':=by
 obtain⟨xz,xo,xs,xp,xd,xv,xw⟩:=x;simp only at T;have CF:=fun W (hW:B0 w W)=>JR vn ns A B n xp W (h.n.next hW).seq (by omega) T;have HCS:=G6 (fun W=>NI xp W);have HCG:=G6 (fun W (hW:B0 w W)=>wM vn ns (IB xp) W (h.n.next hW).seq (by omega) ha);have KX:∀w1,Below (w.alloc (FT #[I0 xz,I0 xo,I0 xs,S0 xp,S0 xd,I0 xv,I0 xw] 93)).heap.size (w.alloc (FT #[I0 xz,I0 xo,I0 xs,S0 xp,S0 xd,I0 xv,I0 xw] 93)) w1->TAt w1 w.heap.size ⟨xz,xo,xs,xp,xd,xv,xw⟩:=fun w1 h1=>(TAt.new w ⟨xz,xo,xs,xp,xd,xv,xw⟩).next h1;have HKX:=G6 KX;have c1:=h.c1;have hbl:=h.lt;obtain⟨na,nc,rfl,_⟩:=h.n.slice;have HG:=G6 h;clear h T ha KX;unfold J8;go_enter func200,ntmps200;go_wp2_with fail
 go_region_law (first
  |(go_simp;refine(CF _ (by first|exact((AA w.heap.size w).alloc (A8 _) _).drew|exact(AA w.heap.size w).alloc (A8 _) _)).mono ?_;rintro e w1 ⟨rfl,hb1⟩;have HBd:=G6 hb1;clear hb1))
 all_goals
  have HB0:=G6 (I9 (G5 HBd));clear CF;have HB1:=G6 (GU (G5 HB0));have tx:=G5 HKX w1 (G5 HB0);have t3:=tx.c3;have HTX:=G6 tx;have g1:=(G5 HG).next (G5 HB1);have HG1:=G6 g1;clear g1 tx c1;go_wp2_with fail;refine(G5 HCS _).mono ?_;rintro e w2 ⟨rfl,hb2⟩;have HB2:=G6 (G8 (G5 HB1) hb2);have tx2:=(G5 HTX).next hb2;have g2:=(G5 HG1).next hb2;have e1:=g2.c1;have A33:=G6 tx2;have HG2:=G6 g2;clear tx2 g2 hb2 t3;go_wp2_with fail;obtain⟨j,_,C2⟩:=G5 HCG _ (G5 HB2);refine C2.mono ?_;rintro e w3 ⟨rfl,hb3⟩;have HB3:=G6 (G8 (G5 HB2) hb3);go_wp2_with fail;go_ret;exact⟨rfl,Touch.of_below (G5 HB3)⟩
theorem BL3(F:Nat->Prop)(b:Nat)(z:Int)(vn vs ve:FV)(ns:List Nd)(A B A' B':List Nd)(ss:List Int)(es:List Ev)(x:GI)(w:FU)
  (h:Grow w F b z vn vs ve ns ss es) (G:mX ns A B x.p) (U:mX ns A' B' (IB x.p)) (hl:ns.length<=400):
  FW prog 200 #[P0 b,J8 x] w fun e w'=>e=.returned (I0 7)/\Touch F w w':=by
 obtain⟨xz,xo,xs,xp,xd,xv,xw⟩:=x;simp only at G U;have CF:=fun W (hW:B0 w W)=>NK vn ns A B xp W (h.n.next hW).seq (by omega) G;have HCS:=G6 (fun W=>NI xp W);have HCG:=G6 (fun W (hW:B0 w W)=>NK vn ns A' B' (IB xp) W (h.n.next hW).seq (by omega) U);have KX:∀w1,Below (w.alloc (FT #[I0 xz,I0 xo,I0 xs,S0 xp,S0 xd,I0 xv,I0 xw] 93)).heap.size (w.alloc (FT #[I0 xz,I0 xo,I0 xs,S0 xp,S0 xd,I0 xv,I0 xw] 93)) w1->TAt w1 w.heap.size ⟨xz,xo,xs,xp,xd,xv,xw⟩:=fun w1 h1=>(TAt.new w ⟨xz,xo,xs,xp,xd,xv,xw⟩).next h1;have HKX:=G6 KX;have c1:=h.c1;have hbl:=h.lt;obtain⟨na,nc,rfl,_⟩:=h.n.slice;have HG:=G6 h;clear h G U KX;unfold J8;go_enter func200,ntmps200;go_wp2_with fail
 go_region_law (first
  |(go_simp;refine(CF _ (by first|exact((AA w.heap.size w).alloc (A8 _) _).drew|exact(AA w.heap.size w).alloc (A8 _) _)).mono ?_;rintro e w1 ⟨rfl,hb1⟩;have HBd:=G6 hb1;clear hb1))
 all_goals
  have HB0:=G6 (I9 (G5 HBd));clear CF;have HB1:=G6 (GU (G5 HB0));have tx:=G5 HKX w1 (G5 HB0);have t3:=tx.c3;have HTX:=G6 tx;have g1:=(G5 HG).next (G5 HB1);have HG1:=G6 g1;clear g1 tx c1;go_wp2_with fail;refine(G5 HCS _).mono ?_;rintro e w2 ⟨rfl,hb2⟩;have HB2:=G6 (G8 (G5 HB1) hb2);have tx2:=(G5 HTX).next hb2;have g2:=(G5 HG1).next hb2;have e1:=g2.c1;have A33:=G6 tx2;have HG2:=G6 g2;clear tx2 g2 hb2 t3;go_wp2_with fail;refine(G5 HCG _ (G5 HB2)).mono ?_;rintro e w3 ⟨rfl,hb3⟩;have HB3:=G6 (G8 (G5 HB2) hb3);go_wp2_with fail;go_ret;exact⟨rfl,Touch.of_below (G5 HB3)⟩
theorem B15(F:Nat->Prop)(b:Nat)(z:Int)(vn vs ve:FV)(ns:List Nd)(A B A' B':List Nd)(u:Nd)(ss:List Int)(es:List Ev)(x:GI)(w:FU)
  (h:Grow w F b z vn vs ve ns ss es) (G:mX ns A B x.p) (U:KF ns A' u B' (IB x.p)) (hl:ns.length<=400) (ho:u.o≠0):
  FW prog 200 #[P0 b,J8 x] w fun e w'=>e=.returned (I0 11)/\Touch F w w':=by
 obtain⟨xz,xo,xs,xp,xd,xv,xw⟩:=x;simp only at G U;have CF:=fun W (hW:B0 w W)=>NK vn ns A B xp W (h.n.next hW).seq (by omega) G;have HCS:=G6 (fun W=>NI xp W);have HCG:=G6 (fun W (hW:B0 w W)=>JR vn ns A' B' u (IB xp) W (h.n.next hW).seq (by omega) U);have KX:∀w1,Below (w.alloc (FT #[I0 xz,I0 xo,I0 xs,S0 xp,S0 xd,I0 xv,I0 xw] 93)).heap.size (w.alloc (FT #[I0 xz,I0 xo,I0 xs,S0 xp,S0 xd,I0 xv,I0 xw] 93)) w1->TAt w1 w.heap.size ⟨xz,xo,xs,xp,xd,xv,xw⟩:=fun w1 h1=>(TAt.new w ⟨xz,xo,xs,xp,xd,xv,xw⟩).next h1;have HKX:=G6 KX;have c1:=h.c1;have hbl:=h.lt;obtain⟨g,cap,rfl,hr,hgb,hFg⟩:=h.iK (by rw[U.eq];simp);have HG:=G6 h;have HE:=G6 U.eq;have hlt:A'.length<ns.length:=by rw[U.eq];simp
 have hob:(u.o !=0)=true:=by simpa using ho
 clear h G U KX ho hr;unfold J8;go_enter func200,ntmps200;go_wp2_with fail
 go_region_law (first
  |(go_simp;refine(CF _ (by first|exact((AA w.heap.size w).alloc (A8 _) _).drew|exact(AA w.heap.size w).alloc (A8 _) _)).mono ?_;rintro e w1 ⟨rfl,hb1⟩;have HBd:=G6 hb1;clear hb1))
 all_goals
  have HB0:=G6 (I9 (G5 HBd));clear CF;have HB1:=G6 (GU (G5 HB0));have tx:=G5 HKX w1 (G5 HB0);have t3:=tx.c3;have HTX:=G6 tx;have g1:=(G5 HG).next (G5 HB1);have HG1:=G6 g1;clear g1 tx c1;go_wp2_with fail;refine(G5 HCS _).mono ?_;rintro e w2 ⟨rfl,hb2⟩;have HB2:=G6 (G8 (G5 HB1) hb2);have tx2:=(G5 HTX).next hb2;have g2:=(G5 HG1).next hb2;have e1:=g2.c1;have A33:=G6 tx2;have HG2:=G6 g2;clear tx2 g2 hb2 t3;go_wp2_with fail;refine(G5 HCG _ (G5 HB2)).mono ?_;rintro e w3 ⟨rfl,hb3⟩;have HB3:=G6 (G8 (G5 HB2) hb3);have tx3:=(G5 A33).next hb3;have g3:=(G5 HG2).next hb3;have f1:=g3.c1;have y0:=tx3.c0;have y2:=tx3.c2;have y3:=tx3.c3;have y4:=tx3.c4;have y6:=tx3.c6;obtain⟨g',cap',he,hr,_,_⟩:=g3.iK (by rw[G5 HE];simp);simp only[AP,BD,ER,and_true]at he;obtain⟨rfl,_,rfl⟩:=he;have r7:=hr.row.n7 (i:=A'.length) (x:=u) (by rw[G5 HE];exact UK A' u B');rw[BI]at r7;have CF9:=G6 tx3;have HG3:=G6 g3;clear g3 tx3 hr e1 hb3;go_wp2_with fail;go_ret;exact⟨rfl,Touch.of_below (G5 HB3)⟩
theorem C52(F:Nat->Prop)(b:Nat)(z:Int)(vn vs ve:FV)(ns:List Nd)(A B A' B':List Nd)(u:Nd)(ss:List Int)(es:List Ev)(x:GI)(w:FU)
  (h:Grow w F b z vn vs ve ns ss es) (G:mX ns A B x.p) (U:KF ns A' u B' (IB x.p)) (hl:ns.length<=400) (ho:u.o=0) (hw1:x.w≠0) (hw2:x.w≠x.s):
  FW prog 200 #[P0 b,J8 x] w fun e w'=>e=.returned (I0 12)/\Touch F w w':=by
 obtain⟨xz,xo,xs,xp,xd,xv,xw⟩:=x;simp only at G U hw1 hw2;have CF:=fun W (hW:B0 w W)=>NK vn ns A B xp W (h.n.next hW).seq (by omega) G;have HCS:=G6 (fun W=>NI xp W);have HCG:=G6 (fun W (hW:B0 w W)=>JR vn ns A' B' u (IB xp) W (h.n.next hW).seq (by omega) U);have KX:∀w1,Below (w.alloc (FT #[I0 xz,I0 xo,I0 xs,S0 xp,S0 xd,I0 xv,I0 xw] 93)).heap.size (w.alloc (FT #[I0 xz,I0 xo,I0 xs,S0 xp,S0 xd,I0 xv,I0 xw] 93)) w1->TAt w1 w.heap.size ⟨xz,xo,xs,xp,xd,xv,xw⟩:=fun w1 h1=>(TAt.new w ⟨xz,xo,xs,xp,xd,xv,xw⟩).next h1;have HKX:=G6 KX;have c1:=h.c1;have hbl:=h.lt;obtain⟨g,cap,rfl,hr,hgb,hFg⟩:=h.iK (by rw[U.eq];simp);have HG:=G6 h;have HE:=G6 U.eq;have hlt:A'.length<ns.length:=by rw[U.eq];simp
 have hb1:(xw !=0)=true:=by simpa using hw1
 have hb2:(xw !=xs)=true:=by simpa using hw2
 have HO:=G6 ho;clear h G U KX ho hr hw1 hw2;unfold J8;go_enter func200,ntmps200;go_wp2_with fail
 go_region_law (first
  |(go_simp;refine(CF _ (by first|exact((AA w.heap.size w).alloc (A8 _) _).drew|exact(AA w.heap.size w).alloc (A8 _) _)).mono ?_;rintro e w1 ⟨rfl,hb1⟩;have HBd:=G6 hb1;clear hb1))
 all_goals
  have HB0:=G6 (I9 (G5 HBd));clear CF;have HB1:=G6 (GU (G5 HB0));have tx:=G5 HKX w1 (G5 HB0);have t3:=tx.c3;have HTX:=G6 tx;have g1:=(G5 HG).next (G5 HB1);have HG1:=G6 g1;clear g1 tx c1;go_wp2_with fail;refine(G5 HCS _).mono ?_;rintro e w2 ⟨rfl,hb2⟩;have HB2:=G6 (G8 (G5 HB1) hb2);have tx2:=(G5 HTX).next hb2;have g2:=(G5 HG1).next hb2;have e1:=g2.c1;have A33:=G6 tx2;have HG2:=G6 g2;clear tx2 g2 hb2 t3;go_wp2_with fail;refine(G5 HCG _ (G5 HB2)).mono ?_;rintro e w3 ⟨rfl,hb3⟩;have HB3:=G6 (G8 (G5 HB2) hb3);have tx3:=(G5 A33).next hb3;have g3:=(G5 HG2).next hb3;have f1:=g3.c1;have y0:=tx3.c0;have y2:=tx3.c2;have y3:=tx3.c3;have y4:=tx3.c4;have y6:=tx3.c6;obtain⟨g',cap',he,hr,_,_⟩:=g3.iK (by rw[G5 HE];simp);simp only[AP,BD,ER,and_true]at he;obtain⟨rfl,_,rfl⟩:=he;have r7:=hr.row.n7 (i:=A'.length) (x:=u) (by rw[G5 HE];exact UK A' u B');rw[BI]at r7;have CF9:=G6 tx3;have HG3:=G6 g3;clear g3 tx3 hr e1 hb3;rw[G5 HO]at r7;go_wp2_with fail;go_ret;exact⟨rfl,Touch.of_below (G5 HB3)⟩
theorem B16(F:Nat->Prop)(b:Nat)(z:Int)(vn vs ve:FV)(ns:List Nd)(A B A' B':List Nd)(u:Nd)(ss:List Int)(es:List Ev)(x:GI)(w:FU)
  (h:Grow w F b z vn vs ve ns ss es) (G:mX ns A B x.p) (U:KF ns A' u B' (IB x.p)) (ho:u.o=0) (hw1:x.w=0) (hf:ns.length=400):
  FW prog 200 #[P0 b,J8 x] w fun e w'=>e=.returned (I0 6)/\Touch F w w':=by
 obtain⟨xz,xo,xs,xp,xd,xv,xw⟩:=x;simp only at G U hw1;have CF:=fun W (hW:B0 w W)=>NK vn ns A B xp W (h.n.next hW).seq (by omega) G;have HCS:=G6 (fun W=>NI xp W);have HCG:=G6 (fun W (hW:B0 w W)=>JR vn ns A' B' u (IB xp) W (h.n.next hW).seq (by omega) U);have KX:∀w1,Below (w.alloc (FT #[I0 xz,I0 xo,I0 xs,S0 xp,S0 xd,I0 xv,I0 xw] 93)).heap.size (w.alloc (FT #[I0 xz,I0 xo,I0 xs,S0 xp,S0 xd,I0 xv,I0 xw] 93)) w1->TAt w1 w.heap.size ⟨xz,xo,xs,xp,xd,xv,xw⟩:=fun w1 h1=>(TAt.new w ⟨xz,xo,xs,xp,xd,xv,xw⟩).next h1;have HKX:=G6 KX;have c1:=h.c1;have hbl:=h.lt;obtain⟨g,cap,rfl,hr,hgb,hFg⟩:=h.iK (by rw[U.eq];simp);have HG:=G6 h;have HE:=G6 U.eq;have hlt:A'.length<ns.length:=by rw[U.eq];simp
 have hb1:(xw !=0)=false:=by simpa using hw1
 have hfb:((ns.length:Int)==400)=true:=by rw[hf];rfl
 have HO:=G6 ho;clear h G U KX ho hr hf hw1;unfold J8;go_enter func200,ntmps200;go_wp2_with fail
 go_region_law (first
  |(go_simp;refine(CF _ (by first|exact((AA w.heap.size w).alloc (A8 _) _).drew|exact(AA w.heap.size w).alloc (A8 _) _)).mono ?_;rintro e w1 ⟨rfl,hb1⟩;have HBd:=G6 hb1;clear hb1))
 all_goals
  have HB0:=G6 (I9 (G5 HBd));clear CF;have HB1:=G6 (GU (G5 HB0));have tx:=G5 HKX w1 (G5 HB0);have t3:=tx.c3;have HTX:=G6 tx;have g1:=(G5 HG).next (G5 HB1);have HG1:=G6 g1;clear g1 tx c1;go_wp2_with fail;refine(G5 HCS _).mono ?_;rintro e w2 ⟨rfl,hb2⟩;have HB2:=G6 (G8 (G5 HB1) hb2);have tx2:=(G5 HTX).next hb2;have g2:=(G5 HG1).next hb2;have e1:=g2.c1;have A33:=G6 tx2;have HG2:=G6 g2;clear tx2 g2 hb2 t3;go_wp2_with fail;refine(G5 HCG _ (G5 HB2)).mono ?_;rintro e w3 ⟨rfl,hb3⟩;have HB3:=G6 (G8 (G5 HB2) hb3);have tx3:=(G5 A33).next hb3;have g3:=(G5 HG2).next hb3;have f1:=g3.c1;have y0:=tx3.c0;have y2:=tx3.c2;have y3:=tx3.c3;have y4:=tx3.c4;have y6:=tx3.c6;obtain⟨g',cap',he,hr,_,_⟩:=g3.iK (by rw[G5 HE];simp);simp only[AP,BD,ER,and_true]at he;obtain⟨rfl,_,rfl⟩:=he;have r7:=hr.row.n7 (i:=A'.length) (x:=u) (by rw[G5 HE];exact UK A' u B');rw[BI]at r7;have CF9:=G6 tx3;have HG3:=G6 g3;clear g3 tx3 hr e1 hb3;rw[G5 HO]at r7;go_wp2_with fail;go_ret;exact⟨rfl,Touch.of_below (G5 HB3)⟩
theorem B17(F:Nat->Prop)(b:Nat)(z:Int)(vn vs ve:FV)(ns:List Nd)(A B A' B':List Nd)(u:Nd)(ss:List Int)(es:List Ev)(x:GI)(w:FU)
  (h:Grow w F b z vn vs ve ns ss es) (G:mX ns A B x.p) (U:KF ns A' u B' (IB x.p)) (ho:u.o=0) (hw1:x.w≠0) (hw2:x.w=x.s) (hf:ns.length=400):
  FW prog 200 #[P0 b,J8 x] w fun e w'=>e=.returned (I0 6)/\Touch F w w':=by
 obtain⟨xz,xo,xs,xp,xd,xv,xw⟩:=x;simp only at G U hw1 hw2;have CF:=fun W (hW:B0 w W)=>NK vn ns A B xp W (h.n.next hW).seq (by omega) G;have HCS:=G6 (fun W=>NI xp W);have HCG:=G6 (fun W (hW:B0 w W)=>JR vn ns A' B' u (IB xp) W (h.n.next hW).seq (by omega) U);have KX:∀w1,Below (w.alloc (FT #[I0 xz,I0 xo,I0 xs,S0 xp,S0 xd,I0 xv,I0 xw] 93)).heap.size (w.alloc (FT #[I0 xz,I0 xo,I0 xs,S0 xp,S0 xd,I0 xv,I0 xw] 93)) w1->TAt w1 w.heap.size ⟨xz,xo,xs,xp,xd,xv,xw⟩:=fun w1 h1=>(TAt.new w ⟨xz,xo,xs,xp,xd,xv,xw⟩).next h1;have HKX:=G6 KX;have c1:=h.c1;have hbl:=h.lt;obtain⟨g,cap,rfl,hr,hgb,hFg⟩:=h.iK (by rw[U.eq];simp);have HG:=G6 h;have HE:=G6 U.eq;have hlt:A'.length<ns.length:=by rw[U.eq];simp
 have hb1:(xw !=0)=true:=by simpa using hw1
 have hb2:(xw !=xs)=false:=by simpa using hw2
 have hfb:((ns.length:Int)==400)=true:=by rw[hf];rfl
 have HO:=G6 ho;clear h G U KX ho hr hf hw1 hw2;unfold J8;go_enter func200,ntmps200;go_wp2_with fail
 go_region_law (first
  |(go_simp;refine(CF _ (by first|exact((AA w.heap.size w).alloc (A8 _) _).drew|exact(AA w.heap.size w).alloc (A8 _) _)).mono ?_;rintro e w1 ⟨rfl,hb1⟩;have HBd:=G6 hb1;clear hb1))
 all_goals
  have HB0:=G6 (I9 (G5 HBd));clear CF;have HB1:=G6 (GU (G5 HB0));have tx:=G5 HKX w1 (G5 HB0);have t3:=tx.c3;have HTX:=G6 tx;have g1:=(G5 HG).next (G5 HB1);have HG1:=G6 g1;clear g1 tx c1;go_wp2_with fail;refine(G5 HCS _).mono ?_;rintro e w2 ⟨rfl,hb2⟩;have HB2:=G6 (G8 (G5 HB1) hb2);have tx2:=(G5 HTX).next hb2;have g2:=(G5 HG1).next hb2;have e1:=g2.c1;have A33:=G6 tx2;have HG2:=G6 g2;clear tx2 g2 hb2 t3;go_wp2_with fail;refine(G5 HCG _ (G5 HB2)).mono ?_;rintro e w3 ⟨rfl,hb3⟩;have HB3:=G6 (G8 (G5 HB2) hb3);have tx3:=(G5 A33).next hb3;have g3:=(G5 HG2).next hb3;have f1:=g3.c1;have y0:=tx3.c0;have y2:=tx3.c2;have y3:=tx3.c3;have y4:=tx3.c4;have y6:=tx3.c6;obtain⟨g',cap',he,hr,_,_⟩:=g3.iK (by rw[G5 HE];simp);simp only[AP,BD,ER,and_true]at he;obtain⟨rfl,_,rfl⟩:=he;have r7:=hr.row.n7 (i:=A'.length) (x:=u) (by rw[G5 HE];exact UK A' u B');rw[BI]at r7;have CF9:=G6 tx3;have HG3:=G6 g3;clear g3 tx3 hr e1 hb3;rw[G5 HO]at r7;go_wp2_with fail;go_ret;exact⟨rfl,Touch.of_below (G5 HB3)⟩
theorem rV(w:FU)(x:Int):JF (w.alloc (FT #[I0 x] 3)) w.heap.size x:=heap_alloc_new w _
theorem BL4(w:FU)(x:List UInt8):JF (w.alloc (FT #[S0 x] 9)) w.heap.size x:=heap_alloc_new w _
theorem BL5(F:Nat->Prop)(b:Nat)(z:Int)(vn vs ve:FV)(ns:List Nd)(ss A B:List Int)(es:List Ev)(s:Int)(w:FU)
  (h:Grow w F b z vn vs ve ns ss es) (hF:∀k,w.heap.size<=k->F k) (G:C25 ss A B s) (hl:ss.length<=2147483646):
  FW prog 198 #[P0 b,I0 s] w fun e w'=>e=.returned (.tuple #[])/\∃vs',Grow w' F b z vn vs' ve ns (A++s::B) es/\Touch F w w':=by
 have CF:=B06 vs ss A B s w h.s.seq (by omega) G;have h0:=(h.next (G7 w (FT #[I0 s] 3)));have CI:=A28 vs A B s w.heap.size _ (by rw[<-G.eq];exact h0.s) (by rw[<-G.eq];omega) (rV w s) (fun e=>by have:=h.s.low _ e;omega);have c2:=h.c2;have HG0:=G6 h0;have HF:=G6 hF;have hbl:=h.lt;obtain⟨sa,sc,rfl,_⟩:=h.s.slice;have HCI:=G6 CI;clear h h0 hF G CI;go_enter func198,ntmps198;go_wp2_with fail;refine CF.mono ?_;rintro e w1 ⟨rfl,rfl⟩;go_wp2_with fail;refine(G5 HCI).mono ?_;rintro e w2 ⟨v',rfl,ho,hg,hloc⟩;have n2:¬ (Value.slice sa ss.length sc).ownBlock=FZ b:=fun e=>((G5 HG0).fs b e).2 rfl;have m2:w2.cell? ⟨b,2,FX⟩=FZ (FQ sa ss.length sc):=hg.cell (G5 HG0).c2 (fun e=>n2 e.symm);have l2:w2.frozen? ⟨b,2,FX⟩=false:=(World.frozen?_of_block (hg.block b (G5 HG0).lt (fun e=>n2 e.symm))).trans ((G5 HG0).fz 2);have g2:=(G5 HG0).se (vs':=v') (ss':=A++s::B) (fun k hk=>G5 HF k (by simp at hk;omega)) hg ho hloc;have t2:Touch F w1 (w2.setCell ⟨b,2,FX⟩ v'):=((Touch.of_below (G7 w1 _)).trans (Touch.VG hg (fun k e=>((G5 HG0).fs k e).1))).trans (Touch.set (G5 HG0).fb _);obtain⟨va,L,vc,rfl⟩:∃va L vc,v'=FQ va L vc:=by obtain⟨va,vc,h,_⟩:=ho.slice;exact⟨_,_,_,h⟩
 have HG2:=G6 g2;have HT2:=G6 t2;clear g2 t2 ho hg hloc n2;go_wp2_with fail
 go_end0
 exact⟨rfl,_,G5 HG2,G5 HT2⟩
theorem CJ9:(prog.info? 9).map (fun i=>(i.zero,i.size,i.bytes))=FZ (FZ (.string ⟨#[]⟩),1,16):=by kernel_rfl
theorem CU7:∃i0,prog.info? 9=FZ i0/\i0.zero=FZ (.string ⟨#[]⟩)/\i0.size=1/\i0.bytes=16:=by
 obtain⟨i0,h,e⟩:=Option.map_eq_some_iff.1 CJ9;simp only[Prod.mk.injEq]at e;exact⟨i0,h,e⟩
theorem AM8{k:Nat}{x:Nd}(hx:ns[k]?=FZ x)(s:Int):OQ (ns.take (k+1)) s=OQ (ns.take k) s++(if x.o=s then [x.p]else []):=by
 rw[List.take_add_one,hx];simp only[OQ,Option.toList_some,List.filter_append,List.map_append,List.filter_cons,List.filter_nil,decide_eq_true_eq]
 split<;>simp
theorem xE(ns:List Nd)(s:Int):(OQ ns s).length<=ns.length:=by
 rw[OQ,List.length_map];exact List.length_filter_le _ _
theorem B19(F:Nat->Prop)(b:Nat)(z:Int)(vn vs ve:FV)(ns:List Nd)(ss:List Int)(es:List Ev)(s:Int)(w:FU)
  (h:Grow w F b z vn vs ve ns ss es) (hl:ns.length<=400) (h0:ns≠[]):
  FW prog 224 #[P0 b,I0 s] w fun e w'=>∃v',e=.returned v'/\GZ w' w.heap.size v' (OQ ns s)/\B0 w w':=by
 obtain⟨i0,hi0,hz0,hz1,hz2⟩:=CU7;obtain⟨g,cap,rfl,hr,hgb,hFg⟩:=h.iK h0;have hgl:=hr.lt;have c1:=h.c1;have H:=G6 hr.row;clear h hr;go_enter func224,ntmps224;go_wp2_with fail
 go_loopg [5,14] ns.length (fun kx s5 s14 wr=>∃k:Nat,s14=I0 k/\k<=ns.length/\ns.length-k<=kx/\Hid (GZ wr w.heap.size s5 (OQ (ns.take k) s))/\Hid (B0 w wr))
 case atStart=>exact⟨0,rfl,AY _,A8 _,G6 (.inl ⟨rfl,rfl⟩),G6 (AA _ _)⟩
 case round=>
  obtain⟨k,rfl,hk,hg,hO,hB⟩:=hrel;by_cases hlt:k<ns.length
  .obtain⟨x,hx⟩:∃x,ns[k]?=FZ x:=⟨_,AL hlt⟩;have q:=(G5 H).kept (G5 hB) hgl;have d0:=q.n0 hx;have d1:=q.n1 hx;have d2:=q.n2 hx;have d3:=q.n3 hx;have d4:=q.n4 hx;have d5:=q.n5 hx;have d6:=q.n6 hx;have d7:=q.n7 hx;have d8:=q.n8 hx;rw[BI]at d0 d1 d2 d3 d4 d5 d6 d7 d8;have hbw:g<wr.heap.size:=Nat.lt_of_lt_of_le hgl (G5 hB).size;have HT:=G6 (AM8 hx s);have hln:=xE (ns.take k) s;simp only[F6]at hln;clear q hx;obtain⟨va,vc,rfl,_⟩:=(G5 hO).slice;have hrow:=(G5 hO).row;by_cases hs:x.o=s
   .have hsb:(x.o==s)=true:=by simpa using hs
    have HS:=G6 hs;clear hs;obtain⟨P,hP⟩:∃P,OQ (ns.take k) s=P:=⟨_,rfl⟩;rw[hP]at hO hln HT hrow;rw[hP];clear hP;have HRW:=G6 hrow;clear hrow;go_wp2_with (at_builtin;refine wpList_append_own _ rfl _ _ 211 rfl w.heap.size 9 i0 _ 1 16 underlying211 hi0 hz0 hz1 hz2 rfl (by decide) _ P.length (G9 P) rfl ((((G5 hO).next (G7 wr (FT #[S0 x.p,S0 x.d,I0 x.c,I0 x.m,I0 x.q,I0 x.v,I0 x.k,I0 x.o,I0 x.n] 49))).next (G7 _ _)).row) ⟨wr.heap.size+1,0,FX⟩ 1 1 [S0 x.p] rfl (by rfl) ?qc2 (by intro u hu;simp at hu;subst hu;rfl) ?qc4 ?qc5 ?qc6 ?_)
    case qc2=>
     intro j u hj;have:=RS (BL4 (wr.alloc (FT #[S0 x.p,S0 x.d,I0 x.c,I0 x.m,I0 x.q,I0 x.v,I0 x.k,I0 x.o,I0 x.n] 49)) x.p) j u hj;simpa using this
    case qc4=>simp only[maxLen];omega
    case qc5=>omega
    case qc6=>have:=(G5 hB).size;simp;omega
    intro v' w1 hown hgrow _;have O1:GZ w1 w.heap.size v' (P++[x.p]):=GZ.LD (by rw[AO,JE];exact hown);have hB0:B0 w ((wr.alloc (FT #[S0 x.p,S0 x.d,I0 x.c,I0 x.m,I0 x.q,I0 x.v,I0 x.k,I0 x.o,I0 x.n] 49)).alloc (FT #[S0 x.p] 9)):=G8 (G5 hB) (G8 (G7 _ _) (G7 _ _));have B1:B0 w w1:=hB0.grown hgrow hB0.size (fun j hj=>by
     rcases G5 hO with⟨e,_⟩|⟨q,c,e,hq,_⟩
     .rw[e]at hj;cases hj
     .rw[e]at hj;cases hj;exact hq)
    have HO1:=G6 O1;have HB1:=G6 B1;obtain⟨wa,wc,rfl,_⟩:=O1.slice;clear O1 B1 hB0 hown hgrow;go_wp2_with fail
    go_roundg (ns.length-(k+1))
    case measure=>omega
    case rel=>exact⟨k+1,rfl,by omega,A8 _,(by rw[G5 HT,if_pos (G5 HS)];exact HO1),HB1⟩
   .have hsb:(x.o==s)=false:=by simpa using hs
    have HS:=G6 hs;have HO1:=G6 ((G5 hO).next (G7 wr (FT #[S0 x.p,S0 x.d,I0 x.c,I0 x.m,I0 x.q,I0 x.v,I0 x.k,I0 x.o,I0 x.n] 49)));clear hs hrow;go_wp2_with fail
    go_roundg (ns.length-(k+1))
    case measure=>omega
    case rel=>exact⟨k+1,rfl,by omega,A8 _,(by rw[G5 HT,if_neg (G5 HS),List.append_nil];exact HO1),G6 (G8 (G5 hB) (G7 _ _))⟩
  .obtain rfl:k=ns.length:=by omega
   have O1:=G5 hO;rw[DU]at O1;have HO1:=G6 O1;obtain⟨wa,wc,rfl,_⟩:=O1.slice;clear O1;go_wp2_with fail;go_ret;exact⟨_,rfl,G5 HO1,G5 hB⟩
theorem GZ.touched{α:Type}[Lay α]{B:Nat}{v:FV}{xs:List α}(h:GZ W B v xs)(ht:Touch F W V)(hf:∀k,v.ownBlock=FZ k->¬F k):GZ V B v xs:=by
 rcases h with h|⟨g,cap,rfl,hB,h⟩
 .exact .inl h
 .obtain⟨rest,h1,h2⟩:=h;have hlt:=(AB.1 h1).1;exact .inr ⟨g,cap,rfl,hB,rest,(ht.block g hlt (hf g rfl)).trans h1,h2⟩
def CK0(F:Nat->Prop)(b:Nat)(z:Int)(ns:List Nd)(ss':List Int)(ps:List (List UInt8))(w:FU)(e:Ending)(w':FU):Prop:=
 (YX (RD z ns ps)=true/\e=.returned (I0 6)/\Touch F w w')\/
 (YX (RD z ns ps)=false/\e=.returned (I0 0)/\∃vn' vs' ve',Grow w' F b z vn' vs' ve' (RD z ns ps) ss' (AW6 ps)/\Touch F w w')
structure Clo(z s:Int)(ss0:List Int)(cur:List Nd)(ps:List (List UInt8)):Prop where
 g:PV z cur ss0
 r:CH6 s cur ps
 c:∀n∈cur,n.k<=2147483647
theorem BL6(F:Nat->Prop)(b:Nat)(z s:Int)(vn vs ve:FV)(cur:List Nd)(ss ss0:List Int)(es:List Ev)(p:List UInt8)(ps:List (List UInt8))(w:FU)
  (h:Grow w F b z vn vs ve cur ss es) (hF:∀k,w.heap.size<=k->F k) (hes:es.length<=99998) (C:Clo z s ss0 cur (p::ps)):
  (YX (RD z cur (p::ps))=true/\FW prog 201 #[P0 b,S0 p] w fun e w'=>e=.returned (I0 6)/\Touch F w w')\/
  (Clo z s ss0 (rmN z cur p) ps/\FW prog 201 #[P0 b,S0 p] w fun e w'=>e=.returned (I0 0)/\∃vn' ve',Grow w' F b z vn' vs ve' (rmN z cur p) ss (es++[⟨2,p⟩,⟨4,IB p⟩])/\Touch F w w'):=by
 obtain⟨A,n,B,u,T,ho,hk,hr,hgd,hu1,hu2,hu3,hu4,hu5,hu6,g',R'⟩:=vG C.g C.r;obtain⟨A',B',T'⟩:=oC C.g.asc T hu2 hu3 hu4;have hp:=MP hgd;have hd:=WZ p;have hkk:=C.c u hu2;have h0:=(C.g.ok u hu2).k0;have hn:=(C.g.ok u hu2).kids;have hn2:NY cur u.p<=cur.length:=List.countP_le_length;have hl:=C.g.few;by_cases hf:u.k=2147483647
 .refine .inl ⟨AW9 hu2 hu3 hu4 hf ps hu6,?_⟩;exact kQ F b z vn vs ve cur A B A' B' n u ss es p w h hF T T' hl hk hf (by omega) (by omega)
 .refine .inr ⟨⟨g',R',BX6 C.g.asc hu2 hu3 (by omega) C.c⟩,?_⟩;exact xC F b z vn vs ve cur A B A' B' n u ss es p w h hF T T' hl hk ⟨h0,by omega⟩ (by omega) (by omega) (by omega) (by omega)
theorem B20(F:Nat->Prop)(b:Nat)(z:Int)(vn vs ve:FV)(ns:List Nd)(ss A B ss0:List Int)(s:Int)(w:FU)
  (h:Grow w F b z vn vs ve ns ss []) (hF:∀k,w.heap.size<=k->F k) (T:jJ ss A B s) (hl:ss.length<=2147483647) (C:Clo z s ss0 ns (OQ ns s)):
  FW prog 199 #[P0 b,I0 s] w fun e w'=>CK0 F b z ns (A++B) (OQ ns s) w e w':=by
 have CF:=wR vs ss A B s w h.s.seq hl T;have hne:ns≠[]:=by obtain⟨r,rest,e,_⟩:=C.g.root;rw[e];simp
 have hfew:=C.g.few;obtain⟨g,cap,hsv,hr⟩:∃g cap,vs=FQ (FZ ⟨g,0,FX⟩) ss.length cap/\J9 w g cap (A++s::B):=by
  rcases h.s with⟨_,e⟩|⟨g,cap,e,_,h3⟩
  .have:=T.eq;rw[e]at this;simp at this
  .exact⟨g,cap,e,by rw[<-T.eq];exact h3⟩
 subst hsv;have hlen:ss.length=A.length+B.length+1:=by rw[T.eq];simp;omega
 have CD:=A26 g cap A B s ss.length w hr hlen hl;have c2:=h.c2;have hgb:=(h.fs g rfl).2;have hFg:=(h.fs g rfl).1;have HG:=G6 h;have HF:=G6 hF;have HC:=G6 C;have HCD:=G6 CD;obtain⟨ps,hps⟩:∃ps,OQ ns s=ps:=⟨_,rfl⟩;have HPS:=G6 hps;have hpl:ps.length<=400:=by rw[<-hps];exact Nat.le_trans (xE ns s) hfew
 rw[hps];have hAl:A.length<ss.length:=by omega
 clear h hF T hr CD C hps hlen;go_enter func199,ntmps199;go_wp2_with fail;refine CF.mono ?_;rintro e w1 ⟨rfl,rfl⟩;clear CF;go_wp2_with fail;rw[show ((A.length:Int)+1)=((A.length+1:Nat):Int)from by omega];refine(G5 HCD).mono ?_;rintro e w2 ⟨rfl,ho2,hg2⟩;have m2:w2.cell? ⟨b,2,FX⟩=FZ (FQ (FZ ⟨g,0,FX⟩) ss.length cap):=hg2.cell c2 (fun e=>hgb (BN e).symm);have l2:w2.frozen? ⟨b,2,FX⟩=false:=(World.frozen?_of_block (hg2.block b (G5 HG).lt (fun e=>hgb (BN e).symm))).trans ((G5 HG).fz 2);have g2:=(G5 HG).se (vs':=FQ (FZ ⟨g,0,FX⟩) (A.length+B.length) cap) (ss':=A++B) (G5 HF) hg2 (.inr ⟨g,cap,by rw[AO],AY _,ho2⟩) (.inl rfl);have t2:Touch F w1 (w2.setCell ⟨b,2,FX⟩ (FQ (FZ ⟨g,0,FX⟩) (A.length+B.length) cap)):=(Touch.VG hg2 (fun k e=>by cases e;exact hFg)).trans (Touch.set g2.fb _);have HG2:=G6 g2;have HT2:=G6 t2;clear g2 t2 ho2 hg2 HCD c2;go_wp2_with fail;refine(B19 F b z _ _ _ _ _ _ s _ (G5 HG2) hfew hne).mono ?_;rintro e w3 ⟨v3,rfl,ho3,hb3⟩;rw[G5 HPS]at ho3;have g3:=(G5 HG2).next hb3;have HG3:=G6 g3;have HO3:=G6 ho3;obtain⟨pa,pc,rfl,_⟩:=ho3.slice;have hlow:∀k,(Value.slice pa ps.length pc).ownBlock=FZ k->(w2.setCell ⟨b,2,FX⟩ (FQ (FZ ⟨g,0,FX⟩) (A.length+B.length) cap)).heap.size<=k:=by
  intro k e;rcases G5 HO3 with⟨h1,_⟩|⟨q,c,h1,hq,_⟩
  .rw[h1]at e;cases e
  .rw[h1]at e;cases e;exact hq
 have F3:Hid (Grow w3 (fun k=>F k/\(Value.slice pa ps.length pc).ownBlock≠FZ k) b z vn (FQ (FZ ⟨g,0,FX⟩) (A.length+B.length) cap) ve ns (A++B) []):=by
  have q:=G5 HG2;exact⟨g3.blk,⟨g3.fb,fun e=>by have:=hlow _ e;have:=q.lt;omega⟩,g3.n,g3.s,g3.e,fun k hk=>⟨⟨(g3.fn k hk).1,fun e=>by have:=hlow _ e;have:=q.n.low k hk;omega⟩,(g3.fn k hk).2⟩,fun k hk=>⟨⟨(g3.fs k hk).1,fun e=>by have:=hlow _ e;have:=q.s.low k hk;omega⟩,(g3.fs k hk).2⟩,fun k hk=>⟨⟨(g3.fe k hk).1,fun e=>by have:=hlow _ e;have:=q.e.low k hk;omega⟩,(g3.fe k hk).2⟩,g3.an,g3.asn⟩
 have T3:=G6 ((G5 HT2).trans (Touch.of_below hb3));have hpb:∀k,(Value.slice pa ps.length pc).ownBlock=FZ k->k<w3.heap.size:=fun k e=>(G5 HO3).low k e;have HPB:=G6 hpb;have HF3:Hid (∀W:FU,w3.heap.size<=W.heap.size->∀k,W.heap.size<=k->F k/\(Value.slice pa ps.length pc).ownBlock≠FZ k):=fun W hW k hk=>⟨G5 HF k (by have:=(G5 T3).size;omega),fun e=>by have:=G5 HPB k e;omega⟩;clear g3 ho3 hlow hpb hb3 m2 l2;go_wp2_with fail
 go_loopg [37] ps.length (fun kx s37 wr=>∃ (k:Nat) (vn' ve':FV),s37=I0 k/\k<=ps.length/\ps.length-k<=kx/\Hid (Grow wr (fun k=>F k/\(Value.slice pa ps.length pc).ownBlock≠FZ k) b z vn' (FQ (FZ ⟨g,0,FX⟩) (A.length+B.length) cap) ve' (RD z ns (ps.take k)) (A++B) (AW6 (ps.take k)))/\Hid (Clo z s ss0 (RD z ns (ps.take k)) (ps.drop k))/\Hid (Touch (fun k=>F k/\(Value.slice pa ps.length pc).ownBlock≠FZ k) w3 wr))
 case atStart=>exact⟨0,vn,ve,rfl,AY _,A8 _,F3,(by rw[List.drop_zero];have:=G5 HC;rw[G5 HPS]at this;exact G6 this),G6 (Touch.refl _ _)⟩
 case round=>
  obtain⟨k,vn',ve',rfl,hk,hg,hG,hCl,hT⟩:=hrel;have tF:Hid (Touch F w1 wr):=G6 ((G5 T3).trans ((G5 hT).mono (fun k _ hk=>hk.1)));by_cases hlt:k<ps.length
  .obtain⟨p,hp⟩:∃p,ps[k]?=FZ p:=⟨_,AL hlt⟩;have hor:=(G5 HO3).touched (G5 hT) (fun q e h=>h.2 e);obtain⟨q,off,cq,he,_,hrow,_,_⟩:=NZ hor.seq (by intro e;rw[e]at hlt;simp at hlt);simp only[AP]at he;obtain⟨rfl,_,rfl⟩:=he;have r0:=hrow.s0 hp;have hdr:ps.drop k=p::ps.drop (k+1):=by rw[List.drop_eq_getElem_cons hlt];congr 1;rw[AL hlt]at hp;exact BN hp
   have hev:(AW6 (ps.take k)).length<=99998:=by rw[A99,F6];omega
   have CL:=G5 hCl;rw[hdr]at CL;have ST:=BL6 _ b z s vn' _ ve' _ (A++B) ss0 _ p (ps.drop (k+1)) wr (G5 hG) (G5 HF3 wr (G5 hT).size) hev CL;have HN:=G6 (AJ4 z ns hp);have HV:=G6 (AX0 hp);have HSP:=G6 (show RD z ns ps=RD z (RD z ns (ps.take k)) (p::ps.drop (k+1)) by rw[<-hdr];exact A03 z ns ps k);clear CL hdr hp hor hrow;rcases ST with⟨hfull,C6⟩|⟨C0,C00⟩
   .have HFU:=G6 hfull;clear hfull;go_wp2_with fail;refine C6.mono ?_;rintro e w4 ⟨rfl,t4⟩;have HT4:=G6 ((G5 tF).trans (t4.mono (fun k _ hk=>hk.1)));clear C6 t4;go_wp2_with fail;go_ret;exact .inl ⟨by rw[G5 HSP];exact G5 HFU,rfl,G5 HT4⟩
   .have HC0:=G6 C0;clear C0;go_wp2_with fail;refine C00.mono ?_;rintro e w4 ⟨rfl,vn2,ve2,g4,t4⟩;have HG4:=G6 g4;have HT4:=G6 ((G5 hT).trans t4);clear C00 t4 g4;go_wp2_with fail
    go_roundg (ps.length-(k+1))
    case measure=>omega
    case rel=>exact⟨k+1,vn2,ve2,rfl,by omega,A8 _,(by rw[G5 HN,G5 HV];exact HG4),(by rw[G5 HN];exact HC0),HT4⟩
  .obtain rfl:k=ps.length:=by omega
   have hGf:=(G5 hG).cut (G:=F) (fun k _ hk=>hk.1);have hcap:=(G5 hCl).c;rw[DU]at hGf hcap;have HGf:=G6 hGf;have HCp:=G6 (MQ.2 hcap);clear hGf hcap;go_wp2_with fail;go_ret;exact .inr ⟨G5 HCp,rfl,vn',_,ve',G5 HGf,G5 tF⟩
